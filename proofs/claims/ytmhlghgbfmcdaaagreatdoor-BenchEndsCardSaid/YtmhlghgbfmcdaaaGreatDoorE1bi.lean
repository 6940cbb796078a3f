/- Part of a proof. -/
import Derived.Test.YtmhlghgbfmcdaaaGreatDoorE1bh
import Derived.Test.YtmhlghgbfmcdaaaGreatDoorE1az
import Derived.Test.YtmhlghgbfmcdaaaGreatDoorProg
set_option linter.all false
set_option maxRecDepth 4000
set_option maxHeartbeats 40000000
section
namespace Go.V
open Go Go.Proofs IntKind
theorem mixed : Tryz.prog.follows .mixedOrders = true := by kernel_rfl
structure GSpan where
 Low : Int
 High : Int
 deriving Inhabited, DecidableEq
def au (x : GSpan) : List VV := [.lit (.int .i64 x.Low), .lit (.int .i64 x.High)]
theorem nQ {x : GSpan} : au x = [.lit (.int .i64 x.Low), .lit (.int .i64 x.High)] := rfl
theorem eK : EncOk au := EncOk.of (fun x => by simp only [nQ, tre, Bool.and_self]) (fun x => by simp only [nQ, nrm]) (fun x H d => by simp only [nQ, nrm, List.map_cons, List.map_nil])
structure GBs where
 Board : Int
 Round : Bool
 Hours : GSpan
 Needs : List Int
 deriving Inhabited, DecidableEq
def cGBs (x : GBs) : List VV := [.lit (.int .i64 x.Board), .lit (.bool x.Round), .lit (.int .i64 x.Hours.Low), .lit (.int .i64 x.Hours.High), .sl (aa eI x.Needs) (List.length x.Needs) false]
theorem se {x : GBs} : cGBs x = [.lit (.int .i64 x.Board), .lit (.bool x.Round), .lit (.int .i64 x.Hours.Low), .lit (.int .i64 x.Hours.High), .sl (aa eI x.Needs) (List.length x.Needs) false] := rfl
theorem gy : EncOk cGBs := EncOk.of (fun x => by simp only [se, tre, eK.tree, eK.treeL, Bool.and_self]) (fun x => by simp only [se, nrm, eK.norm, eK.normL, eK.shown, eK.showL]) (fun x H d => by simp only [se, nrm, List.map_cons, List.map_nil])
structure GBk where
 Apprentices : Int
 Boards : List Int
 Strokes : List GBs
 deriving Inhabited, DecidableEq
def cGBk (x : GBk) : List VV := [.lit (.int .i64 x.Apprentices), .sl (aa eI x.Boards) (List.length x.Boards) false, .sl (aa cGBs x.Strokes) (List.length x.Strokes) false]
theorem sf {x : GBk} : cGBk x = [.lit (.int .i64 x.Apprentices), .sl (aa eI x.Boards) (List.length x.Boards) false, .sl (aa cGBs x.Strokes) (List.length x.Strokes) false] := rfl
theorem j0 : EncOk cGBk := EncOk.of (fun x => by simp only [sf, tre, eK.tree, eK.treeL, gy.tree, gy.treeL, Bool.and_self]) (fun x => by simp only [sf, nrm, eK.norm, eK.normL, eK.shown, eK.showL, gy.norm, gy.normL, gy.shown, gy.showL]) (fun x H d => by simp only [sf, nrm, List.map_cons, List.map_nil])
structure GBe where
 stroke : Int
 hours : Int
 deriving Inhabited, DecidableEq
def cGBe (x : GBe) : List VV := [.lit (.int .i64 x.stroke), .lit (.int .i64 x.hours)]
theorem vl {x : GBe} : cGBe x = [.lit (.int .i64 x.stroke), .lit (.int .i64 x.hours)] := rfl
theorem qf : EncOk cGBe := EncOk.of (fun x => by simp only [vl, tre, eK.tree, eK.treeL, gy.tree, gy.treeL, j0.tree, j0.treeL, Bool.and_self]) (fun x => by simp only [vl, nrm, eK.norm, eK.normL, eK.shown, eK.showL, gy.norm, gy.normL, gy.shown, gy.showL, j0.norm, j0.normL, j0.shown, j0.showL]) (fun x H d => by simp only [vl, nrm, List.map_cons, List.map_nil])
theorem Mk {c : VV} {cs : List VV} : vload Tryz.prog 2 (c :: cs) = some c := by
 have h1 : aggT Tryz.prog 2 = some false := by kernel_rfl
 simp [vload, vpart, h1]
theorem Ml : szT Tryz.prog 2 = some 1 := by kernel_rfl
theorem zD : vzl Tryz.prog 2 = some [.lit (.int .i64 0)] := by kernel_rfl
theorem Mm {c : VV} {cs : List VV} : vload Tryz.prog 3 (c :: cs) = some c := by
 have h1 : aggT Tryz.prog 3 = some false := by kernel_rfl
 simp [vload, vpart, h1]
theorem Mn : szT Tryz.prog 3 = some 1 := by kernel_rfl
theorem zE : vzl Tryz.prog 3 = some [.lit (.int .i64 0)] := by kernel_rfl
theorem Mo {c : VV} {cs : List VV} : vload Tryz.prog 4 (c :: cs) = some c := by
 have h1 : aggT Tryz.prog 4 = some false := by kernel_rfl
 simp [vload, vpart, h1]
theorem Mp : szT Tryz.prog 4 = some 1 := by kernel_rfl
theorem zF : vzl Tryz.prog 4 = some [.lit (.bool false)] := by kernel_rfl
theorem Mq {c : VV} {cs : List VV} : vload Tryz.prog 9 (c :: cs) = some c := by
 have h1 : aggT Tryz.prog 9 = some false := by kernel_rfl
 simp [vload, vpart, h1]
theorem Mr : szT Tryz.prog 9 = some 1 := by kernel_rfl
theorem zG : vzl Tryz.prog 9 = some [.lit (.string ⟨#[]⟩)] := by kernel_rfl
theorem zH {c : VV} {cs : List VV} : vload Tryz.prog 22 (c :: cs) = some c := by
 have h1 : aggT Tryz.prog 22 = some false := by kernel_rfl
 simp [vload, vpart, h1]
theorem zI : szT Tryz.prog 22 = some 1 := by kernel_rfl
theorem sg : vzl Tryz.prog 22 = some [.lit (.slice none 0 0)] := by kernel_rfl
theorem sh {H : Nat → Option VObj} {cs : List VV} {n : Nat} {f : Bool} : vlen Tryz.prog H 22 (.sl cs n f) = some (.lit (.int .i64 n)) := by simp [vlen, Tryz.underlying22, sls]
theorem lenN22 {H : Nat → Option VObj} : vlen Tryz.prog H 22 (.lit (.slice none 0 0)) = some (.lit (.int .i64 0)) := by simp [vlen, Tryz.underlying22, sls]
theorem lenR22 {H : Nat → Option VObj} {β off n w c : Nat} : vlen Tryz.prog H 22 (.ref β off n w c) = (match H β with | some (.cells _ cs) => if off ≤ cs.length then some (.lit (.int .i64 n)) else none | _ => none) := lenR Tryz.underlying22
theorem bP : elemT Tryz.prog 22 = some 3 := by simp [elemT, Tryz.underlying22]
theorem eP : appOk Tryz.prog 22 = some (3, 1, 8) := by kernel_rfl
theorem zJ {xs : List Int} : (aa eI xs).take (xs.length * 1) = aa eI xs := vc (fun _ => rfl)
theorem fx : ∀ x : Int, leafL (eI x) = true := fun x => by simp only [eI_eq, nR, eB_eq, eS_eq, nS, hJ, hO, zK, zL, zM, zN, zO, Bool.and_self]
theorem bp {xs : List Int} {x : Int} {i : Int} (h : getI xs i = some x) : (∀ (H : Nat → Option VObj) (β c : Nat) (k : IntKind), an Tryz.prog H 22 (.ref β 0 xs.length 1 c) (.lit (.int k i)) = if (H β).isSome = true then some (.ptr β (i.toNat * 1)) else none) ∧ (aa eI xs).drop (i.toNat * 1) = eI x ++ aa eI (xs.drop (i.toNat + 1)) ∧ (i.toNat * 1 ≤ (aa eI xs).length) = True := ixO Tryz.underlying22 (by kernel_rfl : szT Tryz.prog 3 = some 1) (fun _ => rfl) h
theorem zP {a0 : VV} (h : leafL [a0] = true) : av Tryz.prog 22 1 [(0, a0)] = some ([a0], 1) := by
 have h2 : szT Tryz.prog 3 = some 1 := by kernel_rfl
 have h3 : vzero Tryz.prog 3 = some #[.int .i64 0] := by kernel_rfl
 simp only [hO, hJ, Bool.and_true, Bool.and_eq_true] at h
 simp [av, Tryz.underlying22, h2, h3, vfill, vcells1, h, overwrite, vzeros, List.range_succ]
theorem zQ {a0 a1 : VV} (h : leafL [a0, a1] = true) : av Tryz.prog 22 2 [(0, a0), (1, a1)] = some ([a0, a1], 1) := by
 have h2 : szT Tryz.prog 3 = some 1 := by kernel_rfl
 have h3 : vzero Tryz.prog 3 = some #[.int .i64 0] := by kernel_rfl
 simp only [hO, hJ, Bool.and_true, Bool.and_eq_true] at h
 simp [av, Tryz.underlying22, h2, h3, vfill, vcells1, h, overwrite, vzeros, List.range_succ]
theorem zR {a0 a1 a2 : VV} (h : leafL [a0, a1, a2] = true) : av Tryz.prog 22 3 [(0, a0), (1, a1), (2, a2)] = some ([a0, a1, a2], 1) := by
 have h2 : szT Tryz.prog 3 = some 1 := by kernel_rfl
 have h3 : vzero Tryz.prog 3 = some #[.int .i64 0] := by kernel_rfl
 simp only [hO, hJ, Bool.and_true, Bool.and_eq_true] at h
 simp [av, Tryz.underlying22, h2, h3, vfill, vcells1, h, overwrite, vzeros, List.range_succ]
theorem aB {H : Nat → Option VObj} {xs : List Int} {x : Int} {f : Bool} {k : IntKind} {i : Int} (h : getI xs i = some x) : an Tryz.prog H 22 (.sl (aa eI xs) xs.length f) (.lit (.int k i)) = some (.tp (eI x ++ aa eI (xs.drop (i.toNat + 1)))) :=
 ixG Tryz.underlying22 (by kernel_rfl : szT Tryz.prog 3 = some 1) (by decide) (fun _ => rfl) h
theorem zS {c : VV} {cs : List VV} : vload Tryz.prog 23 (c :: cs) = some c := by
 have h1 : aggT Tryz.prog 23 = some false := by kernel_rfl
 simp [vload, vpart, h1]
theorem zT : szT Tryz.prog 23 = some 1 := by kernel_rfl
theorem si : vzl Tryz.prog 23 = some [.lit (.slice none 0 0)] := by kernel_rfl
theorem sj {H : Nat → Option VObj} {cs : List VV} {n : Nat} {f : Bool} : vlen Tryz.prog H 23 (.sl cs n f) = some (.lit (.int .i64 n)) := by simp [vlen, Tryz.underlying23, sls]
theorem lenN23 {H : Nat → Option VObj} : vlen Tryz.prog H 23 (.lit (.slice none 0 0)) = some (.lit (.int .i64 0)) := by simp [vlen, Tryz.underlying23, sls]
theorem lenR23 {H : Nat → Option VObj} {β off n w c : Nat} : vlen Tryz.prog H 23 (.ref β off n w c) = (match H β with | some (.cells _ cs) => if off ≤ cs.length then some (.lit (.int .i64 n)) else none | _ => none) := lenR Tryz.underlying23
theorem zU : elemT Tryz.prog 23 = some 49 := by simp [elemT, Tryz.underlying23]
theorem zV {xs : List GBs} : (aa cGBs xs).take (xs.length * 5) = aa cGBs xs := vc (fun _ => rfl)
theorem zW {c0 c1 c2 c3 c4 : VV} (h : leafL [c0, c1, c2, c3, c4] = true) : av Tryz.prog 23 1 [(0, .agg [c0, c1, c2, c3, c4])] = some ([c0, c1, c2, c3, c4], 5) := by
 have h2 : szT Tryz.prog 49 = some 5 := by kernel_rfl
 have h3 : vzero Tryz.prog 49 = some #[.int .i64 0, .bool false, .int .i64 0, .int .i64 0, .slice none 0 0] := by kernel_rfl
 simp only [hO, hJ, Bool.and_true, Bool.and_eq_true] at h
 simp [av, Tryz.underlying23, h2, h3, vfill, aK, h, overwrite, vzeros]
theorem aH {H : Nat → Option VObj} {xs : List GBs} {x : GBs} {f : Bool} {k : IntKind} {i : Int} (h : getI xs i = some x) : an Tryz.prog H 23 (.sl (aa cGBs xs) xs.length f) (.lit (.int k i)) = some (.tp (cGBs x ++ aa cGBs (xs.drop (i.toNat + 1)))) :=
 ixG Tryz.underlying23 (by kernel_rfl : szT Tryz.prog 49 = some 5) (by decide) (fun _ => rfl) h
theorem zX {c0 c1 c2 : VV} {cs : List VV} : vload Tryz.prog 25 (c0 :: c1 :: c2 :: cs) = some (.agg [c0, c1, c2]) := by
 have h1 : aggT Tryz.prog 25 = some true := by kernel_rfl
 have h2 : szT Tryz.prog 25 = some 3 := by kernel_rfl
 simp [vload, vpart, h1, h2]
theorem zY : szT Tryz.prog 25 = some 3 := by kernel_rfl
theorem sk : vzl Tryz.prog 25 = some [.lit (.int .i64 0), .lit (.slice none 0 0), .lit (.slice none 0 0)] := by kernel_rfl
theorem zZ {H : Nat → Option VObj} {cs : List VV} : ag Tryz.prog H 25 (.tp cs) 0 = some (.tp (cs.drop 0)) := by
 have h2 : szT Tryz.prog 3 = some 1 := by kernel_rfl
 simp [ag, Tryz.underlying25, h2]
theorem Aa {H : Nat → Option VObj} {β o : Nat} : ag Tryz.prog H 25 (.ptr β o) 0 = if (H β).isSome = true then some (.ptr β (o + 0)) else none := by
 have h2 : szT Tryz.prog 3 = some 1 := by kernel_rfl
 simp [ag, Tryz.underlying25, h2]
theorem Ab {c0 c1 c2 : VV} : vfield Tryz.prog 25 (.agg [c0, c1, c2]) 0 = some (c0) := by
 have h1 : aggT Tryz.prog 3 = some false := by kernel_rfl
 have h2 : szT Tryz.prog 3 = some 1 := by kernel_rfl
 simp [vfield, Tryz.underlying25, vpart, h1, h2]
theorem Ac {H : Nat → Option VObj} {cs : List VV} : ag Tryz.prog H 25 (.tp cs) 1 = some (.tp (cs.drop 1)) := by
 have h2 : szT Tryz.prog 22 = some 1 := by kernel_rfl
 simp [ag, Tryz.underlying25, h2]
theorem Ad {H : Nat → Option VObj} {β o : Nat} : ag Tryz.prog H 25 (.ptr β o) 1 = if (H β).isSome = true then some (.ptr β (o + 1)) else none := by
 have h2 : szT Tryz.prog 22 = some 1 := by kernel_rfl
 simp [ag, Tryz.underlying25, h2]
theorem Ae {c0 c1 c2 : VV} : vfield Tryz.prog 25 (.agg [c0, c1, c2]) 1 = some (c1) := by
 have h1 : aggT Tryz.prog 22 = some false := by kernel_rfl
 have h2 : szT Tryz.prog 22 = some 1 := by kernel_rfl
 simp [vfield, Tryz.underlying25, vpart, h1, h2]
theorem Af {H : Nat → Option VObj} {cs : List VV} : ag Tryz.prog H 25 (.tp cs) 2 = some (.tp (cs.drop 2)) := by
 have h2 : szT Tryz.prog 23 = some 1 := by kernel_rfl
 simp [ag, Tryz.underlying25, h2]
theorem Ag {H : Nat → Option VObj} {β o : Nat} : ag Tryz.prog H 25 (.ptr β o) 2 = if (H β).isSome = true then some (.ptr β (o + 2)) else none := by
 have h2 : szT Tryz.prog 23 = some 1 := by kernel_rfl
 simp [ag, Tryz.underlying25, h2]
theorem Ah {c0 c1 c2 : VV} : vfield Tryz.prog 25 (.agg [c0, c1, c2]) 2 = some (c2) := by
 have h1 : aggT Tryz.prog 23 = some false := by kernel_rfl
 have h2 : szT Tryz.prog 23 = some 1 := by kernel_rfl
 simp [vfield, Tryz.underlying25, vpart, h1, h2]
theorem Ai {c : VV} {cs : List VV} : vload Tryz.prog 29 (c :: cs) = some c := by
 have h1 : aggT Tryz.prog 29 = some false := by kernel_rfl
 simp [vload, vpart, h1]
theorem Aj : szT Tryz.prog 29 = some 1 := by kernel_rfl
theorem sm : vzl Tryz.prog 29 = some [.lit (.int .i64 0)] := by kernel_rfl
theorem Ak {c : VV} {cs : List VV} : vload Tryz.prog 31 (c :: cs) = some c := by
 have h1 : aggT Tryz.prog 31 = some false := by kernel_rfl
 simp [vload, vpart, h1]
theorem Al : szT Tryz.prog 31 = some 1 := by kernel_rfl
theorem sn : vzl Tryz.prog 31 = some [.lit (.slice none 0 0)] := by kernel_rfl
theorem so {H : Nat → Option VObj} {cs : List VV} {n : Nat} {f : Bool} : vlen Tryz.prog H 31 (.sl cs n f) = some (.lit (.int .i64 n)) := by simp [vlen, Tryz.underlying31, sls]
theorem lenN31 {H : Nat → Option VObj} : vlen Tryz.prog H 31 (.lit (.slice none 0 0)) = some (.lit (.int .i64 0)) := by simp [vlen, Tryz.underlying31, sls]
theorem lenR31 {H : Nat → Option VObj} {β off n w c : Nat} : vlen Tryz.prog H 31 (.ref β off n w c) = (match H β with | some (.cells _ cs) => if off ≤ cs.length then some (.lit (.int .i64 n)) else none | _ => none) := lenR Tryz.underlying31
theorem ij : elemT Tryz.prog 31 = some 35 := by simp [elemT, Tryz.underlying31]
theorem lv : appOk Tryz.prog 31 = some (35, 2, 16) := by kernel_rfl
theorem Am {xs : List GSpan} : (aa au xs).take (xs.length * 2) = aa au xs := vc (fun _ => rfl)
theorem lu : ∀ x : GSpan, leafL (au x) = true := fun x => by simp only [eI_eq, nR, eB_eq, eS_eq, nS, nQ, hJ, hO, zK, zL, zM, zN, zO, Bool.and_self]
theorem An {c0 c1 : VV} (h : leafL [c0, c1] = true) : av Tryz.prog 31 1 [(0, .agg [c0, c1])] = some ([c0, c1], 2) := by
 have h2 : szT Tryz.prog 35 = some 2 := by kernel_rfl
 have h3 : vzero Tryz.prog 35 = some #[.int .i64 0, .int .i64 0] := by kernel_rfl
 simp only [hO, hJ, Bool.and_true, Bool.and_eq_true] at h
 simp [av, Tryz.underlying31, h2, h3, vfill, aK, h, overwrite, vzeros]
theorem gh {H : Nat → Option VObj} {xs : List GSpan} {x : GSpan} {f : Bool} {k : IntKind} {i : Int} (h : getI xs i = some x) : an Tryz.prog H 31 (.sl (aa au xs) xs.length f) (.lit (.int k i)) = some (.tp (au x ++ aa au (xs.drop (i.toNat + 1)))) :=
 ixG Tryz.underlying31 (by kernel_rfl : szT Tryz.prog 35 = some 2) (by decide) (fun _ => rfl) h
theorem Ao {c0 c1 : VV} {cs : List VV} : vload Tryz.prog 35 (c0 :: c1 :: cs) = some (.agg [c0, c1]) := by
 have h1 : aggT Tryz.prog 35 = some true := by kernel_rfl
 have h2 : szT Tryz.prog 35 = some 2 := by kernel_rfl
 simp [vload, vpart, h1, h2]
theorem Ap : szT Tryz.prog 35 = some 2 := by kernel_rfl
theorem jJ : vzl Tryz.prog 35 = some [.lit (.int .i64 0), .lit (.int .i64 0)] := by kernel_rfl
theorem Aq {H : Nat → Option VObj} {cs : List VV} : ag Tryz.prog H 35 (.tp cs) 0 = some (.tp (cs.drop 0)) := by
 have h2 : szT Tryz.prog 3 = some 1 := by kernel_rfl
 simp [ag, Tryz.underlying35, h2]
theorem Ar {H : Nat → Option VObj} {β o : Nat} : ag Tryz.prog H 35 (.ptr β o) 0 = if (H β).isSome = true then some (.ptr β (o + 0)) else none := by
 have h2 : szT Tryz.prog 3 = some 1 := by kernel_rfl
 simp [ag, Tryz.underlying35, h2]
theorem As {c0 c1 : VV} : vfield Tryz.prog 35 (.agg [c0, c1]) 0 = some (c0) := by
 have h1 : aggT Tryz.prog 3 = some false := by kernel_rfl
 have h2 : szT Tryz.prog 3 = some 1 := by kernel_rfl
 simp [vfield, Tryz.underlying35, vpart, h1, h2]
theorem At {H : Nat → Option VObj} {cs : List VV} : ag Tryz.prog H 35 (.tp cs) 1 = some (.tp (cs.drop 1)) := by
 have h2 : szT Tryz.prog 3 = some 1 := by kernel_rfl
 simp [ag, Tryz.underlying35, h2]
theorem Au {H : Nat → Option VObj} {β o : Nat} : ag Tryz.prog H 35 (.ptr β o) 1 = if (H β).isSome = true then some (.ptr β (o + 1)) else none := by
 have h2 : szT Tryz.prog 3 = some 1 := by kernel_rfl
 simp [ag, Tryz.underlying35, h2]
theorem Av {c0 c1 : VV} : vfield Tryz.prog 35 (.agg [c0, c1]) 1 = some (c1) := by
 have h1 : aggT Tryz.prog 3 = some false := by kernel_rfl
 have h2 : szT Tryz.prog 3 = some 1 := by kernel_rfl
 simp [vfield, Tryz.underlying35, vpart, h1, h2]
theorem Aw {c0 c1 c2 c3 c4 : VV} {cs : List VV} : vload Tryz.prog 49 (c0 :: c1 :: c2 :: c3 :: c4 :: cs) = some (.agg [c0, c1, c2, c3, c4]) := by
 have h1 : aggT Tryz.prog 49 = some true := by kernel_rfl
 have h2 : szT Tryz.prog 49 = some 5 := by kernel_rfl
 simp [vload, vpart, h1, h2]
theorem Ax : szT Tryz.prog 49 = some 5 := by kernel_rfl
theorem sq : vzl Tryz.prog 49 = some [.lit (.int .i64 0), .lit (.bool false), .lit (.int .i64 0), .lit (.int .i64 0), .lit (.slice none 0 0)] := by kernel_rfl
theorem Ay {H : Nat → Option VObj} {cs : List VV} : ag Tryz.prog H 49 (.tp cs) 0 = some (.tp (cs.drop 0)) := by
 have h2 : szT Tryz.prog 3 = some 1 := by kernel_rfl
 simp [ag, Tryz.underlying49, h2]
theorem Az {H : Nat → Option VObj} {β o : Nat} : ag Tryz.prog H 49 (.ptr β o) 0 = if (H β).isSome = true then some (.ptr β (o + 0)) else none := by
 have h2 : szT Tryz.prog 3 = some 1 := by kernel_rfl
 simp [ag, Tryz.underlying49, h2]
theorem AA {c0 c1 c2 c3 c4 : VV} : vfield Tryz.prog 49 (.agg [c0, c1, c2, c3, c4]) 0 = some (c0) := by
 have h1 : aggT Tryz.prog 3 = some false := by kernel_rfl
 have h2 : szT Tryz.prog 3 = some 1 := by kernel_rfl
 simp [vfield, Tryz.underlying49, vpart, h1, h2]
theorem AB {H : Nat → Option VObj} {cs : List VV} : ag Tryz.prog H 49 (.tp cs) 1 = some (.tp (cs.drop 1)) := by
 have h2 : szT Tryz.prog 4 = some 1 := by kernel_rfl
 simp [ag, Tryz.underlying49, h2]
theorem AD {H : Nat → Option VObj} {β o : Nat} : ag Tryz.prog H 49 (.ptr β o) 1 = if (H β).isSome = true then some (.ptr β (o + 1)) else none := by
 have h2 : szT Tryz.prog 4 = some 1 := by kernel_rfl
 simp [ag, Tryz.underlying49, h2]
theorem AE {c0 c1 c2 c3 c4 : VV} : vfield Tryz.prog 49 (.agg [c0, c1, c2, c3, c4]) 1 = some (c1) := by
 have h1 : aggT Tryz.prog 4 = some false := by kernel_rfl
 have h2 : szT Tryz.prog 4 = some 1 := by kernel_rfl
 simp [vfield, Tryz.underlying49, vpart, h1, h2]
theorem AF {H : Nat → Option VObj} {cs : List VV} : ag Tryz.prog H 49 (.tp cs) 2 = some (.tp (cs.drop 2)) := by
 have h2 : szT Tryz.prog 35 = some 2 := by kernel_rfl
 simp [ag, Tryz.underlying49, h2]
theorem AG {H : Nat → Option VObj} {β o : Nat} : ag Tryz.prog H 49 (.ptr β o) 2 = if (H β).isSome = true then some (.ptr β (o + 2)) else none := by
 have h2 : szT Tryz.prog 35 = some 2 := by kernel_rfl
 simp [ag, Tryz.underlying49, h2]
theorem AH {c0 c1 c2 c3 c4 : VV} : vfield Tryz.prog 49 (.agg [c0, c1, c2, c3, c4]) 2 = some (.agg [c2, c3]) := by
 have h1 : aggT Tryz.prog 35 = some true := by kernel_rfl
 have h2 : szT Tryz.prog 35 = some 2 := by kernel_rfl
 simp [vfield, Tryz.underlying49, vpart, h1, h2]
theorem AI {H : Nat → Option VObj} {cs : List VV} : ag Tryz.prog H 49 (.tp cs) 3 = some (.tp (cs.drop 4)) := by
 have h2 : szT Tryz.prog 22 = some 1 := by kernel_rfl
 simp [ag, Tryz.underlying49, h2]
theorem AJ {H : Nat → Option VObj} {β o : Nat} : ag Tryz.prog H 49 (.ptr β o) 3 = if (H β).isSome = true then some (.ptr β (o + 4)) else none := by
 have h2 : szT Tryz.prog 22 = some 1 := by kernel_rfl
 simp [ag, Tryz.underlying49, h2]
theorem AK {c0 c1 c2 c3 c4 : VV} : vfield Tryz.prog 49 (.agg [c0, c1, c2, c3, c4]) 3 = some (c4) := by
 have h1 : aggT Tryz.prog 22 = some false := by kernel_rfl
 have h2 : szT Tryz.prog 22 = some 1 := by kernel_rfl
 simp [vfield, Tryz.underlying49, vpart, h1, h2]
theorem AL {c : VV} {cs : List VV} : vload Tryz.prog 51 (c :: cs) = some c := by
 have h1 : aggT Tryz.prog 51 = some false := by kernel_rfl
 simp [vload, vpart, h1]
theorem AM : szT Tryz.prog 51 = some 1 := by kernel_rfl
theorem su : vzl Tryz.prog 51 = some [.lit (.slice none 0 0)] := by kernel_rfl
theorem sv {H : Nat → Option VObj} {cs : List VV} {n : Nat} {f : Bool} : vlen Tryz.prog H 51 (.sl cs n f) = some (.lit (.int .i64 n)) := by simp [vlen, Tryz.underlying51, sls]
theorem lenN51 {H : Nat → Option VObj} : vlen Tryz.prog H 51 (.lit (.slice none 0 0)) = some (.lit (.int .i64 0)) := by simp [vlen, Tryz.underlying51, sls]
theorem lenR51 {H : Nat → Option VObj} {β off n w c : Nat} : vlen Tryz.prog H 51 (.ref β off n w c) = (match H β with | some (.cells _ cs) => if off ≤ cs.length then some (.lit (.int .i64 n)) else none | _ => none) := lenR Tryz.underlying51
theorem AN : elemT Tryz.prog 51 = some 60 := by simp [elemT, Tryz.underlying51]
theorem AO {xs : List Int} : (aa eI xs).take (xs.length * 1) = aa eI xs := vc (fun _ => rfl)
theorem AP {a0 : VV} (h : leafL [a0] = true) : av Tryz.prog 51 1 [(0, a0)] = some ([a0], 1) := by
 have h2 : szT Tryz.prog 60 = some 1 := by kernel_rfl
 have h3 : vzero Tryz.prog 60 = some #[.int .i64 0] := by kernel_rfl
 simp only [hO, hJ, Bool.and_true, Bool.and_eq_true] at h
 simp [av, Tryz.underlying51, h2, h3, vfill, vcells1, h, overwrite, vzeros, List.range_succ]
theorem AQ {a0 a1 : VV} (h : leafL [a0, a1] = true) : av Tryz.prog 51 2 [(0, a0), (1, a1)] = some ([a0, a1], 1) := by
 have h2 : szT Tryz.prog 60 = some 1 := by kernel_rfl
 have h3 : vzero Tryz.prog 60 = some #[.int .i64 0] := by kernel_rfl
 simp only [hO, hJ, Bool.and_true, Bool.and_eq_true] at h
 simp [av, Tryz.underlying51, h2, h3, vfill, vcells1, h, overwrite, vzeros, List.range_succ]
theorem AR {a0 a1 a2 : VV} (h : leafL [a0, a1, a2] = true) : av Tryz.prog 51 3 [(0, a0), (1, a1), (2, a2)] = some ([a0, a1, a2], 1) := by
 have h2 : szT Tryz.prog 60 = some 1 := by kernel_rfl
 have h3 : vzero Tryz.prog 60 = some #[.int .i64 0] := by kernel_rfl
 simp only [hO, hJ, Bool.and_true, Bool.and_eq_true] at h
 simp [av, Tryz.underlying51, h2, h3, vfill, vcells1, h, overwrite, vzeros, List.range_succ]
theorem AS {c : VV} {cs : List VV} : vload Tryz.prog 60 (c :: cs) = some c := by
 have h1 : aggT Tryz.prog 60 = some false := by kernel_rfl
 simp [vload, vpart, h1]
theorem AT : szT Tryz.prog 60 = some 1 := by kernel_rfl
theorem sw : vzl Tryz.prog 60 = some [.lit (.int .i64 0)] := by kernel_rfl
theorem AU {c0 c1 c2 c3 c4 : VV} {cs : List VV} : vload Tryz.prog 92 (c0 :: c1 :: c2 :: c3 :: c4 :: cs) = some (.agg [c0, c1, c2, c3, c4]) := by
 have h1 : aggT Tryz.prog 92 = some true := by kernel_rfl
 have h2 : szT Tryz.prog 92 = some 5 := by kernel_rfl
 simp [vload, vpart, h1, h2]
theorem AV : szT Tryz.prog 92 = some 5 := by kernel_rfl
theorem mr : vzl Tryz.prog 92 = some [.lit (.int .i64 0), .lit (.slice none 0 0), .lit (.slice none 0 0), .lit (.slice none 0 0), .lit (.map none)] := by kernel_rfl
theorem AW {H : Nat → Option VObj} {cs : List VV} : ag Tryz.prog H 92 (.tp cs) 0 = some (.tp (cs.drop 0)) := by
 have h2 : szT Tryz.prog 25 = some 3 := by kernel_rfl
 simp [ag, Tryz.underlying92, h2]
theorem AX {H : Nat → Option VObj} {β o : Nat} : ag Tryz.prog H 92 (.ptr β o) 0 = if (H β).isSome = true then some (.ptr β (o + 0)) else none := by
 have h2 : szT Tryz.prog 25 = some 3 := by kernel_rfl
 simp [ag, Tryz.underlying92, h2]
theorem AY {c0 c1 c2 c3 c4 : VV} : vfield Tryz.prog 92 (.agg [c0, c1, c2, c3, c4]) 0 = some (.agg [c0, c1, c2]) := by
 have h1 : aggT Tryz.prog 25 = some true := by kernel_rfl
 have h2 : szT Tryz.prog 25 = some 3 := by kernel_rfl
 simp [vfield, Tryz.underlying92, vpart, h1, h2]
theorem AZ {H : Nat → Option VObj} {cs : List VV} : ag Tryz.prog H 92 (.tp cs) 1 = some (.tp (cs.drop 3)) := by
 have h2 : szT Tryz.prog 22 = some 1 := by kernel_rfl
 simp [ag, Tryz.underlying92, h2]
theorem Ba {H : Nat → Option VObj} {β o : Nat} : ag Tryz.prog H 92 (.ptr β o) 1 = if (H β).isSome = true then some (.ptr β (o + 3)) else none := by
 have h2 : szT Tryz.prog 22 = some 1 := by kernel_rfl
 simp [ag, Tryz.underlying92, h2]
theorem Bc {c0 c1 c2 c3 c4 : VV} : vfield Tryz.prog 92 (.agg [c0, c1, c2, c3, c4]) 1 = some (c3) := by
 have h1 : aggT Tryz.prog 22 = some false := by kernel_rfl
 have h2 : szT Tryz.prog 22 = some 1 := by kernel_rfl
 simp [vfield, Tryz.underlying92, vpart, h1, h2]
theorem Bd {H : Nat → Option VObj} {cs : List VV} : ag Tryz.prog H 92 (.tp cs) 2 = some (.tp (cs.drop 4)) := by
 have h2 : szT Tryz.prog 90 = some 1 := by kernel_rfl
 simp [ag, Tryz.underlying92, h2]
theorem Be {H : Nat → Option VObj} {β o : Nat} : ag Tryz.prog H 92 (.ptr β o) 2 = if (H β).isSome = true then some (.ptr β (o + 4)) else none := by
 have h2 : szT Tryz.prog 90 = some 1 := by kernel_rfl
 simp [ag, Tryz.underlying92, h2]
theorem Bf {c0 c1 c2 c3 c4 : VV} : vfield Tryz.prog 92 (.agg [c0, c1, c2, c3, c4]) 2 = some (c4) := by
 have h1 : aggT Tryz.prog 90 = some false := by kernel_rfl
 have h2 : szT Tryz.prog 90 = some 1 := by kernel_rfl
 simp [vfield, Tryz.underlying92, vpart, h1, h2]
theorem sx {c0 c1 : VV} {cs : List VV} : vload Tryz.prog 152 (c0 :: c1 :: cs) = some (.agg [c0, c1]) := by
 have h1 : aggT Tryz.prog 152 = some true := by kernel_rfl
 have h2 : szT Tryz.prog 152 = some 2 := by kernel_rfl
 simp [vload, vpart, h1, h2]
theorem sy : szT Tryz.prog 152 = some 2 := by kernel_rfl
theorem jK : vzl Tryz.prog 152 = some [.lit (.int .i64 0), .lit (.int .i64 0)] := by kernel_rfl
theorem Bh {H : Nat → Option VObj} {cs : List VV} : ag Tryz.prog H 152 (.tp cs) 0 = some (.tp (cs.drop 0)) := by
 have h2 : szT Tryz.prog 3 = some 1 := by kernel_rfl
 simp [ag, Tryz.underlying152, h2]
theorem Bi {H : Nat → Option VObj} {β o : Nat} : ag Tryz.prog H 152 (.ptr β o) 0 = if (H β).isSome = true then some (.ptr β (o + 0)) else none := by
 have h2 : szT Tryz.prog 3 = some 1 := by kernel_rfl
 simp [ag, Tryz.underlying152, h2]
theorem Bj {c0 c1 : VV} : vfield Tryz.prog 152 (.agg [c0, c1]) 0 = some (c0) := by
 have h1 : aggT Tryz.prog 3 = some false := by kernel_rfl
 have h2 : szT Tryz.prog 3 = some 1 := by kernel_rfl
 simp [vfield, Tryz.underlying152, vpart, h1, h2]
theorem Bk {H : Nat → Option VObj} {cs : List VV} : ag Tryz.prog H 152 (.tp cs) 1 = some (.tp (cs.drop 1)) := by
 have h2 : szT Tryz.prog 3 = some 1 := by kernel_rfl
 simp [ag, Tryz.underlying152, h2]
theorem Bl {H : Nat → Option VObj} {β o : Nat} : ag Tryz.prog H 152 (.ptr β o) 1 = if (H β).isSome = true then some (.ptr β (o + 1)) else none := by
 have h2 : szT Tryz.prog 3 = some 1 := by kernel_rfl
 simp [ag, Tryz.underlying152, h2]
theorem Bm {c0 c1 : VV} : vfield Tryz.prog 152 (.agg [c0, c1]) 1 = some (c1) := by
 have h1 : aggT Tryz.prog 3 = some false := by kernel_rfl
 have h2 : szT Tryz.prog 3 = some 1 := by kernel_rfl
 simp [vfield, Tryz.underlying152, vpart, h1, h2]
theorem s5 {c : VV} {cs : List VV} : vload Tryz.prog 156 (c :: cs) = some c := by
 have h1 : aggT Tryz.prog 156 = some false := by kernel_rfl
 simp [vload, vpart, h1]
theorem s6 : szT Tryz.prog 156 = some 1 := by kernel_rfl
theorem nT : vzl Tryz.prog 156 = some [.lit (.int .i64 0)] := by kernel_rfl
theorem s7 : szT Tryz.prog 153 = some 1 := by kernel_rfl
theorem s8 {c : VV} {cs : List VV} : vload Tryz.prog 153 (c :: cs) = some c := by
 have h1 : aggT Tryz.prog 153 = some false := by kernel_rfl
 simp [vload, vpart, h1]
theorem nU : vzl Tryz.prog 153 = some [.lit .nilFunc] := by kernel_rfl
theorem s9 : szT Tryz.prog 154 = some 2 := by kernel_rfl
theorem jL : vzl Tryz.prog 154 = some [.lit .nilFunc, .lit .nilFunc] := by kernel_rfl
theorem sA {c0 c1 : VV} {cs : List VV} : vload Tryz.prog 154 (c0 :: c1 :: cs) = some (.agg [c0, c1]) := by
 have h1 : aggT Tryz.prog 154 = some true := by kernel_rfl
 have h2 : szT Tryz.prog 154 = some 2 := by kernel_rfl
 simp [vload, vpart, h1, h2]
theorem Bn {c0 c1 : VV} {k : IntKind} : vindex Tryz.prog 154 (.agg [c0, c1]) (.lit (.int k 0)) = some c0 := by
 have h1 : aggT Tryz.prog 153 = some false := by kernel_rfl
 have h2 : szT Tryz.prog 153 = some 1 := by kernel_rfl
 simp [vindex, Tryz.underlying154, vpart, h1, h2]
theorem Bo {H : Nat → Option VObj} {β o : Nat} {k : IntKind} : an Tryz.prog H 154 (.ptr β o) (.lit (.int k 0)) = if (H β).isSome = true then some (.ptr β (o + 0)) else none := by
 have h2 : szT Tryz.prog 153 = some 1 := by kernel_rfl
 simp [an, Tryz.underlying154, h2]
theorem Bp {c0 c1 : VV} {k : IntKind} : vindex Tryz.prog 154 (.agg [c0, c1]) (.lit (.int k 1)) = some c1 := by
 have h1 : aggT Tryz.prog 153 = some false := by kernel_rfl
 have h2 : szT Tryz.prog 153 = some 1 := by kernel_rfl
 simp [vindex, Tryz.underlying154, vpart, h1, h2]
theorem Bq {H : Nat → Option VObj} {β o : Nat} {k : IntKind} : an Tryz.prog H 154 (.ptr β o) (.lit (.int k 1)) = if (H β).isSome = true then some (.ptr β (o + 1)) else none := by
 have h2 : szT Tryz.prog 153 = some 1 := by kernel_rfl
 simp [an, Tryz.underlying154, h2]
theorem Br : vbuild Tryz.prog 35 [] = some (.agg [.lit (.int .i64 0), .lit (.int .i64 0)]) := by
 rw [sB jJ (by kernel_rfl)]
 rfl
theorem Bs {cS dj : VV} (h : leafL [cS, dj] = true) : vbuild Tryz.prog 35 [(0, cS), (1, dj)] = some (.agg [cS, dj]) := by
 have p0 : placeT Tryz.prog 35 0 = some (0, 1) := by kernel_rfl
 have p1 : placeT Tryz.prog 35 1 = some (1, 1) := by kernel_rfl
 simp only [hO, hJ, Bool.and_true, Bool.and_eq_true] at h
 rw [sB jJ (by kernel_rfl)]
 simp [vfill, p0, p1, vcells1, h, overwrite]
theorem Ms {cS jM jN dj nV : VV} (h : leafL [cS, jM, jN, dj, nV] = true) : vbuild Tryz.prog 92 [(0, .agg [cS, jM, jN]), (1, dj), (2, nV)] = some (.agg [cS, jM, jN, dj, nV]) := by
 have p0 : placeT Tryz.prog 92 0 = some (0, 3) := by kernel_rfl
 have p1 : placeT Tryz.prog 92 1 = some (3, 1) := by kernel_rfl
 have p2 : placeT Tryz.prog 92 2 = some (4, 1) := by kernel_rfl
 simp only [hO, hJ, Bool.and_true, Bool.and_eq_true] at h
 have q0 : aK (.agg [cS, jM, jN]) = some [cS, jM, jN] := by rw [Iv]; simp [hO, hJ, h]
 rw [sB mr (by kernel_rfl)]
 simp [vfill, p0, p1, p2, vcells1, h, overwrite, q0]
theorem Bt {cS dj : VV} (h : leafL [cS, dj] = true) : vbuild Tryz.prog 152 [(0, cS), (1, dj)] = some (.agg [cS, dj]) := by
 have p0 : placeT Tryz.prog 152 0 = some (0, 1) := by kernel_rfl
 have p1 : placeT Tryz.prog 152 1 = some (1, 1) := by kernel_rfl
 simp only [hO, hJ, Bool.and_true, Bool.and_eq_true] at h
 rw [sB jK (by kernel_rfl)]
 simp [vfill, p0, p1, vcells1, h, overwrite]
theorem Bu {cS dj : VV} (h : leafL [cS, dj] = true) : vbuild Tryz.prog 154 [(0, cS), (1, dj)] = some (.agg [cS, dj]) := by
 have p0 : placeT Tryz.prog 154 0 = some (0, 1) := by kernel_rfl
 have p1 : placeT Tryz.prog 154 1 = some (1, 1) := by kernel_rfl
 simp only [hO, hJ, Bool.and_true, Bool.and_eq_true] at h
 rw [sB jL (by kernel_rfl)]
 simp [vfill, p0, p1, vcells1, h, overwrite]
theorem Mt {H : Nat → Option VObj} {x y : Operand} {a b : Bool} : binV Tryz.prog H .eql 4 x y (.lit (.bool a)) (.lit (.bool b)) = some (.lit (.bool (a == b))) := Bv Tryz.underlying4
theorem Mu {H : Nat → Option VObj} {x y : Operand} {a b : Bool} : binV Tryz.prog H .neq 4 x y (.lit (.bool a)) (.lit (.bool b)) = some (.lit (.bool (a != b))) := Bw Tryz.underlying4
theorem sC {H : Nat → Option VObj} {x y : Operand} {a0 b0 : Int} {a1 b1 : Int} : binV Tryz.prog H .eql 35 x y (.agg [.lit (.int .i64 a0), .lit (.int .i64 a1)]) (.agg [.lit (.int .i64 b0), .lit (.int .i64 b1)]) = some (.lit (.bool (a0 == b0 && (a1 == b1)))) ∧ binV Tryz.prog H .neq 35 x y (.agg [.lit (.int .i64 a0), .lit (.int .i64 a1)]) (.agg [.lit (.int .i64 b0), .lit (.int .i64 b1)]) = some (.lit (.bool (!(a0 == b0 && (a1 == b1))))) := by
 refine binS (xs := [.int .i64 a0, .int .i64 a1]) (ys := [.int .i64 b0, .int .i64 b1]) (by simp [VV.val?, valL?]) (by simp [VV.val?, valL?]) Tryz.underlying35 (by kernel_rfl) (by kernel_rfl) ?_
 simp [eqF, jO, eq1, Tryz.underlying3]
theorem Bx {H : Nat → Option VObj} {x y : Operand} {a0 b0 : Int} {a1 b1 : Int} : binV Tryz.prog H .eql 35 x y (.agg [.lit (.int .i64 a0), .lit (.int .i64 a1)]) (.agg [.lit (.int .i64 b0), .lit (.int .i64 b1)]) = some (.lit (.bool (a0 == b0 && (a1 == b1)))) := sC.1
theorem By {H : Nat → Option VObj} {x y : Operand} {a0 b0 : Int} {a1 b1 : Int} : binV Tryz.prog H .neq 35 x y (.agg [.lit (.int .i64 a0), .lit (.int .i64 a1)]) (.agg [.lit (.int .i64 b0), .lit (.int .i64 b1)]) = some (.lit (.bool (!(a0 == b0 && (a1 == b1))))) := sC.2
theorem Bz : (VV.lit Value.nilFunc).leaf = true := rfl
theorem B1 : (VV.lit Value.nilIface).leaf = true := rfl
def tyf := (And.intro (And.intro (And.intro (And.intro (And.intro (And.intro (And.intro @nQ @se) (And.intro @sf @vl)) (And.intro (And.intro @Mk @Ml) (And.intro @zD (And.intro @Mm @Mn)))) (And.intro (And.intro (And.intro @zE @Mo) (And.intro @Mp @zF)) (And.intro (And.intro @Mq @Mr) (And.intro @zG (And.intro @zH @zI))))) (And.intro (And.intro (And.intro (And.intro @sg @sh) (And.intro @lenN22 @lenR22)) (And.intro (And.intro @bP @zJ) (And.intro @zP (And.intro @zQ @zR)))) (And.intro (And.intro (And.intro @zS @zT) (And.intro @si (And.intro @sj @lenN23))) (And.intro (And.intro @lenR23 @zU) (And.intro @zV (And.intro @zW @zX)))))) (And.intro (And.intro (And.intro (And.intro (And.intro @zY @sk) (And.intro @zZ @Aa)) (And.intro (And.intro @Ab @Ac) (And.intro @Ad (And.intro @Ae @Af)))) (And.intro (And.intro (And.intro @Ag @Ah) (And.intro @Ai @Aj)) (And.intro (And.intro @sm @Ak) (And.intro @Al (And.intro @sn @so))))) (And.intro (And.intro (And.intro (And.intro @lenN31 @lenR31) (And.intro @ij @Am)) (And.intro (And.intro @An @Ao) (And.intro @Ap (And.intro @jJ @Aq)))) (And.intro (And.intro (And.intro @Ar @As) (And.intro @At (And.intro @Au @Av))) (And.intro (And.intro @Aw @Ax) (And.intro @sq (And.intro @Ay @Az))))))) (And.intro (And.intro (And.intro (And.intro (And.intro (And.intro @AA @AB) (And.intro @AD @AE)) (And.intro (And.intro @AF @AG) (And.intro @AH (And.intro @AI @AJ)))) (And.intro (And.intro (And.intro @AK @AL) (And.intro @AM @su)) (And.intro (And.intro @sv @lenN51) (And.intro @lenR51 (And.intro @AN @AO))))) (And.intro (And.intro (And.intro (And.intro @AP @AQ) (And.intro @AR @AS)) (And.intro (And.intro @AT @sw) (And.intro @AU (And.intro @AV @mr)))) (And.intro (And.intro (And.intro @AW @AX) (And.intro @AY (And.intro @AZ @Ba))) (And.intro (And.intro @Bc @Bd) (And.intro @Be (And.intro @Bf @sx)))))) (And.intro (And.intro (And.intro (And.intro (And.intro @sy @jK) (And.intro @Bh @Bi)) (And.intro (And.intro @Bj @Bk) (And.intro @Bl (And.intro @Bm @s5)))) (And.intro (And.intro (And.intro @s6 @nT) (And.intro @s7 (And.intro @s8 @nU))) (And.intro (And.intro @s9 @jL) (And.intro @sA (And.intro @Bn @Bo))))) (And.intro (And.intro (And.intro (And.intro @Bp @Bq) (And.intro @Br @Bs)) (And.intro (And.intro @Ms @Bt) (And.intro @Bu (And.intro @Mt @Mu)))) (And.intro (And.intro (And.intro @Bx @By) (And.intro @Bz (And.intro @B1 @Mv))) (And.intro (And.intro @eI_eq @nR) (And.intro @eB_eq (And.intro @eS_eq @nS))))))))
def aL := (And.intro (And.intro (And.intro (And.intro @eK.norm @eK.normL) (And.intro @eK.shown @eK.showL)) (And.intro (And.intro @gy.norm @gy.normL) (And.intro @gy.shown @gy.showL))) (And.intro (And.intro (And.intro @j0.norm @j0.normL) (And.intro @j0.shown @j0.showL)) (And.intro (And.intro @qf.norm @qf.normL) (And.intro @qf.shown @qf.showL))))
def tytre := (And.intro (And.intro (And.intro @eK.tree @eK.treeL) (And.intro @gy.tree @gy.treeL)) (And.intro (And.intro @j0.tree @j0.treeL) (And.intro @qf.tree @qf.treeL)))
end Go.V
namespace Go.V
open Go Go.Proofs IntKind
theorem ktA {P : Program} {G : Glob} {d : Option Tmp} {γ : Nat} {tm : Nat → VV} {H : Nat → Option VObj} {nx : Nat} {df : List VDef} {K : St → Prop} {Qp : VV → St → Prop} {f : FuncId} {args args0 : List VV} {x : VV} (hp : ah P G f args0 (.tree x)) (h : fin d γ tm H nx df K x .none) (hn : normL args = args0 := by first | (simp only [nrm, aL] <;> rfl) | rfl) (ht : treeL args = true := by simp only [tre, tytre, Bool.and_self]) : callK P G f args ⟨tm, H, nx, df⟩ d γ K Qp := ktree hn ht hp h
theorem dktA {P : Program} {G : Glob} {d : Option Tmp} {γ : Nat} {tm : Nat → VV} {H : Nat → Option VObj} {nx : Nat} {df : List VDef} {K : List Nat → List Nat → St → Prop} {f : FuncId} {args args0 : List VV} {x : VV} (hp : ah P G f args0 (.tree x)) (h : fin d γ tm H nx df (K [] []) x .none) (hn : normL args = args0 := by first | (simp only [nrm, aL] <;> rfl) | rfl) (ht : treeL args = true := by simp only [tre, tytre, Bool.and_self]) : dcallK P G f args tm H nx df d γ K := dktree hn ht hp h
theorem optI {α β : Type} {K : Option β → Prop} {X : Option α} {F : α → Option β} (h : K (Option.bind X F)) (kN : ¬ K none) : ∃ r, X = some r ∧ K (F r) := by
  cases X with
  | none => exact absurd h kN
  | some r => exact ⟨r, rfl, h⟩
end Go.V
end
section
namespace Go.V
open Go Go.Proofs IntKind
def Dec (P : Program) (n : Nat) (t : TypeId) {α : Type} (enc : α → List VV) (R : α → Prop) : Prop := ∀ xs, ShapeT P n t xs → ∃ x : α, R x ∧ normL xs = enc x
theorem B2 {P : Program} {n : Nat} {t : TypeId} (hu : P.underlying t = some (.int .i64)) : Dec P (n + 1) t eI (fun _ => True) := by
 intro xs h
 simp only [ShapeT, hu] at h
 obtain ⟨i, _, rfl⟩ := h
 exact ⟨i, trivial, by simp only [n2, n3, Iw, eI]⟩
theorem B3 {P : Program} {n : Nat} {t : TypeId} (hu : P.underlying t = some .bool) : Dec P (n + 1) t eB (fun _ => True) := by
 intro xs h
 simp only [ShapeT, hu] at h
 obtain ⟨b, rfl⟩ := h
 exact ⟨b, trivial, by simp only [n2, n3, B4, eB]⟩
theorem sD {P : Program} {n : Nat} {t : TypeId} {α : Type} {enc : α → List VV} {R : α → Prop} (h : Dec P n t enc R) : ∀ yss : List (List VV), (∀ ys ∈ yss, ShapeT P n t ys) → ∃ l : List α, l.length = yss.length ∧ (∀ x ∈ l, R x) ∧ normL yss.flatten = aa enc l
 | [], _ => ⟨[], rfl, fun _ hx => (by cases hx), rfl⟩
 | ys :: yss, hs => by
  obtain ⟨x, hx, e⟩ := h ys (hs ys (List.mem_cons_self ..))
  obtain ⟨l, h1, h2, h3⟩ := sD h yss (fun y hy => hs y (List.mem_cons_of_mem _ hy))
  refine ⟨x :: l, by simp [h1], fun y hy => ?_, by rw [List.flatten_cons, qg, e, h3, dp]⟩
  rcases List.mem_cons.1 hy with rfl | hy
  ·exact hx
  ·exact h2 y hy
theorem Ix {P : Program} {n : Nat} {t e : TypeId} {α : Type} {enc : α → List VV} {R : α → Prop} (hu : P.underlying t = some (.slice e)) (h : Dec P n e enc R) : Dec P (n + 1) t (fun l : List α => [.sl (aa enc l) l.length false]) (fun l => aC l = true ∧ ∀ x ∈ l, R x) := by
 intro xs hs
 simp only [ShapeT, hu] at hs
 rcases hs with rfl | ⟨yss, hl, hall, rfl⟩
 ·exact ⟨[], ⟨rfl, fun _ hx => (by cases hx)⟩, by simp only [n2, n3, Iy]; rfl⟩
 ·obtain ⟨l, h1, h2, h3⟩ := sD h yss hall
  refine ⟨l, ⟨?_, h2⟩, by simp only [n2, n3, Iz, h3, h1]⟩
  have : maxLen = 9223372036854775807 := by decide
  unfold aC
  exact decide_eq_true (by omega)
theorem B5 {P : Program} {n : Nat} {t : TypeId} {fs : Array Field} {xs : List VV} (hu : P.underlying t = some (.struct fs)) (h : ShapeT P (n + 1) t xs) : ∃ yss, FieldsS (ShapeT P n) fs.toList yss ∧ xs = yss.flatten := by
 simp only [ShapeT, hu] at h
 exact h
def TypesS (S : TypeId → List VV → Prop) : List TypeId → List (List VV) → Prop
 | [], [] => True
 | t :: ts, ys :: yss => S t ys ∧ TypesS S ts yss
 | _, _ => False
theorem sE {S : TypeId → List VV → Prop} : ∀ (fs : List Field) (yss : List (List VV)), FieldsS S fs yss → TypesS S (fs.map Field.type) yss
 | [], [], _ => trivial
 | f :: fs, ys :: yss, ⟨h1, h2⟩ => ⟨h1, sE fs yss h2⟩
 | [], _ :: _, h => h
 | _ :: _, [], h => h
theorem B7 {P : Program} {n : Nat} {t : TypeId} {fs : Array Field} {ts : List TypeId} {xs : List VV} (hu : P.underlying t = some (.struct fs)) (ht : fs.toList.map Field.type = ts) (h : ShapeT P (n + 1) t xs) : ∃ yss, TypesS (ShapeT P n) ts yss ∧ xs = yss.flatten := by
 obtain ⟨yss, h1, h2⟩ := B5 hu h
 exact ⟨yss, ht ▸ sE _ _ h1, h2⟩
theorem zb {P : Program} {n : Nat} {t : TypeId} {ts : List TypeId} {xs : List VV} (h : ArgsS P n (t :: ts) xs) : ∃ x xs', xs = x :: xs' ∧ ArgS P n t x ∧ ArgsS P n ts xs' := by
 match xs, h with
 | x :: xs', h => exact ⟨x, xs', rfl, h.1, h.2⟩
theorem zf {P : Program} {n : Nat} {xs : List VV} (h : ArgsS P n [] xs) : xs = [] := by
 match xs, h with
 | [], _ => rfl
theorem zc {P : Program} {n : Nat} {t : TypeId} {fs : Array Field} {x : VV} {α : Type} {enc : α → List VV} {R : α → Prop} (hu : P.underlying t = some (.struct fs)) (hd : Dec P n t enc R) (h : ArgS P n t x) : ∃ s, R s ∧ normV x = .agg (enc s) := by
 obtain ⟨ys, h1, h2⟩ := h
 rw [hu] at h2
 obtain rfl : x = .agg ys := h2
 obtain ⟨s, hs, e⟩ := hd ys h1
 exact ⟨s, hs, by rw [I0, e]⟩
theorem HV {P : Program} {n : Nat} {t : TypeId} {d : TypeDesc} {x : VV} {α : Type} {enc : α → List VV} {R : α → Prop} (hu : P.underlying t = some d) (hn : (∀ fs, d ≠ .struct fs) ∧ ∀ m e, d ≠ .array m e) (hd : Dec P n t enc R) (h : ArgS P n t x) : ∃ s, R s ∧ [normV x] = enc s := by
 obtain ⟨ys, h1, h2⟩ := h
 rw [hu] at h2
 have h3 : ys = [x] := by
  cases d <;> first | exact h2 | exact absurd rfl (hn.1 _) | exact absurd rfl (hn.2 _ _)
 subst h3
 obtain ⟨s, hs, e⟩ := hd _ h1
 exact ⟨s, hs, by rw [← e, n2, n3]⟩
end Go.V
end
section
set_option maxRecDepth 100000
namespace Go.V
open Go Go.Proofs IntKind
def B8 (x : GBs) : Prop := aC x.Needs = true
def I1 (x : GBk) : Prop := aC x.Boards = true ∧ aC x.Strokes = true ∧ ∀ y ∈ x.Strokes, B8 y
section
variable {P : Program} (gM : P.underlying 3 = some (.int .i64)) (dQ : P.underlying 22 = some (.slice 3)) (iZ : P.underlying 4 = some (.bool)) {I2 : Array Field} (dR : P.underlying 35 = some (.struct I2)) (dS : I2.toList.map Field.type = [3, 3]) {I7 : Array Field} (dT : P.underlying 49 = some (.struct I7)) (dU : I7.toList.map Field.type = [3, 4, 35, 22]) (dV : P.underlying 23 = some (.slice 49)) {I8 : Array Field} (dW : P.underlying 25 = some (.struct I8)) (dX : I8.toList.map Field.type = [3, 22, 23])
include gM dQ iZ dR dS dT dU dV dW dX
theorem gd_3 {n : Nat} : Dec P (n + 1) 3 eI (fun _ => True) := B2 gM
theorem gd_22 {n : Nat} : Dec P (n + 2) 22 (eSl eI) (fun l => aC l = true ∧ ∀ x ∈ l, True) := Ix dQ (gd_3 gM dQ iZ dR dS dT dU dV dW dX (n := n))
theorem gd_4 {n : Nat} : Dec P (n + 1) 4 eB (fun _ => True) := B3 iZ
theorem gd_35 {n : Nat} : Dec P (n + 2) 35 au (fun _ => True) := by
 intro xs h
 obtain ⟨yss, hf, rfl⟩ := B7 (n := n + 1) (ts := [3, 3]) dR dS h
 match yss, hf with
 | [y0, y1], ⟨h0, h1, _⟩ =>
  obtain ⟨x0, r0, e0⟩ := gd_3 gM dQ iZ dR dS dT dU dV dW dX (n := n + 0) _ h0
  obtain ⟨x1, r1, e1⟩ := gd_3 gM dQ iZ dR dS dT dU dV dW dX (n := n + 0) _ h1
  exact ⟨⟨x0, x1⟩, trivial, by simp only [List.flatten_cons, List.flatten_nil, List.append_nil, qg, e0, e1, eI, n0, eB, eS, eSl, nQ, List.cons_append, List.nil_append]⟩
theorem gd_49 {n : Nat} : Dec P (n + 3) 49 cGBs (B8) := by
 intro xs h
 obtain ⟨yss, hf, rfl⟩ := B7 (n := n + 2) (ts := [3, 4, 35, 22]) dT dU h
 match yss, hf with
 | [y0, y1, y2, y3], ⟨h0, h1, h2, h3, _⟩ =>
  obtain ⟨x0, r0, e0⟩ := gd_3 gM dQ iZ dR dS dT dU dV dW dX (n := n + 1) _ h0
  obtain ⟨x1, r1, e1⟩ := gd_4 gM dQ iZ dR dS dT dU dV dW dX (n := n + 1) _ h1
  obtain ⟨x2, r2, e2⟩ := gd_35 gM dQ iZ dR dS dT dU dV dW dX (n := n + 0) _ h2
  obtain ⟨x3, r3, e3⟩ := gd_22 gM dQ iZ dR dS dT dU dV dW dX (n := n + 0) _ h3
  exact ⟨⟨x0, x1, x2, x3⟩, r3.1, by simp only [List.flatten_cons, List.flatten_nil, List.append_nil, qg, e0, e1, e2, e3, eI, n0, eB, eS, eSl, se, nQ, List.cons_append, List.nil_append]⟩
theorem gd_23 {n : Nat} : Dec P (n + 4) 23 (eSl cGBs) (fun l => aC l = true ∧ ∀ x ∈ l, B8 x) := Ix dV (gd_49 gM dQ iZ dR dS dT dU dV dW dX (n := n))
theorem gd_25 {n : Nat} : Dec P (n + 5) 25 cGBk (I1) := by
 intro xs h
 obtain ⟨yss, hf, rfl⟩ := B7 (n := n + 4) (ts := [3, 22, 23]) dW dX h
 match yss, hf with
 | [y0, y1, y2], ⟨h0, h1, h2, _⟩ =>
  obtain ⟨x0, r0, e0⟩ := gd_3 gM dQ iZ dR dS dT dU dV dW dX (n := n + 3) _ h0
  obtain ⟨x1, r1, e1⟩ := gd_22 gM dQ iZ dR dS dT dU dV dW dX (n := n + 2) _ h1
  obtain ⟨x2, r2, e2⟩ := gd_23 gM dQ iZ dR dS dT dU dV dW dX (n := n + 0) _ h2
  exact ⟨⟨x0, x1, x2⟩, ⟨r1.1, r2.1, r2.2⟩, by simp only [List.flatten_cons, List.flatten_nil, List.append_nil, qg, e0, e1, e2, eI, n0, eB, eS, eSl, sf, List.cons_append, List.nil_append]⟩
end
theorem dec_3 {n : Nat} : Dec Tryz.prog (n + 1) 3 eI (fun _ => True) := gd_3 Tryz.underlying3 Tryz.underlying22 Tryz.underlying4 Tryz.underlying35 (by kernel_rfl) Tryz.underlying49 (by kernel_rfl) Tryz.underlying23 Tryz.underlying25 (by kernel_rfl)
theorem ze {n : Nat} : Dec Tryz.prog (n + 2) 22 (eSl eI) (fun l => aC l = true ∧ ∀ x ∈ l, True) := gd_22 Tryz.underlying3 Tryz.underlying22 Tryz.underlying4 Tryz.underlying35 (by kernel_rfl) Tryz.underlying49 (by kernel_rfl) Tryz.underlying23 Tryz.underlying25 (by kernel_rfl)
theorem zd {n : Nat} : Dec Tryz.prog (n + 5) 25 cGBk (I1) := gd_25 Tryz.underlying3 Tryz.underlying22 Tryz.underlying4 Tryz.underlying35 (by kernel_rfl) Tryz.underlying49 (by kernel_rfl) Tryz.underlying23 Tryz.underlying25 (by kernel_rfl)
end Go.V
end
section
namespace Go.V
open Go Go.Proofs IntKind
def goB (b : Bool) : Option (LOut Bool Unit) := cond b (some (.go ())) (some (.ret false))
theorem nW (a b : Bool) : goB (a && b) = cond a (goB b) (some (.ret false)) := by cases a <;> rfl
theorem csome (a b : Bool) : cond a (some b) (some false) = some (a && b) := by cases a <;> rfl
theorem mu {X : Type} (b : Bool) (kr : Bool → Option X) (kg : Unit → Option X) (kb : Nat → Unit → Option X) : lbind (goB b) kr kg kb = cond b (kg ()) (kr false) := by cases b <;> rfl
def inB (a b n : Int) : Bool := decide (a ≤ n) && decide (n ≤ b)
theorem nX {a b n : Int} : inB a b n = true ↔ a ≤ n ∧ n ≤ b := by simp [inB]
theorem gL {n : Int} (h1 : -9223372036854775808 ≤ n) (h2 : n < 9223372036854775808) : i64.wrap n = n := IntWalk.i64_in _ (by omega)
theorem zg {α : Type} {xs : List α} (h : aC xs = true) : xs.length < 9223372036854775808 := by simpa [aC] using h
theorem fg {α : Type} {xs : List α} (h : xs.length < 9223372036854775808) : aC xs = true := by simpa [aC] using h
theorem BA {α : Type} {xs : List α} {i : Int} {x : α} (h : getI xs i = some x) : x ∈ xs := by
 unfold getI at h
 split at h
 ·exact List.mem_of_getElem? h
 ·cases h
theorem nY {α : Type} {xs : List α} {i : Int} {x : α} (h : getI xs i = some x) : 0 ≤ i ∧ i < xs.length := ⟨(mh h).1, (mh h).2.1⟩
end Go.V
end
section
namespace Go.V
def mxL (l : List Int) : Int := l.foldl max 0
theorem IC : ∀ (l : List Int) (a b : Int), l.foldl max a ≤ b ↔ a ≤ b ∧ ∀ x ∈ l, x ≤ b
 | [], a, b => by simp
 | x :: l, a, b => by
  simp only [List.foldl_cons, IC l, List.mem_cons, forall_eq_or_imp]
  constructor
  ·rintro ⟨h1, h2⟩; exact ⟨by omega, by omega, h2⟩
  ·rintro ⟨h1, h2, h3⟩; exact ⟨by omega, h3⟩
theorem nZ {l : List Int} {b : Int} : mxL l ≤ b ↔ 0 ≤ b ∧ ∀ x ∈ l, x ≤ b := IC l 0 b
theorem BC (l : List Int) : 0 ≤ mxL l := (nZ.1 (Int.le_refl _)).1
theorem BD {l : List Int} {x : Int} (h : x ∈ l) : x ≤ mxL l := (nZ.1 (Int.le_refl _)).2 x h
def frF (hd : Nat → Int) (e : Nat → Int) (h : Int) : Nat → Int
 | 0 => 0
 | k + 1 => if hd k = h then e k else frF hd e h k
theorem ID {hd : Nat → Int} {e e' : Nat → Int} {h : Int} : ∀ {n : Nat}, (∀ k, k < n → e k = e' k) → frF hd e h n = frF hd e' h n
 | 0, _ => rfl
 | n + 1, hk => by
  unfold frF
  rw [hk n (Nat.lt_succ_self _), ID (fun k h => hk k (Nat.lt_succ_of_lt h))]
theorem sF {hd : Nat → Int} {e : Nat → Int} {h b : Int} (hb : 0 ≤ b) : ∀ {n : Nat}, (∀ k, k < n → hd k = h → e k ≤ b) → frF hd e h n ≤ b
 | 0, _ => hb
 | n + 1, hk => by
  unfold frF
  split
  ·rename_i hh; exact hk n (Nat.lt_succ_self _) hh
  ·exact sF hb (fun k h1 h2 => hk k (Nat.lt_succ_of_lt h1) h2)
def bgF (hd : Nat → Int) (nd : Nat → List Int) (e : Nat → Int) (s : Nat) : Int := max (max 0 (frF hd e (hd s) s)) (mxL ((nd s).map fun k => e k.toNat))
def En (hd : Nat → Int) (nd : Nat → List Int) (d : Nat → Int) : Nat → Nat → Int
 | 0, _ => 0
 | f + 1, s => bgF hd nd (En hd nd d f) s + d s
def NdOk (nd : Nat → List Int) : Prop := ∀ s, ∀ k ∈ nd s, 0 ≤ k ∧ k.toNat < s
theorem IE {hd : Nat → Int} {nd : Nat → List Int} {e e' : Nat → Int} {s : Nat} (hn : NdOk nd) (h : ∀ k, k < s → e k = e' k) : bgF hd nd e s = bgF hd nd e' s := by
 unfold bgF
 rw [ID h]
 congr 2
 exact List.map_congr_left fun k hk => h _ (hn s k hk).2
theorem sG {hd : Nat → Int} {nd : Nat → List Int} {d : Nat → Int} (hn : NdOk nd) : ∀ (f g s : Nat), s < f → s < g → En hd nd d f s = En hd nd d g s
 | 0, _, _, h, _ => absurd h (Nat.not_lt_zero _)
 | _ + 1, 0, _, _, h => absurd h (Nat.not_lt_zero _)
 | f + 1, g + 1, s, h1, h2 => by
  unfold En
  rw [IE hn (e' := En hd nd d g) (fun k hk => sG hn f g k (by omega) (by omega))]
def Ed (hd : Nat → Int) (nd : Nat → List Int) (d : Nat → Int) (s : Nat) : Int := En hd nd d (s + 1) s
def Bg (hd : Nat → Int) (nd : Nat → List Int) (d : Nat → Int) (s : Nat) : Int := bgF hd nd (Ed hd nd d) s
theorem Ed_eq {hd : Nat → Int} {nd : Nat → List Int} {d : Nat → Int} (hn : NdOk nd) (s : Nat) : Ed hd nd d s = Bg hd nd d s + d s := by
 show bgF hd nd (En hd nd d s) s + d s = _
 rw [IE hn (e' := Ed hd nd d) (fun k hk => sG hn s (k + 1) k hk (Nat.lt_succ_self _))]
 rfl
theorem BE (hd : Nat → Int) (nd : Nat → List Int) (e : Nat → Int) (s : Nat) : 0 ≤ bgF hd nd e s := by
 have := BC ((nd s).map fun k => e k.toNat)
 unfold bgF
 omega
section
variable {hd : Nat → Int} {nd : Nat → List Int} {d d' : Nat → Int}
theorem Bg_nn (s : Nat) : 0 ≤ Bg hd nd d s := BE _ _ _ _
theorem Ed_nn (hn : NdOk nd) (h : ∀ k, 0 ≤ d k) (s : Nat) : 0 ≤ Ed hd nd d s := by
 rw [Ed_eq hn]
 have := Bg_nn (hd := hd) (nd := nd) (d := d) s
 have := h s
 omega
theorem BF (hn : NdOk nd) {s : Nat} {k : Int} (hk : k ∈ nd s) : Ed hd nd d k.toNat ≤ Bg hd nd d s := by
 have := BD (List.mem_map_of_mem (f := fun k : Int => Ed hd nd d k.toNat) hk)
 unfold Bg bgF
 omega
theorem sH (s : Nat) : frF hd (Ed hd nd d) (hd s) s ≤ Bg hd nd d s := by
 unfold Bg bgF
 omega
theorem BG (hn : NdOk nd) (h0 : ∀ k, 0 ≤ d k) {h : Int} : ∀ {n k : Nat}, k < n → hd k = h → Ed hd nd d k ≤ frF hd (Ed hd nd d) h n
 | 0, _, hk, _ => absurd hk (Nat.not_lt_zero _)
 | n + 1, k, hk, hh => by
  unfold frF
  split
  ·rename_i hn'
   rcases Nat.lt_or_ge k n with h1 | h1
   ·have h2 := BG hn h0 h1 hh
    have h3 := sH (hd := hd) (nd := nd) (d := d) n
    rw [hn'] at h3
    rw [Ed_eq hn n]
    have := h0 n
    omega
   ·have : k = n := by omega
    subst this
    exact Int.le_refl _
  ·rename_i hn'
   have : k ≠ n := by rintro rfl; exact hn' hh
   exact BG hn h0 (by omega) hh
theorem BI (hn : NdOk nd) (h0 : ∀ k, 0 ≤ d k) {k s : Nat} (hk : k < s) (hh : hd k = hd s) : Ed hd nd d k ≤ Bg hd nd d s := Int.le_trans (BG hn h0 hk hh) (sH s)
theorem sI (hn : NdOk nd) {s : Nat} {b : Int} (hb : 0 ≤ b) (h1 : ∀ k, k < s → hd k = hd s → Ed hd nd d k ≤ b) (h2 : ∀ k ∈ nd s, Ed hd nd d k.toNat ≤ b) : Bg hd nd d s ≤ b := by
 have h3 := sF (hd := hd) (e := Ed hd nd d) (h := hd s) (n := s) hb h1
 have h4 : mxL ((nd s).map fun k => Ed hd nd d k.toNat) ≤ b := by
  refine nZ.2 ⟨hb, ?_⟩
  intro x hx
  obtain ⟨k, hk, rfl⟩ := List.mem_map.1 hx
  exact h2 k hk
 unfold Bg bgF
 omega
theorem Ed_bd (hn : NdOk nd) {m : Int} (h0 : ∀ k, 0 ≤ d k ∧ d k ≤ m) : ∀ (f s : Nat), s < f → Ed hd nd d s ≤ m * (s + 1)
 | 0, _, h => absurd h (Nat.not_lt_zero _)
 | f + 1, s, h => by
  have hm : 0 ≤ m := Int.le_trans (h0 0).1 (h0 0).2
  have key : ∀ k, k < s → Ed hd nd d k ≤ m * s := fun k hk => by
   refine Int.le_trans (Ed_bd hn h0 f k (by omega)) ?_
   exact Int.mul_le_mul_of_nonneg_left (by omega) hm
  have h1 : Bg hd nd d s ≤ m * s := sI hn (Int.mul_nonneg hm (by omega)) (fun k hk _ => key k hk) (fun k hk => key _ (hn s k hk).2)
  rw [Ed_eq hn, Int.mul_add]
  have := h0 s
  omega
theorem HX (hn : NdOk nd) {m : Int} (h0 : ∀ k, 0 ≤ d k ∧ d k ≤ m) (s : Nat) : Ed hd nd d s ≤ m * (s + 1) := Ed_bd hn h0 (s + 1) s (Nat.lt_succ_self _)
end
end Go.V
end
section
namespace Go.V
open Go Go.Proofs IntKind
def mw (aI : Int) (bm : Int) (aO : Int) : Option (Bool) := cond (decide (aI ≤ bm)) (some (decide (bm ≤ aO))) (some false)
theorem sJ (aI : Int) (bm : Int) (aO : Int) (R : Bool) (h : mw aI bm aO = some R) : ah Tryz.prog G0 95 [.lit (.int .i64 aI), .lit (.int .i64 bm), .lit (.int .i64 aO)] (.tree (.lit (.bool R))) := by
 refine ah.runR mixed Tryz.call95 Tryz.func95 rfl (by simp [Tryz.ntmps95]; kernel_rfl) ?_
 obtain ⟨KF, h, kF, kN⟩ := cA h
 simp only [mw] at h
 cases d1 : (decide (aI ≤ bm))
 ·simp only [d1, hs] at h
  try simp only [vz, tyf, d1, nm, seval]
  obtain rfl := kF _ h
  exact bc Tryz.results95 rfl
 simp only [d1, hs] at h
 try simp only [vz, tyf, d1, nm, seval]
 obtain rfl := kF _ h
 exact bc Tryz.results95 rfl
def qh (aI : Int) (aO : Int) : List Int → Int → Option (LOut (Bool) (Unit))
 | [], my => some (.go ())
 | e0 :: p0, my => Option.bind (mw aI e0 aO) (fun r1 => cond (r1) (qh aI aO p0 (my + 1)) (some (.ret false)))
def oa (aI : Int) (aj : List Int) (aO : Int) : Option (Bool) := cond (aC aj) (lbind (qh aI aO aj 0) (fun r3 => some r3) (fun c2 => some true) (fun _ _ => none)) none
theorem BJ (aI : Int) (aj : List Int) (aO : Int) (R : Bool) (h : oa aI aj aO = some R) : ah Tryz.prog G0 103 [.lit (.int .i64 aI), .sl (aa eI aj) (List.length aj) false, .lit (.int .i64 aO)] (.tree (.lit (.bool R))) := by
 refine ah.runR mixed Tryz.call103 Tryz.func103 rfl (by simp [Tryz.ntmps103]; kernel_rfl) ?_
 obtain ⟨KF, h, kF, kN⟩ := cA h
 simp only [oa] at h
 cases g5 : (aC aj)
 ·simp only [g5, hs] at h
  exact absurd h kN
 simp only [g5, hs] at h
 simp only [vz, tyf, g5, nm, seval]
 obtain ⟨K4, h, Hv, uS, KR, uT⟩ := eN h kN
 obtain ⟨f4, wJ, h⟩ := call2 h
 obtain ⟨I4, kq⟩ : ∃ I : Nat → St → Prop, I = (fun m st => ∃ (p4 : List Int) (dz : Int), m = List.length p4 ∧ 0 ≤ dz ∧ List.drop (Int.toNat dz) aj = p4 ∧ st.df = [] ∧ 4 ≤ st.nx ∧ st.tm 0 = .lit (.int .i64 aI) ∧ st.tm 2 = .lit (.int .i64 aO) ∧ st.tm 9 = .sl (aa eI aj) (List.length aj) false ∧ st.tm 10 = .lit (.int .i64 (List.length aj : Int)) ∧ st.tm 11 = .lit (.int .i64 dz) ∧ K4 (f4 p4 dz)) := ⟨_, rfl⟩
 refine loopK mixed (by kernel_rfl) I4 (List.length aj) (by rw [kq]; refine ⟨aj, 0, rfl, Int.le_refl _, rfl, rfl, (show 4 ≤ 4 by omega), ?_, ?_, ?_, ?_, ?_, h⟩ <;> first | (simp only [ua, nm, seval] <;> rfl) | rfl) ?_
 rintro m ⟨tm, H, iQ, df⟩ hinv
 rw [kq] at hinv
 obtain ⟨p4, dz, rfl, eQ, gv, hdf, wK, e6, e7, e8, e9, aQ, h⟩ := hinv
 simp only at hdf wK e6 e7 e8 e9 aQ
 have qi := fj (m := 4) (b := iQ) (by omega)
 subst hdf wJ
 cases p4 with
 | nil =>
  have bn : (decide (dz < (List.length aj : Int))) = false := eg eQ gv
  simp only [qh, hs, reduceCtorEq] at h
  replace h := uS _ h
  try dsimp only at h
  try simp only [hs] at h
  try simp only [vz, tyf, g5, qi, e6, e7, e8, e9, aQ, bn, nm, seval]
  obtain rfl := kF _ h
  exact bc Tryz.results103 rfl
 | cons e4 p4 =>
  have gg : (decide (dz < (List.length aj : Int))) = true := eh eQ gv
  have nt := cX eQ gv
  have sK := dO eQ gv g5
  simp only [qh, hs, reduceCtorEq] at h
  obtain ⟨IF, kC, h⟩ := optI h uT
  try simp only [hs] at h
  simp only [vz, tyf, g5, qi, e6, e7, e8, e9, aQ, gg, (aB nt), sK, nm, seval]
  refine ktA (sJ _ _ _ _ kC) ?_
  refine bJ (fun tm => tm 0 = .lit (.int .i64 aI) ∧ tm 2 = .lit (.int .i64 aO) ∧ tm 9 = .sl (aa eI aj) (List.length aj) false ∧ tm 10 = .lit (.int .i64 (List.length aj : Int)) ∧ tm 11 = .lit (.int .i64 dz) ∧ tm 18 = .lit (.bool IF) ∧ True) (by refine ⟨e6, e7, e8, e9, aQ, ?_, trivial⟩ <;> first | (simp only [ua, qi, e6, e7, e8, e9, aQ, gg, sK, nm, seval] <;> rfl) | rfl) ?_
  rintro tm ⟨bF, bQ, dr, eA, da, cN, _⟩
  cases fp : (IF)
  ·simp only [fp, hs] at h
   try simp only [vz, tyf, g5, qi, gg, (aB nt), sK, bF, bQ, dr, eA, da, cN, fp, nm, seval]
   replace h := Hv _ h
   try dsimp only at h
   obtain rfl := kF _ h
   exact bc Tryz.results103 rfl
  simp only [fp, hs] at h
  simp only [vz, tyf, g5, qi, gg, (aB nt), sK, bF, bQ, dr, eA, da, cN, fp, nm, seval]
  exact ⟨List.length p4, Nat.lt_succ_self _, by rw [kq]; refine ⟨p4, dz + 1, rfl, Int.le_trans eQ (Int.le_add_one (Int.le_refl _)), bV eQ gv, rfl, (show 4 ≤ iQ + 11 by omega), bF, bQ, dr, eA, ?_, (by first | exact h | (simp only [gg, fp]; exact h))⟩ <;> first | (simp only [ua, qi, gg, sK, bF, bQ, dr, eA, da, cN, fp, nm, seval] <;> rfl) | rfl⟩
def vm (bz : List Int) : Option (Bool) := Option.bind (mw 1 (List.length bz : Int) 3) (fun r1 => cond (r1) (Option.bind (oa 0 bz 60) (fun r2 => some r2)) (some false))
theorem Mw (bz : List Int) (R : Bool) (h : vm bz = some R) : ah Tryz.prog G0 101 [.sl (aa eI bz) (List.length bz) false] (.tree (.lit (.bool R))) := by
 refine ah.runR mixed Tryz.call101 Tryz.func101 rfl (by simp [Tryz.ntmps101]; kernel_rfl) ?_
 obtain ⟨KF, h, kF, kN⟩ := cA h
 simp only [vm] at h
 obtain ⟨r3, o4, h⟩ := optI h kN
 try simp only [hs] at h
 simp only [vz, tyf, nm, seval]
 refine ktA (sJ _ _ _ _ o4) ?_
 refine bJ (fun tm => tm 0 = .sl (aa eI bz) (List.length bz) false ∧ tm 5 = .lit (.bool r3) ∧ True) (by refine ⟨?_, ?_, trivial⟩ <;> first | (simp only [ua, nm, seval] <;> rfl) | rfl) ?_
 rintro tm ⟨e5, e6, _⟩
 cases d7 : (r3)
 ·simp only [d7, hs] at h
  try simp only [vz, tyf, e5, e6, d7, nm, seval]
  obtain rfl := kF _ h
  exact bc Tryz.results101 rfl
 simp only [d7, hs] at h
 obtain ⟨r8, o9, h⟩ := optI h kN
 try simp only [hs] at h
 simp only [vz, tyf, e5, e6, d7, nm, seval]
 refine ktA (BJ _ _ _ _ o9) ?_
 refine bJ (fun tm => tm 6 = .lit (.bool true) ∧ tm 8 = .lit (.bool r8) ∧ True) (by refine ⟨?_, ?_, trivial⟩ <;> first | (simp only [ua, e5, e6, d7, nm, seval] <;> rfl) | rfl) ?_
 rintro tm ⟨aQ, aT, _⟩
 try simp only [vz, tyf, d7, aQ, aT, nm, seval]
 obtain rfl := kF _ h
 exact bc Tryz.results101 rfl
def nH (ai : GBk) (aU : Int) : Option (Bool) := Option.bind (mw 0 aU (i64.wrap ((List.length ai.Boards : Int) - 1))) (fun r1 => some r1)
theorem Ig (ai : GBk) (aU : Int) (R : Bool) (h : nH ai aU = some R) : ah Tryz.prog G0 71 [.agg (cGBk ai), .lit (.int .i64 aU)] (.tree (.lit (.bool R))) := by
 refine ah.runR mixed Tryz.call71 Tryz.func71 rfl (by simp [Tryz.ntmps71]; kernel_rfl) ?_
 obtain ⟨KF, h, kF, kN⟩ := cA h
 simp only [nH] at h
 obtain ⟨r2, o3, h⟩ := optI h kN
 try simp only [hs] at h
 simp only [vz, tyf, nm, seval]
 refine ktA (sJ _ _ _ _ o3) ?_
 refine bJ (fun tm => tm 10 = .lit (.bool r2) ∧ True) (by refine ⟨?_, trivial⟩ <;> first | (simp only [ua, nm, seval] <;> rfl) | rfl) ?_
 rintro tm ⟨e4, _⟩
 try simp only [vz, tyf, e4, nm, seval]
 obtain rfl := kF _ h
 exact bc Tryz.results71 rfl
def sL (aI : Int) (fz : GSpan) (aO : Int) : Option (Bool) := cond (decide (aI ≤ fz.Low)) (cond (decide (fz.Low ≤ fz.High)) (some (decide (fz.High ≤ aO))) (some false)) (some false)
theorem Mx (aI : Int) (fz : GSpan) (aO : Int) (R : Bool) (h : sL aI fz aO = some R) : ah Tryz.prog G0 133 [.lit (.int .i64 aI), .agg (au fz), .lit (.int .i64 aO)] (.tree (.lit (.bool R))) := by
 refine ah.runR mixed Tryz.call133 Tryz.func133 rfl (by simp [Tryz.ntmps133]; kernel_rfl) ?_
 obtain ⟨KF, h, kF, kN⟩ := cA h
 simp only [sL] at h
 cases d1 : (decide (aI ≤ fz.Low))
 ·simp only [d1, hs] at h
  try simp only [vz, tyf, d1, nm, seval]
  obtain rfl := kF _ h
  exact bc Tryz.results133 rfl
 simp only [d1, hs] at h
 cases d2 : (decide (fz.Low ≤ fz.High))
 ·simp only [d2, hs] at h
  try simp only [vz, tyf, d1, d2, nm, seval]
  obtain rfl := kF _ h
  exact bc Tryz.results133 rfl
 simp only [d2, hs] at h
 try simp only [vz, tyf, d1, d2, nm, seval]
 obtain rfl := kF _ h
 exact bc Tryz.results133 rfl
def qj (aj : List Int) : List Int → Int → Option (LOut (Bool) (Unit))
 | [], bL => some (.go ())
 | e0 :: p0, bL => Option.bind (getI aj (i64.wrap (bL - 1))) (fun x1 => cond (decide (e0 ≤ x1)) (some (.ret false)) (qj aj p0 (bL + 1)))
def sM (aI : Int) (aj : List Int) (aO : Int) : Option (Bool) := cond (aC aj) (cond (leB 0 1) (lbind (qj aj (List.drop (Int.toNat 1) aj) 1) (fun r4 => some r4) (fun c2 => Option.bind (oa aI aj aO) (fun r3 => some r3)) (fun _ _ => none)) none) none
theorem My (aI : Int) (aj : List Int) (aO : Int) (R : Bool) (h : sM aI aj aO = some R) : ah Tryz.prog G0 134 [.lit (.int .i64 aI), .sl (aa eI aj) (List.length aj) false, .lit (.int .i64 aO)] (.tree (.lit (.bool R))) := by
 refine ah.runR mixed Tryz.call134 Tryz.func134 rfl (by simp [Tryz.ntmps134]; kernel_rfl) ?_
 obtain ⟨KF, h, kF, kN⟩ := cA h
 simp only [sM] at h
 cases g6 : (aC aj)
 ·simp only [g6, hs] at h
  exact absurd h kN
 simp only [g6, hs] at h
 cases g7 : (leB 0 1)
 ·simp only [g7, hs] at h
  exact absurd h kN
 simp only [g7, hs] at h
 simp only [vz, tyf, g6, g7, nm, seval]
 obtain ⟨K5, h, qP, lS, wD, km⟩ := eN h kN
 obtain ⟨f5, nc, h⟩ := call2 h
 obtain ⟨I5, gC⟩ : ∃ I : Nat → St → Prop, I = (fun m st => ∃ (p5 : List Int) (bI : Int), m = List.length p5 ∧ 0 ≤ bI ∧ List.drop (Int.toNat bI) aj = p5 ∧ st.df = [] ∧ 2 ≤ st.nx ∧ st.tm 0 = .lit (.int .i64 aI) ∧ st.tm 1 = .sl (aa eI aj) (List.length aj) false ∧ st.tm 2 = .lit (.int .i64 aO) ∧ st.tm 7 = .lit (.int .i64 bI) ∧ K5 (f5 p5 bI)) := ⟨_, rfl⟩
 refine loopK mixed (by kernel_rfl) I5 (List.length (List.drop (Int.toNat 1) aj)) (by rw [gC]; refine ⟨List.drop (Int.toNat 1) aj, 1, rfl, of_decide_eq_true g7, rfl, rfl, (show 2 ≤ 2 by omega), ?_, ?_, ?_, ?_, h⟩ <;> first | (simp only [ua, nm, seval] <;> rfl) | rfl) ?_
 rintro m ⟨tm, H, gp, df⟩ hinv
 rw [gC] at hinv
 obtain ⟨p5, bI, rfl, cQ, du, hdf, nf, e8, e9, aQ, aT, h⟩ := hinv
 simp only at hdf nf e8 e9 aQ aT
 have hS := fj (m := 2) (b := gp) (by omega)
 subst hdf nc
 cases p5 with
 | nil =>
  have gg : (decide (bI < (List.length aj : Int))) = false := eg cQ du
  simp only [qj, hs, reduceCtorEq] at h
  replace h := lS _ h
  try dsimp only at h
  try simp only [hs] at h
  obtain ⟨pM, nt, h⟩ := optI h kN
  try simp only [hs] at h
  simp only [vz, tyf, g6, g7, hS, e8, e9, aQ, aT, gg, nm, seval]
  refine ktA (BJ _ _ _ _ nt) ?_
  refine bJ (fun tm => tm 27 = .lit (.bool pM) ∧ True) (by refine ⟨?_, trivial⟩ <;> first | (simp only [ua, hS, e8, e9, aQ, aT, gg, nm, seval] <;> rfl) | rfl) ?_
  rintro tm ⟨bE, _⟩
  try simp only [vz, tyf, g6, g7, hS, gg, bE, nm, seval]
  obtain rfl := kF _ h
  exact bc Tryz.results134 rfl
 | cons e5 p5 =>
  have kD : (decide (bI < (List.length aj : Int))) = true := eh cQ du
  have qk := cX cQ du
  have sN := dO cQ du g6
  simp only [qj, hs, reduceCtorEq] at h
  simp only [vz, tyf, g6, g7, hS, e8, e9, aQ, aT, kD, (aB qk), sN, nm, seval]
  refine lp (fun tm => tm 0 = .lit (.int .i64 aI) ∧ tm 1 = .sl (aa eI aj) (List.length aj) false ∧ tm 2 = .lit (.int .i64 aO) ∧ tm 7 = .lit (.int .i64 bI) ∧ True) (by refine ⟨e8, e9, aQ, aT, trivial⟩ <;> first | (simp only [ua, hS, e8, e9, aQ, aT, kD, sN, nm, seval] <;> rfl) | rfl) ?_
  rintro tm ⟨dr, eA, da, cN, _⟩
  obtain ⟨Mz, mg, h⟩ := optI h km
  try simp only [hs] at h
  cases b4 : (decide (e5 ≤ Mz))
  ·simp only [b4, hs] at h
   simp only [vz, tyf, g6, g7, hS, kD, (aB qk), sN, dr, eA, da, cN, (aB mg), b4, nm, seval]
   exact ⟨List.length p5, Nat.lt_succ_self _, by rw [gC]; refine ⟨p5, bI + 1, rfl, Int.le_trans cQ (Int.le_add_one (Int.le_refl _)), bV cQ du, rfl, (show 2 ≤ gp + 17 by omega), dr, eA, da, ?_, (by first | exact h | (simp only [kD, b4]; exact h))⟩ <;> first | (simp only [ua, hS, kD, sN, dr, eA, da, cN, b4, nm, seval] <;> rfl) | rfl⟩
  simp only [b4, hs] at h
  try simp only [vz, tyf, g6, g7, hS, kD, (aB qk), sN, dr, eA, da, cN, (aB mg), b4, nm, seval]
  replace h := qP _ h
  try dsimp only at h
  obtain rfl := kF _ h
  exact bc Tryz.results134 rfl
def ql (ai : GBk) : List GBs → Int → Option (LOut (Bool) (Unit))
 | [], b6 => some (.go ())
 | e0 :: p0, b6 => Option.bind (nH ai e0.Board) (fun r2 => cond (r2) (Option.bind (sL 1 e0.Hours 6) (fun r3 => cond (r3) (Option.bind (sM 0 e0.Needs (i64.wrap (b6 - 1))) (fun r4 => cond (r4) (ql ai p0 (b6 + 1)) (some (.ret false)))) (some (.ret false)))) (some (.ret false)))
def vn (ai : GBk) : Option (Bool) := Option.bind (mw 1 (List.length ai.Strokes : Int) 6) (fun r1 => cond (r1) (cond (aC ai.Strokes) (lbind (ql ai ai.Strokes 0) (fun r6 => some r6) (fun c5 => some true) (fun _ _ => none)) none) (some false))
theorem M0 (ai : GBk) (R : Bool) (h : vn ai = some R) : ah Tryz.prog G0 102 [.agg (cGBk ai)] (.tree (.lit (.bool R))) := by
 refine ah.runR mixed Tryz.call102 Tryz.func102 rfl (by simp [Tryz.ntmps102]; kernel_rfl) ?_
 obtain ⟨KF, h, kF, kN⟩ := cA h
 simp only [vn] at h
 obtain ⟨r7, o8, h⟩ := optI h kN
 try simp only [hs] at h
 simp only [vz, tyf, nm, seval]
 refine ktA (sJ _ _ _ _ o8) ?_
 refine bJ (fun tm => tm 1 = .ptr 0 0 ∧ tm 8 = .lit (.bool r7) ∧ True) (by refine ⟨?_, ?_, trivial⟩ <;> first | (simp only [ua, nm, seval] <;> rfl) | rfl) ?_
 rintro tm ⟨e9, aQ, _⟩
 cases f7 : (r7)
 ·simp only [f7, hs] at h
  try simp only [vz, tyf, e9, aQ, f7, nm, seval]
  obtain rfl := kF _ h
  exact bc Tryz.results102 rfl
 simp only [f7, hs] at h
 cases mz : (aC ai.Strokes)
 ·simp only [mz, hs] at h
  exact absurd h kN
 simp only [mz, hs] at h
 simp only [vz, tyf, e9, aQ, f7, mz, nm, seval]
 obtain ⟨M1, h, oc, BK, M3, od⟩ := eN h kN
 obtain ⟨M4, BL, h⟩ := call2 h
 obtain ⟨M5, oe⟩ : ∃ I : Nat → St → Prop, I = (fun m st => ∃ (m0 : List GBs) (bC : Int), m = List.length m0 ∧ 0 ≤ bC ∧ List.drop (Int.toNat bC) ai.Strokes = m0 ∧ st.df = [] ∧ 11 ≤ st.nx ∧ st.H 0 = some (.cells (some 25) (cGBk ai)) ∧ st.tm 1 = .ptr 0 0 ∧ st.tm 11 = .sl (aa cGBs ai.Strokes) (List.length ai.Strokes) false ∧ st.tm 12 = .lit (.int .i64 (List.length ai.Strokes : Int)) ∧ st.tm 13 = .lit (.int .i64 bC) ∧ M1 (M4 m0 bC)) := ⟨_, rfl⟩
 refine loopK mixed (by kernel_rfl) M5 (List.length ai.Strokes) (by rw [oe]; refine ⟨ai.Strokes, 0, rfl, Int.le_refl _, rfl, rfl, (show 11 ≤ 11 by omega), ?_, e9, ?_, ?_, ?_, h⟩ <;> first | (simp only [ua, e9, aQ, f7, nm, seval] <;> rfl) | rfl) ?_
 rintro m ⟨tm, H, ly, df⟩ hinv
 rw [oe] at hinv
 obtain ⟨m0, bC, rfl, ja, jP, hdf, BM, qm, bt, bE, b5, bF, h⟩ := hinv
 simp only at hdf BM qm bt bE b5 bF
 have sO := fj (m := 11) (b := ly) (by omega)
 subst hdf BL
 cases m0 with
 | nil =>
  have ej : (decide (bC < (List.length ai.Strokes : Int))) = false := eg ja jP
  simp only [ql, hs, reduceCtorEq] at h
  replace h := BK _ h
  try dsimp only at h
  try simp only [hs] at h
  try simp only [vz, tyf, f7, mz, sO, bt, bE, b5, bF, qm, ej, nm, seval]
  obtain rfl := kF _ h
  exact bc Tryz.results102 rfl
 | cons bj m0 =>
  have dK : (decide (bC < (List.length ai.Strokes : Int))) = true := eh ja jP
  have hD := cX ja jP
  have vo := dO ja jP mz
  simp only [ql, hs, reduceCtorEq] at h
  obtain ⟨j9, mg, h⟩ := optI h od
  try simp only [hs] at h
  simp only [vz, tyf, f7, mz, sO, bt, bE, b5, bF, qm, dK, (aH hD), vo, nm, seval]
  refine ktA (Ig _ _ _ mg) ?_
  refine bJ (fun tm => tm 1 = .ptr 0 0 ∧ tm 3 = .lit (.int .i64 bC) ∧ tm 4 = .ptr (ly + 4) 0 ∧ tm 11 = .sl (aa cGBs ai.Strokes) (List.length ai.Strokes) false ∧ tm 12 = .lit (.int .i64 (List.length ai.Strokes : Int)) ∧ tm 13 = .lit (.int .i64 bC) ∧ tm 21 = .lit (.bool j9) ∧ True) (by refine ⟨bt, ?_, ?_, bE, b5, bF, ?_, trivial⟩ <;> first | (simp only [ua, f7, sO, bt, bE, b5, bF, qm, dK, vo, nm, seval] <;> rfl) | rfl) ?_
  rintro tm ⟨cl, bk, cM, ca, ck, cu, dm, _⟩
  cases fk : (j9)
  ·simp only [fk, hs] at h
   have eE := And.intro f7 (And.intro mz (And.intro sO (And.intro qm (And.intro dK (And.intro vo fk)))))
   try simp only [vz, tyf, eE, (aH hD), cl, bk, cM, ca, ck, cu, dm, nm, seval]
   replace h := oc _ h
   try dsimp only at h
   obtain rfl := kF _ h
   exact bc Tryz.results102 rfl
  simp only [fk, hs] at h
  have lz := And.intro f7 (And.intro mz (And.intro sO (And.intro qm (And.intro dK (And.intro vo fk)))))
  obtain ⟨IG, M6, h⟩ := optI h od
  try simp only [hs] at h
  simp only [vz, tyf, lz, (aH hD), cl, bk, cM, ca, ck, cu, dm, nm, seval]
  refine ktA (Mx _ _ _ _ M6) ?_
  refine bJ (fun tm => tm 1 = .ptr 0 0 ∧ tm 3 = .lit (.int .i64 bC) ∧ tm 4 = .ptr (ly + 4) 0 ∧ tm 11 = .sl (aa cGBs ai.Strokes) (List.length ai.Strokes) false ∧ tm 12 = .lit (.int .i64 (List.length ai.Strokes : Int)) ∧ tm 13 = .lit (.int .i64 bC) ∧ tm 23 = .lit (.bool false) ∧ tm 26 = .lit (.bool IG) ∧ True) (by refine ⟨cl, bk, cM, ca, ck, cu, ?_, ?_, trivial⟩ <;> first | (simp only [ua, lz, cl, bk, cM, ca, ck, cu, dm, nm, seval] <;> rfl) | rfl) ?_
  rintro tm ⟨im, gZ, iS, k8, cb, cg, cY, cy, _⟩
  cases iV : (IG)
  ·simp only [iV, hs] at h
   try simp only [vz, tyf, lz, (aH hD), im, gZ, iS, k8, cb, cg, cY, cy, iV, nm, seval]
   replace h := oc _ h
   try dsimp only at h
   obtain rfl := kF _ h
   exact bc Tryz.results102 rfl
  simp only [iV, hs] at h
  obtain ⟨IH, M7, h⟩ := optI h od
  try simp only [hs] at h
  simp only [vz, tyf, lz, (aH hD), im, gZ, iS, k8, cb, cg, cY, cy, iV, nm, seval]
  refine ktA (My _ _ _ _ M7) ?_
  refine bJ (fun tm => tm 1 = .ptr 0 0 ∧ tm 11 = .sl (aa cGBs ai.Strokes) (List.length ai.Strokes) false ∧ tm 12 = .lit (.int .i64 (List.length ai.Strokes : Int)) ∧ tm 13 = .lit (.int .i64 bC) ∧ tm 29 = .lit (.bool false) ∧ tm 34 = .lit (.bool IH) ∧ True) (by refine ⟨im, k8, cb, cg, ?_, ?_, trivial⟩ <;> first | (simp only [ua, lz, im, gZ, iS, k8, cb, cg, cY, cy, iV, nm, seval] <;> rfl) | rfl) ?_
  rintro tm ⟨gN, jQ, fq, fO, fP, gf, _⟩
  cases qn : (IH)
  ·simp only [qn, hs] at h
   try simp only [vz, tyf, lz, (aH hD), iV, gN, jQ, fq, fO, fP, gf, qn, nm, seval]
   replace h := oc _ h
   try dsimp only at h
   obtain rfl := kF _ h
   exact bc Tryz.results102 rfl
  simp only [qn, hs] at h
  simp only [vz, tyf, lz, (aH hD), iV, gN, jQ, fq, fO, fP, gf, qn, nm, seval]
  exact ⟨List.length m0, Nat.lt_succ_self _, by rw [oe]; refine ⟨m0, bC + 1, rfl, Int.le_trans ja (Int.le_add_one (Int.le_refl _)), bV ja jP, rfl, (show 11 ≤ ly + 28 by omega), ?_, gN, jQ, fq, ?_, (by first | exact h | (simp only [lz, iV, qn]; exact h))⟩ <;> first | (simp only [ua, lz, iV, gN, jQ, fq, fO, fP, gf, qn, nm, seval] <;> rfl) | rfl⟩
def nC (ai : GBk) : Option (Bool) := Option.bind (mw 0 ai.Apprentices 3) (fun r1 => cond (r1) (Option.bind (vm ai.Boards) (fun r2 => cond (r2) (Option.bind (vn ai) (fun r3 => some r3)) (some false))) (some false))
theorem zn (ai : GBk) (R : Bool) (h : nC ai = some R) : ah Tryz.prog G0 67 [.agg (cGBk ai)] (.tree (.lit (.bool R))) := by
 refine ah.runR mixed Tryz.call67 Tryz.func67 rfl (by simp [Tryz.ntmps67]; kernel_rfl) ?_
 obtain ⟨KF, h, kF, kN⟩ := cA h
 simp only [nC] at h
 obtain ⟨r4, o5, h⟩ := optI h kN
 try simp only [hs] at h
 simp only [vz, tyf, nm, seval]
 refine ktA (sJ _ _ _ _ o5) ?_
 refine bJ (fun tm => tm 1 = .ptr 0 0 ∧ tm 5 = .lit (.bool r4) ∧ True) (by refine ⟨?_, ?_, trivial⟩ <;> first | (simp only [ua, nm, seval] <;> rfl) | rfl) ?_
 rintro tm ⟨e6, e7, _⟩
 cases d8 : (r4)
 ·simp only [d8, hs] at h
  try simp only [vz, tyf, e6, e7, d8, nm, seval]
  obtain rfl := kF _ h
  exact bc Tryz.results67 rfl
 simp only [d8, hs] at h
 obtain ⟨r9, gu, h⟩ := optI h kN
 try simp only [hs] at h
 simp only [vz, tyf, e6, e7, d8, nm, seval]
 refine ktA (Mw _ _ gu) ?_
 refine bJ (fun tm => tm 1 = .ptr 0 0 ∧ tm 6 = .lit (.bool true) ∧ tm 9 = .lit (.bool r9) ∧ True) (by refine ⟨e6, ?_, ?_, trivial⟩ <;> first | (simp only [ua, e6, e7, d8, nm, seval] <;> rfl) | rfl) ?_
 rintro tm ⟨aT, bj, ba, _⟩
 cases bH : (r9)
 ·simp only [bH, hs] at h
  try simp only [vz, tyf, d8, aT, bj, ba, bH, nm, seval]
  obtain rfl := kF _ h
  exact bc Tryz.results67 rfl
 simp only [bH, hs] at h
 obtain ⟨vp, fM, h⟩ := optI h kN
 try simp only [hs] at h
 simp only [vz, tyf, d8, aT, bj, ba, bH, nm, seval]
 refine ktA (M0 _ _ fM) ?_
 refine bJ (fun tm => tm 11 = .lit (.bool true) ∧ tm 13 = .lit (.bool vp) ∧ True) (by refine ⟨?_, ?_, trivial⟩ <;> first | (simp only [ua, d8, aT, bj, ba, bH, nm, seval] <;> rfl) | rfl) ?_
 rintro tm ⟨b5, bF, _⟩
 try simp only [vz, tyf, d8, bH, b5, bF, nm, seval]
 obtain rfl := kF _ h
 exact bc Tryz.results67 rfl
end Go.V
end
