/- Part of a proof. -/
import Derived.Test.YtmhlghgbfmcdaaaGreatDoorG6bh
import Derived.Test.YtmhlghgbfmcdaaaGreatDoorG6az
import Derived.Test.YtmhlghgbfmcdaaaGreatDoorProg
set_option linter.all false
set_option maxRecDepth 4000
set_option maxHeartbeats 40000000
section
namespace Go.V
open Go Go.Proofs IntKind
theorem mixed : Tryz.prog.follows .mixedOrders = true := by kernel_rfl
structure GSpan where
 Low : Int
 High : Int
 deriving Inhabited, DecidableEq
def cGSpan (x : GSpan) : List VV := [.lit (.int .i64 x.Low), .lit (.int .i64 x.High)]
theorem rT {x : GSpan} : cGSpan x = [.lit (.int .i64 x.Low), .lit (.int .i64 x.High)] := rfl
theorem iH : EncOk cGSpan := EncOk.of (fun x => by simp only [rT, tre, Bool.and_self]) (fun x => by simp only [rT, nrm]) (fun x H d => by simp only [rT, nrm, List.map_cons, List.map_nil])
structure GBs where
 Board : Int
 Round : Bool
 Hours : GSpan
 Needs : List Int
 deriving Inhabited, DecidableEq
def cGBs (x : GBs) : List VV := [.lit (.int .i64 x.Board), .lit (.bool x.Round), .lit (.int .i64 x.Hours.Low), .lit (.int .i64 x.Hours.High), .sl (ae eI x.Needs) (List.length x.Needs) false]
theorem rU {x : GBs} : cGBs x = [.lit (.int .i64 x.Board), .lit (.bool x.Round), .lit (.int .i64 x.Hours.Low), .lit (.int .i64 x.Hours.High), .sl (ae eI x.Needs) (List.length x.Needs) false] := rfl
theorem kX : EncOk cGBs := EncOk.of (fun x => by simp only [rU, tre, iH.tree, iH.treeL, Bool.and_self]) (fun x => by simp only [rU, nrm, iH.norm, iH.normL, iH.shown, iH.showL]) (fun x H d => by simp only [rU, nrm, List.map_cons, List.map_nil])
structure GBk where
 Apprentices : Int
 Boards : List Int
 Strokes : List GBs
 deriving Inhabited, DecidableEq
def cGBk (x : GBk) : List VV := [.lit (.int .i64 x.Apprentices), .sl (ae eI x.Boards) (List.length x.Boards) false, .sl (ae cGBs x.Strokes) (List.length x.Strokes) false]
theorem uB {x : GBk} : cGBk x = [.lit (.int .i64 x.Apprentices), .sl (ae eI x.Boards) (List.length x.Boards) false, .sl (ae cGBs x.Strokes) (List.length x.Strokes) false] := rfl
theorem M3 : EncOk cGBk := EncOk.of (fun x => by simp only [uB, tre, iH.tree, iH.treeL, kX.tree, kX.treeL, Bool.and_self]) (fun x => by simp only [uB, nrm, iH.norm, iH.normL, iH.shown, iH.showL, kX.norm, kX.normL, kX.shown, kX.showL]) (fun x H d => by simp only [uB, nrm, List.map_cons, List.map_nil])
structure Gbf where
 chain : List Int
 deriving Inhabited, DecidableEq
def cGbf (x : Gbf) : List VV := [.sl (ae eI x.chain) (List.length x.chain) false]
theorem Rl {x : Gbf} : cGbf x = [.sl (ae eI x.chain) (List.length x.chain) false] := rfl
structure Gbe where
 stroke : Int
 hours : Int
 deriving Inhabited, DecidableEq
def cGbe (x : Gbe) : List VV := [.lit (.int .i64 x.stroke), .lit (.int .i64 x.hours)]
theorem Rm {x : Gbe} : cGbe x = [.lit (.int .i64 x.stroke), .lit (.int .i64 x.hours)] := rfl
theorem pZ : EncOk (eSl eI) := EncOk.sl eI_ok
theorem Rn {c : VV} {cs : List VV} : vload Tryz.prog 3 (c :: cs) = some c := by
 have h1 : aggT Tryz.prog 3 = some false := by kernel_rfl
 simp [vload, vpart, h1]
theorem Ro : szT Tryz.prog 3 = some 1 := by kernel_rfl
theorem Rq {c : VV} {cs : List VV} : vload Tryz.prog 4 (c :: cs) = some c := by
 have h1 : aggT Tryz.prog 4 = some false := by kernel_rfl
 simp [vload, vpart, h1]
theorem Rr : szT Tryz.prog 4 = some 1 := by kernel_rfl
theorem FT : vzl Tryz.prog 4 = some [.lit (.bool false)] := by kernel_rfl
theorem FU {c : VV} {cs : List VV} : vload Tryz.prog 22 (c :: cs) = some c := by
 have h1 : aggT Tryz.prog 22 = some false := by kernel_rfl
 simp [vload, vpart, h1]
theorem FV : szT Tryz.prog 22 = some 1 := by kernel_rfl
theorem uC : vzl Tryz.prog 22 = some [.lit (.slice none 0 0)] := by kernel_rfl
theorem uD {H : Nat → Option VObj} {cs : List VV} {n : Nat} {f : Bool} : vlen Tryz.prog H 22 (.sl cs n f) = some (.lit (.int .i64 n)) := by simp [vlen, Tryz.underlying22, sls]
theorem lenN22 {H : Nat → Option VObj} : vlen Tryz.prog H 22 (.lit (.slice none 0 0)) = some (.lit (.int .i64 0)) := by simp [vlen, Tryz.underlying22, sls]
theorem lenR22 {H : Nat → Option VObj} {β off n w c : Nat} : vlen Tryz.prog H 22 (.ref β off n w c) = (match H β with | some (.cells _ cs) => if off ≤ cs.length then some (.lit (.int .i64 n)) else none | _ => none) := lenR Tryz.underlying22
theorem bC : elemT Tryz.prog 22 = some 3 := by simp [elemT, Tryz.underlying22]
theorem dL : appOk Tryz.prog 22 = some (3, 1, 8) := by kernel_rfl
theorem FW {xs : List Int} : (ae eI xs).take (xs.length * 1) = ae eI xs := zT (fun _ => rfl)
theorem dW : ∀ x : Int, leafL (eI x) = true := fun x => by simp only [eI_eq, qa, eB_eq, eS_eq, qb, j0, j1, FX, FY, FZ, Ga, qc, Bool.and_self]
theorem bm {xs : List Int} {x : Int} {i : Int} (h : getI xs i = some x) : (∀ (H : Nat → Option VObj) (β c : Nat) (k : IntKind), aC Tryz.prog H 22 (.ref β 0 xs.length 1 c) (.lit (.int k i)) = if (H β).isSome = true then some (.ptr β (i.toNat * 1)) else none) ∧ (ae eI xs).drop (i.toNat * 1) = eI x ++ ae eI (xs.drop (i.toNat + 1)) ∧ (i.toNat * 1 ≤ (ae eI xs).length) = True := ixO Tryz.underlying22 (by kernel_rfl : szT Tryz.prog 3 = some 1) (fun _ => rfl) h
theorem Gb {a0 : VV} (h : leafL [a0] = true) : aL Tryz.prog 22 1 [(0, a0)] = some ([a0], 1) := by
 have h2 : szT Tryz.prog 3 = some 1 := by kernel_rfl
 have h3 : vzero Tryz.prog 3 = some #[.int .i64 0] := by kernel_rfl
 simp only [j1, j0, Bool.and_true, Bool.and_eq_true] at h
 simp [aL, Tryz.underlying22, h2, h3, vfill, vcells1, h, overwrite, vzeros, List.range_succ]
theorem Gc {a0 a1 : VV} (h : leafL [a0, a1] = true) : aL Tryz.prog 22 2 [(0, a0), (1, a1)] = some ([a0, a1], 1) := by
 have h2 : szT Tryz.prog 3 = some 1 := by kernel_rfl
 have h3 : vzero Tryz.prog 3 = some #[.int .i64 0] := by kernel_rfl
 simp only [j1, j0, Bool.and_true, Bool.and_eq_true] at h
 simp [aL, Tryz.underlying22, h2, h3, vfill, vcells1, h, overwrite, vzeros, List.range_succ]
theorem aB {H : Nat → Option VObj} {xs : List Int} {x : Int} {f : Bool} {k : IntKind} {i : Int} (h : getI xs i = some x) : aC Tryz.prog H 22 (.sl (ae eI xs) xs.length f) (.lit (.int k i)) = some (.tp (eI x ++ ae eI (xs.drop (i.toNat + 1)))) :=
 ixG Tryz.underlying22 (by kernel_rfl : szT Tryz.prog 3 = some 1) (by decide) (fun _ => rfl) h
theorem Gd {c : VV} {cs : List VV} : vload Tryz.prog 23 (c :: cs) = some c := by
 have h1 : aggT Tryz.prog 23 = some false := by kernel_rfl
 simp [vload, vpart, h1]
theorem Ge : szT Tryz.prog 23 = some 1 := by kernel_rfl
theorem uE {H : Nat → Option VObj} {cs : List VV} {n : Nat} {f : Bool} : vlen Tryz.prog H 23 (.sl cs n f) = some (.lit (.int .i64 n)) := by simp [vlen, Tryz.underlying23, sls]
theorem lenN23 {H : Nat → Option VObj} : vlen Tryz.prog H 23 (.lit (.slice none 0 0)) = some (.lit (.int .i64 0)) := by simp [vlen, Tryz.underlying23, sls]
theorem lenR23 {H : Nat → Option VObj} {β off n w c : Nat} : vlen Tryz.prog H 23 (.ref β off n w c) = (match H β with | some (.cells _ cs) => if off ≤ cs.length then some (.lit (.int .i64 n)) else none | _ => none) := lenR Tryz.underlying23
theorem kW : elemT Tryz.prog 23 = some 49 := by simp [elemT, Tryz.underlying23]
theorem Gf : appOk Tryz.prog 23 = some (49, 5, 56) := by kernel_rfl
theorem Gg : ∀ x : GBs, leafL (cGBs x) = true := fun x => by simp only [eI_eq, qa, eB_eq, eS_eq, qb, rU, j0, j1, FX, FY, FZ, Ga, qc, Bool.and_self]
theorem bn {xs : List GBs} {x : GBs} {i : Int} (h : getI xs i = some x) : (∀ (H : Nat → Option VObj) (β c : Nat) (k : IntKind), aC Tryz.prog H 23 (.ref β 0 xs.length 5 c) (.lit (.int k i)) = if (H β).isSome = true then some (.ptr β (i.toNat * 5)) else none) ∧ (ae cGBs xs).drop (i.toNat * 5) = cGBs x ++ ae cGBs (xs.drop (i.toNat + 1)) ∧ (i.toNat * 5 ≤ (ae cGBs xs).length) = True := ixO Tryz.underlying23 (by kernel_rfl : szT Tryz.prog 49 = some 5) (fun _ => rfl) h
theorem br {xs : List GBs} {x : GBs} {i : Int} (h : getI xs i = some x) : ((i.toNat * 5 + 1 ≤ (ae cGBs xs).length) = True ∧ (ae cGBs xs).drop (i.toNat * 5 + 1) = (.lit (.bool x.Round)) :: (.lit (.int .i64 x.Hours.Low)) :: (.lit (.int .i64 x.Hours.High)) :: (.sl (ae eI x.Needs) (List.length x.Needs) false) :: ae cGBs (xs.drop (i.toNat + 1))) ∧ ((i.toNat * 5 + 2 ≤ (ae cGBs xs).length) = True ∧ (ae cGBs xs).drop (i.toNat * 5 + 2) = (.lit (.int .i64 x.Hours.Low)) :: (.lit (.int .i64 x.Hours.High)) :: (.sl (ae eI x.Needs) (List.length x.Needs) false) :: ae cGBs (xs.drop (i.toNat + 1))) ∧ ((i.toNat * 5 + 3 ≤ (ae cGBs xs).length) = True ∧ (ae cGBs xs).drop (i.toNat * 5 + 3) = (.lit (.int .i64 x.Hours.High)) :: (.sl (ae eI x.Needs) (List.length x.Needs) false) :: ae cGBs (xs.drop (i.toNat + 1))) ∧ ((i.toNat * 5 + 4 ≤ (ae cGBs xs).length) = True ∧ (ae cGBs xs).drop (i.toNat * 5 + 4) = (.sl (ae eI x.Needs) (List.length x.Needs) false) :: ae cGBs (xs.drop (i.toNat + 1))) := ⟨⟨eq_true (by have := of_eq_true (setA (w := 5) (enc := cGBs) (fun _ => rfl) h); omega), by rw [← List.drop_drop, (bn h).2.1]; rfl⟩, ⟨eq_true (by have := of_eq_true (setA (w := 5) (enc := cGBs) (fun _ => rfl) h); omega), by rw [← List.drop_drop, (bn h).2.1]; rfl⟩, ⟨eq_true (by have := of_eq_true (setA (w := 5) (enc := cGBs) (fun _ => rfl) h); omega), by rw [← List.drop_drop, (bn h).2.1]; rfl⟩, ⟨eq_true (by have := of_eq_true (setA (w := 5) (enc := cGBs) (fun _ => rfl) h); omega), by rw [← List.drop_drop, (bn h).2.1]; rfl⟩⟩
theorem aT {H : Nat → Option VObj} {xs : List GBs} {x : GBs} {f : Bool} {k : IntKind} {i : Int} (h : getI xs i = some x) : aC Tryz.prog H 23 (.sl (ae cGBs xs) xs.length f) (.lit (.int k i)) = some (.tp (cGBs x ++ ae cGBs (xs.drop (i.toNat + 1)))) :=
 ixG Tryz.underlying23 (by kernel_rfl : szT Tryz.prog 49 = some 5) (by decide) (fun _ => rfl) h
theorem Gh {c0 c1 c2 : VV} {cs : List VV} : vload Tryz.prog 25 (c0 :: c1 :: c2 :: cs) = some (.agg [c0, c1, c2]) := by
 have h1 : aggT Tryz.prog 25 = some true := by kernel_rfl
 have h2 : szT Tryz.prog 25 = some 3 := by kernel_rfl
 simp [vload, vpart, h1, h2]
theorem Gi : szT Tryz.prog 25 = some 3 := by kernel_rfl
theorem uF : vzl Tryz.prog 25 = some [.lit (.int .i64 0), .lit (.slice none 0 0), .lit (.slice none 0 0)] := by kernel_rfl
theorem Gj {H : Nat → Option VObj} {cs : List VV} : an Tryz.prog H 25 (.tp cs) 0 = some (.tp (cs.drop 0)) := by
 have h2 : szT Tryz.prog 3 = some 1 := by kernel_rfl
 simp [an, Tryz.underlying25, h2]
theorem Gk {H : Nat → Option VObj} {β o : Nat} : an Tryz.prog H 25 (.ptr β o) 0 = if (H β).isSome = true then some (.ptr β (o + 0)) else none := by
 have h2 : szT Tryz.prog 3 = some 1 := by kernel_rfl
 simp [an, Tryz.underlying25, h2]
theorem Gl {H : Nat → Option VObj} {β o : Nat} : an Tryz.prog H 25 (.ptr β o) 1 = if (H β).isSome = true then some (.ptr β (o + 1)) else none := by
 have h2 : szT Tryz.prog 22 = some 1 := by kernel_rfl
 simp [an, Tryz.underlying25, h2]
theorem Gm {H : Nat → Option VObj} {cs : List VV} : an Tryz.prog H 25 (.tp cs) 2 = some (.tp (cs.drop 2)) := by
 have h2 : szT Tryz.prog 23 = some 1 := by kernel_rfl
 simp [an, Tryz.underlying25, h2]
theorem Gn {H : Nat → Option VObj} {β o : Nat} : an Tryz.prog H 25 (.ptr β o) 2 = if (H β).isSome = true then some (.ptr β (o + 2)) else none := by
 have h2 : szT Tryz.prog 23 = some 1 := by kernel_rfl
 simp [an, Tryz.underlying25, h2]
theorem uG {H : Nat → Option VObj} {cs : List VV} {n : Nat} {f : Bool} : vlen Tryz.prog H 31 (.sl cs n f) = some (.lit (.int .i64 n)) := by simp [vlen, Tryz.underlying31, sls]
theorem lenN31 {H : Nat → Option VObj} : vlen Tryz.prog H 31 (.lit (.slice none 0 0)) = some (.lit (.int .i64 0)) := by simp [vlen, Tryz.underlying31, sls]
theorem lenR31 {H : Nat → Option VObj} {β off n w c : Nat} : vlen Tryz.prog H 31 (.ref β off n w c) = (match H β with | some (.cells _ cs) => if off ≤ cs.length then some (.lit (.int .i64 n)) else none | _ => none) := lenR Tryz.underlying31
theorem Gp : elemT Tryz.prog 31 = some 35 := by simp [elemT, Tryz.underlying31]
theorem Gq {xs : List GSpan} : (ae cGSpan xs).take (xs.length * 2) = ae cGSpan xs := zT (fun _ => rfl)
theorem Gr {c0 c1 : VV} (h : leafL [c0, c1] = true) : aL Tryz.prog 31 1 [(0, .agg [c0, c1])] = some ([c0, c1], 2) := by
 have h2 : szT Tryz.prog 35 = some 2 := by kernel_rfl
 have h3 : vzero Tryz.prog 35 = some #[.int .i64 0, .int .i64 0] := by kernel_rfl
 simp only [j1, j0, Bool.and_true, Bool.and_eq_true] at h
 simp [aL, Tryz.underlying31, h2, h3, vfill, aY, h, overwrite, vzeros]
theorem Gs {c0 c1 : VV} {cs : List VV} : vload Tryz.prog 35 (c0 :: c1 :: cs) = some (.agg [c0, c1]) := by
 have h1 : aggT Tryz.prog 35 = some true := by kernel_rfl
 have h2 : szT Tryz.prog 35 = some 2 := by kernel_rfl
 simp [vload, vpart, h1, h2]
theorem Gt : szT Tryz.prog 35 = some 2 := by kernel_rfl
theorem kZ : vzl Tryz.prog 35 = some [.lit (.int .i64 0), .lit (.int .i64 0)] := by kernel_rfl
theorem Gu {H : Nat → Option VObj} {cs : List VV} : an Tryz.prog H 35 (.tp cs) 0 = some (.tp (cs.drop 0)) := by
 have h2 : szT Tryz.prog 3 = some 1 := by kernel_rfl
 simp [an, Tryz.underlying35, h2]
theorem Gv {H : Nat → Option VObj} {β o : Nat} : an Tryz.prog H 35 (.ptr β o) 0 = if (H β).isSome = true then some (.ptr β (o + 0)) else none := by
 have h2 : szT Tryz.prog 3 = some 1 := by kernel_rfl
 simp [an, Tryz.underlying35, h2]
theorem Gw {H : Nat → Option VObj} {cs : List VV} : an Tryz.prog H 35 (.tp cs) 1 = some (.tp (cs.drop 1)) := by
 have h2 : szT Tryz.prog 3 = some 1 := by kernel_rfl
 simp [an, Tryz.underlying35, h2]
theorem Gx {H : Nat → Option VObj} {β o : Nat} : an Tryz.prog H 35 (.ptr β o) 1 = if (H β).isSome = true then some (.ptr β (o + 1)) else none := by
 have h2 : szT Tryz.prog 3 = some 1 := by kernel_rfl
 simp [an, Tryz.underlying35, h2]
theorem Gy {c0 c1 c2 c3 c4 : VV} {cs : List VV} : vload Tryz.prog 49 (c0 :: c1 :: c2 :: c3 :: c4 :: cs) = some (.agg [c0, c1, c2, c3, c4]) := by
 have h1 : aggT Tryz.prog 49 = some true := by kernel_rfl
 have h2 : szT Tryz.prog 49 = some 5 := by kernel_rfl
 simp [vload, vpart, h1, h2]
theorem Gz : szT Tryz.prog 49 = some 5 := by kernel_rfl
theorem uH : vzl Tryz.prog 49 = some [.lit (.int .i64 0), .lit (.bool false), .lit (.int .i64 0), .lit (.int .i64 0), .lit (.slice none 0 0)] := by kernel_rfl
theorem G1 {H : Nat → Option VObj} {cs : List VV} : an Tryz.prog H 49 (.tp cs) 0 = some (.tp (cs.drop 0)) := by
 have h2 : szT Tryz.prog 3 = some 1 := by kernel_rfl
 simp [an, Tryz.underlying49, h2]
theorem G2 {H : Nat → Option VObj} {β o : Nat} : an Tryz.prog H 49 (.ptr β o) 0 = if (H β).isSome = true then some (.ptr β (o + 0)) else none := by
 have h2 : szT Tryz.prog 3 = some 1 := by kernel_rfl
 simp [an, Tryz.underlying49, h2]
theorem G3 {H : Nat → Option VObj} {cs : List VV} : an Tryz.prog H 49 (.tp cs) 1 = some (.tp (cs.drop 1)) := by
 have h2 : szT Tryz.prog 4 = some 1 := by kernel_rfl
 simp [an, Tryz.underlying49, h2]
theorem G4 {H : Nat → Option VObj} {cs : List VV} : an Tryz.prog H 49 (.tp cs) 2 = some (.tp (cs.drop 2)) := by
 have h2 : szT Tryz.prog 35 = some 2 := by kernel_rfl
 simp [an, Tryz.underlying49, h2]
theorem G5 {H : Nat → Option VObj} {β o : Nat} : an Tryz.prog H 49 (.ptr β o) 2 = if (H β).isSome = true then some (.ptr β (o + 2)) else none := by
 have h2 : szT Tryz.prog 35 = some 2 := by kernel_rfl
 simp [an, Tryz.underlying49, h2]
theorem G6 {H : Nat → Option VObj} {cs : List VV} : an Tryz.prog H 49 (.tp cs) 3 = some (.tp (cs.drop 4)) := by
 have h2 : szT Tryz.prog 22 = some 1 := by kernel_rfl
 simp [an, Tryz.underlying49, h2]
theorem G7 {H : Nat → Option VObj} {β o : Nat} : an Tryz.prog H 49 (.ptr β o) 3 = if (H β).isSome = true then some (.ptr β (o + 4)) else none := by
 have h2 : szT Tryz.prog 22 = some 1 := by kernel_rfl
 simp [an, Tryz.underlying49, h2]
theorem uI {H : Nat → Option VObj} {cs : List VV} {n : Nat} {f : Bool} : vlen Tryz.prog H 51 (.sl cs n f) = some (.lit (.int .i64 n)) := by simp [vlen, Tryz.underlying51, sls]
theorem lenN51 {H : Nat → Option VObj} : vlen Tryz.prog H 51 (.lit (.slice none 0 0)) = some (.lit (.int .i64 0)) := by simp [vlen, Tryz.underlying51, sls]
theorem lenR51 {H : Nat → Option VObj} {β off n w c : Nat} : vlen Tryz.prog H 51 (.ref β off n w c) = (match H β with | some (.cells _ cs) => if off ≤ cs.length then some (.lit (.int .i64 n)) else none | _ => none) := lenR Tryz.underlying51
theorem G8 : elemT Tryz.prog 51 = some 60 := by simp [elemT, Tryz.underlying51]
theorem G9 {a0 : VV} (h : leafL [a0] = true) : aL Tryz.prog 51 1 [(0, a0)] = some ([a0], 1) := by
 have h2 : szT Tryz.prog 60 = some 1 := by kernel_rfl
 have h3 : vzero Tryz.prog 60 = some #[.int .i64 0] := by kernel_rfl
 simp only [j1, j0, Bool.and_true, Bool.and_eq_true] at h
 simp [aL, Tryz.underlying51, h2, h3, vfill, vcells1, h, overwrite, vzeros, List.range_succ]
theorem GA {c : VV} {cs : List VV} : vload Tryz.prog 60 (c :: cs) = some c := by
 have h1 : aggT Tryz.prog 60 = some false := by kernel_rfl
 simp [vload, vpart, h1]
theorem uJ {H : Nat → Option VObj} {cs : List VV} {n : Nat} {f : Bool} : vlen Tryz.prog H 71 (.sl cs n f) = some (.lit (.int .i64 n)) := by simp [vlen, Tryz.underlying71, sls]
theorem lenN71 {H : Nat → Option VObj} : vlen Tryz.prog H 71 (.lit (.slice none 0 0)) = some (.lit (.int .i64 0)) := by simp [vlen, Tryz.underlying71, sls]
theorem lenR71 {H : Nat → Option VObj} {β off n w c : Nat} : vlen Tryz.prog H 71 (.ref β off n w c) = (match H β with | some (.cells _ cs) => if off ≤ cs.length then some (.lit (.int .i64 n)) else none | _ => none) := lenR Tryz.underlying71
theorem cR : elemT Tryz.prog 71 = some 22 := by simp [elemT, Tryz.underlying71]
theorem px : appOk Tryz.prog 71 = some (22, 1, 24) := by kernel_rfl
theorem GB {xs : List (List Int)} : (ae (eSl eI) xs).take (xs.length * 1) = ae (eSl eI) xs := zT (fun _ => rfl)
theorem cX {xs : List (List Int)} {x : (List Int)} {i : Int} (h : getI xs i = some x) : (∀ (H : Nat → Option VObj) (β c : Nat) (k : IntKind), aC Tryz.prog H 71 (.ref β 0 xs.length 1 c) (.lit (.int k i)) = if (H β).isSome = true then some (.ptr β (i.toNat * 1)) else none) ∧ (ae (eSl eI) xs).drop (i.toNat * 1) = (eSl eI) x ++ ae (eSl eI) (xs.drop (i.toNat + 1)) ∧ (i.toNat * 1 ≤ (ae (eSl eI) xs).length) = True := ixO Tryz.underlying71 (by kernel_rfl : szT Tryz.prog 22 = some 1) (fun _ => rfl) h
theorem GC {a0 : VV} (h : leafL [a0] = true) : aL Tryz.prog 71 1 [(0, a0)] = some ([a0], 1) := by
 have h2 : szT Tryz.prog 22 = some 1 := by kernel_rfl
 have h3 : vzero Tryz.prog 22 = some #[.slice none 0 0] := by kernel_rfl
 simp only [j1, j0, Bool.and_true, Bool.and_eq_true] at h
 simp [aL, Tryz.underlying71, h2, h3, vfill, vcells1, h, overwrite, vzeros, List.range_succ]
theorem fR {H : Nat → Option VObj} {xs : List (List Int)} {x : (List Int)} {f : Bool} {k : IntKind} {i : Int} (h : getI xs i = some x) : aC Tryz.prog H 71 (.sl (ae (eSl eI) xs) xs.length f) (.lit (.int k i)) = some (.tp ((eSl eI) x ++ ae (eSl eI) (xs.drop (i.toNat + 1)))) :=
 ixG Tryz.underlying71 (by kernel_rfl : szT Tryz.prog 22 = some 1) (by decide) (fun _ => rfl) h
theorem GD {c0 c1 c2 c3 c4 : VV} {cs : List VV} : vload Tryz.prog 92 (c0 :: c1 :: c2 :: c3 :: c4 :: cs) = some (.agg [c0, c1, c2, c3, c4]) := by
 have h1 : aggT Tryz.prog 92 = some true := by kernel_rfl
 have h2 : szT Tryz.prog 92 = some 5 := by kernel_rfl
 simp [vload, vpart, h1, h2]
theorem GF : szT Tryz.prog 92 = some 5 := by kernel_rfl
theorem nI : vzl Tryz.prog 92 = some [.lit (.int .i64 0), .lit (.slice none 0 0), .lit (.slice none 0 0), .lit (.slice none 0 0), .lit (.map none)] := by kernel_rfl
theorem GG {H : Nat → Option VObj} {β o : Nat} : an Tryz.prog H 92 (.ptr β o) 0 = if (H β).isSome = true then some (.ptr β (o + 0)) else none := by
 have h2 : szT Tryz.prog 25 = some 3 := by kernel_rfl
 simp [an, Tryz.underlying92, h2]
theorem GH {H : Nat → Option VObj} {β o : Nat} : an Tryz.prog H 92 (.ptr β o) 1 = if (H β).isSome = true then some (.ptr β (o + 3)) else none := by
 have h2 : szT Tryz.prog 22 = some 1 := by kernel_rfl
 simp [an, Tryz.underlying92, h2]
theorem GI {H : Nat → Option VObj} {β o : Nat} : an Tryz.prog H 92 (.ptr β o) 2 = if (H β).isSome = true then some (.ptr β (o + 4)) else none := by
 have h2 : szT Tryz.prog 90 = some 1 := by kernel_rfl
 simp [an, Tryz.underlying92, h2]
theorem uK : szT Tryz.prog 124 = some 1 := by kernel_rfl
theorem la : vzl Tryz.prog 124 = some [.lit (.slice none 0 0)] := by kernel_rfl
theorem GJ {H : Nat → Option VObj} {β o : Nat} : an Tryz.prog H 124 (.ptr β o) 0 = if (H β).isSome = true then some (.ptr β (o + 0)) else none := by
 have h2 : szT Tryz.prog 22 = some 1 := by kernel_rfl
 simp [an, Tryz.underlying124, h2]
theorem uL {c0 c1 : VV} {cs : List VV} : vload Tryz.prog 152 (c0 :: c1 :: cs) = some (.agg [c0, c1]) := by
 have h1 : aggT Tryz.prog 152 = some true := by kernel_rfl
 have h2 : szT Tryz.prog 152 = some 2 := by kernel_rfl
 simp [vload, vpart, h1, h2]
theorem uM : szT Tryz.prog 152 = some 2 := by kernel_rfl
theorem lb : vzl Tryz.prog 152 = some [.lit (.int .i64 0), .lit (.int .i64 0)] := by kernel_rfl
theorem uN : szT Tryz.prog 27 = some 1 := by kernel_rfl
theorem uO {c : VV} {cs : List VV} : vload Tryz.prog 27 (c :: cs) = some c := by
 have h1 : aggT Tryz.prog 27 = some false := by kernel_rfl
 simp [vload, vpart, h1]
theorem nJ : vzl Tryz.prog 27 = some [.lit .nilFunc] := by kernel_rfl
theorem uP {c : VV} {cs : List VV} : vload Tryz.prog 47 (c :: cs) = some c := by
 have h1 : aggT Tryz.prog 47 = some false := by kernel_rfl
 simp [vload, vpart, h1]
theorem uQ {c : VV} {cs : List VV} : vload Tryz.prog 129 (c :: cs) = some c := by
 have h1 : aggT Tryz.prog 129 = some false := by kernel_rfl
 simp [vload, vpart, h1]
theorem uR {c : VV} {cs : List VV} : vload Tryz.prog 130 (c :: cs) = some c := by
 have h1 : aggT Tryz.prog 130 = some false := by kernel_rfl
 simp [vload, vpart, h1]
theorem uS {c : VV} {cs : List VV} : vload Tryz.prog 153 (c :: cs) = some c := by
 have h1 : aggT Tryz.prog 153 = some false := by kernel_rfl
 simp [vload, vpart, h1]
theorem uT : szT Tryz.prog 154 = some 2 := by kernel_rfl
theorem ld : vzl Tryz.prog 154 = some [.lit .nilFunc, .lit .nilFunc] := by kernel_rfl
theorem GK {H : Nat → Option VObj} {β o : Nat} {k : IntKind} : aC Tryz.prog H 154 (.ptr β o) (.lit (.int k 0)) = if (H β).isSome = true then some (.ptr β (o + 0)) else none := by
 have h2 : szT Tryz.prog 153 = some 1 := by kernel_rfl
 simp [aC, Tryz.underlying154, h2]
theorem GL {H : Nat → Option VObj} {β o : Nat} {k : IntKind} : aC Tryz.prog H 154 (.ptr β o) (.lit (.int k 1)) = if (H β).isSome = true then some (.ptr β (o + 1)) else none := by
 have h2 : szT Tryz.prog 153 = some 1 := by kernel_rfl
 simp [aC, Tryz.underlying154, h2]
theorem GM : vbuild Tryz.prog 35 [] = some (.agg [.lit (.int .i64 0), .lit (.int .i64 0)]) := by
 rw [rC kZ (by kernel_rfl)]
 rfl
theorem GN {cT dZ : VV} (h : leafL [cT, dZ] = true) : vbuild Tryz.prog 35 [(0, cT), (1, dZ)] = some (.agg [cT, dZ]) := by
 have p0 : placeT Tryz.prog 35 0 = some (0, 1) := by kernel_rfl
 have p1 : placeT Tryz.prog 35 1 = some (1, 1) := by kernel_rfl
 simp only [j1, j0, Bool.and_true, Bool.and_eq_true] at h
 rw [rC kZ (by kernel_rfl)]
 simp [vfill, p0, p1, vcells1, h, overwrite]
theorem GO {cT lf lh dZ qe : VV} (h : leafL [cT, lf, lh, dZ, qe] = true) : vbuild Tryz.prog 92 [(0, .agg [cT, lf, lh]), (1, dZ), (2, qe)] = some (.agg [cT, lf, lh, dZ, qe]) := by
 have p0 : placeT Tryz.prog 92 0 = some (0, 3) := by kernel_rfl
 have p1 : placeT Tryz.prog 92 1 = some (3, 1) := by kernel_rfl
 have p2 : placeT Tryz.prog 92 2 = some (4, 1) := by kernel_rfl
 simp only [j1, j0, Bool.and_true, Bool.and_eq_true] at h
 have q0 : aY (.agg [cT, lf, lh]) = some [cT, lf, lh] := by rw [M4]; simp [j1, j0, h]
 rw [rC nI (by kernel_rfl)]
 simp [vfill, p0, p1, p2, vcells1, h, overwrite, q0]
theorem GP {cT : VV} (h : leafL [cT] = true) : vbuild Tryz.prog 124 [(0, cT)] = some (.agg [cT]) := by
 have p0 : placeT Tryz.prog 124 0 = some (0, 1) := by kernel_rfl
 simp only [j1, j0, Bool.and_true, Bool.and_eq_true] at h
 rw [rC la (by kernel_rfl)]
 simp [vfill, p0, vcells1, h, overwrite]
theorem GQ {cT dZ : VV} (h : leafL [cT, dZ] = true) : vbuild Tryz.prog 152 [(0, cT), (1, dZ)] = some (.agg [cT, dZ]) := by
 have p0 : placeT Tryz.prog 152 0 = some (0, 1) := by kernel_rfl
 have p1 : placeT Tryz.prog 152 1 = some (1, 1) := by kernel_rfl
 simp only [j1, j0, Bool.and_true, Bool.and_eq_true] at h
 rw [rC lb (by kernel_rfl)]
 simp [vfill, p0, p1, vcells1, h, overwrite]
theorem GR {cT dZ : VV} (h : leafL [cT, dZ] = true) : vbuild Tryz.prog 154 [(0, cT), (1, dZ)] = some (.agg [cT, dZ]) := by
 have p0 : placeT Tryz.prog 154 0 = some (0, 1) := by kernel_rfl
 have p1 : placeT Tryz.prog 154 1 = some (1, 1) := by kernel_rfl
 simp only [j1, j0, Bool.and_true, Bool.and_eq_true] at h
 rw [rC ld (by kernel_rfl)]
 simp [vfill, p0, p1, vcells1, h, overwrite]
theorem uU {x : VV} : mkIfcV Tryz.prog 124 x = some (.ifc 124 x) := by simp [mkIfcV, Tryz.underlying124]
theorem uW : ((Tryz.prog.info? 124).bind (·.zero)).map (fun z => VV.tup [ofVal2 z, .lit (.bool false)]) = some (.tup [.agg [.lit (.slice none 0 0)], .lit (.bool false)]) := by kernel_rfl
theorem uX : vtypeAssert Tryz.prog (.lit .nilIface) 124 true = some (.tup [.agg [.lit (.slice none 0 0)], .lit (.bool false)]) := by
 simp only [vtypeAssert, Tryz.underlying124, if_true]
 exact uW
theorem uY {x : VV} : vtypeAssert Tryz.prog (.ifc 124 x) 124 true = some (.tup [x, .lit (.bool true)]) := by
 simp [vtypeAssert, Tryz.underlying124]
theorem Rs {H : Nat → Option VObj} {x y : Operand} {a b : Bool} : binV Tryz.prog H .eql 4 x y (.lit (.bool a)) (.lit (.bool b)) = some (.lit (.bool (a == b))) := CG Tryz.underlying4
theorem Rt {H : Nat → Option VObj} {x y : Operand} {a b : Bool} : binV Tryz.prog H .neq 4 x y (.lit (.bool a)) (.lit (.bool b)) = some (.lit (.bool (a != b))) := CH Tryz.underlying4
theorem GS {H : Nat → Option VObj} {x y : Operand} {a0 b0 : Int} {a1 b1 : Int} : binV Tryz.prog H .eql 35 x y (.agg [.lit (.int .i64 a0), .lit (.int .i64 a1)]) (.agg [.lit (.int .i64 b0), .lit (.int .i64 b1)]) = some (.lit (.bool (a0 == b0 && (a1 == b1)))) ∧ binV Tryz.prog H .neq 35 x y (.agg [.lit (.int .i64 a0), .lit (.int .i64 a1)]) (.agg [.lit (.int .i64 b0), .lit (.int .i64 b1)]) = some (.lit (.bool (!(a0 == b0 && (a1 == b1))))) := by
 refine binS (xs := [.int .i64 a0, .int .i64 a1]) (ys := [.int .i64 b0, .int .i64 b1]) (by simp [VV.val?, valL?]) (by simp [VV.val?, valL?]) Tryz.underlying35 (by kernel_rfl) (by kernel_rfl) ?_
 simp [eqF, kI, eq1, Tryz.underlying3]
theorem GU {H : Nat → Option VObj} {x y : Operand} {a0 b0 : Int} {a1 b1 : Int} : binV Tryz.prog H .neq 35 x y (.agg [.lit (.int .i64 a0), .lit (.int .i64 a1)]) (.agg [.lit (.int .i64 b0), .lit (.int .i64 b1)]) = some (.lit (.bool (!(a0 == b0 && (a1 == b1))))) := GS.2
theorem GV : (VV.lit Value.nilFunc).leaf = true := rfl
theorem GW : (VV.lit Value.nilIface).leaf = true := rfl
def tyf := (And.intro (And.intro (And.intro (And.intro (And.intro (And.intro @rT (And.intro @rU @uB)) (And.intro (And.intro @Rl @Rm) (And.intro @Rn @Ro))) (And.intro (And.intro @Rq (And.intro @Rr @FT)) (And.intro (And.intro @FU @FV) (And.intro @uC @uD)))) (And.intro (And.intro (And.intro @lenN22 (And.intro @lenR22 @bC)) (And.intro (And.intro @FW @Gb) (And.intro @Gc @Gd))) (And.intro (And.intro @Ge (And.intro @uE @lenN23)) (And.intro (And.intro @lenR23 @kW) (And.intro @Gh @Gi))))) (And.intro (And.intro (And.intro (And.intro @uF (And.intro @Gj @Gk)) (And.intro (And.intro @Gl @Gm) (And.intro @Gn @uG))) (And.intro (And.intro @lenN31 (And.intro @lenR31 @Gp)) (And.intro (And.intro @Gq @Gr) (And.intro @Gs @Gt)))) (And.intro (And.intro (And.intro @kZ (And.intro @Gu @Gv)) (And.intro (And.intro @Gw @Gx) (And.intro @Gy @Gz))) (And.intro (And.intro @uH (And.intro @G1 @G2)) (And.intro (And.intro @G3 @G4) (And.intro @G5 @G6)))))) (And.intro (And.intro (And.intro (And.intro (And.intro @G7 (And.intro @uI @lenN51)) (And.intro (And.intro @lenR51 @G8) (And.intro @G9 @GA))) (And.intro (And.intro @uJ (And.intro @lenN71 @lenR71)) (And.intro (And.intro @cR @GB) (And.intro @GC @GD)))) (And.intro (And.intro (And.intro @GF (And.intro @nI @GG)) (And.intro (And.intro @GH @GI) (And.intro @uK @la))) (And.intro (And.intro @GJ (And.intro @uL @uM)) (And.intro (And.intro @lb @uN) (And.intro @uO @nJ))))) (And.intro (And.intro (And.intro (And.intro @uP (And.intro @uQ @uR)) (And.intro (And.intro @uS @uT) (And.intro @ld @GK))) (And.intro (And.intro @GL (And.intro @GM @GN)) (And.intro (And.intro @GO @GP) (And.intro @GQ @GR)))) (And.intro (And.intro (And.intro @uU (And.intro @uX @uY)) (And.intro (And.intro @Rs @Rt) (And.intro @GU @GV))) (And.intro (And.intro @GW (And.intro @CI @eI_eq)) (And.intro (And.intro @qa @eB_eq) (And.intro @eS_eq @qb)))))))
def aF := (And.intro (And.intro @iH.normL (And.intro @iH.showL @kX.normL)) (And.intro @M3.norm (And.intro @pZ.normL @pZ.showL)))
def aI := (And.intro (And.intro @iH.tree @iH.treeL) (And.intro @kX.treeL (And.intro @M3.tree @pZ.treeL)))
end Go.V
namespace Go.V
open Go Go.Proofs IntKind
theorem ktA {P : Program} {G : Glob} {d : Option Tmp} {γ : Nat} {tm : Nat → VV} {H : Nat → Option VObj} {nx : Nat} {df : List VDef} {K : St → Prop} {Qp : VV → St → Prop} {f : FuncId} {args args0 : List VV} {x : VV} (hp : ak P G f args0 (.tree x)) (h : fin d γ tm H nx df K x .none) (hn : normL args = args0 := by first | (simp only [nrm, aF] <;> rfl) | rfl) (ht : treeL args = true := by simp only [tre, aI, Bool.and_self]) : callK P G f args ⟨tm, H, nx, df⟩ d γ K Qp := ktree hn ht hp h
theorem dktA {P : Program} {G : Glob} {d : Option Tmp} {γ : Nat} {tm : Nat → VV} {H : Nat → Option VObj} {nx : Nat} {df : List VDef} {K : List Nat → List Nat → St → Prop} {f : FuncId} {args args0 : List VV} {x : VV} (hp : ak P G f args0 (.tree x)) (h : fin d γ tm H nx df (K [] []) x .none) (hn : normL args = args0 := by first | (simp only [nrm, aF] <;> rfl) | rfl) (ht : treeL args = true := by simp only [tre, aI, Bool.and_self]) : dcallK P G f args tm H nx df d γ K := dktree hn ht hp h
theorem optI {α β : Type} {K : Option β → Prop} {X : Option α} {F : α → Option β} (h : K (Option.bind X F)) (kN : ¬ K none) : ∃ r, X = some r ∧ K (F r) := by
  cases X with
  | none => exact absurd h kN
  | some r => exact ⟨r, rfl, h⟩
end Go.V
end
section
namespace Go.V
open Go Go.Proofs IntKind
def Dec (P : Program) (n : Nat) (t : TypeId) {α : Type} (enc : α → List VV) (R : α → Prop) : Prop := ∀ xs, ShapeT P n t xs → ∃ x : α, R x ∧ normL xs = enc x
theorem GX {P : Program} {n : Nat} {t : TypeId} (hu : P.underlying t = some (.int .i64)) : Dec P (n + 1) t eI (fun _ => True) := by
 intro xs h
 simp only [ShapeT, hu] at h
 obtain ⟨i, _, rfl⟩ := h
 exact ⟨i, trivial, by simp only [nK, qf, M5, eI]⟩
theorem GY {P : Program} {n : Nat} {t : TypeId} (hu : P.underlying t = some .bool) : Dec P (n + 1) t eB (fun _ => True) := by
 intro xs h
 simp only [ShapeT, hu] at h
 obtain ⟨b, rfl⟩ := h
 exact ⟨b, trivial, by simp only [nK, qf, ET, eB]⟩
theorem uZ {P : Program} {n : Nat} {t : TypeId} {α : Type} {enc : α → List VV} {R : α → Prop} (h : Dec P n t enc R) : ∀ yss : List (List VV), (∀ ys ∈ yss, ShapeT P n t ys) → ∃ l : List α, l.length = yss.length ∧ (∀ x ∈ l, R x) ∧ normL yss.flatten = ae enc l
 | [], _ => ⟨[], rfl, fun _ hx => (by cases hx), rfl⟩
 | ys :: yss, hs => by
  obtain ⟨x, hx, e⟩ := h ys (hs ys (List.mem_cons_self ..))
  obtain ⟨l, h1, h2, h3⟩ := uZ h yss (fun y hy => hs y (List.mem_cons_of_mem _ hy))
  refine ⟨x :: l, by simp [h1], fun y hy => ?_, by rw [List.flatten_cons, rV, e, h3, ga]⟩
  rcases List.mem_cons.1 hy with rfl | hy
  ·exact hx
  ·exact h2 y hy
theorem M6 {P : Program} {n : Nat} {t e : TypeId} {α : Type} {enc : α → List VV} {R : α → Prop} (hu : P.underlying t = some (.slice e)) (h : Dec P n e enc R) : Dec P (n + 1) t (fun l : List α => [.sl (ae enc l) l.length false]) (fun l => aG l = true ∧ ∀ x ∈ l, R x) := by
 intro xs hs
 simp only [ShapeT, hu] at hs
 rcases hs with rfl | ⟨yss, hl, hall, rfl⟩
 ·exact ⟨[], ⟨rfl, fun _ hx => (by cases hx)⟩, by simp only [nK, qf, M7]; rfl⟩
 ·obtain ⟨l, h1, h2, h3⟩ := uZ h yss hall
  refine ⟨l, ⟨?_, h2⟩, by simp only [nK, qf, va, h3, h1]⟩
  have : maxLen = 9223372036854775807 := by decide
  unfold aG
  exact decide_eq_true (by omega)
theorem GZ {P : Program} {n : Nat} {t : TypeId} {fs : Array Field} {xs : List VV} (hu : P.underlying t = some (.struct fs)) (h : ShapeT P (n + 1) t xs) : ∃ yss, FieldsS (ShapeT P n) fs.toList yss ∧ xs = yss.flatten := by
 simp only [ShapeT, hu] at h
 exact h
def TypesS (S : TypeId → List VV → Prop) : List TypeId → List (List VV) → Prop
 | [], [] => True
 | t :: ts, ys :: yss => S t ys ∧ TypesS S ts yss
 | _, _ => False
theorem vb {S : TypeId → List VV → Prop} : ∀ (fs : List Field) (yss : List (List VV)), FieldsS S fs yss → TypesS S (fs.map Field.type) yss
 | [], [], _ => trivial
 | f :: fs, ys :: yss, ⟨h1, h2⟩ => ⟨h1, vb fs yss h2⟩
 | [], _ :: _, h => h
 | _ :: _, [], h => h
theorem Ha {P : Program} {n : Nat} {t : TypeId} {fs : Array Field} {ts : List TypeId} {xs : List VV} (hu : P.underlying t = some (.struct fs)) (ht : fs.toList.map Field.type = ts) (h : ShapeT P (n + 1) t xs) : ∃ yss, TypesS (ShapeT P n) ts yss ∧ xs = yss.flatten := by
 obtain ⟨yss, h1, h2⟩ := GZ hu h
 exact ⟨yss, ht ▸ vb _ _ h1, h2⟩
theorem Hb {P : Program} {n : Nat} {t : TypeId} {ts : List TypeId} {xs : List VV} (h : ArgsS P n (t :: ts) xs) : ∃ x xs', xs = x :: xs' ∧ ArgS P n t x ∧ ArgsS P n ts xs' := by
 match xs, h with
 | x :: xs', h => exact ⟨x, xs', rfl, h.1, h.2⟩
theorem Hc {P : Program} {n : Nat} {xs : List VV} (h : ArgsS P n [] xs) : xs = [] := by
 match xs, h with
 | [], _ => rfl
theorem Hd {P : Program} {n : Nat} {t : TypeId} {fs : Array Field} {x : VV} {α : Type} {enc : α → List VV} {R : α → Prop} (hu : P.underlying t = some (.struct fs)) (hd : Dec P n t enc R) (h : ArgS P n t x) : ∃ s, R s ∧ normV x = .agg (enc s) := by
 obtain ⟨ys, h1, h2⟩ := h
 rw [hu] at h2
 obtain rfl : x = .agg ys := h2
 obtain ⟨s, hs, e⟩ := hd ys h1
 exact ⟨s, hs, by rw [M8, e]⟩
theorem vc {P : Program} {n : Nat} {t : TypeId} {d : TypeDesc} {x : VV} {α : Type} {enc : α → List VV} {R : α → Prop} (hu : P.underlying t = some d) (hn : (∀ fs, d ≠ .struct fs) ∧ ∀ m e, d ≠ .array m e) (hd : Dec P n t enc R) (h : ArgS P n t x) : ∃ s, R s ∧ [normV x] = enc s := by
 obtain ⟨ys, h1, h2⟩ := h
 rw [hu] at h2
 have h3 : ys = [x] := by
  cases d <;> first | exact h2 | exact absurd rfl (hn.1 _) | exact absurd rfl (hn.2 _ _)
 subst h3
 obtain ⟨s, hs, e⟩ := hd _ h1
 exact ⟨s, hs, by rw [← e, nK, qf]⟩
end Go.V
end
section
set_option maxRecDepth 100000
namespace Go.V
open Go Go.Proofs IntKind
def He (x : GBs) : Prop := aG x.Needs = true
def M9 (x : GBk) : Prop := aG x.Boards = true ∧ aG x.Strokes = true ∧ ∀ y ∈ x.Strokes, He y
section
variable {P : Program} (hU : P.underlying 3 = some (.int .i64)) (eU : P.underlying 22 = some (.slice 3)) (jL : P.underlying 4 = some (.bool)) {MA : Array Field} (eW : P.underlying 35 = some (.struct MA)) (eX : MA.toList.map Field.type = [3, 3]) {MB : Array Field} (eY : P.underlying 49 = some (.struct MB)) (eZ : MB.toList.map Field.type = [3, 4, 35, 22]) (fa : P.underlying 23 = some (.slice 49)) {MC : Array Field} (fb : P.underlying 25 = some (.struct MC)) (fc : MC.toList.map Field.type = [3, 22, 23])
include hU eU jL eW eX eY eZ fa fb fc
theorem gd_3 {n : Nat} : Dec P (n + 1) 3 eI (fun _ => True) := GX hU
theorem gd_22 {n : Nat} : Dec P (n + 2) 22 (eSl eI) (fun l => aG l = true ∧ ∀ x ∈ l, True) := M6 eU (gd_3 hU eU jL eW eX eY eZ fa fb fc (n := n))
theorem gd_4 {n : Nat} : Dec P (n + 1) 4 eB (fun _ => True) := GY jL
theorem gd_35 {n : Nat} : Dec P (n + 2) 35 cGSpan (fun _ => True) := by
 intro xs h
 obtain ⟨yss, hf, rfl⟩ := Ha (n := n + 1) (ts := [3, 3]) eW eX h
 match yss, hf with
 | [y0, y1], ⟨h0, h1, _⟩ =>
  obtain ⟨x0, r0, e0⟩ := gd_3 hU eU jL eW eX eY eZ fa fb fc (n := n + 0) _ h0
  obtain ⟨x1, r1, e1⟩ := gd_3 hU eU jL eW eX eY eZ fa fb fc (n := n + 0) _ h1
  exact ⟨⟨x0, x1⟩, trivial, by simp only [List.flatten_cons, List.flatten_nil, List.append_nil, rV, e0, e1, eI, qg, eB, eS, eSl, rT, List.cons_append, List.nil_append]⟩
theorem gd_49 {n : Nat} : Dec P (n + 3) 49 cGBs (He) := by
 intro xs h
 obtain ⟨yss, hf, rfl⟩ := Ha (n := n + 2) (ts := [3, 4, 35, 22]) eY eZ h
 match yss, hf with
 | [y0, y1, y2, y3], ⟨h0, h1, h2, h3, _⟩ =>
  obtain ⟨x0, r0, e0⟩ := gd_3 hU eU jL eW eX eY eZ fa fb fc (n := n + 1) _ h0
  obtain ⟨x1, r1, e1⟩ := gd_4 hU eU jL eW eX eY eZ fa fb fc (n := n + 1) _ h1
  obtain ⟨x2, r2, e2⟩ := gd_35 hU eU jL eW eX eY eZ fa fb fc (n := n + 0) _ h2
  obtain ⟨x3, r3, e3⟩ := gd_22 hU eU jL eW eX eY eZ fa fb fc (n := n + 0) _ h3
  exact ⟨⟨x0, x1, x2, x3⟩, r3.1, by simp only [List.flatten_cons, List.flatten_nil, List.append_nil, rV, e0, e1, e2, e3, eI, qg, eB, eS, eSl, rU, rT, List.cons_append, List.nil_append]⟩
theorem gd_23 {n : Nat} : Dec P (n + 4) 23 (eSl cGBs) (fun l => aG l = true ∧ ∀ x ∈ l, He x) := M6 fa (gd_49 hU eU jL eW eX eY eZ fa fb fc (n := n))
theorem gd_25 {n : Nat} : Dec P (n + 5) 25 cGBk (M9) := by
 intro xs h
 obtain ⟨yss, hf, rfl⟩ := Ha (n := n + 4) (ts := [3, 22, 23]) fb fc h
 match yss, hf with
 | [y0, y1, y2], ⟨h0, h1, h2, _⟩ =>
  obtain ⟨x0, r0, e0⟩ := gd_3 hU eU jL eW eX eY eZ fa fb fc (n := n + 3) _ h0
  obtain ⟨x1, r1, e1⟩ := gd_22 hU eU jL eW eX eY eZ fa fb fc (n := n + 2) _ h1
  obtain ⟨x2, r2, e2⟩ := gd_23 hU eU jL eW eX eY eZ fa fb fc (n := n + 0) _ h2
  exact ⟨⟨x0, x1, x2⟩, ⟨r1.1, r2.1, r2.2⟩, by simp only [List.flatten_cons, List.flatten_nil, List.append_nil, rV, e0, e1, e2, eI, qg, eB, eS, eSl, uB, List.cons_append, List.nil_append]⟩
end
theorem dec_3 {n : Nat} : Dec Tryz.prog (n + 1) 3 eI (fun _ => True) := gd_3 Tryz.underlying3 Tryz.underlying22 Tryz.underlying4 Tryz.underlying35 (by kernel_rfl) Tryz.underlying49 (by kernel_rfl) Tryz.underlying23 Tryz.underlying25 (by kernel_rfl)
theorem Hf {n : Nat} : Dec Tryz.prog (n + 2) 22 (eSl eI) (fun l => aG l = true ∧ ∀ x ∈ l, True) := gd_22 Tryz.underlying3 Tryz.underlying22 Tryz.underlying4 Tryz.underlying35 (by kernel_rfl) Tryz.underlying49 (by kernel_rfl) Tryz.underlying23 Tryz.underlying25 (by kernel_rfl)
theorem Hg {n : Nat} : Dec Tryz.prog (n + 5) 25 cGBk (M9) := gd_25 Tryz.underlying3 Tryz.underlying22 Tryz.underlying4 Tryz.underlying35 (by kernel_rfl) Tryz.underlying49 (by kernel_rfl) Tryz.underlying23 Tryz.underlying25 (by kernel_rfl)
end Go.V
end
section
namespace Go.V
open Go Go.Proofs IntKind
def goB (b : Bool) : Option (LOut Bool Unit) := cond b (some (.go ())) (some (.ret false))
theorem qh (a b : Bool) : goB (a && b) = cond a (goB b) (some (.ret false)) := by cases a <;> rfl
theorem csome (a b : Bool) : cond a (some b) (some false) = some (a && b) := by cases a <;> rfl
theorem nL {X : Type} (b : Bool) (kr : Bool → Option X) (kg : Unit → Option X) (kb : Nat → Unit → Option X) : lbind (goB b) kr kg kb = cond b (kg ()) (kr false) := by cases b <;> rfl
def inB (a b n : Int) : Bool := decide (a ≤ n) && decide (n ≤ b)
theorem lT {a b n : Int} : inB a b n = true ↔ a ≤ n ∧ n ≤ b := by simp [inB]
theorem fD {n : Int} (h1 : -9223372036854775808 ≤ n) (h2 : n < 9223372036854775808) : i64.wrap n = n := IntWalk.i64_in _ (by omega)
theorem Hh {α : Type} {xs : List α} (h : aG xs = true) : xs.length < 9223372036854775808 := by simpa [aG] using h
theorem fE {α : Type} {xs : List α} (h : xs.length < 9223372036854775808) : aG xs = true := by simpa [aG] using h
theorem Hi {α : Type} {xs : List α} {i : Int} {x : α} (h : getI xs i = some x) : x ∈ xs := by
 unfold getI at h
 split at h
 ·exact List.mem_of_getElem? h
 ·cases h
theorem vd {α : Type} {xs : List α} {i : Int} {x : α} (h : getI xs i = some x) : 0 ≤ i ∧ i < xs.length := ⟨(mi h).1, (mi h).2.1⟩
theorem Fv {α : Type} {xs : List α} (h : 1 ≤ xs.length) (h2 : xs.length < 9223372036854775808) : getI xs (i64.wrap ((xs.length : Int) - 1)) = xs.getLast? := by
 rw [fD (by omega) (by omega)]
 unfold getI
 rw [if_pos (by omega), List.getLast?_eq_getElem?]
 congr 1
 omega
end Go.V
end
section
namespace Go.V
def mxL (l : List Int) : Int := l.foldl max 0
theorem MD : ∀ (l : List Int) (a b : Int), l.foldl max a ≤ b ↔ a ≤ b ∧ ∀ x ∈ l, x ≤ b
 | [], a, b => by simp
 | x :: l, a, b => by
  simp only [List.foldl_cons, MD l, List.mem_cons, forall_eq_or_imp]
  constructor
  ·rintro ⟨h1, h2⟩; exact ⟨by omega, by omega, h2⟩
  ·rintro ⟨h1, h2, h3⟩; exact ⟨by omega, h3⟩
theorem qi {l : List Int} {b : Int} : mxL l ≤ b ↔ 0 ≤ b ∧ ∀ x ∈ l, x ≤ b := MD l 0 b
theorem Hj (l : List Int) : 0 ≤ mxL l := (qi.1 (Int.le_refl _)).1
theorem Hk {l : List Int} {x : Int} (h : x ∈ l) : x ≤ mxL l := (qi.1 (Int.le_refl _)).2 x h
theorem vf : ∀ (l : List Int) (a : Int), l.foldl max a = a ∨ l.foldl max a ∈ l
 | [], a => .inl rfl
 | x :: l, a => by
  simp only [List.foldl_cons, List.mem_cons]
  rcases vf l (max a x) with h | h
  ·rw [h]
   rcases Int.le_total a x with h1 | h1
   ·rw [Int.max_eq_right h1]; exact .inr (.inl rfl)
   ·rw [Int.max_eq_left h1]; exact .inl rfl
  ·exact .inr (.inr h)
theorem Hl (l : List Int) : mxL l = 0 ∨ mxL l ∈ l := vf l 0
def frF (hd : Nat → Int) (e : Nat → Int) (h : Int) : Nat → Int
 | 0 => 0
 | k + 1 => if hd k = h then e k else frF hd e h k
theorem ME {hd : Nat → Int} {e e' : Nat → Int} {h : Int} : ∀ {n : Nat}, (∀ k, k < n → e k = e' k) → frF hd e h n = frF hd e' h n
 | 0, _ => rfl
 | n + 1, hk => by
  unfold frF
  rw [hk n (Nat.lt_succ_self _), ME (fun k h => hk k (Nat.lt_succ_of_lt h))]
theorem vg {hd : Nat → Int} {e : Nat → Int} {h b : Int} (hb : 0 ≤ b) : ∀ {n : Nat}, (∀ k, k < n → hd k = h → e k ≤ b) → frF hd e h n ≤ b
 | 0, _ => hb
 | n + 1, hk => by
  unfold frF
  split
  ·rename_i hh; exact hk n (Nat.lt_succ_self _) hh
  ·exact vg hb (fun k h1 h2 => hk k (Nat.lt_succ_of_lt h1) h2)
def bgF (hd : Nat → Int) (nd : Nat → List Int) (e : Nat → Int) (s : Nat) : Int := max (max 0 (frF hd e (hd s) s)) (mxL ((nd s).map fun k => e k.toNat))
def En (hd : Nat → Int) (nd : Nat → List Int) (d : Nat → Int) : Nat → Nat → Int
 | 0, _ => 0
 | f + 1, s => bgF hd nd (En hd nd d f) s + d s
def NdOk (nd : Nat → List Int) : Prop := ∀ s, ∀ k ∈ nd s, 0 ≤ k ∧ k.toNat < s
theorem MF {hd : Nat → Int} {nd : Nat → List Int} {e e' : Nat → Int} {s : Nat} (hn : NdOk nd) (h : ∀ k, k < s → e k = e' k) : bgF hd nd e s = bgF hd nd e' s := by
 unfold bgF
 rw [ME h]
 congr 2
 exact List.map_congr_left fun k hk => h _ (hn s k hk).2
theorem vh {hd : Nat → Int} {nd : Nat → List Int} {d : Nat → Int} (hn : NdOk nd) : ∀ (f g s : Nat), s < f → s < g → En hd nd d f s = En hd nd d g s
 | 0, _, _, h, _ => absurd h (Nat.not_lt_zero _)
 | _ + 1, 0, _, _, h => absurd h (Nat.not_lt_zero _)
 | f + 1, g + 1, s, h1, h2 => by
  unfold En
  rw [MF hn (e' := En hd nd d g) (fun k hk => vh hn f g k (by omega) (by omega))]
def Ed (hd : Nat → Int) (nd : Nat → List Int) (d : Nat → Int) (s : Nat) : Int := En hd nd d (s + 1) s
def Bg (hd : Nat → Int) (nd : Nat → List Int) (d : Nat → Int) (s : Nat) : Int := bgF hd nd (Ed hd nd d) s
theorem Ed_eq {hd : Nat → Int} {nd : Nat → List Int} {d : Nat → Int} (hn : NdOk nd) (s : Nat) : Ed hd nd d s = Bg hd nd d s + d s := by
 show bgF hd nd (En hd nd d s) s + d s = _
 rw [MF hn (e' := Ed hd nd d) (fun k hk => vh hn s (k + 1) k hk (Nat.lt_succ_self _))]
 rfl
theorem Hm (hd : Nat → Int) (nd : Nat → List Int) (e : Nat → Int) (s : Nat) : 0 ≤ bgF hd nd e s := by
 have := Hj ((nd s).map fun k => e k.toNat)
 unfold bgF
 omega
section
variable {hd : Nat → Int} {nd : Nat → List Int} {d d' : Nat → Int}
theorem Bg_nn (s : Nat) : 0 ≤ Bg hd nd d s := Hm _ _ _ _
theorem Ed_nn (hn : NdOk nd) (h : ∀ k, 0 ≤ d k) (s : Nat) : 0 ≤ Ed hd nd d s := by
 rw [Ed_eq hn]
 have := Bg_nn (hd := hd) (nd := nd) (d := d) s
 have := h s
 omega
theorem Ho (hn : NdOk nd) {s : Nat} {k : Int} (hk : k ∈ nd s) : Ed hd nd d k.toNat ≤ Bg hd nd d s := by
 have := Hk (List.mem_map_of_mem (f := fun k : Int => Ed hd nd d k.toNat) hk)
 unfold Bg bgF
 omega
theorem vi (s : Nat) : frF hd (Ed hd nd d) (hd s) s ≤ Bg hd nd d s := by
 unfold Bg bgF
 omega
theorem qj (hn : NdOk nd) (h0 : ∀ k, 0 ≤ d k) {h : Int} : ∀ {n k : Nat}, k < n → hd k = h → Ed hd nd d k ≤ frF hd (Ed hd nd d) h n
 | 0, _, hk, _ => absurd hk (Nat.not_lt_zero _)
 | n + 1, k, hk, hh => by
  unfold frF
  split
  ·rename_i hn'
   rcases Nat.lt_or_ge k n with h1 | h1
   ·have h2 := qj hn h0 h1 hh
    have h3 := vi (hd := hd) (nd := nd) (d := d) n
    rw [hn'] at h3
    rw [Ed_eq hn n]
    have := h0 n
    omega
   ·have : k = n := by omega
    subst this
    exact Int.le_refl _
  ·rename_i hn'
   have : k ≠ n := by rintro rfl; exact hn' hh
   exact qj hn h0 (by omega) hh
theorem uz (hn : NdOk nd) (h0 : ∀ k, 0 ≤ d k) {k s : Nat} (hk : k < s) (hh : hd k = hd s) : Ed hd nd d k ≤ Bg hd nd d s := Int.le_trans (qj hn h0 hk hh) (vi s)
theorem vj (hn : NdOk nd) {s : Nat} {b : Int} (hb : 0 ≤ b) (h1 : ∀ k, k < s → hd k = hd s → Ed hd nd d k ≤ b) (h2 : ∀ k ∈ nd s, Ed hd nd d k.toNat ≤ b) : Bg hd nd d s ≤ b := by
 have h3 := vg (hd := hd) (e := Ed hd nd d) (h := hd s) (n := s) hb h1
 have h4 : mxL ((nd s).map fun k => Ed hd nd d k.toNat) ≤ b := by
  refine qi.2 ⟨hb, ?_⟩
  intro x hx
  obtain ⟨k, hk, rfl⟩ := List.mem_map.1 hx
  exact h2 k hk
 unfold Bg bgF
 omega
theorem Ed_bd (hn : NdOk nd) {m : Int} (h0 : ∀ k, 0 ≤ d k ∧ d k ≤ m) : ∀ (f s : Nat), s < f → Ed hd nd d s ≤ m * (s + 1)
 | 0, _, h => absurd h (Nat.not_lt_zero _)
 | f + 1, s, h => by
  have hm : 0 ≤ m := Int.le_trans (h0 0).1 (h0 0).2
  have key : ∀ k, k < s → Ed hd nd d k ≤ m * s := fun k hk => by
   refine Int.le_trans (Ed_bd hn h0 f k (by omega)) ?_
   exact Int.mul_le_mul_of_nonneg_left (by omega) hm
  have h1 : Bg hd nd d s ≤ m * s := vj hn (Int.mul_nonneg hm (by omega)) (fun k hk _ => key k hk) (fun k hk => key _ (hn s k hk).2)
  rw [Ed_eq hn, Int.mul_add]
  have := h0 s
  omega
theorem Fh (hn : NdOk nd) {m : Int} (h0 : ∀ k, 0 ≤ d k ∧ d k ≤ m) (s : Nat) : Ed hd nd d s ≤ m * (s + 1) := Ed_bd hn h0 (s + 1) s (Nat.lt_succ_self _)
def tkF (e : Nat → Int) : Nat → Int
 | 0 => 0
 | n + 1 => max (tkF e n) (e n)
theorem vk (e : Nat → Int) : ∀ n, 0 ≤ tkF e n
 | 0 => Int.le_refl _
 | n + 1 => by have := vk e n; unfold tkF; omega
theorem uq {e : Nat → Int} : ∀ {n k : Nat}, k < n → e k ≤ tkF e n
 | 0, _, h => absurd h (Nat.not_lt_zero _)
 | n + 1, k, h => by
  unfold tkF
  rcases Nat.lt_or_ge k n with h1 | h1
  ·have := uq (e := e) h1; omega
  ·have : k = n := by omega
   subst this
   omega
theorem ur {e : Nat → Int} {b : Int} (hb : 0 ≤ b) : ∀ {n : Nat}, (∀ k, k < n → e k ≤ b) → tkF e n ≤ b
 | 0, _ => hb
 | n + 1, h => by
  have h1 := ur hb (n := n) (fun k hk => h k (by omega))
  have h2 := h n (by omega)
  unfold tkF
  omega
end
end Go.V
end
section
namespace Go.V
open Go Go.Proofs IntKind
def mA (aQ : Int) (cO : Int) (bc : Int) : Option (Bool) := cond (decide (aQ ≤ cO)) (some (decide (cO ≤ bc))) (some false)
theorem rW (aQ : Int) (cO : Int) (bc : Int) (R : Bool) (h : mA aQ cO bc = some R) : ak Tryz.prog G0 95 [.lit (.int .i64 aQ), .lit (.int .i64 cO), .lit (.int .i64 bc)] (.tree (.lit (.bool R))) := by
 refine ak.runR mixed Tryz.call95 Tryz.func95 rfl (by simp [Tryz.ntmps95]; kernel_rfl) ?_
 obtain ⟨KF, h, kF, kN⟩ := cI h
 simp only [mA] at h
 cases d1 : (decide (aQ ≤ cO))
 ·simp only [d1, hs] at h
  try simp only [vz, tyf, d1, nm, seval]
  obtain rfl := kF _ h
  exact bw Tryz.results95 rfl
 simp only [d1, hs] at h
 try simp only [vz, tyf, d1, nm, seval]
 obtain rfl := kF _ h
 exact bw Tryz.results95 rfl
def rX (aQ : Int) (bc : Int) : List Int → Int → Option (LOut (Bool) (Unit))
 | [], nM => some (.go ())
 | e0 :: p0, nM => Option.bind (mA aQ e0 bc) (fun r1 => cond (r1) (rX aQ bc p0 (nM + 1)) (some (.ret false)))
def qk (aQ : Int) (aq : List Int) (bc : Int) : Option (Bool) := cond (aG aq) (lbind (rX aQ bc aq 0) (fun r3 => some r3) (fun c2 => some true) (fun _ _ => none)) none
theorem Hp (aQ : Int) (aq : List Int) (bc : Int) (R : Bool) (h : qk aQ aq bc = some R) : ak Tryz.prog G0 103 [.lit (.int .i64 aQ), .sl (ae eI aq) (List.length aq) false, .lit (.int .i64 bc)] (.tree (.lit (.bool R))) := by
 refine ak.runR mixed Tryz.call103 Tryz.func103 rfl (by simp [Tryz.ntmps103]; kernel_rfl) ?_
 obtain ⟨KF, h, kF, kN⟩ := cI h
 simp only [qk] at h
 cases g5 : (aG aq)
 ·simp only [g5, hs] at h
  exact absurd h kN
 simp only [g5, hs] at h
 simp only [vz, tyf, g5, nm, seval]
 obtain ⟨K4, h, Ru, Rv, T7, Rw⟩ := eR h kN
 obtain ⟨f4, Rx, h⟩ := call2 h
 obtain ⟨I4, Hq⟩ : ∃ I : Nat → St → Prop, I = (fun m st => ∃ (p4 : List Int) (eE : Int), m = List.length p4 ∧ 0 ≤ eE ∧ List.drop (Int.toNat eE) aq = p4 ∧ st.df = [] ∧ 4 ≤ st.nx ∧ st.tm 0 = .lit (.int .i64 aQ) ∧ st.tm 2 = .lit (.int .i64 bc) ∧ st.tm 9 = .sl (ae eI aq) (List.length aq) false ∧ st.tm 10 = .lit (.int .i64 (List.length aq : Int)) ∧ st.tm 11 = .lit (.int .i64 eE) ∧ K4 (f4 p4 eE)) := ⟨_, rfl⟩
 refine loopK mixed (by kernel_rfl) I4 (List.length aq) (by rw [Hq]; refine ⟨aq, 0, rfl, Int.le_refl _, rfl, rfl, (show 4 ≤ 4 by omega), ?_, ?_, ?_, ?_, ?_, h⟩ <;> first | (simp only [ua, nm, seval] <;> rfl) | rfl) ?_
 rintro m ⟨tm, H, MG, df⟩ hinv
 rw [Hq] at hinv
 obtain ⟨p4, eE, rfl, rY, vl, hdf, Ry, e6, e7, e8, e9, bk, h⟩ := hinv
 simp only at hdf Ry e6 e7 e8 e9 bk
 have rZ := fw (m := 4) (b := MG) (by omega)
 subst hdf Rx
 cases p4 with
 | nil =>
  have dJ : (decide (eE < (List.length aq : Int))) = false := fj rY vl
  simp only [rX, hs, reduceCtorEq] at h
  replace h := Rv _ h
  try dsimp only at h
  try simp only [hs] at h
  try simp only [vz, tyf, g5, rZ, e6, e7, e8, e9, bk, dJ, nm, seval]
  obtain rfl := kF _ h
  exact bw Tryz.results103 rfl
 | cons e4 p4 =>
  have de : (decide (eE < (List.length aq : Int))) = true := fh rY vl
  have mB := dG rY vl
  have vm := eQ rY vl g5
  simp only [rX, hs, reduceCtorEq] at h
  obtain ⟨MH, iU, h⟩ := optI h Rw
  try simp only [hs] at h
  simp only [vz, tyf, g5, rZ, e6, e7, e8, e9, bk, de, (aB mB), vm, nm, seval]
  refine ktA (rW _ _ _ _ iU) ?_
  refine bN (fun tm => tm 0 = .lit (.int .i64 aQ) ∧ tm 2 = .lit (.int .i64 bc) ∧ tm 9 = .sl (ae eI aq) (List.length aq) false ∧ tm 10 = .lit (.int .i64 (List.length aq : Int)) ∧ tm 11 = .lit (.int .i64 eE) ∧ tm 18 = .lit (.bool MH) ∧ True) (by refine ⟨e6, e7, e8, e9, bk, ?_, trivial⟩ <;> first | (simp only [ua, rZ, e6, e7, e8, e9, bk, de, vm, nm, seval] <;> rfl) | rfl) ?_
  rintro tm ⟨cv, cD, dK, dI, cg, bG, _⟩
  cases eP : (MH)
  ·simp only [eP, hs] at h
   try simp only [vz, tyf, g5, rZ, de, (aB mB), vm, cv, cD, dK, dI, cg, bG, eP, nm, seval]
   replace h := Ru _ h
   try dsimp only at h
   obtain rfl := kF _ h
   exact bw Tryz.results103 rfl
  simp only [eP, hs] at h
  simp only [vz, tyf, g5, rZ, de, (aB mB), vm, cv, cD, dK, dI, cg, bG, eP, nm, seval]
  exact ⟨List.length p4, Nat.lt_succ_self _, by rw [Hq]; refine ⟨p4, eE + 1, rfl, Int.le_trans rY (Int.le_add_one (Int.le_refl _)), cU rY vl, rfl, (show 4 ≤ MG + 11 by omega), cv, cD, dK, dI, ?_, (by first | exact h | (simp only [de, eP]; exact h))⟩ <;> first | (simp only [ua, rZ, de, vm, cv, cD, dK, dI, cg, bG, eP, nm, seval] <;> rfl) | rfl⟩
def yc (bM : List Int) : Option (Bool) := Option.bind (mA 1 (List.length bM : Int) 3) (fun r1 => cond (r1) (Option.bind (qk 0 bM 60) (fun r2 => some r2)) (some false))
theorem Rz (bM : List Int) (R : Bool) (h : yc bM = some R) : ak Tryz.prog G0 101 [.sl (ae eI bM) (List.length bM) false] (.tree (.lit (.bool R))) := by
 refine ak.runR mixed Tryz.call101 Tryz.func101 rfl (by simp [Tryz.ntmps101]; kernel_rfl) ?_
 obtain ⟨KF, h, kF, kN⟩ := cI h
 simp only [yc] at h
 obtain ⟨r3, o4, h⟩ := optI h kN
 try simp only [hs] at h
 simp only [vz, tyf, nm, seval]
 refine ktA (rW _ _ _ _ o4) ?_
 refine bN (fun tm => tm 0 = .sl (ae eI bM) (List.length bM) false ∧ tm 5 = .lit (.bool r3) ∧ True) (by refine ⟨?_, ?_, trivial⟩ <;> first | (simp only [ua, nm, seval] <;> rfl) | rfl) ?_
 rintro tm ⟨e5, e6, _⟩
 cases d7 : (r3)
 ·simp only [d7, hs] at h
  try simp only [vz, tyf, e5, e6, d7, nm, seval]
  obtain rfl := kF _ h
  exact bw Tryz.results101 rfl
 simp only [d7, hs] at h
 obtain ⟨r8, o9, h⟩ := optI h kN
 try simp only [hs] at h
 simp only [vz, tyf, e5, e6, d7, nm, seval]
 refine ktA (Hp _ _ _ _ o9) ?_
 refine bN (fun tm => tm 6 = .lit (.bool true) ∧ tm 8 = .lit (.bool r8) ∧ True) (by refine ⟨?_, ?_, trivial⟩ <;> first | (simp only [ua, e5, e6, d7, nm, seval] <;> rfl) | rfl) ?_
 rintro tm ⟨bk, bF, _⟩
 try simp only [vz, tyf, d7, bk, bF, nm, seval]
 obtain rfl := kF _ h
 exact bw Tryz.results101 rfl
def yd (al : GBk) (eF : Int) : Option (Bool) := Option.bind (mA 0 eF (i64.wrap ((List.length al.Boards : Int) - 1))) (fun r1 => some r1)
theorem R0 (al : GBk) (eF : Int) (R : Bool) (h : yd al eF = some R) : ak Tryz.prog G0 71 [.agg (cGBk al), .lit (.int .i64 eF)] (.tree (.lit (.bool R))) := by
 refine ak.runR mixed Tryz.call71 Tryz.func71 rfl (by simp [Tryz.ntmps71]; kernel_rfl) ?_
 obtain ⟨KF, h, kF, kN⟩ := cI h
 simp only [yd] at h
 obtain ⟨r2, o3, h⟩ := optI h kN
 try simp only [hs] at h
 simp only [vz, tyf, nm, seval]
 refine ktA (rW _ _ _ _ o3) ?_
 refine bN (fun tm => tm 10 = .lit (.bool r2) ∧ True) (by refine ⟨?_, trivial⟩ <;> first | (simp only [ua, nm, seval] <;> rfl) | rfl) ?_
 rintro tm ⟨e4, _⟩
 try simp only [vz, tyf, e4, nm, seval]
 obtain rfl := kF _ h
 exact bw Tryz.results71 rfl
def vn (aQ : Int) (g0 : GSpan) (bc : Int) : Option (Bool) := cond (decide (aQ ≤ g0.Low)) (cond (decide (g0.Low ≤ g0.High)) (some (decide (g0.High ≤ bc))) (some false)) (some false)
theorem R1 (aQ : Int) (g0 : GSpan) (bc : Int) (R : Bool) (h : vn aQ g0 bc = some R) : ak Tryz.prog G0 133 [.lit (.int .i64 aQ), .agg (cGSpan g0), .lit (.int .i64 bc)] (.tree (.lit (.bool R))) := by
 refine ak.runR mixed Tryz.call133 Tryz.func133 rfl (by simp [Tryz.ntmps133]; kernel_rfl) ?_
 obtain ⟨KF, h, kF, kN⟩ := cI h
 simp only [vn] at h
 cases d1 : (decide (aQ ≤ g0.Low))
 ·simp only [d1, hs] at h
  try simp only [vz, tyf, d1, nm, seval]
  obtain rfl := kF _ h
  exact bw Tryz.results133 rfl
 simp only [d1, hs] at h
 cases d2 : (decide (g0.Low ≤ g0.High))
 ·simp only [d2, hs] at h
  try simp only [vz, tyf, d1, d2, nm, seval]
  obtain rfl := kF _ h
  exact bw Tryz.results133 rfl
 simp only [d2, hs] at h
 try simp only [vz, tyf, d1, d2, nm, seval]
 obtain rfl := kF _ h
 exact bw Tryz.results133 rfl
def sa (aq : List Int) : List Int → Int → Option (LOut (Bool) (Unit))
 | [], cY => some (.go ())
 | e0 :: p0, cY => Option.bind (getI aq (i64.wrap (cY - 1))) (fun x1 => cond (decide (e0 ≤ x1)) (some (.ret false)) (sa aq p0 (cY + 1)))
def vo (aQ : Int) (aq : List Int) (bc : Int) : Option (Bool) := cond (aG aq) (cond (leB 0 1) (lbind (sa aq (List.drop (Int.toNat 1) aq) 1) (fun r4 => some r4) (fun c2 => Option.bind (qk aQ aq bc) (fun r3 => some r3)) (fun _ _ => none)) none) none
theorem R2 (aQ : Int) (aq : List Int) (bc : Int) (R : Bool) (h : vo aQ aq bc = some R) : ak Tryz.prog G0 134 [.lit (.int .i64 aQ), .sl (ae eI aq) (List.length aq) false, .lit (.int .i64 bc)] (.tree (.lit (.bool R))) := by
 refine ak.runR mixed Tryz.call134 Tryz.func134 rfl (by simp [Tryz.ntmps134]; kernel_rfl) ?_
 obtain ⟨KF, h, kF, kN⟩ := cI h
 simp only [vo] at h
 cases g6 : (aG aq)
 ·simp only [g6, hs] at h
  exact absurd h kN
 simp only [g6, hs] at h
 cases g7 : (leB 0 1)
 ·simp only [g7, hs] at h
  exact absurd h kN
 simp only [g7, hs] at h
 simp only [vz, tyf, g6, g7, nm, seval]
 obtain ⟨K5, h, vp, mC, Hr, lj⟩ := eR h kN
 obtain ⟨f5, ql, h⟩ := call2 h
 obtain ⟨I5, iI⟩ : ∃ I : Nat → St → Prop, I = (fun m st => ∃ (p5 : List Int) (bz : Int), m = List.length p5 ∧ 0 ≤ bz ∧ List.drop (Int.toNat bz) aq = p5 ∧ st.df = [] ∧ 2 ≤ st.nx ∧ st.tm 0 = .lit (.int .i64 aQ) ∧ st.tm 1 = .sl (ae eI aq) (List.length aq) false ∧ st.tm 2 = .lit (.int .i64 bc) ∧ st.tm 7 = .lit (.int .i64 bz) ∧ K5 (f5 p5 bz)) := ⟨_, rfl⟩
 refine loopK mixed (by kernel_rfl) I5 (List.length (List.drop (Int.toNat 1) aq)) (by rw [iI]; refine ⟨List.drop (Int.toNat 1) aq, 1, rfl, of_decide_eq_true g7, rfl, rfl, (show 2 ≤ 2 by omega), ?_, ?_, ?_, ?_, h⟩ <;> first | (simp only [ua, nm, seval] <;> rfl) | rfl) ?_
 rintro m ⟨tm, H, ir, df⟩ hinv
 rw [iI] at hinv
 obtain ⟨p5, bz, rfl, eG, fe, hdf, qm, e8, e9, bk, bF, h⟩ := hinv
 simp only at hdf qm e8 e9 bk bF
 have dP := fw (m := 2) (b := ir) (by omega)
 subst hdf ql
 cases p5 with
 | nil =>
  have de : (decide (bz < (List.length aq : Int))) = false := fj eG fe
  simp only [sa, hs, reduceCtorEq] at h
  replace h := mC _ h
  try dsimp only at h
  try simp only [hs] at h
  obtain ⟨g9, mB, h⟩ := optI h kN
  try simp only [hs] at h
  simp only [vz, tyf, g6, g7, dP, e8, e9, bk, bF, de, nm, seval]
  refine ktA (Hp _ _ _ _ mB) ?_
  refine bN (fun tm => tm 27 = .lit (.bool g9) ∧ True) (by refine ⟨?_, trivial⟩ <;> first | (simp only [ua, dP, e8, e9, bk, bF, de, nm, seval] <;> rfl) | rfl) ?_
  rintro tm ⟨bB, _⟩
  try simp only [vz, tyf, g6, g7, dP, de, bB, nm, seval]
  obtain rfl := kF _ h
  exact bw Tryz.results134 rfl
 | cons e5 p5 =>
  have cJ : (decide (bz < (List.length aq : Int))) = true := fh eG fe
  have nN := dG eG fe
  have vq := eQ eG fe g6
  simp only [sa, hs, reduceCtorEq] at h
  simp only [vz, tyf, g6, g7, dP, e8, e9, bk, bF, cJ, (aB nN), vq, nm, seval]
  refine jk (fun tm => tm 0 = .lit (.int .i64 aQ) ∧ tm 1 = .sl (ae eI aq) (List.length aq) false ∧ tm 2 = .lit (.int .i64 bc) ∧ tm 7 = .lit (.int .i64 bz) ∧ True) (by refine ⟨e8, e9, bk, bF, trivial⟩ <;> first | (simp only [ua, dP, e8, e9, bk, bF, cJ, vq, nm, seval] <;> rfl) | rfl) ?_
  rintro tm ⟨dK, dI, cg, bG, _⟩
  obtain ⟨R3, nO, h⟩ := optI h lj
  try simp only [hs] at h
  cases fu : (decide (e5 ≤ R3))
  ·simp only [fu, hs] at h
   simp only [vz, tyf, g6, g7, dP, cJ, (aB nN), vq, dK, dI, cg, bG, (aB nO), fu, nm, seval]
   exact ⟨List.length p5, Nat.lt_succ_self _, by rw [iI]; refine ⟨p5, bz + 1, rfl, Int.le_trans eG (Int.le_add_one (Int.le_refl _)), cU eG fe, rfl, (show 2 ≤ ir + 17 by omega), dK, dI, cg, ?_, (by first | exact h | (simp only [cJ, fu]; exact h))⟩ <;> first | (simp only [ua, dP, cJ, vq, dK, dI, cg, bG, fu, nm, seval] <;> rfl) | rfl⟩
  simp only [fu, hs] at h
  try simp only [vz, tyf, g6, g7, dP, cJ, (aB nN), vq, dK, dI, cg, bG, (aB nO), fu, nm, seval]
  replace h := vp _ h
  try dsimp only at h
  obtain rfl := kF _ h
  exact bw Tryz.results134 rfl
def sb (al : GBk) : List GBs → Int → Option (LOut (Bool) (Unit))
 | [], bP => some (.go ())
 | e0 :: p0, bP => Option.bind (yd al e0.Board) (fun r2 => cond (r2) (Option.bind (vn 1 e0.Hours 6) (fun r3 => cond (r3) (Option.bind (vo 0 e0.Needs (i64.wrap (bP - 1))) (fun r4 => cond (r4) (sb al p0 (bP + 1)) (some (.ret false)))) (some (.ret false)))) (some (.ret false)))
def ye (al : GBk) : Option (Bool) := Option.bind (mA 1 (List.length al.Strokes : Int) 6) (fun r1 => cond (r1) (cond (aG al.Strokes) (lbind (sb al al.Strokes 0) (fun r6 => some r6) (fun c5 => some true) (fun _ _ => none)) none) (some false))
theorem R4 (al : GBk) (R : Bool) (h : ye al = some R) : ak Tryz.prog G0 102 [.agg (cGBk al)] (.tree (.lit (.bool R))) := by
 refine ak.runR mixed Tryz.call102 Tryz.func102 rfl (by simp [Tryz.ntmps102]; kernel_rfl) ?_
 obtain ⟨KF, h, kF, kN⟩ := cI h
 simp only [ye] at h
 obtain ⟨r7, o8, h⟩ := optI h kN
 try simp only [hs] at h
 simp only [vz, tyf, nm, seval]
 refine ktA (rW _ _ _ _ o8) ?_
 refine bN (fun tm => tm 1 = .ptr 0 0 ∧ tm 8 = .lit (.bool r7) ∧ True) (by refine ⟨?_, ?_, trivial⟩ <;> first | (simp only [ua, nm, seval] <;> rfl) | rfl) ?_
 rintro tm ⟨e9, bk, _⟩
 cases cm : (r7)
 ·simp only [cm, hs] at h
  try simp only [vz, tyf, e9, bk, cm, nm, seval]
  obtain rfl := kF _ h
  exact bw Tryz.results102 rfl
 simp only [cm, hs] at h
 cases nP : (aG al.Strokes)
 ·simp only [nP, hs] at h
  exact absurd h kN
 simp only [nP, hs] at h
 simp only [vz, tyf, e9, bk, cm, nP, nm, seval]
 obtain ⟨R5, h, qn, Hs, R6, qo⟩ := eR h kN
 obtain ⟨R7, Ht, h⟩ := call2 h
 obtain ⟨R8, qp⟩ : ∃ I : Nat → St → Prop, I = (fun m st => ∃ (nQ : List GBs) (bV : Int), m = List.length nQ ∧ 0 ≤ bV ∧ List.drop (Int.toNat bV) al.Strokes = nQ ∧ st.df = [] ∧ 11 ≤ st.nx ∧ st.H 0 = some (.cells (some 25) (cGBk al)) ∧ st.tm 1 = .ptr 0 0 ∧ st.tm 11 = .sl (ae cGBs al.Strokes) (List.length al.Strokes) false ∧ st.tm 12 = .lit (.int .i64 (List.length al.Strokes : Int)) ∧ st.tm 13 = .lit (.int .i64 bV) ∧ R5 (R7 nQ bV)) := ⟨_, rfl⟩
 refine loopK mixed (by kernel_rfl) R8 (List.length al.Strokes) (by rw [qp]; refine ⟨al.Strokes, 0, rfl, Int.le_refl _, rfl, rfl, (show 11 ≤ 11 by omega), ?_, e9, ?_, ?_, ?_, h⟩ <;> first | (simp only [ua, e9, bk, cm, nm, seval] <;> rfl) | rfl) ?_
 rintro m ⟨tm, H, mD, df⟩ hinv
 rw [qp] at hinv
 obtain ⟨nQ, bV, rfl, jM, lk, hdf, Hu, jv, cM, bB, bK, cv, h⟩ := hinv
 simp only at hdf Hu jv cM bB bK cv
 have kn := fw (m := 11) (b := mD) (by omega)
 subst hdf Ht
 cases nQ with
 | nil =>
  have ei : (decide (bV < (List.length al.Strokes : Int))) = false := fj jM lk
  simp only [sb, hs, reduceCtorEq] at h
  replace h := Hs _ h
  try dsimp only at h
  try simp only [hs] at h
  try simp only [vz, tyf, cm, nP, kn, cM, bB, bK, cv, jv, ei, nm, seval]
  obtain rfl := kF _ h
  exact bw Tryz.results102 rfl
 | cons cn nQ =>
  have mF : (decide (bV < (List.length al.Strokes : Int))) = true := fh jM lk
  have ku := dG jM lk
  have yf := eQ jM lk nP
  simp only [sb, hs, reduceCtorEq] at h
  obtain ⟨kO, nO, h⟩ := optI h qo
  try simp only [hs] at h
  simp only [vz, tyf, cm, nP, kn, cM, bB, bK, cv, jv, mF, (aT ku), yf, nm, seval]
  refine ktA (R0 _ _ _ nO) ?_
  refine bN (fun tm => tm 1 = .ptr 0 0 ∧ tm 3 = .lit (.int .i64 bV) ∧ tm 4 = .ptr (mD + 4) 0 ∧ tm 11 = .sl (ae cGBs al.Strokes) (List.length al.Strokes) false ∧ tm 12 = .lit (.int .i64 (List.length al.Strokes : Int)) ∧ tm 13 = .lit (.int .i64 bV) ∧ tm 21 = .lit (.bool kO) ∧ True) (by refine ⟨cM, ?_, ?_, bB, bK, cv, ?_, trivial⟩ <;> first | (simp only [ua, cm, kn, cM, bB, bK, cv, jv, mF, yf, nm, seval] <;> rfl) | rfl) ?_
  rintro tm ⟨du, bA, bZ, bR, cj, ck, dV, _⟩
  cases ff : (kO)
  ·simp only [ff, hs] at h
   have ky := And.intro cm (And.intro nP (And.intro kn (And.intro jv (And.intro mF (And.intro yf ff)))))
   try simp only [vz, tyf, ky, (aT ku), du, bA, bZ, bR, cj, ck, dV, nm, seval]
   replace h := qn _ h
   try dsimp only at h
   obtain rfl := kF _ h
   exact bw Tryz.results102 rfl
  simp only [ff, hs] at h
  have mG := And.intro cm (And.intro nP (And.intro kn (And.intro jv (And.intro mF (And.intro yf ff)))))
  obtain ⟨MI, R9, h⟩ := optI h qo
  try simp only [hs] at h
  simp only [vz, tyf, mG, (aT ku), du, bA, bZ, bR, cj, ck, dV, nm, seval]
  refine ktA (R1 _ _ _ _ R9) ?_
  refine bN (fun tm => tm 1 = .ptr 0 0 ∧ tm 3 = .lit (.int .i64 bV) ∧ tm 4 = .ptr (mD + 4) 0 ∧ tm 11 = .sl (ae cGBs al.Strokes) (List.length al.Strokes) false ∧ tm 12 = .lit (.int .i64 (List.length al.Strokes : Int)) ∧ tm 13 = .lit (.int .i64 bV) ∧ tm 23 = .lit (.bool false) ∧ tm 26 = .lit (.bool MI) ∧ True) (by refine ⟨du, bA, bZ, bR, cj, ck, ?_, ?_, trivial⟩ <;> first | (simp only [ua, mG, du, bA, bZ, bR, cj, ck, dV, nm, seval] <;> rfl) | rfl) ?_
  rintro tm ⟨gb, ll, kq, n7, cE, cy, cz, cW, _⟩
  cases mH : (MI)
  ·simp only [mH, hs] at h
   try simp only [vz, tyf, mG, (aT ku), gb, ll, kq, n7, cE, cy, cz, cW, mH, nm, seval]
   replace h := qn _ h
   try dsimp only at h
   obtain rfl := kF _ h
   exact bw Tryz.results102 rfl
  simp only [mH, hs] at h
  obtain ⟨MJ, RA, h⟩ := optI h qo
  try simp only [hs] at h
  simp only [vz, tyf, mG, (aT ku), gb, ll, kq, n7, cE, cy, cz, cW, mH, nm, seval]
  refine ktA (R2 _ _ _ _ RA) ?_
  refine bN (fun tm => tm 1 = .ptr 0 0 ∧ tm 11 = .sl (ae cGBs al.Strokes) (List.length al.Strokes) false ∧ tm 12 = .lit (.int .i64 (List.length al.Strokes : Int)) ∧ tm 13 = .lit (.int .i64 bV) ∧ tm 29 = .lit (.bool false) ∧ tm 34 = .lit (.bool MJ) ∧ True) (by refine ⟨gb, n7, cE, cy, ?_, ?_, trivial⟩ <;> first | (simp only [ua, mG, gb, ll, kq, n7, cE, cy, cz, cW, mH, nm, seval] <;> rfl) | rfl) ?_
  rintro tm ⟨dD, iF, iG, nC, kz, k6, _⟩
  cases sc : (MJ)
  ·simp only [sc, hs] at h
   try simp only [vz, tyf, mG, (aT ku), mH, dD, iF, iG, nC, kz, k6, sc, nm, seval]
   replace h := qn _ h
   try dsimp only at h
   obtain rfl := kF _ h
   exact bw Tryz.results102 rfl
  simp only [sc, hs] at h
  simp only [vz, tyf, mG, (aT ku), mH, dD, iF, iG, nC, kz, k6, sc, nm, seval]
  exact ⟨List.length nQ, Nat.lt_succ_self _, by rw [qp]; refine ⟨nQ, bV + 1, rfl, Int.le_trans jM (Int.le_add_one (Int.le_refl _)), cU jM lk, rfl, (show 11 ≤ mD + 28 by omega), ?_, dD, iF, iG, ?_, (by first | exact h | (simp only [mG, mH, sc]; exact h))⟩ <;> first | (simp only [ua, mG, mH, dD, iF, iG, nC, kz, k6, sc, nm, seval] <;> rfl) | rfl⟩
def pT (al : GBk) : Option (Bool) := Option.bind (mA 0 al.Apprentices 3) (fun r1 => cond (r1) (Option.bind (yc al.Boards) (fun r2 => cond (r2) (Option.bind (ye al) (fun r3 => some r3)) (some false))) (some false))
theorem Ml (al : GBk) (R : Bool) (h : pT al = some R) : ak Tryz.prog G0 67 [.agg (cGBk al)] (.tree (.lit (.bool R))) := by
 refine ak.runR mixed Tryz.call67 Tryz.func67 rfl (by simp [Tryz.ntmps67]; kernel_rfl) ?_
 obtain ⟨KF, h, kF, kN⟩ := cI h
 simp only [pT] at h
 obtain ⟨r4, o5, h⟩ := optI h kN
 try simp only [hs] at h
 simp only [vz, tyf, nm, seval]
 refine ktA (rW _ _ _ _ o5) ?_
 refine bN (fun tm => tm 1 = .ptr 0 0 ∧ tm 5 = .lit (.bool r4) ∧ True) (by refine ⟨?_, ?_, trivial⟩ <;> first | (simp only [ua, nm, seval] <;> rfl) | rfl) ?_
 rintro tm ⟨e6, e7, _⟩
 cases d8 : (r4)
 ·simp only [d8, hs] at h
  try simp only [vz, tyf, e6, e7, d8, nm, seval]
  obtain rfl := kF _ h
  exact bw Tryz.results67 rfl
 simp only [d8, hs] at h
 obtain ⟨r9, hC, h⟩ := optI h kN
 try simp only [hs] at h
 simp only [vz, tyf, e6, e7, d8, nm, seval]
 refine ktA (Rz _ _ hC) ?_
 refine bN (fun tm => tm 1 = .ptr 0 0 ∧ tm 6 = .lit (.bool true) ∧ tm 9 = .lit (.bool r9) ∧ True) (by refine ⟨e6, ?_, ?_, trivial⟩ <;> first | (simp only [ua, e6, e7, d8, nm, seval] <;> rfl) | rfl) ?_
 rintro tm ⟨bF, cn, bI, _⟩
 cases bx : (r9)
 ·simp only [bx, hs] at h
  try simp only [vz, tyf, d8, bF, cn, bI, bx, nm, seval]
  obtain rfl := kF _ h
  exact bw Tryz.results67 rfl
 simp only [bx, hs] at h
 obtain ⟨qs, dx, h⟩ := optI h kN
 try simp only [hs] at h
 simp only [vz, tyf, d8, bF, cn, bI, bx, nm, seval]
 refine ktA (R4 _ _ dx) ?_
 refine bN (fun tm => tm 11 = .lit (.bool true) ∧ tm 13 = .lit (.bool qs) ∧ True) (by refine ⟨?_, ?_, trivial⟩ <;> first | (simp only [ua, d8, bF, cn, bI, bx, nm, seval] <;> rfl) | rfl) ?_
 rintro tm ⟨bK, cv, _⟩
 try simp only [vz, tyf, d8, bx, bK, cv, nm, seval]
 obtain rfl := kF _ h
 exact bw Tryz.results67 rfl
def vr (al : GBk) (ai : Int) (eJ : Int) : Option (Bool) := cond (eJ == 0) (some true) (Option.bind (getI al.Strokes ai) (fun x1 => some (!x1.Round)))
theorem RB (al : GBk) (ai : Int) (eJ : Int) (R : Bool) (h : vr al ai eJ = some R) : ak Tryz.prog G0 104 [.agg (cGBk al), .lit (.int .i64 ai), .lit (.int .i64 eJ)] (.tree (.lit (.bool R))) := by
 refine ak.runR mixed Tryz.call104 Tryz.func104 rfl (by simp [Tryz.ntmps104]; kernel_rfl) ?_
 obtain ⟨KF, h, kF, kN⟩ := cI h
 simp only [vr] at h
 cases d2 : (eJ == 0)
 ·simp only [d2, hs] at h
  obtain ⟨x3, o4, h⟩ := optI h kN
  try simp only [hs] at h
  try simp only [vz, tyf, d2, (aT o4), nm, seval]
  obtain rfl := kF _ h
  exact bw Tryz.results104 rfl
 simp only [d2, hs] at h
 try simp only [vz, tyf, d2, nm, seval]
 obtain rfl := kF _ h
 exact bw Tryz.results104 rfl
end Go.V
end
