/- Part of a proof. -/
import Derived.Test.YtmhlghgbfmcdaaaGreatDoorG5bh
import Derived.Test.YtmhlghgbfmcdaaaGreatDoorG5az
import Derived.Test.YtmhlghgbfmcdaaaGreatDoorProg
set_option linter.all false
set_option maxRecDepth 4000
set_option maxHeartbeats 40000000
section
namespace Go.V
open Go Go.Proofs IntKind
theorem mixed : Tryz.prog.follows .mixedOrders = true := by kernel_rfl
structure GSpan where
 Low : Int
 High : Int
 deriving Inhabited, DecidableEq
def cGSpan (x : GSpan) : List VV := [.lit (.int .i64 x.Low), .lit (.int .i64 x.High)]
theorem sV {x : GSpan} : cGSpan x = [.lit (.int .i64 x.Low), .lit (.int .i64 x.High)] := rfl
theorem oF : EncOk cGSpan := EncOk.of (fun x => by simp only [sV, tre, Bool.and_self]) (fun x => by simp only [sV, nrm]) (fun x H d => by simp only [sV, nrm, List.map_cons, List.map_nil])
structure GBs where
 Board : Int
 Round : Bool
 Hours : GSpan
 Needs : List Int
 deriving Inhabited, DecidableEq
def cGBs (x : GBs) : List VV := [.lit (.int .i64 x.Board), .lit (.bool x.Round), .lit (.int .i64 x.Hours.Low), .lit (.int .i64 x.Hours.High), .sl (ae eI x.Needs) (List.length x.Needs) false]
theorem vU {x : GBs} : cGBs x = [.lit (.int .i64 x.Board), .lit (.bool x.Round), .lit (.int .i64 x.Hours.Low), .lit (.int .i64 x.Hours.High), .sl (ae eI x.Needs) (List.length x.Needs) false] := rfl
theorem wV : EncOk cGBs := EncOk.of (fun x => by simp only [vU, tre, oF.tree, oF.treeL, Bool.and_self]) (fun x => by simp only [vU, nrm, oF.norm, oF.normL, oF.shown, oF.showL]) (fun x H d => by simp only [vU, nrm, List.map_cons, List.map_nil])
structure GBk where
 Apprentices : Int
 Boards : List Int
 Strokes : List GBs
 deriving Inhabited, DecidableEq
def cGBk (x : GBk) : List VV := [.lit (.int .i64 x.Apprentices), .sl (ae eI x.Boards) (List.length x.Boards) false, .sl (ae cGBs x.Strokes) (List.length x.Strokes) false]
theorem QF {x : GBk} : cGBk x = [.lit (.int .i64 x.Apprentices), .sl (ae eI x.Boards) (List.length x.Boards) false, .sl (ae cGBs x.Strokes) (List.length x.Strokes) false] := rfl
structure Gbf where
 chain : List Int
 deriving Inhabited, DecidableEq
def cGbf (x : Gbf) : List VV := [.sl (ae eI x.chain) (List.length x.chain) false]
theorem UF {x : Gbf} : cGbf x = [.sl (ae eI x.chain) (List.length x.chain) false] := rfl
structure Gbe where
 stroke : Int
 hours : Int
 deriving Inhabited, DecidableEq
def cGbe (x : Gbe) : List VV := [.lit (.int .i64 x.stroke), .lit (.int .i64 x.hours)]
theorem UG {x : Gbe} : cGbe x = [.lit (.int .i64 x.stroke), .lit (.int .i64 x.hours)] := rfl
theorem UH {c : VV} {cs : List VV} : vload Tryz.prog 3 (c :: cs) = some c := by
 have h1 : aggT Tryz.prog 3 = some false := by kernel_rfl
 simp [vload, vpart, h1]
theorem UI : szT Tryz.prog 3 = some 1 := by kernel_rfl
theorem UJ {c : VV} {cs : List VV} : vload Tryz.prog 4 (c :: cs) = some c := by
 have h1 : aggT Tryz.prog 4 = some false := by kernel_rfl
 simp [vload, vpart, h1]
theorem UK : szT Tryz.prog 4 = some 1 := by kernel_rfl
theorem HN : vzl Tryz.prog 4 = some [.lit (.bool false)] := by kernel_rfl
theorem HO {c : VV} {cs : List VV} : vload Tryz.prog 22 (c :: cs) = some c := by
 have h1 : aggT Tryz.prog 22 = some false := by kernel_rfl
 simp [vload, vpart, h1]
theorem HP : szT Tryz.prog 22 = some 1 := by kernel_rfl
theorem yJ : vzl Tryz.prog 22 = some [.lit (.slice none 0 0)] := by kernel_rfl
theorem yK {H : Nat → Option VObj} {cs : List VV} {n : Nat} {f : Bool} : vlen Tryz.prog H 22 (.sl cs n f) = some (.lit (.int .i64 n)) := by simp [vlen, Tryz.underlying22, sls]
theorem lenN22 {H : Nat → Option VObj} : vlen Tryz.prog H 22 (.lit (.slice none 0 0)) = some (.lit (.int .i64 0)) := by simp [vlen, Tryz.underlying22, sls]
theorem lenR22 {H : Nat → Option VObj} {β off n w c : Nat} : vlen Tryz.prog H 22 (.ref β off n w c) = (match H β with | some (.cells _ cs) => if off ≤ cs.length then some (.lit (.int .i64 n)) else none | _ => none) := lenR Tryz.underlying22
theorem dE : elemT Tryz.prog 22 = some 3 := by simp [elemT, Tryz.underlying22]
theorem gi : appOk Tryz.prog 22 = some (3, 1, 8) := by kernel_rfl
theorem HQ {xs : List Int} : (ae eI xs).take (xs.length * 1) = ae eI xs := Q8 (fun _ => rfl)
theorem gL : ∀ x : Int, leafL (eI x) = true := fun x => by simp only [eI_eq, pK, eB_eq, eS_eq, pL, ll, ln, C3, C4, C5, C6, C7, Bool.and_self]
theorem br {xs : List Int} {x : Int} {i : Int} (h : getI xs i = some x) : (∀ (H : Nat → Option VObj) (β c : Nat) (k : IntKind), aE Tryz.prog H 22 (.ref β 0 xs.length 1 c) (.lit (.int k i)) = if (H β).isSome = true then some (.ptr β (i.toNat * 1)) else none) ∧ (ae eI xs).drop (i.toNat * 1) = eI x ++ ae eI (xs.drop (i.toNat + 1)) ∧ (i.toNat * 1 ≤ (ae eI xs).length) = True := ixO Tryz.underlying22 (by kernel_rfl : szT Tryz.prog 3 = some 1) (fun _ => rfl) h
theorem HR {a0 : VV} (h : leafL [a0] = true) : aR Tryz.prog 22 1 [(0, a0)] = some ([a0], 1) := by
 have h2 : szT Tryz.prog 3 = some 1 := by kernel_rfl
 have h3 : vzero Tryz.prog 3 = some #[.int .i64 0] := by kernel_rfl
 simp only [ln, ll, Bool.and_true, Bool.and_eq_true] at h
 simp [aR, Tryz.underlying22, h2, h3, vfill, vcells1, h, overwrite, vzeros, List.range_succ]
theorem HS {a0 a1 : VV} (h : leafL [a0, a1] = true) : aR Tryz.prog 22 2 [(0, a0), (1, a1)] = some ([a0, a1], 1) := by
 have h2 : szT Tryz.prog 3 = some 1 := by kernel_rfl
 have h3 : vzero Tryz.prog 3 = some #[.int .i64 0] := by kernel_rfl
 simp only [ln, ll, Bool.and_true, Bool.and_eq_true] at h
 simp [aR, Tryz.underlying22, h2, h3, vfill, vcells1, h, overwrite, vzeros, List.range_succ]
theorem aw {H : Nat → Option VObj} {xs : List Int} {x : Int} {f : Bool} {k : IntKind} {i : Int} (h : getI xs i = some x) : aE Tryz.prog H 22 (.sl (ae eI xs) xs.length f) (.lit (.int k i)) = some (.tp (eI x ++ ae eI (xs.drop (i.toNat + 1)))) :=
 ixG Tryz.underlying22 (by kernel_rfl : szT Tryz.prog 3 = some 1) (by decide) (fun _ => rfl) h
theorem HT {c : VV} {cs : List VV} : vload Tryz.prog 23 (c :: cs) = some c := by
 have h1 : aggT Tryz.prog 23 = some false := by kernel_rfl
 simp [vload, vpart, h1]
theorem HU : szT Tryz.prog 23 = some 1 := by kernel_rfl
theorem yL {H : Nat → Option VObj} {cs : List VV} {n : Nat} {f : Bool} : vlen Tryz.prog H 23 (.sl cs n f) = some (.lit (.int .i64 n)) := by simp [vlen, Tryz.underlying23, sls]
theorem lenN23 {H : Nat → Option VObj} : vlen Tryz.prog H 23 (.lit (.slice none 0 0)) = some (.lit (.int .i64 0)) := by simp [vlen, Tryz.underlying23, sls]
theorem lenR23 {H : Nat → Option VObj} {β off n w c : Nat} : vlen Tryz.prog H 23 (.ref β off n w c) = (match H β with | some (.cells _ cs) => if off ≤ cs.length then some (.lit (.int .i64 n)) else none | _ => none) := lenR Tryz.underlying23
theorem mJ : elemT Tryz.prog 23 = some 49 := by simp [elemT, Tryz.underlying23]
theorem D4 : appOk Tryz.prog 23 = some (49, 5, 56) := by kernel_rfl
theorem D3 : ∀ x : GBs, leafL (cGBs x) = true := fun x => by simp only [eI_eq, pK, eB_eq, eS_eq, pL, vU, ll, ln, C3, C4, C5, C6, C7, Bool.and_self]
theorem bn {xs : List GBs} {x : GBs} {i : Int} (h : getI xs i = some x) : (∀ (H : Nat → Option VObj) (β c : Nat) (k : IntKind), aE Tryz.prog H 23 (.ref β 0 xs.length 5 c) (.lit (.int k i)) = if (H β).isSome = true then some (.ptr β (i.toNat * 5)) else none) ∧ (ae cGBs xs).drop (i.toNat * 5) = cGBs x ++ ae cGBs (xs.drop (i.toNat + 1)) ∧ (i.toNat * 5 ≤ (ae cGBs xs).length) = True := ixO Tryz.underlying23 (by kernel_rfl : szT Tryz.prog 49 = some 5) (fun _ => rfl) h
theorem bx {xs : List GBs} {x : GBs} {i : Int} (h : getI xs i = some x) : ((i.toNat * 5 + 1 ≤ (ae cGBs xs).length) = True ∧ (ae cGBs xs).drop (i.toNat * 5 + 1) = (.lit (.bool x.Round)) :: (.lit (.int .i64 x.Hours.Low)) :: (.lit (.int .i64 x.Hours.High)) :: (.sl (ae eI x.Needs) (List.length x.Needs) false) :: ae cGBs (xs.drop (i.toNat + 1))) ∧ ((i.toNat * 5 + 2 ≤ (ae cGBs xs).length) = True ∧ (ae cGBs xs).drop (i.toNat * 5 + 2) = (.lit (.int .i64 x.Hours.Low)) :: (.lit (.int .i64 x.Hours.High)) :: (.sl (ae eI x.Needs) (List.length x.Needs) false) :: ae cGBs (xs.drop (i.toNat + 1))) ∧ ((i.toNat * 5 + 3 ≤ (ae cGBs xs).length) = True ∧ (ae cGBs xs).drop (i.toNat * 5 + 3) = (.lit (.int .i64 x.Hours.High)) :: (.sl (ae eI x.Needs) (List.length x.Needs) false) :: ae cGBs (xs.drop (i.toNat + 1))) ∧ ((i.toNat * 5 + 4 ≤ (ae cGBs xs).length) = True ∧ (ae cGBs xs).drop (i.toNat * 5 + 4) = (.sl (ae eI x.Needs) (List.length x.Needs) false) :: ae cGBs (xs.drop (i.toNat + 1))) := ⟨⟨eq_true (by have := of_eq_true (setA (w := 5) (enc := cGBs) (fun _ => rfl) h); omega), by rw [← List.drop_drop, (bn h).2.1]; rfl⟩, ⟨eq_true (by have := of_eq_true (setA (w := 5) (enc := cGBs) (fun _ => rfl) h); omega), by rw [← List.drop_drop, (bn h).2.1]; rfl⟩, ⟨eq_true (by have := of_eq_true (setA (w := 5) (enc := cGBs) (fun _ => rfl) h); omega), by rw [← List.drop_drop, (bn h).2.1]; rfl⟩, ⟨eq_true (by have := of_eq_true (setA (w := 5) (enc := cGBs) (fun _ => rfl) h); omega), by rw [← List.drop_drop, (bn h).2.1]; rfl⟩⟩
theorem aM {H : Nat → Option VObj} {xs : List GBs} {x : GBs} {f : Bool} {k : IntKind} {i : Int} (h : getI xs i = some x) : aE Tryz.prog H 23 (.sl (ae cGBs xs) xs.length f) (.lit (.int k i)) = some (.tp (cGBs x ++ ae cGBs (xs.drop (i.toNat + 1)))) :=
 ixG Tryz.underlying23 (by kernel_rfl : szT Tryz.prog 49 = some 5) (by decide) (fun _ => rfl) h
theorem HV {c0 c1 c2 : VV} {cs : List VV} : vload Tryz.prog 25 (c0 :: c1 :: c2 :: cs) = some (.agg [c0, c1, c2]) := by
 have h1 : aggT Tryz.prog 25 = some true := by kernel_rfl
 have h2 : szT Tryz.prog 25 = some 3 := by kernel_rfl
 simp [vload, vpart, h1, h2]
theorem HW : szT Tryz.prog 25 = some 3 := by kernel_rfl
theorem yM : vzl Tryz.prog 25 = some [.lit (.int .i64 0), .lit (.slice none 0 0), .lit (.slice none 0 0)] := by kernel_rfl
theorem HX {H : Nat → Option VObj} {cs : List VV} : an Tryz.prog H 25 (.tp cs) 0 = some (.tp (cs.drop 0)) := by
 have h2 : szT Tryz.prog 3 = some 1 := by kernel_rfl
 simp [an, Tryz.underlying25, h2]
theorem HY {H : Nat → Option VObj} {β o : Nat} : an Tryz.prog H 25 (.ptr β o) 0 = if (H β).isSome = true then some (.ptr β (o + 0)) else none := by
 have h2 : szT Tryz.prog 3 = some 1 := by kernel_rfl
 simp [an, Tryz.underlying25, h2]
theorem HZ {H : Nat → Option VObj} {β o : Nat} : an Tryz.prog H 25 (.ptr β o) 1 = if (H β).isSome = true then some (.ptr β (o + 1)) else none := by
 have h2 : szT Tryz.prog 22 = some 1 := by kernel_rfl
 simp [an, Tryz.underlying25, h2]
theorem Ia {H : Nat → Option VObj} {cs : List VV} : an Tryz.prog H 25 (.tp cs) 2 = some (.tp (cs.drop 2)) := by
 have h2 : szT Tryz.prog 23 = some 1 := by kernel_rfl
 simp [an, Tryz.underlying25, h2]
theorem Ib {H : Nat → Option VObj} {β o : Nat} : an Tryz.prog H 25 (.ptr β o) 2 = if (H β).isSome = true then some (.ptr β (o + 2)) else none := by
 have h2 : szT Tryz.prog 23 = some 1 := by kernel_rfl
 simp [an, Tryz.underlying25, h2]
theorem yN {H : Nat → Option VObj} {cs : List VV} {n : Nat} {f : Bool} : vlen Tryz.prog H 31 (.sl cs n f) = some (.lit (.int .i64 n)) := by simp [vlen, Tryz.underlying31, sls]
theorem lenN31 {H : Nat → Option VObj} : vlen Tryz.prog H 31 (.lit (.slice none 0 0)) = some (.lit (.int .i64 0)) := by simp [vlen, Tryz.underlying31, sls]
theorem lenR31 {H : Nat → Option VObj} {β off n w c : Nat} : vlen Tryz.prog H 31 (.ref β off n w c) = (match H β with | some (.cells _ cs) => if off ≤ cs.length then some (.lit (.int .i64 n)) else none | _ => none) := lenR Tryz.underlying31
theorem pd : elemT Tryz.prog 31 = some 35 := by simp [elemT, Tryz.underlying31]
theorem wQ : appOk Tryz.prog 31 = some (35, 2, 16) := by kernel_rfl
theorem Ic {xs : List GSpan} : (ae cGSpan xs).take (xs.length * 2) = ae cGSpan xs := Q8 (fun _ => rfl)
theorem wP : ∀ x : GSpan, leafL (cGSpan x) = true := fun x => by simp only [eI_eq, pK, eB_eq, eS_eq, pL, sV, ll, ln, C3, C4, C5, C6, C7, Bool.and_self]
theorem Ie {c0 c1 : VV} (h : leafL [c0, c1] = true) : aR Tryz.prog 31 1 [(0, .agg [c0, c1])] = some ([c0, c1], 2) := by
 have h2 : szT Tryz.prog 35 = some 2 := by kernel_rfl
 have h3 : vzero Tryz.prog 35 = some #[.int .i64 0, .int .i64 0] := by kernel_rfl
 simp only [ln, ll, Bool.and_true, Bool.and_eq_true] at h
 simp [aR, Tryz.underlying31, h2, h3, vfill, aW, h, overwrite, vzeros]
theorem Ig {H : Nat → Option VObj} {xs : List GSpan} {x : GSpan} {f : Bool} {k : IntKind} {i : Int} (h : getI xs i = some x) : aE Tryz.prog H 31 (.sl (ae cGSpan xs) xs.length f) (.lit (.int k i)) = some (.tp (cGSpan x ++ ae cGSpan (xs.drop (i.toNat + 1)))) :=
 ixG Tryz.underlying31 (by kernel_rfl : szT Tryz.prog 35 = some 2) (by decide) (fun _ => rfl) h
theorem Ih {c0 c1 : VV} {cs : List VV} : vload Tryz.prog 35 (c0 :: c1 :: cs) = some (.agg [c0, c1]) := by
 have h1 : aggT Tryz.prog 35 = some true := by kernel_rfl
 have h2 : szT Tryz.prog 35 = some 2 := by kernel_rfl
 simp [vload, vpart, h1, h2]
theorem Ii : szT Tryz.prog 35 = some 2 := by kernel_rfl
theorem mZ : vzl Tryz.prog 35 = some [.lit (.int .i64 0), .lit (.int .i64 0)] := by kernel_rfl
theorem Ij {H : Nat → Option VObj} {cs : List VV} : an Tryz.prog H 35 (.tp cs) 0 = some (.tp (cs.drop 0)) := by
 have h2 : szT Tryz.prog 3 = some 1 := by kernel_rfl
 simp [an, Tryz.underlying35, h2]
theorem Ik {H : Nat → Option VObj} {β o : Nat} : an Tryz.prog H 35 (.ptr β o) 0 = if (H β).isSome = true then some (.ptr β (o + 0)) else none := by
 have h2 : szT Tryz.prog 3 = some 1 := by kernel_rfl
 simp [an, Tryz.underlying35, h2]
theorem Il {H : Nat → Option VObj} {cs : List VV} : an Tryz.prog H 35 (.tp cs) 1 = some (.tp (cs.drop 1)) := by
 have h2 : szT Tryz.prog 3 = some 1 := by kernel_rfl
 simp [an, Tryz.underlying35, h2]
theorem Im {H : Nat → Option VObj} {β o : Nat} : an Tryz.prog H 35 (.ptr β o) 1 = if (H β).isSome = true then some (.ptr β (o + 1)) else none := by
 have h2 : szT Tryz.prog 3 = some 1 := by kernel_rfl
 simp [an, Tryz.underlying35, h2]
theorem Io {c0 c1 c2 c3 c4 : VV} {cs : List VV} : vload Tryz.prog 49 (c0 :: c1 :: c2 :: c3 :: c4 :: cs) = some (.agg [c0, c1, c2, c3, c4]) := by
 have h1 : aggT Tryz.prog 49 = some true := by kernel_rfl
 have h2 : szT Tryz.prog 49 = some 5 := by kernel_rfl
 simp [vload, vpart, h1, h2]
theorem Ip : szT Tryz.prog 49 = some 5 := by kernel_rfl
theorem yO : vzl Tryz.prog 49 = some [.lit (.int .i64 0), .lit (.bool false), .lit (.int .i64 0), .lit (.int .i64 0), .lit (.slice none 0 0)] := by kernel_rfl
theorem Iq {H : Nat → Option VObj} {cs : List VV} : an Tryz.prog H 49 (.tp cs) 0 = some (.tp (cs.drop 0)) := by
 have h2 : szT Tryz.prog 3 = some 1 := by kernel_rfl
 simp [an, Tryz.underlying49, h2]
theorem Ir {H : Nat → Option VObj} {β o : Nat} : an Tryz.prog H 49 (.ptr β o) 0 = if (H β).isSome = true then some (.ptr β (o + 0)) else none := by
 have h2 : szT Tryz.prog 3 = some 1 := by kernel_rfl
 simp [an, Tryz.underlying49, h2]
theorem Is {H : Nat → Option VObj} {cs : List VV} : an Tryz.prog H 49 (.tp cs) 1 = some (.tp (cs.drop 1)) := by
 have h2 : szT Tryz.prog 4 = some 1 := by kernel_rfl
 simp [an, Tryz.underlying49, h2]
theorem It {H : Nat → Option VObj} {cs : List VV} : an Tryz.prog H 49 (.tp cs) 2 = some (.tp (cs.drop 2)) := by
 have h2 : szT Tryz.prog 35 = some 2 := by kernel_rfl
 simp [an, Tryz.underlying49, h2]
theorem Iu {H : Nat → Option VObj} {β o : Nat} : an Tryz.prog H 49 (.ptr β o) 2 = if (H β).isSome = true then some (.ptr β (o + 2)) else none := by
 have h2 : szT Tryz.prog 35 = some 2 := by kernel_rfl
 simp [an, Tryz.underlying49, h2]
theorem Iv {H : Nat → Option VObj} {cs : List VV} : an Tryz.prog H 49 (.tp cs) 3 = some (.tp (cs.drop 4)) := by
 have h2 : szT Tryz.prog 22 = some 1 := by kernel_rfl
 simp [an, Tryz.underlying49, h2]
theorem Iw {H : Nat → Option VObj} {β o : Nat} : an Tryz.prog H 49 (.ptr β o) 3 = if (H β).isSome = true then some (.ptr β (o + 4)) else none := by
 have h2 : szT Tryz.prog 22 = some 1 := by kernel_rfl
 simp [an, Tryz.underlying49, h2]
theorem yP {H : Nat → Option VObj} {cs : List VV} {n : Nat} {f : Bool} : vlen Tryz.prog H 51 (.sl cs n f) = some (.lit (.int .i64 n)) := by simp [vlen, Tryz.underlying51, sls]
theorem lenN51 {H : Nat → Option VObj} : vlen Tryz.prog H 51 (.lit (.slice none 0 0)) = some (.lit (.int .i64 0)) := by simp [vlen, Tryz.underlying51, sls]
theorem lenR51 {H : Nat → Option VObj} {β off n w c : Nat} : vlen Tryz.prog H 51 (.ref β off n w c) = (match H β with | some (.cells _ cs) => if off ≤ cs.length then some (.lit (.int .i64 n)) else none | _ => none) := lenR Tryz.underlying51
theorem Ix : elemT Tryz.prog 51 = some 60 := by simp [elemT, Tryz.underlying51]
theorem Iy {a0 : VV} (h : leafL [a0] = true) : aR Tryz.prog 51 1 [(0, a0)] = some ([a0], 1) := by
 have h2 : szT Tryz.prog 60 = some 1 := by kernel_rfl
 have h3 : vzero Tryz.prog 60 = some #[.int .i64 0] := by kernel_rfl
 simp only [ln, ll, Bool.and_true, Bool.and_eq_true] at h
 simp [aR, Tryz.underlying51, h2, h3, vfill, vcells1, h, overwrite, vzeros, List.range_succ]
theorem Iz {c : VV} {cs : List VV} : vload Tryz.prog 60 (c :: cs) = some c := by
 have h1 : aggT Tryz.prog 60 = some false := by kernel_rfl
 simp [vload, vpart, h1]
theorem yQ {H : Nat → Option VObj} {cs : List VV} {n : Nat} {f : Bool} : vlen Tryz.prog H 71 (.sl cs n f) = some (.lit (.int .i64 n)) := by simp [vlen, Tryz.underlying71, sls]
theorem lenN71 {H : Nat → Option VObj} : vlen Tryz.prog H 71 (.lit (.slice none 0 0)) = some (.lit (.int .i64 0)) := by simp [vlen, Tryz.underlying71, sls]
theorem lenR71 {H : Nat → Option VObj} {β off n w c : Nat} : vlen Tryz.prog H 71 (.ref β off n w c) = (match H β with | some (.cells _ cs) => if off ≤ cs.length then some (.lit (.int .i64 n)) else none | _ => none) := lenR Tryz.underlying71
theorem I0 : appOk Tryz.prog 71 = some (22, 1, 24) := by kernel_rfl
theorem dk {xs : List (List Int)} {x : (List Int)} {i : Int} (h : getI xs i = some x) : (∀ (H : Nat → Option VObj) (β c : Nat) (k : IntKind), aE Tryz.prog H 71 (.ref β 0 xs.length 1 c) (.lit (.int k i)) = if (H β).isSome = true then some (.ptr β (i.toNat * 1)) else none) ∧ (ae (eSl eI) xs).drop (i.toNat * 1) = (eSl eI) x ++ ae (eSl eI) (xs.drop (i.toNat + 1)) ∧ (i.toNat * 1 ≤ (ae (eSl eI) xs).length) = True := ixO Tryz.underlying71 (by kernel_rfl : szT Tryz.prog 22 = some 1) (fun _ => rfl) h
theorem I1 {c0 c1 c2 c3 c4 : VV} {cs : List VV} : vload Tryz.prog 92 (c0 :: c1 :: c2 :: c3 :: c4 :: cs) = some (.agg [c0, c1, c2, c3, c4]) := by
 have h1 : aggT Tryz.prog 92 = some true := by kernel_rfl
 have h2 : szT Tryz.prog 92 = some 5 := by kernel_rfl
 simp [vload, vpart, h1, h2]
theorem I2 : szT Tryz.prog 92 = some 5 := by kernel_rfl
theorem rj : vzl Tryz.prog 92 = some [.lit (.int .i64 0), .lit (.slice none 0 0), .lit (.slice none 0 0), .lit (.slice none 0 0), .lit (.map none)] := by kernel_rfl
theorem I8 {H : Nat → Option VObj} {β o : Nat} : an Tryz.prog H 92 (.ptr β o) 0 = if (H β).isSome = true then some (.ptr β (o + 0)) else none := by
 have h2 : szT Tryz.prog 25 = some 3 := by kernel_rfl
 simp [an, Tryz.underlying92, h2]
theorem IC {H : Nat → Option VObj} {β o : Nat} : an Tryz.prog H 92 (.ptr β o) 1 = if (H β).isSome = true then some (.ptr β (o + 3)) else none := by
 have h2 : szT Tryz.prog 22 = some 1 := by kernel_rfl
 simp [an, Tryz.underlying92, h2]
theorem ID {H : Nat → Option VObj} {β o : Nat} : an Tryz.prog H 92 (.ptr β o) 2 = if (H β).isSome = true then some (.ptr β (o + 4)) else none := by
 have h2 : szT Tryz.prog 90 = some 1 := by kernel_rfl
 simp [an, Tryz.underlying92, h2]
theorem yR : szT Tryz.prog 124 = some 1 := by kernel_rfl
theorem na : vzl Tryz.prog 124 = some [.lit (.slice none 0 0)] := by kernel_rfl
theorem IE {H : Nat → Option VObj} {β o : Nat} : an Tryz.prog H 124 (.ptr β o) 0 = if (H β).isSome = true then some (.ptr β (o + 0)) else none := by
 have h2 : szT Tryz.prog 22 = some 1 := by kernel_rfl
 simp [an, Tryz.underlying124, h2]
theorem yS {c0 c1 : VV} {cs : List VV} : vload Tryz.prog 152 (c0 :: c1 :: cs) = some (.agg [c0, c1]) := by
 have h1 : aggT Tryz.prog 152 = some true := by kernel_rfl
 have h2 : szT Tryz.prog 152 = some 2 := by kernel_rfl
 simp [vload, vpart, h1, h2]
theorem yT : szT Tryz.prog 152 = some 2 := by kernel_rfl
theorem nc : vzl Tryz.prog 152 = some [.lit (.int .i64 0), .lit (.int .i64 0)] := by kernel_rfl
theorem yU : szT Tryz.prog 27 = some 1 := by kernel_rfl
theorem yV {c : VV} {cs : List VV} : vload Tryz.prog 27 (c :: cs) = some c := by
 have h1 : aggT Tryz.prog 27 = some false := by kernel_rfl
 simp [vload, vpart, h1]
theorem rk : vzl Tryz.prog 27 = some [.lit .nilFunc] := by kernel_rfl
theorem yW {c : VV} {cs : List VV} : vload Tryz.prog 47 (c :: cs) = some c := by
 have h1 : aggT Tryz.prog 47 = some false := by kernel_rfl
 simp [vload, vpart, h1]
theorem yX {c : VV} {cs : List VV} : vload Tryz.prog 129 (c :: cs) = some c := by
 have h1 : aggT Tryz.prog 129 = some false := by kernel_rfl
 simp [vload, vpart, h1]
theorem yY {c : VV} {cs : List VV} : vload Tryz.prog 130 (c :: cs) = some c := by
 have h1 : aggT Tryz.prog 130 = some false := by kernel_rfl
 simp [vload, vpart, h1]
theorem yZ {c : VV} {cs : List VV} : vload Tryz.prog 153 (c :: cs) = some c := by
 have h1 : aggT Tryz.prog 153 = some false := by kernel_rfl
 simp [vload, vpart, h1]
theorem za : szT Tryz.prog 154 = some 2 := by kernel_rfl
theorem nf : vzl Tryz.prog 154 = some [.lit .nilFunc, .lit .nilFunc] := by kernel_rfl
theorem IF {H : Nat → Option VObj} {β o : Nat} {k : IntKind} : aE Tryz.prog H 154 (.ptr β o) (.lit (.int k 0)) = if (H β).isSome = true then some (.ptr β (o + 0)) else none := by
 have h2 : szT Tryz.prog 153 = some 1 := by kernel_rfl
 simp [aE, Tryz.underlying154, h2]
theorem IG {H : Nat → Option VObj} {β o : Nat} {k : IntKind} : aE Tryz.prog H 154 (.ptr β o) (.lit (.int k 1)) = if (H β).isSome = true then some (.ptr β (o + 1)) else none := by
 have h2 : szT Tryz.prog 153 = some 1 := by kernel_rfl
 simp [aE, Tryz.underlying154, h2]
theorem IH : vbuild Tryz.prog 35 [] = some (.agg [.lit (.int .i64 0), .lit (.int .i64 0)]) := by
 rw [vV mZ (by kernel_rfl)]
 rfl
theorem II {cZ eE : VV} (h : leafL [cZ, eE] = true) : vbuild Tryz.prog 35 [(0, cZ), (1, eE)] = some (.agg [cZ, eE]) := by
 have p0 : placeT Tryz.prog 35 0 = some (0, 1) := by kernel_rfl
 have p1 : placeT Tryz.prog 35 1 = some (1, 1) := by kernel_rfl
 simp only [ln, ll, Bool.and_true, Bool.and_eq_true] at h
 rw [vV mZ (by kernel_rfl)]
 simp [vfill, p0, p1, vcells1, h, overwrite]
theorem IJ {cZ ng nh eE sW : VV} (h : leafL [cZ, ng, nh, eE, sW] = true) : vbuild Tryz.prog 92 [(0, .agg [cZ, ng, nh]), (1, eE), (2, sW)] = some (.agg [cZ, ng, nh, eE, sW]) := by
 have p0 : placeT Tryz.prog 92 0 = some (0, 3) := by kernel_rfl
 have p1 : placeT Tryz.prog 92 1 = some (3, 1) := by kernel_rfl
 have p2 : placeT Tryz.prog 92 2 = some (4, 1) := by kernel_rfl
 simp only [ln, ll, Bool.and_true, Bool.and_eq_true] at h
 have q0 : aW (.agg [cZ, ng, nh]) = some [cZ, ng, nh] := by rw [QG]; simp [ln, ll, h]
 rw [vV rj (by kernel_rfl)]
 simp [vfill, p0, p1, p2, vcells1, h, overwrite, q0]
theorem IK {cZ : VV} (h : leafL [cZ] = true) : vbuild Tryz.prog 124 [(0, cZ)] = some (.agg [cZ]) := by
 have p0 : placeT Tryz.prog 124 0 = some (0, 1) := by kernel_rfl
 simp only [ln, ll, Bool.and_true, Bool.and_eq_true] at h
 rw [vV na (by kernel_rfl)]
 simp [vfill, p0, vcells1, h, overwrite]
theorem IL {cZ eE : VV} (h : leafL [cZ, eE] = true) : vbuild Tryz.prog 152 [(0, cZ), (1, eE)] = some (.agg [cZ, eE]) := by
 have p0 : placeT Tryz.prog 152 0 = some (0, 1) := by kernel_rfl
 have p1 : placeT Tryz.prog 152 1 = some (1, 1) := by kernel_rfl
 simp only [ln, ll, Bool.and_true, Bool.and_eq_true] at h
 rw [vV nc (by kernel_rfl)]
 simp [vfill, p0, p1, vcells1, h, overwrite]
theorem IM {cZ eE : VV} (h : leafL [cZ, eE] = true) : vbuild Tryz.prog 154 [(0, cZ), (1, eE)] = some (.agg [cZ, eE]) := by
 have p0 : placeT Tryz.prog 154 0 = some (0, 1) := by kernel_rfl
 have p1 : placeT Tryz.prog 154 1 = some (1, 1) := by kernel_rfl
 simp only [ln, ll, Bool.and_true, Bool.and_eq_true] at h
 rw [vV nf (by kernel_rfl)]
 simp [vfill, p0, p1, vcells1, h, overwrite]
theorem zb {x : VV} : mkIfcV Tryz.prog 124 x = some (.ifc 124 x) := by simp [mkIfcV, Tryz.underlying124]
theorem zc : ((Tryz.prog.info? 124).bind (·.zero)).map (fun z => VV.tup [ofVal2 z, .lit (.bool false)]) = some (.tup [.agg [.lit (.slice none 0 0)], .lit (.bool false)]) := by kernel_rfl
theorem zd : vtypeAssert Tryz.prog (.lit .nilIface) 124 true = some (.tup [.agg [.lit (.slice none 0 0)], .lit (.bool false)]) := by
 simp only [vtypeAssert, Tryz.underlying124, if_true]
 exact zc
theorem ze {x : VV} : vtypeAssert Tryz.prog (.ifc 124 x) 124 true = some (.tup [x, .lit (.bool true)]) := by
 simp [vtypeAssert, Tryz.underlying124]
theorem UL {H : Nat → Option VObj} {x y : Operand} {a b : Bool} : binV Tryz.prog H .eql 4 x y (.lit (.bool a)) (.lit (.bool b)) = some (.lit (.bool (a == b))) := IN Tryz.underlying4
theorem UM {H : Nat → Option VObj} {x y : Operand} {a b : Bool} : binV Tryz.prog H .neq 4 x y (.lit (.bool a)) (.lit (.bool b)) = some (.lit (.bool (a != b))) := IP Tryz.underlying4
theorem IQ {H : Nat → Option VObj} {x y : Operand} {a0 b0 : Int} {a1 b1 : Int} : binV Tryz.prog H .eql 35 x y (.agg [.lit (.int .i64 a0), .lit (.int .i64 a1)]) (.agg [.lit (.int .i64 b0), .lit (.int .i64 b1)]) = some (.lit (.bool (a0 == b0 && (a1 == b1)))) ∧ binV Tryz.prog H .neq 35 x y (.agg [.lit (.int .i64 a0), .lit (.int .i64 a1)]) (.agg [.lit (.int .i64 b0), .lit (.int .i64 b1)]) = some (.lit (.bool (!(a0 == b0 && (a1 == b1))))) := by
 refine binS (xs := [.int .i64 a0, .int .i64 a1]) (ys := [.int .i64 b0, .int .i64 b1]) (by simp [VV.val?, valL?]) (by simp [VV.val?, valL?]) Tryz.underlying35 (by kernel_rfl) (by kernel_rfl) ?_
 simp [eqF, ni, eq1, Tryz.underlying3]
theorem IS {H : Nat → Option VObj} {x y : Operand} {a0 b0 : Int} {a1 b1 : Int} : binV Tryz.prog H .neq 35 x y (.agg [.lit (.int .i64 a0), .lit (.int .i64 a1)]) (.agg [.lit (.int .i64 b0), .lit (.int .i64 b1)]) = some (.lit (.bool (!(a0 == b0 && (a1 == b1))))) := IQ.2
theorem IT : (VV.lit Value.nilFunc).leaf = true := rfl
theorem IU : (VV.lit Value.nilIface).leaf = true := rfl
def tyf := (And.intro (And.intro (And.intro (And.intro (And.intro (And.intro @sV (And.intro @vU @QF)) (And.intro @UF (And.intro @UG @UH))) (And.intro (And.intro @UI (And.intro @UJ @UK)) (And.intro (And.intro @HN @HO) (And.intro @HP @yJ)))) (And.intro (And.intro (And.intro @yK (And.intro @lenN22 @lenR22)) (And.intro (And.intro @dE @HQ) (And.intro @HR @HS))) (And.intro (And.intro @HT (And.intro @HU @yL)) (And.intro (And.intro @lenN23 @lenR23) (And.intro @mJ @HV))))) (And.intro (And.intro (And.intro (And.intro @HW (And.intro @yM @HX)) (And.intro @HY (And.intro @HZ @Ia))) (And.intro (And.intro @Ib (And.intro @yN @lenN31)) (And.intro (And.intro @lenR31 @pd) (And.intro @Ic @Ie)))) (And.intro (And.intro (And.intro @Ih (And.intro @Ii @mZ)) (And.intro (And.intro @Ij @Ik) (And.intro @Il @Im))) (And.intro (And.intro @Io (And.intro @Ip @yO)) (And.intro (And.intro @Iq @Ir) (And.intro @Is @It)))))) (And.intro (And.intro (And.intro (And.intro (And.intro @Iu (And.intro @Iv @Iw)) (And.intro @yP (And.intro @lenN51 @lenR51))) (And.intro (And.intro @Ix (And.intro @Iy @Iz)) (And.intro (And.intro @yQ @lenN71) (And.intro @lenR71 @I1)))) (And.intro (And.intro (And.intro @I2 (And.intro @rj @I8)) (And.intro (And.intro @IC @ID) (And.intro @yR @na))) (And.intro (And.intro @IE (And.intro @yS @yT)) (And.intro (And.intro @nc @yU) (And.intro @yV @rk))))) (And.intro (And.intro (And.intro (And.intro @yW (And.intro @yX @yY)) (And.intro (And.intro @yZ @za) (And.intro @nf @IF))) (And.intro (And.intro @IG (And.intro @IH @II)) (And.intro (And.intro @IJ @IK) (And.intro @IL @IM)))) (And.intro (And.intro (And.intro @zb (And.intro @zd @ze)) (And.intro (And.intro @UL @UM) (And.intro @IS @IT))) (And.intro (And.intro @IU (And.intro @UN @eI_eq)) (And.intro (And.intro @pK @eB_eq) (And.intro @eS_eq @pL)))))))
def aG := (And.intro @oF.normL (And.intro @oF.showL @wV.normL))
def aK := (And.intro @oF.tree (And.intro @oF.treeL @wV.treeL))
end Go.V
namespace Go.V
open Go Go.Proofs IntKind
theorem ktA {P : Program} {G : Glob} {d : Option Tmp} {γ : Nat} {tm : Nat → VV} {H : Nat → Option VObj} {nx : Nat} {df : List VDef} {K : St → Prop} {Qp : VV → St → Prop} {f : FuncId} {args args0 : List VV} {x : VV} (hp : al P G f args0 (.tree x)) (h : fin d γ tm H nx df K x .none) (hn : normL args = args0 := by first | (simp only [nrm, aG] <;> rfl) | rfl) (ht : treeL args = true := by simp only [tre, aK, Bool.and_self]) : callK P G f args ⟨tm, H, nx, df⟩ d γ K Qp := ktree hn ht hp h
theorem dktA {P : Program} {G : Glob} {d : Option Tmp} {γ : Nat} {tm : Nat → VV} {H : Nat → Option VObj} {nx : Nat} {df : List VDef} {K : List Nat → List Nat → St → Prop} {f : FuncId} {args args0 : List VV} {x : VV} (hp : al P G f args0 (.tree x)) (h : fin d γ tm H nx df (K [] []) x .none) (hn : normL args = args0 := by first | (simp only [nrm, aG] <;> rfl) | rfl) (ht : treeL args = true := by simp only [tre, aK, Bool.and_self]) : dcallK P G f args tm H nx df d γ K := dktree hn ht hp h
theorem optI {α β : Type} {K : Option β → Prop} {X : Option α} {F : α → Option β} (h : K (Option.bind X F)) (kN : ¬ K none) : ∃ r, X = some r ∧ K (F r) := by
  cases X with
  | none => exact absurd h kN
  | some r => exact ⟨r, rfl, h⟩
end Go.V
end
section
namespace Go.V
open Go Go.Proofs IntKind
def Dec (P : Program) (n : Nat) (t : TypeId) {α : Type} (enc : α → List VV) (R : α → Prop) : Prop := ∀ xs, ShapeT P n t xs → ∃ x : α, R x ∧ normL xs = enc x
theorem IV {P : Program} {n : Nat} {t : TypeId} (hu : P.underlying t = some (.int .i64)) : Dec P (n + 1) t eI (fun _ => True) := by
 intro xs h
 simp only [ShapeT, hu] at h
 obtain ⟨i, _, rfl⟩ := h
 exact ⟨i, trivial, by simp only [sX, sY, QH, eI]⟩
theorem IW {P : Program} {n : Nat} {t : TypeId} (hu : P.underlying t = some .bool) : Dec P (n + 1) t eB (fun _ => True) := by
 intro xs h
 simp only [ShapeT, hu] at h
 obtain ⟨b, rfl⟩ := h
 exact ⟨b, trivial, by simp only [sX, sY, IX, eB]⟩
theorem zf {P : Program} {n : Nat} {t : TypeId} {α : Type} {enc : α → List VV} {R : α → Prop} (h : Dec P n t enc R) : ∀ yss : List (List VV), (∀ ys ∈ yss, ShapeT P n t ys) → ∃ l : List α, l.length = yss.length ∧ (∀ x ∈ l, R x) ∧ normL yss.flatten = ae enc l
 | [], _ => ⟨[], rfl, fun _ hx => (by cases hx), rfl⟩
 | ys :: yss, hs => by
  obtain ⟨x, hx, e⟩ := h ys (hs ys (List.mem_cons_self ..))
  obtain ⟨l, h1, h2, h3⟩ := zf h yss (fun y hy => hs y (List.mem_cons_of_mem _ hy))
  refine ⟨x :: l, by simp [h1], fun y hy => ?_, by rw [List.flatten_cons, vW, e, h3, fP]⟩
  rcases List.mem_cons.1 hy with rfl | hy
  ·exact hx
  ·exact h2 y hy
theorem QI {P : Program} {n : Nat} {t e : TypeId} {α : Type} {enc : α → List VV} {R : α → Prop} (hu : P.underlying t = some (.slice e)) (h : Dec P n e enc R) : Dec P (n + 1) t (fun l : List α => [.sl (ae enc l) l.length false]) (fun l => aF l = true ∧ ∀ x ∈ l, R x) := by
 intro xs hs
 simp only [ShapeT, hu] at hs
 rcases hs with rfl | ⟨yss, hl, hall, rfl⟩
 ·exact ⟨[], ⟨rfl, fun _ hx => (by cases hx)⟩, by simp only [sX, sY, QJ]; rfl⟩
 ·obtain ⟨l, h1, h2, h3⟩ := zf h yss hall
  refine ⟨l, ⟨?_, h2⟩, by simp only [sX, sY, zg, h3, h1]⟩
  have : maxLen = 9223372036854775807 := by decide
  unfold aF
  exact decide_eq_true (by omega)
theorem IY {P : Program} {n : Nat} {t : TypeId} {fs : Array Field} {xs : List VV} (hu : P.underlying t = some (.struct fs)) (h : ShapeT P (n + 1) t xs) : ∃ yss, FieldsS (ShapeT P n) fs.toList yss ∧ xs = yss.flatten := by
 simp only [ShapeT, hu] at h
 exact h
def TypesS (S : TypeId → List VV → Prop) : List TypeId → List (List VV) → Prop
 | [], [] => True
 | t :: ts, ys :: yss => S t ys ∧ TypesS S ts yss
 | _, _ => False
theorem zh {S : TypeId → List VV → Prop} : ∀ (fs : List Field) (yss : List (List VV)), FieldsS S fs yss → TypesS S (fs.map Field.type) yss
 | [], [], _ => trivial
 | f :: fs, ys :: yss, ⟨h1, h2⟩ => ⟨h1, zh fs yss h2⟩
 | [], _ :: _, h => h
 | _ :: _, [], h => h
theorem IZ {P : Program} {n : Nat} {t : TypeId} {fs : Array Field} {ts : List TypeId} {xs : List VV} (hu : P.underlying t = some (.struct fs)) (ht : fs.toList.map Field.type = ts) (h : ShapeT P (n + 1) t xs) : ∃ yss, TypesS (ShapeT P n) ts yss ∧ xs = yss.flatten := by
 obtain ⟨yss, h1, h2⟩ := IY hu h
 exact ⟨yss, ht ▸ zh _ _ h1, h2⟩
theorem C8 {P : Program} {n : Nat} {t : TypeId} {ts : List TypeId} {xs : List VV} (h : ArgsS P n (t :: ts) xs) : ∃ x xs', xs = x :: xs' ∧ ArgS P n t x ∧ ArgsS P n ts xs' := by
 match xs, h with
 | x :: xs', h => exact ⟨x, xs', rfl, h.1, h.2⟩
theorem Ja {P : Program} {n : Nat} {xs : List VV} (h : ArgsS P n [] xs) : xs = [] := by
 match xs, h with
 | [], _ => rfl
theorem Jb {P : Program} {n : Nat} {t : TypeId} {fs : Array Field} {x : VV} {α : Type} {enc : α → List VV} {R : α → Prop} (hu : P.underlying t = some (.struct fs)) (hd : Dec P n t enc R) (h : ArgS P n t x) : ∃ s, R s ∧ normV x = .agg (enc s) := by
 obtain ⟨ys, h1, h2⟩ := h
 rw [hu] at h2
 obtain rfl : x = .agg ys := h2
 obtain ⟨s, hs, e⟩ := hd ys h1
 exact ⟨s, hs, by rw [QK, e]⟩
theorem Jc {P : Program} {n : Nat} {t : TypeId} {d : TypeDesc} {x : VV} {α : Type} {enc : α → List VV} {R : α → Prop} (hu : P.underlying t = some d) (hn : (∀ fs, d ≠ .struct fs) ∧ ∀ m e, d ≠ .array m e) (hd : Dec P n t enc R) (h : ArgS P n t x) : ∃ s, R s ∧ [normV x] = enc s := by
 obtain ⟨ys, h1, h2⟩ := h
 rw [hu] at h2
 have h3 : ys = [x] := by
  cases d <;> first | exact h2 | exact absurd rfl (hn.1 _) | exact absurd rfl (hn.2 _ _)
 subst h3
 obtain ⟨s, hs, e⟩ := hd _ h1
 exact ⟨s, hs, by rw [← e, sX, sY]⟩
end Go.V
end
section
set_option maxRecDepth 100000
namespace Go.V
open Go Go.Proofs IntKind
def Jd (x : GBs) : Prop := aF x.Needs = true
def QL (x : GBk) : Prop := aF x.Boards = true ∧ aF x.Strokes = true ∧ ∀ y ∈ x.Strokes, Jd y
section
variable {P : Program} (j0 : P.underlying 3 = some (.int .i64)) (fu : P.underlying 22 = some (.slice 3)) (lJ : P.underlying 4 = some (.bool)) {QM : Array Field} (fv : P.underlying 35 = some (.struct QM)) (fw : QM.toList.map Field.type = [3, 3]) {QN : Array Field} (fx : P.underlying 49 = some (.struct QN)) (fy : QN.toList.map Field.type = [3, 4, 35, 22]) (fz : P.underlying 23 = some (.slice 49)) {QO : Array Field} (fA : P.underlying 25 = some (.struct QO)) (fB : QO.toList.map Field.type = [3, 22, 23])
include j0 fu lJ fv fw fx fy fz fA fB
theorem gd_3 {n : Nat} : Dec P (n + 1) 3 eI (fun _ => True) := IV j0
theorem gd_22 {n : Nat} : Dec P (n + 2) 22 (eSl eI) (fun l => aF l = true ∧ ∀ x ∈ l, True) := QI fu (gd_3 j0 fu lJ fv fw fx fy fz fA fB (n := n))
theorem gd_4 {n : Nat} : Dec P (n + 1) 4 eB (fun _ => True) := IW lJ
theorem gd_35 {n : Nat} : Dec P (n + 2) 35 cGSpan (fun _ => True) := by
 intro xs h
 obtain ⟨yss, hf, rfl⟩ := IZ (n := n + 1) (ts := [3, 3]) fv fw h
 match yss, hf with
 | [y0, y1], ⟨h0, h1, _⟩ =>
  obtain ⟨x0, r0, e0⟩ := gd_3 j0 fu lJ fv fw fx fy fz fA fB (n := n + 0) _ h0
  obtain ⟨x1, r1, e1⟩ := gd_3 j0 fu lJ fv fw fx fy fz fA fB (n := n + 0) _ h1
  exact ⟨⟨x0, x1⟩, trivial, by simp only [List.flatten_cons, List.flatten_nil, List.append_nil, vW, e0, e1, eI, rl, eB, eS, eSl, sV, List.cons_append, List.nil_append]⟩
theorem gd_49 {n : Nat} : Dec P (n + 3) 49 cGBs (Jd) := by
 intro xs h
 obtain ⟨yss, hf, rfl⟩ := IZ (n := n + 2) (ts := [3, 4, 35, 22]) fx fy h
 match yss, hf with
 | [y0, y1, y2, y3], ⟨h0, h1, h2, h3, _⟩ =>
  obtain ⟨x0, r0, e0⟩ := gd_3 j0 fu lJ fv fw fx fy fz fA fB (n := n + 1) _ h0
  obtain ⟨x1, r1, e1⟩ := gd_4 j0 fu lJ fv fw fx fy fz fA fB (n := n + 1) _ h1
  obtain ⟨x2, r2, e2⟩ := gd_35 j0 fu lJ fv fw fx fy fz fA fB (n := n + 0) _ h2
  obtain ⟨x3, r3, e3⟩ := gd_22 j0 fu lJ fv fw fx fy fz fA fB (n := n + 0) _ h3
  exact ⟨⟨x0, x1, x2, x3⟩, r3.1, by simp only [List.flatten_cons, List.flatten_nil, List.append_nil, vW, e0, e1, e2, e3, eI, rl, eB, eS, eSl, vU, sV, List.cons_append, List.nil_append]⟩
theorem gd_23 {n : Nat} : Dec P (n + 4) 23 (eSl cGBs) (fun l => aF l = true ∧ ∀ x ∈ l, Jd x) := QI fz (gd_49 j0 fu lJ fv fw fx fy fz fA fB (n := n))
theorem gd_25 {n : Nat} : Dec P (n + 5) 25 cGBk (QL) := by
 intro xs h
 obtain ⟨yss, hf, rfl⟩ := IZ (n := n + 4) (ts := [3, 22, 23]) fA fB h
 match yss, hf with
 | [y0, y1, y2], ⟨h0, h1, h2, _⟩ =>
  obtain ⟨x0, r0, e0⟩ := gd_3 j0 fu lJ fv fw fx fy fz fA fB (n := n + 3) _ h0
  obtain ⟨x1, r1, e1⟩ := gd_22 j0 fu lJ fv fw fx fy fz fA fB (n := n + 2) _ h1
  obtain ⟨x2, r2, e2⟩ := gd_23 j0 fu lJ fv fw fx fy fz fA fB (n := n + 0) _ h2
  exact ⟨⟨x0, x1, x2⟩, ⟨r1.1, r2.1, r2.2⟩, by simp only [List.flatten_cons, List.flatten_nil, List.append_nil, vW, e0, e1, e2, eI, rl, eB, eS, eSl, QF, List.cons_append, List.nil_append]⟩
end
theorem dec_3 {n : Nat} : Dec Tryz.prog (n + 1) 3 eI (fun _ => True) := gd_3 Tryz.underlying3 Tryz.underlying22 Tryz.underlying4 Tryz.underlying35 (by kernel_rfl) Tryz.underlying49 (by kernel_rfl) Tryz.underlying23 Tryz.underlying25 (by kernel_rfl)
theorem zi {n : Nat} : Dec Tryz.prog (n + 2) 22 (eSl eI) (fun l => aF l = true ∧ ∀ x ∈ l, True) := gd_22 Tryz.underlying3 Tryz.underlying22 Tryz.underlying4 Tryz.underlying35 (by kernel_rfl) Tryz.underlying49 (by kernel_rfl) Tryz.underlying23 Tryz.underlying25 (by kernel_rfl)
theorem Je {n : Nat} : Dec Tryz.prog (n + 5) 25 cGBk (QL) := gd_25 Tryz.underlying3 Tryz.underlying22 Tryz.underlying4 Tryz.underlying35 (by kernel_rfl) Tryz.underlying49 (by kernel_rfl) Tryz.underlying23 Tryz.underlying25 (by kernel_rfl)
end Go.V
end
section
namespace Go.V
open Go Go.Proofs IntKind
def goB (b : Bool) : Option (LOut Bool Unit) := cond b (some (.go ())) (some (.ret false))
theorem sZ (a b : Bool) : goB (a && b) = cond a (goB b) (some (.ret false)) := by cases a <;> rfl
theorem csome (a b : Bool) : cond a (some b) (some false) = some (a && b) := by cases a <;> rfl
theorem rn {X : Type} (b : Bool) (kr : Bool → Option X) (kg : Unit → Option X) (kb : Nat → Unit → Option X) : aT (goB b) kr kg kb = cond b (kg ()) (kr false) := by cases b <;> rfl
def inB (a b n : Int) : Bool := decide (a ≤ n) && decide (n ≤ b)
theorem my {a b n : Int} : inB a b n = true ↔ a ≤ n ∧ n ≤ b := by simp [inB]
theorem gy {n : Int} (h1 : -9223372036854775808 ≤ n) (h2 : n < 9223372036854775808) : i64.wrap n = n := IntWalk.i64_in _ (by omega)
theorem Cb {α : Type} {xs : List α} (h : aF xs = true) : xs.length < 9223372036854775808 := by simpa [aF] using h
theorem fU {α : Type} {xs : List α} (h : xs.length < 9223372036854775808) : aF xs = true := by simpa [aF] using h
theorem Jf {α : Type} {xs : List α} {i : Int} {x : α} (h : getI xs i = some x) : x ∈ xs := by
 unfold getI at h
 split at h
 ·exact List.mem_of_getElem? h
 ·cases h
theorem ta {α : Type} {xs : List α} {i : Int} {x : α} (h : getI xs i = some x) : 0 ≤ i ∧ i < xs.length := ⟨(pf h).1, (pf h).2.1⟩
theorem Jg {α : Type} {xs : List α} (h : 1 ≤ xs.length) (h2 : xs.length < 9223372036854775808) : getI xs (i64.wrap ((xs.length : Int) - 1)) = xs.getLast? := by
 rw [gy (by omega) (by omega)]
 unfold getI
 rw [if_pos (by omega), List.getLast?_eq_getElem?]
 congr 1
 omega
end Go.V
end
section
namespace Go.V
def mxL (l : List Int) : Int := l.foldl max 0
theorem QP : ∀ (l : List Int) (a b : Int), l.foldl max a ≤ b ↔ a ≤ b ∧ ∀ x ∈ l, x ≤ b
 | [], a, b => by simp
 | x :: l, a, b => by
  simp only [List.foldl_cons, QP l, List.mem_cons, forall_eq_or_imp]
  constructor
  ·rintro ⟨h1, h2⟩; exact ⟨by omega, by omega, h2⟩
  ·rintro ⟨h1, h2, h3⟩; exact ⟨by omega, h3⟩
theorem tc {l : List Int} {b : Int} : mxL l ≤ b ↔ 0 ≤ b ∧ ∀ x ∈ l, x ≤ b := QP l 0 b
theorem Jh (l : List Int) : 0 ≤ mxL l := (tc.1 (Int.le_refl _)).1
theorem Ji {l : List Int} {x : Int} (h : x ∈ l) : x ≤ mxL l := (tc.1 (Int.le_refl _)).2 x h
theorem zj : ∀ (l : List Int) (a : Int), l.foldl max a = a ∨ l.foldl max a ∈ l
 | [], a => .inl rfl
 | x :: l, a => by
  simp only [List.foldl_cons, List.mem_cons]
  rcases zj l (max a x) with h | h
  ·rw [h]
   rcases Int.le_total a x with h1 | h1
   ·rw [Int.max_eq_right h1]; exact .inr (.inl rfl)
   ·rw [Int.max_eq_left h1]; exact .inl rfl
  ·exact .inr (.inr h)
theorem Jj (l : List Int) : mxL l = 0 ∨ mxL l ∈ l := zj l 0
def frF (hd : Nat → Int) (e : Nat → Int) (h : Int) : Nat → Int
 | 0 => 0
 | k + 1 => if hd k = h then e k else frF hd e h k
theorem QQ {hd : Nat → Int} {e e' : Nat → Int} {h : Int} : ∀ {n : Nat}, (∀ k, k < n → e k = e' k) → frF hd e h n = frF hd e' h n
 | 0, _ => rfl
 | n + 1, hk => by
  unfold frF
  rw [hk n (Nat.lt_succ_self _), QQ (fun k h => hk k (Nat.lt_succ_of_lt h))]
theorem zk {hd : Nat → Int} {e : Nat → Int} {h b : Int} (hb : 0 ≤ b) : ∀ {n : Nat}, (∀ k, k < n → hd k = h → e k ≤ b) → frF hd e h n ≤ b
 | 0, _ => hb
 | n + 1, hk => by
  unfold frF
  split
  ·rename_i hh; exact hk n (Nat.lt_succ_self _) hh
  ·exact zk hb (fun k h1 h2 => hk k (Nat.lt_succ_of_lt h1) h2)
def bgF (hd : Nat → Int) (nd : Nat → List Int) (e : Nat → Int) (s : Nat) : Int := max (max 0 (frF hd e (hd s) s)) (mxL ((nd s).map fun k => e k.toNat))
def En (hd : Nat → Int) (nd : Nat → List Int) (d : Nat → Int) : Nat → Nat → Int
 | 0, _ => 0
 | f + 1, s => bgF hd nd (En hd nd d f) s + d s
def NdOk (nd : Nat → List Int) : Prop := ∀ s, ∀ k ∈ nd s, 0 ≤ k ∧ k.toNat < s
theorem QR {hd : Nat → Int} {nd : Nat → List Int} {e e' : Nat → Int} {s : Nat} (hn : NdOk nd) (h : ∀ k, k < s → e k = e' k) : bgF hd nd e s = bgF hd nd e' s := by
 unfold bgF
 rw [QQ h]
 congr 2
 exact List.map_congr_left fun k hk => h _ (hn s k hk).2
theorem zl {hd : Nat → Int} {nd : Nat → List Int} {d : Nat → Int} (hn : NdOk nd) : ∀ (f g s : Nat), s < f → s < g → En hd nd d f s = En hd nd d g s
 | 0, _, _, h, _ => absurd h (Nat.not_lt_zero _)
 | _ + 1, 0, _, _, h => absurd h (Nat.not_lt_zero _)
 | f + 1, g + 1, s, h1, h2 => by
  unfold En
  rw [QR hn (e' := En hd nd d g) (fun k hk => zl hn f g k (by omega) (by omega))]
def Ed (hd : Nat → Int) (nd : Nat → List Int) (d : Nat → Int) (s : Nat) : Int := En hd nd d (s + 1) s
def Bg (hd : Nat → Int) (nd : Nat → List Int) (d : Nat → Int) (s : Nat) : Int := bgF hd nd (Ed hd nd d) s
theorem Ed_eq {hd : Nat → Int} {nd : Nat → List Int} {d : Nat → Int} (hn : NdOk nd) (s : Nat) : Ed hd nd d s = Bg hd nd d s + d s := by
 show bgF hd nd (En hd nd d s) s + d s = _
 rw [QR hn (e' := Ed hd nd d) (fun k hk => zl hn s (k + 1) k hk (Nat.lt_succ_self _))]
 rfl
theorem Jk (hd : Nat → Int) (nd : Nat → List Int) (e : Nat → Int) (s : Nat) : 0 ≤ bgF hd nd e s := by
 have := Jh ((nd s).map fun k => e k.toNat)
 unfold bgF
 omega
section
variable {hd : Nat → Int} {nd : Nat → List Int} {d d' : Nat → Int}
theorem Bg_nn (s : Nat) : 0 ≤ Bg hd nd d s := Jk _ _ _ _
theorem Ed_nn (hn : NdOk nd) (h : ∀ k, 0 ≤ d k) (s : Nat) : 0 ≤ Ed hd nd d s := by
 rw [Ed_eq hn]
 have := Bg_nn (hd := hd) (nd := nd) (d := d) s
 have := h s
 omega
theorem zm (hn : NdOk nd) {s : Nat} {k : Int} (hk : k ∈ nd s) : Ed hd nd d k.toNat ≤ Bg hd nd d s := by
 have := Ji (List.mem_map_of_mem (f := fun k : Int => Ed hd nd d k.toNat) hk)
 unfold Bg bgF
 omega
theorem zn (s : Nat) : frF hd (Ed hd nd d) (hd s) s ≤ Bg hd nd d s := by
 unfold Bg bgF
 omega
theorem td (hn : NdOk nd) (h0 : ∀ k, 0 ≤ d k) {h : Int} : ∀ {n k : Nat}, k < n → hd k = h → Ed hd nd d k ≤ frF hd (Ed hd nd d) h n
 | 0, _, hk, _ => absurd hk (Nat.not_lt_zero _)
 | n + 1, k, hk, hh => by
  unfold frF
  split
  ·rename_i hn'
   rcases Nat.lt_or_ge k n with h1 | h1
   ·have h2 := td hn h0 h1 hh
    have h3 := zn (hd := hd) (nd := nd) (d := d) n
    rw [hn'] at h3
    rw [Ed_eq hn n]
    have := h0 n
    omega
   ·have : k = n := by omega
    subst this
    exact Int.le_refl _
  ·rename_i hn'
   have : k ≠ n := by rintro rfl; exact hn' hh
   exact td hn h0 (by omega) hh
theorem te (hn : NdOk nd) (h0 : ∀ k, 0 ≤ d k) {k s : Nat} (hk : k < s) (hh : hd k = hd s) : Ed hd nd d k ≤ Bg hd nd d s := Int.le_trans (td hn h0 hk hh) (zn s)
theorem zo (hn : NdOk nd) {s : Nat} {b : Int} (hb : 0 ≤ b) (h1 : ∀ k, k < s → hd k = hd s → Ed hd nd d k ≤ b) (h2 : ∀ k ∈ nd s, Ed hd nd d k.toNat ≤ b) : Bg hd nd d s ≤ b := by
 have h3 := zk (hd := hd) (e := Ed hd nd d) (h := hd s) (n := s) hb h1
 have h4 : mxL ((nd s).map fun k => Ed hd nd d k.toNat) ≤ b := by
  refine tc.2 ⟨hb, ?_⟩
  intro x hx
  obtain ⟨k, hk, rfl⟩ := List.mem_map.1 hx
  exact h2 k hk
 unfold Bg bgF
 omega
theorem Ed_bd (hn : NdOk nd) {m : Int} (h0 : ∀ k, 0 ≤ d k ∧ d k ≤ m) : ∀ (f s : Nat), s < f → Ed hd nd d s ≤ m * (s + 1)
 | 0, _, h => absurd h (Nat.not_lt_zero _)
 | f + 1, s, h => by
  have hm : 0 ≤ m := Int.le_trans (h0 0).1 (h0 0).2
  have key : ∀ k, k < s → Ed hd nd d k ≤ m * s := fun k hk => by
   refine Int.le_trans (Ed_bd hn h0 f k (by omega)) ?_
   exact Int.mul_le_mul_of_nonneg_left (by omega) hm
  have h1 : Bg hd nd d s ≤ m * s := zo hn (Int.mul_nonneg hm (by omega)) (fun k hk _ => key k hk) (fun k hk => key _ (hn s k hk).2)
  rw [Ed_eq hn, Int.mul_add]
  have := h0 s
  omega
theorem DK (hn : NdOk nd) {m : Int} (h0 : ∀ k, 0 ≤ d k ∧ d k ≤ m) (s : Nat) : Ed hd nd d s ≤ m * (s + 1) := Ed_bd hn h0 (s + 1) s (Nat.lt_succ_self _)
def tkF (e : Nat → Int) : Nat → Int
 | 0 => 0
 | n + 1 => max (tkF e n) (e n)
theorem pE (e : Nat → Int) : ∀ n, 0 ≤ tkF e n
 | 0 => Int.le_refl _
 | n + 1 => by have := pE e n; unfold tkF; omega
theorem sk {e : Nat → Int} : ∀ {n k : Nat}, k < n → e k ≤ tkF e n
 | 0, _, h => absurd h (Nat.not_lt_zero _)
 | n + 1, k, h => by
  unfold tkF
  rcases Nat.lt_or_ge k n with h1 | h1
  ·have := sk (e := e) h1; omega
  ·have : k = n := by omega
   subst this
   omega
theorem xh {e : Nat → Int} {b : Int} (hb : 0 ≤ b) : ∀ {n : Nat}, (∀ k, k < n → e k ≤ b) → tkF e n ≤ b
 | 0, _ => hb
 | n + 1, h => by
  have h1 := xh hb (n := n) (fun k hk => h k (by omega))
  have h2 := h n (by omega)
  unfold tkF
  omega
end
end Go.V
end
section
namespace Go.V
open Go Go.Proofs IntKind
def pM (aQ : Int) (da : Int) (ba : Int) : Option (Bool) := cond (decide (aQ ≤ da)) (some (decide (da ≤ ba))) (some false)
theorem vX (aQ : Int) (da : Int) (ba : Int) (R : Bool) (h : pM aQ da ba = some R) : al Tryz.prog G0 95 [.lit (.int .i64 aQ), .lit (.int .i64 da), .lit (.int .i64 ba)] (.tree (.lit (.bool R))) := by
 refine al.runR mixed Tryz.call95 Tryz.func95 rfl (by simp [Tryz.ntmps95]; kernel_rfl) ?_
 obtain ⟨KF, h, kF, kN⟩ := cR h
 simp only [pM] at h
 cases d1 : (decide (aQ ≤ da))
 ·simp only [d1, hs] at h
  try simp only [vz, tyf, d1, nm, seval]
  obtain rfl := kF _ h
  exact bz Tryz.results95 rfl
 simp only [d1, hs] at h
 try simp only [vz, tyf, d1, nm, seval]
 obtain rfl := kF _ h
 exact bz Tryz.results95 rfl
def vY (aQ : Int) (ba : Int) : List Int → Int → Option (LOut (Bool) (Unit))
 | [], rp => some (.go ())
 | e0 :: p0, rp => Option.bind (pM aQ e0 ba) (fun r1 => cond (r1) (vY aQ ba p0 (rp + 1)) (some (.ret false)))
def tf (aQ : Int) (av : List Int) (ba : Int) : Option (Bool) := cond (aF av) (aT (vY aQ ba av 0) (fun r3 => some r3) (fun c2 => some true) (fun _ _ => none)) none
theorem Jl (aQ : Int) (av : List Int) (ba : Int) (R : Bool) (h : tf aQ av ba = some R) : al Tryz.prog G0 103 [.lit (.int .i64 aQ), .sl (ae eI av) (List.length av) false, .lit (.int .i64 ba)] (.tree (.lit (.bool R))) := by
 refine al.runR mixed Tryz.call103 Tryz.func103 rfl (by simp [Tryz.ntmps103]; kernel_rfl) ?_
 obtain ⟨KF, h, kF, kN⟩ := cR h
 simp only [tf] at h
 cases g5 : (aF av)
 ·simp only [g5, hs] at h
  exact absurd h kN
 simp only [g5, hs] at h
 simp only [vz, tyf, g5, nm, seval]
 obtain ⟨K4, h, Jm, C9, UO, Jn⟩ := fa h kN
 obtain ⟨f4, Jo, h⟩ := call2 h
 obtain ⟨I4, tg⟩ : ∃ I : Nat → St → Prop, I = (fun m st => ∃ (p4 : List Int) (eL : Int), m = List.length p4 ∧ 0 ≤ eL ∧ List.drop (Int.toNat eL) av = p4 ∧ st.df = [] ∧ 4 ≤ st.nx ∧ st.tm 0 = .lit (.int .i64 aQ) ∧ st.tm 2 = .lit (.int .i64 ba) ∧ st.tm 9 = .sl (ae eI av) (List.length av) false ∧ st.tm 10 = .lit (.int .i64 (List.length av : Int)) ∧ st.tm 11 = .lit (.int .i64 eL) ∧ K4 (f4 p4 eL)) := ⟨_, rfl⟩
 refine loopK mixed (by kernel_rfl) I4 (List.length av) (by rw [tg]; refine ⟨av, 0, rfl, Int.le_refl _, rfl, rfl, (show 4 ≤ 4 by omega), ?_, ?_, ?_, ?_, ?_, h⟩ <;> first | (simp only [ua, nm, seval] <;> rfl) | rfl) ?_
 rintro m ⟨tm, H, zp, df⟩ hinv
 rw [tg] at hinv
 obtain ⟨p4, eL, rfl, lK, nj, hdf, Jp, e6, e7, e8, e9, bj, h⟩ := hinv
 simp only at hdf Jp e6 e7 e8 e9 bj
 have vZ := fb (m := 4) (b := zp) (by omega)
 subst hdf Jo
 cases p4 with
 | nil =>
  have bT : (decide (eL < (List.length av : Int))) = false := fc lK nj
  simp only [vY, hs, reduceCtorEq] at h
  replace h := C9 _ h
  try dsimp only at h
  try simp only [hs] at h
  try simp only [vz, tyf, g5, vZ, e6, e7, e8, e9, bj, bT, nm, seval]
  obtain rfl := kF _ h
  exact bz Tryz.results103 rfl
 | cons e4 p4 =>
  have dW : (decide (eL < (List.length av : Int))) = true := fe lK nj
  have mS := dD lK nj
  have zq := eG lK nj g5
  simp only [vY, hs, reduceCtorEq] at h
  obtain ⟨QS, oG, h⟩ := optI h Jn
  try simp only [hs] at h
  simp only [vz, tyf, g5, vZ, e6, e7, e8, e9, bj, dW, (aw mS), zq, nm, seval]
  refine ktA (vX _ _ _ _ oG) ?_
  refine bM (fun tm => tm 0 = .lit (.int .i64 aQ) ∧ tm 2 = .lit (.int .i64 ba) ∧ tm 9 = .sl (ae eI av) (List.length av) false ∧ tm 10 = .lit (.int .i64 (List.length av : Int)) ∧ tm 11 = .lit (.int .i64 eL) ∧ tm 18 = .lit (.bool QS) ∧ True) (by refine ⟨e6, e7, e8, e9, bj, ?_, trivial⟩ <;> first | (simp only [ua, vZ, e6, e7, e8, e9, bj, dW, zq, nm, seval] <;> rfl) | rfl) ?_
  rintro tm ⟨bR, cP, gb, fQ, cO, bU, _⟩
  cases hO : (QS)
  ·simp only [hO, hs] at h
   try simp only [vz, tyf, g5, vZ, dW, (aw mS), zq, bR, cP, gb, fQ, cO, bU, hO, nm, seval]
   replace h := Jm _ h
   try dsimp only at h
   obtain rfl := kF _ h
   exact bz Tryz.results103 rfl
  simp only [hO, hs] at h
  simp only [vz, tyf, g5, vZ, dW, (aw mS), zq, bR, cP, gb, fQ, cO, bU, hO, nm, seval]
  exact ⟨List.length p4, Nat.lt_succ_self _, by rw [tg]; refine ⟨p4, eL + 1, rfl, Int.le_trans lK (Int.le_add_one (Int.le_refl _)), cC lK nj, rfl, (show 4 ≤ zp + 11 by omega), bR, cP, gb, fQ, ?_, (by first | exact h | (simp only [dW, hO]; exact h))⟩ <;> first | (simp only [ua, vZ, dW, zq, bR, cP, gb, fQ, cO, bU, hO, nm, seval] <;> rfl) | rfl⟩
def CA (bP : List Int) : Option (Bool) := Option.bind (pM 1 (List.length bP : Int) 3) (fun r1 => cond (r1) (Option.bind (tf 0 bP 60) (fun r2 => some r2)) (some false))
theorem UP (bP : List Int) (R : Bool) (h : CA bP = some R) : al Tryz.prog G0 101 [.sl (ae eI bP) (List.length bP) false] (.tree (.lit (.bool R))) := by
 refine al.runR mixed Tryz.call101 Tryz.func101 rfl (by simp [Tryz.ntmps101]; kernel_rfl) ?_
 obtain ⟨KF, h, kF, kN⟩ := cR h
 simp only [CA] at h
 obtain ⟨r3, o4, h⟩ := optI h kN
 try simp only [hs] at h
 simp only [vz, tyf, nm, seval]
 refine ktA (vX _ _ _ _ o4) ?_
 refine bM (fun tm => tm 0 = .sl (ae eI bP) (List.length bP) false ∧ tm 5 = .lit (.bool r3) ∧ True) (by refine ⟨?_, ?_, trivial⟩ <;> first | (simp only [ua, nm, seval] <;> rfl) | rfl) ?_
 rintro tm ⟨e5, e6, _⟩
 cases d7 : (r3)
 ·simp only [d7, hs] at h
  try simp only [vz, tyf, e5, e6, d7, nm, seval]
  obtain rfl := kF _ h
  exact bz Tryz.results101 rfl
 simp only [d7, hs] at h
 obtain ⟨r8, o9, h⟩ := optI h kN
 try simp only [hs] at h
 simp only [vz, tyf, e5, e6, d7, nm, seval]
 refine ktA (Jl _ _ _ _ o9) ?_
 refine bM (fun tm => tm 6 = .lit (.bool true) ∧ tm 8 = .lit (.bool r8) ∧ True) (by refine ⟨?_, ?_, trivial⟩ <;> first | (simp only [ua, e5, e6, d7, nm, seval] <;> rfl) | rfl) ?_
 rintro tm ⟨bj, bG, _⟩
 try simp only [vz, tyf, d7, bj, bG, nm, seval]
 obtain rfl := kF _ h
 exact bz Tryz.results101 rfl
def CB (ak : GBk) (eM : Int) : Option (Bool) := Option.bind (pM 0 eM (i64.wrap ((List.length ak.Boards : Int) - 1))) (fun r1 => some r1)
theorem UQ (ak : GBk) (eM : Int) (R : Bool) (h : CB ak eM = some R) : al Tryz.prog G0 71 [.agg (cGBk ak), .lit (.int .i64 eM)] (.tree (.lit (.bool R))) := by
 refine al.runR mixed Tryz.call71 Tryz.func71 rfl (by simp [Tryz.ntmps71]; kernel_rfl) ?_
 obtain ⟨KF, h, kF, kN⟩ := cR h
 simp only [CB] at h
 obtain ⟨r2, o3, h⟩ := optI h kN
 try simp only [hs] at h
 simp only [vz, tyf, nm, seval]
 refine ktA (vX _ _ _ _ o3) ?_
 refine bM (fun tm => tm 10 = .lit (.bool r2) ∧ True) (by refine ⟨?_, trivial⟩ <;> first | (simp only [ua, nm, seval] <;> rfl) | rfl) ?_
 rintro tm ⟨e4, _⟩
 try simp only [vz, tyf, e4, nm, seval]
 obtain rfl := kF _ h
 exact bz Tryz.results71 rfl
def zr (aQ : Int) (il : GSpan) (ba : Int) : Option (Bool) := cond (decide (aQ ≤ il.Low)) (cond (decide (il.Low ≤ il.High)) (some (decide (il.High ≤ ba))) (some false)) (some false)
theorem UR (aQ : Int) (il : GSpan) (ba : Int) (R : Bool) (h : zr aQ il ba = some R) : al Tryz.prog G0 133 [.lit (.int .i64 aQ), .agg (cGSpan il), .lit (.int .i64 ba)] (.tree (.lit (.bool R))) := by
 refine al.runR mixed Tryz.call133 Tryz.func133 rfl (by simp [Tryz.ntmps133]; kernel_rfl) ?_
 obtain ⟨KF, h, kF, kN⟩ := cR h
 simp only [zr] at h
 cases d1 : (decide (aQ ≤ il.Low))
 ·simp only [d1, hs] at h
  try simp only [vz, tyf, d1, nm, seval]
  obtain rfl := kF _ h
  exact bz Tryz.results133 rfl
 simp only [d1, hs] at h
 cases d2 : (decide (il.Low ≤ il.High))
 ·simp only [d2, hs] at h
  try simp only [vz, tyf, d1, d2, nm, seval]
  obtain rfl := kF _ h
  exact bz Tryz.results133 rfl
 simp only [d2, hs] at h
 try simp only [vz, tyf, d1, d2, nm, seval]
 obtain rfl := kF _ h
 exact bz Tryz.results133 rfl
def wa (av : List Int) : List Int → Int → Option (LOut (Bool) (Unit))
 | [], dt => some (.go ())
 | e0 :: p0, dt => Option.bind (getI av (i64.wrap (dt - 1))) (fun x1 => cond (decide (e0 ≤ x1)) (some (.ret false)) (wa av p0 (dt + 1)))
def zt (aQ : Int) (av : List Int) (ba : Int) : Option (Bool) := cond (aF av) (cond (leB 0 1) (aT (wa av (List.drop (Int.toNat 1) av) 1) (fun r4 => some r4) (fun c2 => Option.bind (tf aQ av ba) (fun r3 => some r3)) (fun _ _ => none)) none) none
theorem US (aQ : Int) (av : List Int) (ba : Int) (R : Bool) (h : zt aQ av ba = some R) : al Tryz.prog G0 134 [.lit (.int .i64 aQ), .sl (ae eI av) (List.length av) false, .lit (.int .i64 ba)] (.tree (.lit (.bool R))) := by
 refine al.runR mixed Tryz.call134 Tryz.func134 rfl (by simp [Tryz.ntmps134]; kernel_rfl) ?_
 obtain ⟨KF, h, kF, kN⟩ := cR h
 simp only [zt] at h
 cases g6 : (aF av)
 ·simp only [g6, hs] at h
  exact absurd h kN
 simp only [g6, hs] at h
 cases g7 : (leB 0 1)
 ·simp only [g7, hs] at h
  exact absurd h kN
 simp only [g7, hs] at h
 simp only [vz, tyf, g6, g7, nm, seval]
 obtain ⟨K5, h, P1, BX, Tm, vF⟩ := fa h kN
 obtain ⟨f5, DV, h⟩ := call2 h
 obtain ⟨I5, qR⟩ : ∃ I : Nat → St → Prop, I = (fun m st => ∃ (p5 : List Int) (cv : Int), m = List.length p5 ∧ 0 ≤ cv ∧ List.drop (Int.toNat cv) av = p5 ∧ st.df = [] ∧ 2 ≤ st.nx ∧ st.tm 0 = .lit (.int .i64 aQ) ∧ st.tm 1 = .sl (ae eI av) (List.length av) false ∧ st.tm 2 = .lit (.int .i64 ba) ∧ st.tm 7 = .lit (.int .i64 cv) ∧ K5 (f5 p5 cv)) := ⟨_, rfl⟩
 refine loopK mixed (by kernel_rfl) I5 (List.length (List.drop (Int.toNat 1) av)) (by rw [qR]; refine ⟨List.drop (Int.toNat 1) av, 1, rfl, of_decide_eq_true g7, rfl, rfl, (show 2 ≤ 2 by omega), ?_, ?_, ?_, ?_, h⟩ <;> first | (simp only [ua, nm, seval] <;> rfl) | rfl) ?_
 rintro m ⟨tm, H, mP, df⟩ hinv
 rw [qR] at hinv
 obtain ⟨p5, cv, rfl, iM, jV, hdf, DW, e8, e9, bj, bG, h⟩ := hinv
 simp only at hdf DW e8 e9 bj bG
 have jW := fb (m := 2) (b := mP) (by omega)
 subst hdf DV
 cases p5 with
 | nil =>
  have dW : (decide (cv < (List.length av : Int))) = false := fc iM jV
  simp only [wa, hs, reduceCtorEq] at h
  replace h := BX _ h
  try dsimp only at h
  try simp only [hs] at h
  obtain ⟨fj, mS, h⟩ := optI h kN
  try simp only [hs] at h
  simp only [vz, tyf, g6, g7, jW, e8, e9, bj, bG, dW, nm, seval]
  refine ktA (Jl _ _ _ _ mS) ?_
  refine bM (fun tm => tm 27 = .lit (.bool fj) ∧ True) (by refine ⟨?_, trivial⟩ <;> first | (simp only [ua, jW, e8, e9, bj, bG, dW, nm, seval] <;> rfl) | rfl) ?_
  rintro tm ⟨bD, _⟩
  try simp only [vz, tyf, g6, g7, jW, dW, bD, nm, seval]
  obtain rfl := kF _ h
  exact bz Tryz.results134 rfl
 | cons e5 p5 =>
  have pD : (decide (cv < (List.length av : Int))) = true := fe iM jV
  have th := dD iM jV
  have zu := eG iM jV g6
  simp only [wa, hs, reduceCtorEq] at h
  simp only [vz, tyf, g6, g7, jW, e8, e9, bj, bG, pD, (aw th), zu, nm, seval]
  refine j3 (fun tm => tm 0 = .lit (.int .i64 aQ) ∧ tm 1 = .sl (ae eI av) (List.length av) false ∧ tm 2 = .lit (.int .i64 ba) ∧ tm 7 = .lit (.int .i64 cv) ∧ True) (by refine ⟨e8, e9, bj, bG, trivial⟩ <;> first | (simp only [ua, jW, e8, e9, bj, bG, pD, zu, nm, seval] <;> rfl) | rfl) ?_
  rintro tm ⟨gb, fQ, cO, bU, _⟩
  obtain ⟨UT, wb, h⟩ := optI h vF
  try simp only [hs] at h
  cases fX : (decide (e5 ≤ UT))
  ·simp only [fX, hs] at h
   simp only [vz, tyf, g6, g7, jW, pD, (aw th), zu, gb, fQ, cO, bU, (aw wb), fX, nm, seval]
   exact ⟨List.length p5, Nat.lt_succ_self _, by rw [qR]; refine ⟨p5, cv + 1, rfl, Int.le_trans iM (Int.le_add_one (Int.le_refl _)), cC iM jV, rfl, (show 2 ≤ mP + 17 by omega), gb, fQ, cO, ?_, (by first | exact h | (simp only [pD, fX]; exact h))⟩ <;> first | (simp only [ua, jW, pD, zu, gb, fQ, cO, bU, fX, nm, seval] <;> rfl) | rfl⟩
  simp only [fX, hs] at h
  try simp only [vz, tyf, g6, g7, jW, pD, (aw th), zu, gb, fQ, cO, bU, (aw wb), fX, nm, seval]
  replace h := P1 _ h
  try dsimp only at h
  obtain rfl := kF _ h
  exact bz Tryz.results134 rfl
def wc (ak : GBk) : List GBs → Int → Option (LOut (Bool) (Unit))
 | [], bW => some (.go ())
 | e0 :: p0, bW => Option.bind (CB ak e0.Board) (fun r2 => cond (r2) (Option.bind (zr 1 e0.Hours 6) (fun r3 => cond (r3) (Option.bind (zt 0 e0.Needs (i64.wrap (bW - 1))) (fun r4 => cond (r4) (wc ak p0 (bW + 1)) (some (.ret false)))) (some (.ret false)))) (some (.ret false)))
def CD (ak : GBk) : Option (Bool) := Option.bind (pM 1 (List.length ak.Strokes : Int) 6) (fun r1 => cond (r1) (cond (aF ak.Strokes) (aT (wc ak ak.Strokes 0) (fun r6 => some r6) (fun c5 => some true) (fun _ _ => none)) none) (some false))
theorem UU (ak : GBk) (R : Bool) (h : CD ak = some R) : al Tryz.prog G0 102 [.agg (cGBk ak)] (.tree (.lit (.bool R))) := by
 refine al.runR mixed Tryz.call102 Tryz.func102 rfl (by simp [Tryz.ntmps102]; kernel_rfl) ?_
 obtain ⟨KF, h, kF, kN⟩ := cR h
 simp only [CD] at h
 obtain ⟨r7, o8, h⟩ := optI h kN
 try simp only [hs] at h
 simp only [vz, tyf, nm, seval]
 refine ktA (vX _ _ _ _ o8) ?_
 refine bM (fun tm => tm 1 = .ptr 0 0 ∧ tm 8 = .lit (.bool r7) ∧ True) (by refine ⟨?_, ?_, trivial⟩ <;> first | (simp only [ua, nm, seval] <;> rfl) | rfl) ?_
 rintro tm ⟨e9, bj, _⟩
 cases bS : (r7)
 ·simp only [bS, hs] at h
  try simp only [vz, tyf, e9, bj, bS, nm, seval]
  obtain rfl := kF _ h
  exact bz Tryz.results102 rfl
 simp only [bS, hs] at h
 cases rq : (aF ak.Strokes)
 ·simp only [rq, hs] at h
  exact absurd h kN
 simp only [rq, hs] at h
 simp only [vz, tyf, e9, bj, bS, rq, nm, seval]
 obtain ⟨UW, h, tk, Jq, UX, tl⟩ := fa h kN
 obtain ⟨UY, Jr, h⟩ := call2 h
 obtain ⟨UZ, tn⟩ : ∃ I : Nat → St → Prop, I = (fun m st => ∃ (ru : List GBs) (bZ : Int), m = List.length ru ∧ 0 ≤ bZ ∧ List.drop (Int.toNat bZ) ak.Strokes = ru ∧ st.df = [] ∧ 11 ≤ st.nx ∧ st.H 0 = some (.cells (some 25) (cGBk ak)) ∧ st.tm 1 = .ptr 0 0 ∧ st.tm 11 = .sl (ae cGBs ak.Strokes) (List.length ak.Strokes) false ∧ st.tm 12 = .lit (.int .i64 (List.length ak.Strokes : Int)) ∧ st.tm 13 = .lit (.int .i64 bZ) ∧ UW (UY ru bZ)) := ⟨_, rfl⟩
 refine loopK mixed (by kernel_rfl) UZ (List.length ak.Strokes) (by rw [tn]; refine ⟨ak.Strokes, 0, rfl, Int.le_refl _, rfl, rfl, (show 11 ≤ 11 by omega), ?_, e9, ?_, ?_, ?_, h⟩ <;> first | (simp only [ua, e9, bj, bS, nm, seval] <;> rfl) | rfl) ?_
 rintro m ⟨tm, H, pN, df⟩ hinv
 rw [tn] at hinv
 obtain ⟨ru, bZ, rfl, lL, nk, hdf, Js, la, dK, bD, bH, bR, h⟩ := hinv
 simp only at hdf Js la dK bD bH bR
 have mo := fb (m := 11) (b := pN) (by omega)
 subst hdf Jr
 cases ru with
 | nil =>
  have ep : (decide (bZ < (List.length ak.Strokes : Int))) = false := fc lL nk
  simp only [wc, hs, reduceCtorEq] at h
  replace h := Jq _ h
  try dsimp only at h
  try simp only [hs] at h
  try simp only [vz, tyf, bS, rq, mo, dK, bD, bH, bR, la, ep, nm, seval]
  obtain rfl := kF _ h
  exact bz Tryz.results102 rfl
 | cons bX ru =>
  have p8 : (decide (bZ < (List.length ak.Strokes : Int))) = true := fe lL nk
  have m6 := dD lL nk
  have CE := eG lL nk rq
  simp only [wc, hs, reduceCtorEq] at h
  obtain ⟨tq, wb, h⟩ := optI h tl
  try simp only [hs] at h
  simp only [vz, tyf, bS, rq, mo, dK, bD, bH, bR, la, p8, (aM m6), CE, nm, seval]
  refine ktA (UQ _ _ _ wb) ?_
  refine bM (fun tm => tm 1 = .ptr 0 0 ∧ tm 3 = .lit (.int .i64 bZ) ∧ tm 4 = .ptr (pN + 4) 0 ∧ tm 11 = .sl (ae cGBs ak.Strokes) (List.length ak.Strokes) false ∧ tm 12 = .lit (.int .i64 (List.length ak.Strokes : Int)) ∧ tm 13 = .lit (.int .i64 bZ) ∧ tm 21 = .lit (.bool tq) ∧ True) (by refine ⟨dK, ?_, ?_, bD, bH, bR, ?_, trivial⟩ <;> first | (simp only [ua, bS, mo, dK, bD, bH, bR, la, p8, CE, nm, seval] <;> rfl) | rfl) ?_
  rintro tm ⟨cH, bu, cU, cI, du, dr, fW, _⟩
  cases gX : (tq)
  ·simp only [gX, hs] at h
   have m2 := And.intro bS (And.intro rq (And.intro mo (And.intro la (And.intro p8 (And.intro CE gX)))))
   try simp only [vz, tyf, m2, (aM m6), cH, bu, cU, cI, du, dr, fW, nm, seval]
   replace h := tk _ h
   try dsimp only at h
   obtain rfl := kF _ h
   exact bz Tryz.results102 rfl
  simp only [gX, hs] at h
  have pO := And.intro bS (And.intro rq (And.intro mo (And.intro la (And.intro p8 (And.intro CE gX)))))
  obtain ⟨QT, Va, h⟩ := optI h tl
  try simp only [hs] at h
  simp only [vz, tyf, pO, (aM m6), cH, bu, cU, cI, du, dr, fW, nm, seval]
  refine ktA (UR _ _ _ _ Va) ?_
  refine bM (fun tm => tm 1 = .ptr 0 0 ∧ tm 3 = .lit (.int .i64 bZ) ∧ tm 4 = .ptr (pN + 4) 0 ∧ tm 11 = .sl (ae cGBs ak.Strokes) (List.length ak.Strokes) false ∧ tm 12 = .lit (.int .i64 (List.length ak.Strokes : Int)) ∧ tm 13 = .lit (.int .i64 bZ) ∧ tm 23 = .lit (.bool false) ∧ tm 26 = .lit (.bool QT) ∧ True) (by refine ⟨cH, bu, cU, cI, du, dr, ?_, ?_, trivial⟩ <;> first | (simp only [ua, pO, cH, bu, cU, cI, du, dr, fW, nm, seval] <;> rfl) | rfl) ?_
  rintro tm ⟨lM, og, kY, kZ, de, cN, d4, eA, _⟩
  cases lz : (QT)
  ·simp only [lz, hs] at h
   try simp only [vz, tyf, pO, (aM m6), lM, og, kY, kZ, de, cN, d4, eA, lz, nm, seval]
   replace h := tk _ h
   try dsimp only at h
   obtain rfl := kF _ h
   exact bz Tryz.results102 rfl
  simp only [lz, hs] at h
  obtain ⟨CF, Vb, h⟩ := optI h tl
  try simp only [hs] at h
  simp only [vz, tyf, pO, (aM m6), lM, og, kY, kZ, de, cN, d4, eA, lz, nm, seval]
  refine ktA (US _ _ _ _ Vb) ?_
  refine bM (fun tm => tm 1 = .ptr 0 0 ∧ tm 11 = .sl (ae cGBs ak.Strokes) (List.length ak.Strokes) false ∧ tm 12 = .lit (.int .i64 (List.length ak.Strokes : Int)) ∧ tm 13 = .lit (.int .i64 bZ) ∧ tm 29 = .lit (.bool false) ∧ tm 34 = .lit (.bool CF) ∧ True) (by refine ⟨lM, kZ, de, cN, ?_, ?_, trivial⟩ <;> first | (simp only [ua, pO, lM, og, kY, kZ, de, cN, d4, eA, lz, nm, seval] <;> rfl) | rfl) ?_
  rintro tm ⟨fR, gZ, hC, i6, gx, gY, _⟩
  cases dN : (CF)
  ·simp only [dN, hs] at h
   try simp only [vz, tyf, pO, (aM m6), lz, fR, gZ, hC, i6, gx, gY, dN, nm, seval]
   replace h := tk _ h
   try dsimp only at h
   obtain rfl := kF _ h
   exact bz Tryz.results102 rfl
  simp only [dN, hs] at h
  simp only [vz, tyf, pO, (aM m6), lz, fR, gZ, hC, i6, gx, gY, dN, nm, seval]
  exact ⟨List.length ru, Nat.lt_succ_self _, by rw [tn]; refine ⟨ru, bZ + 1, rfl, Int.le_trans lL (Int.le_add_one (Int.le_refl _)), cC lL nk, rfl, (show 11 ≤ pN + 28 by omega), ?_, fR, gZ, hC, ?_, (by first | exact h | (simp only [pO, lz, dN]; exact h))⟩ <;> first | (simp only [ua, pO, lz, fR, gZ, hC, i6, gx, gY, dN, nm, seval] <;> rfl) | rfl⟩
def qH (ak : GBk) : Option (Bool) := Option.bind (pM 0 ak.Apprentices 3) (fun r1 => cond (r1) (Option.bind (CA ak.Boards) (fun r2 => cond (r2) (Option.bind (CD ak) (fun r3 => some r3)) (some false))) (some false))
theorem Dw (ak : GBk) (R : Bool) (h : qH ak = some R) : al Tryz.prog G0 67 [.agg (cGBk ak)] (.tree (.lit (.bool R))) := by
 refine al.runR mixed Tryz.call67 Tryz.func67 rfl (by simp [Tryz.ntmps67]; kernel_rfl) ?_
 obtain ⟨KF, h, kF, kN⟩ := cR h
 simp only [qH] at h
 obtain ⟨r4, o5, h⟩ := optI h kN
 try simp only [hs] at h
 simp only [vz, tyf, nm, seval]
 refine ktA (vX _ _ _ _ o5) ?_
 refine bM (fun tm => tm 1 = .ptr 0 0 ∧ tm 5 = .lit (.bool r4) ∧ True) (by refine ⟨?_, ?_, trivial⟩ <;> first | (simp only [ua, nm, seval] <;> rfl) | rfl) ?_
 rintro tm ⟨e6, e7, _⟩
 cases d8 : (r4)
 ·simp only [d8, hs] at h
  try simp only [vz, tyf, e6, e7, d8, nm, seval]
  obtain rfl := kF _ h
  exact bz Tryz.results67 rfl
 simp only [d8, hs] at h
 obtain ⟨r9, jh, h⟩ := optI h kN
 try simp only [hs] at h
 simp only [vz, tyf, e6, e7, d8, nm, seval]
 refine ktA (UP _ _ jh) ?_
 refine bM (fun tm => tm 1 = .ptr 0 0 ∧ tm 6 = .lit (.bool true) ∧ tm 9 = .lit (.bool r9) ∧ True) (by refine ⟨e6, ?_, ?_, trivial⟩ <;> first | (simp only [ua, e6, e7, d8, nm, seval] <;> rfl) | rfl) ?_
 rintro tm ⟨bG, bX, cg, _⟩
 cases bw : (r9)
 ·simp only [bw, hs] at h
  try simp only [vz, tyf, d8, bG, bX, cg, bw, nm, seval]
  obtain rfl := kF _ h
  exact bz Tryz.results67 rfl
 simp only [bw, hs] at h
 obtain ⟨CG, dZ, h⟩ := optI h kN
 try simp only [hs] at h
 simp only [vz, tyf, d8, bG, bX, cg, bw, nm, seval]
 refine ktA (UU _ _ dZ) ?_
 refine bM (fun tm => tm 11 = .lit (.bool true) ∧ tm 13 = .lit (.bool CG) ∧ True) (by refine ⟨?_, ?_, trivial⟩ <;> first | (simp only [ua, d8, bG, bX, cg, bw, nm, seval] <;> rfl) | rfl) ?_
 rintro tm ⟨bH, bR, _⟩
 try simp only [vz, tyf, d8, bw, bH, bR, nm, seval]
 obtain rfl := kF _ h
 exact bz Tryz.results67 rfl
def zw (ak : GBk) (ah : Int) (eN : Int) : Option (Bool) := cond (eN == 0) (some true) (Option.bind (getI ak.Strokes ah) (fun x1 => some (!x1.Round)))
theorem Vc (ak : GBk) (ah : Int) (eN : Int) (R : Bool) (h : zw ak ah eN = some R) : al Tryz.prog G0 104 [.agg (cGBk ak), .lit (.int .i64 ah), .lit (.int .i64 eN)] (.tree (.lit (.bool R))) := by
 refine al.runR mixed Tryz.call104 Tryz.func104 rfl (by simp [Tryz.ntmps104]; kernel_rfl) ?_
 obtain ⟨KF, h, kF, kN⟩ := cR h
 simp only [zw] at h
 cases d2 : (eN == 0)
 ·simp only [d2, hs] at h
  obtain ⟨x3, o4, h⟩ := optI h kN
  try simp only [hs] at h
  try simp only [vz, tyf, d2, (aM o4), nm, seval]
  obtain rfl := kF _ h
  exact bz Tryz.results104 rfl
 simp only [d2, hs] at h
 try simp only [vz, tyf, d2, nm, seval]
 obtain rfl := kF _ h
 exact bz Tryz.results104 rfl
end Go.V
end
