/- Part of a proof. -/
import Derived.Test.YtmhlghgbfmcdaaaGreatDoorS1bh
import Derived.Test.YtmhlghgbfmcdaaaGreatDoorS1az
import Derived.Test.YtmhlghgbfmcdaaaGreatDoorProg
set_option linter.all false
set_option maxRecDepth 4000
set_option maxHeartbeats 40000000
section
namespace Go.V
open Go Go.Proofs IntKind
theorem mixed : Tryz.prog.follows .mixedOrders = true := by kernel_rfl
structure GSpan where
 Low : Int
 High : Int
 deriving Inhabited, DecidableEq
def cGSpan (x : GSpan) : List VV := [.lit (.int .i64 x.Low), .lit (.int .i64 x.High)]
theorem mu {x : GSpan} : cGSpan x = [.lit (.int .i64 x.Low), .lit (.int .i64 x.High)] := rfl
theorem dc : EncOk cGSpan := EncOk.of (fun x => by simp only [mu, tre, Bool.and_self]) (fun x => by simp only [mu, nrm]) (fun x H d => by simp only [mu, nrm, List.map_cons, List.map_nil])
structure GBs where
 Board : Int
 Round : Bool
 Hours : GSpan
 Needs : List Int
 deriving Inhabited, DecidableEq
def cGBs (x : GBs) : List VV := [.lit (.int .i64 x.Board), .lit (.bool x.Round), .lit (.int .i64 x.Hours.Low), .lit (.int .i64 x.Hours.High), .sl (aa eI x.Needs) (List.length x.Needs) false]
theorem n3 {x : GBs} : cGBs x = [.lit (.int .i64 x.Board), .lit (.bool x.Round), .lit (.int .i64 x.Hours.Low), .lit (.int .i64 x.Hours.High), .sl (aa eI x.Needs) (List.length x.Needs) false] := rfl
theorem dB : EncOk cGBs := EncOk.of (fun x => by simp only [n3, tre, dc.tree, dc.treeL, Bool.and_self]) (fun x => by simp only [n3, nrm, dc.norm, dc.normL, dc.shown, dc.showL]) (fun x H d => by simp only [n3, nrm, List.map_cons, List.map_nil])
structure GBk where
 Apprentices : Int
 Boards : List Int
 Strokes : List GBs
 deriving Inhabited, DecidableEq
def cGBk (x : GBk) : List VV := [.lit (.int .i64 x.Apprentices), .sl (aa eI x.Boards) (List.length x.Boards) false, .sl (aa cGBs x.Strokes) (List.length x.Strokes) false]
theorem qO {x : GBk} : cGBk x = [.lit (.int .i64 x.Apprentices), .sl (aa eI x.Boards) (List.length x.Boards) false, .sl (aa cGBs x.Strokes) (List.length x.Strokes) false] := rfl
theorem gT : EncOk cGBk := EncOk.of (fun x => by simp only [qO, tre, dc.tree, dc.treeL, dB.tree, dB.treeL, Bool.and_self]) (fun x => by simp only [qO, nrm, dc.norm, dc.normL, dc.shown, dc.showL, dB.norm, dB.normL, dB.shown, dB.showL]) (fun x H d => by simp only [qO, nrm, List.map_cons, List.map_nil])
structure GBe where
 stroke : Int
 hours : Int
 deriving Inhabited, DecidableEq
def cGBe (x : GBe) : List VV := [.lit (.int .i64 x.stroke), .lit (.int .i64 x.hours)]
theorem tf {x : GBe} : cGBe x = [.lit (.int .i64 x.stroke), .lit (.int .i64 x.hours)] := rfl
theorem n4 : EncOk cGBe := EncOk.of (fun x => by simp only [tf, tre, dc.tree, dc.treeL, dB.tree, dB.treeL, gT.tree, gT.treeL, Bool.and_self]) (fun x => by simp only [tf, nrm, dc.norm, dc.normL, dc.shown, dc.showL, dB.norm, dB.normL, dB.shown, dB.showL, gT.norm, gT.normL, gT.shown, gT.showL]) (fun x H d => by simp only [tf, nrm, List.map_cons, List.map_nil])
theorem NU {c : VV} {cs : List VV} : vload Tryz.prog 2 (c :: cs) = some c := by
 have h1 : aggT Tryz.prog 2 = some false := by kernel_rfl
 simp [vload, vpart, h1]
theorem NV : szT Tryz.prog 2 = some 1 := by kernel_rfl
theorem CQ : vzl Tryz.prog 2 = some [.lit (.int .i64 0)] := by kernel_rfl
theorem NW {c : VV} {cs : List VV} : vload Tryz.prog 3 (c :: cs) = some c := by
 have h1 : aggT Tryz.prog 3 = some false := by kernel_rfl
 simp [vload, vpart, h1]
theorem NX : szT Tryz.prog 3 = some 1 := by kernel_rfl
theorem CS : vzl Tryz.prog 3 = some [.lit (.int .i64 0)] := by kernel_rfl
theorem NY {c : VV} {cs : List VV} : vload Tryz.prog 4 (c :: cs) = some c := by
 have h1 : aggT Tryz.prog 4 = some false := by kernel_rfl
 simp [vload, vpart, h1]
theorem NZ : szT Tryz.prog 4 = some 1 := by kernel_rfl
theorem CT : vzl Tryz.prog 4 = some [.lit (.bool false)] := by kernel_rfl
theorem Oa {c : VV} {cs : List VV} : vload Tryz.prog 9 (c :: cs) = some c := by
 have h1 : aggT Tryz.prog 9 = some false := by kernel_rfl
 simp [vload, vpart, h1]
theorem Ob : szT Tryz.prog 9 = some 1 := by kernel_rfl
theorem CU : vzl Tryz.prog 9 = some [.lit (.string ⟨#[]⟩)] := by kernel_rfl
theorem CV {c : VV} {cs : List VV} : vload Tryz.prog 22 (c :: cs) = some c := by
 have h1 : aggT Tryz.prog 22 = some false := by kernel_rfl
 simp [vload, vpart, h1]
theorem CW : szT Tryz.prog 22 = some 1 := by kernel_rfl
theorem qP : vzl Tryz.prog 22 = some [.lit (.slice none 0 0)] := by kernel_rfl
theorem qQ {H : Nat → Option VObj} {cs : List VV} {n : Nat} {f : Bool} : vlen Tryz.prog H 22 (.sl cs n f) = some (.lit (.int .i64 n)) := by simp [vlen, Tryz.underlying22, sls]
theorem lenN22 {H : Nat → Option VObj} : vlen Tryz.prog H 22 (.lit (.slice none 0 0)) = some (.lit (.int .i64 0)) := by simp [vlen, Tryz.underlying22, sls]
theorem lenR22 {H : Nat → Option VObj} {β off n w c : Nat} : vlen Tryz.prog H 22 (.ref β off n w c) = (match H β with | some (.cells _ cs) => if off ≤ cs.length then some (.lit (.int .i64 n)) else none | _ => none) := lenR Tryz.underlying22
theorem eh : elemT Tryz.prog 22 = some 3 := by simp [elemT, Tryz.underlying22]
theorem ql : appOk Tryz.prog 22 = some (3, 1, 8) := by kernel_rfl
theorem CX {xs : List Int} : (aa eI xs).take (xs.length * 1) = aa eI xs := sW (fun _ => rfl)
theorem qk : ∀ x : Int, leafL (eI x) = true := fun x => by simp only [eI_eq, jt, eB_eq, eS_eq, ju, fc, fe, s7, s8, s9, sA, sB, Bool.and_self]
theorem CY {a0 : VV} (h : leafL [a0] = true) : ar Tryz.prog 22 1 [(0, a0)] = some ([a0], 1) := by
 have h2 : szT Tryz.prog 3 = some 1 := by kernel_rfl
 have h3 : vzero Tryz.prog 3 = some #[.int .i64 0] := by kernel_rfl
 simp only [fe, fc, Bool.and_true, Bool.and_eq_true] at h
 simp [ar, Tryz.underlying22, h2, h3, vfill, vcells1, h, overwrite, vzeros, List.range_succ]
theorem CZ {a0 a1 : VV} (h : leafL [a0, a1] = true) : ar Tryz.prog 22 2 [(0, a0), (1, a1)] = some ([a0, a1], 1) := by
 have h2 : szT Tryz.prog 3 = some 1 := by kernel_rfl
 have h3 : vzero Tryz.prog 3 = some #[.int .i64 0] := by kernel_rfl
 simp only [fe, fc, Bool.and_true, Bool.and_eq_true] at h
 simp [ar, Tryz.underlying22, h2, h3, vfill, vcells1, h, overwrite, vzeros, List.range_succ]
theorem Da {a0 a1 a2 : VV} (h : leafL [a0, a1, a2] = true) : ar Tryz.prog 22 3 [(0, a0), (1, a1), (2, a2)] = some ([a0, a1, a2], 1) := by
 have h2 : szT Tryz.prog 3 = some 1 := by kernel_rfl
 have h3 : vzero Tryz.prog 3 = some #[.int .i64 0] := by kernel_rfl
 simp only [fe, fc, Bool.and_true, Bool.and_eq_true] at h
 simp [ar, Tryz.underlying22, h2, h3, vfill, vcells1, h, overwrite, vzeros, List.range_succ]
theorem aR {H : Nat → Option VObj} {xs : List Int} {x : Int} {f : Bool} {k : IntKind} {i : Int} (h : getI xs i = some x) : au Tryz.prog H 22 (.sl (aa eI xs) xs.length f) (.lit (.int k i)) = some (.tp (eI x ++ aa eI (xs.drop (i.toNat + 1)))) :=
 ixG Tryz.underlying22 (by kernel_rfl : szT Tryz.prog 3 = some 1) (by decide) (fun _ => rfl) h
theorem Db {c : VV} {cs : List VV} : vload Tryz.prog 23 (c :: cs) = some c := by
 have h1 : aggT Tryz.prog 23 = some false := by kernel_rfl
 simp [vload, vpart, h1]
theorem Dc : szT Tryz.prog 23 = some 1 := by kernel_rfl
theorem qR : vzl Tryz.prog 23 = some [.lit (.slice none 0 0)] := by kernel_rfl
theorem qS {H : Nat → Option VObj} {cs : List VV} {n : Nat} {f : Bool} : vlen Tryz.prog H 23 (.sl cs n f) = some (.lit (.int .i64 n)) := by simp [vlen, Tryz.underlying23, sls]
theorem lenN23 {H : Nat → Option VObj} : vlen Tryz.prog H 23 (.lit (.slice none 0 0)) = some (.lit (.int .i64 0)) := by simp [vlen, Tryz.underlying23, sls]
theorem lenR23 {H : Nat → Option VObj} {β off n w c : Nat} : vlen Tryz.prog H 23 (.ref β off n w c) = (match H β with | some (.cells _ cs) => if off ≤ cs.length then some (.lit (.int .i64 n)) else none | _ => none) := lenR Tryz.underlying23
theorem ix : elemT Tryz.prog 23 = some 49 := by simp [elemT, Tryz.underlying23]
theorem oB : appOk Tryz.prog 23 = some (49, 5, 56) := by kernel_rfl
theorem Dd {xs : List GBs} : (aa cGBs xs).take (xs.length * 5) = aa cGBs xs := sW (fun _ => rfl)
theorem oA : ∀ x : GBs, leafL (cGBs x) = true := fun x => by simp only [eI_eq, jt, eB_eq, eS_eq, ju, n3, fc, fe, s7, s8, s9, sA, sB, Bool.and_self]
theorem aP {xs : List GBs} {x : GBs} {i : Int} (h : getI xs i = some x) : (∀ (H : Nat → Option VObj) (β c : Nat) (k : IntKind), au Tryz.prog H 23 (.ref β 0 xs.length 5 c) (.lit (.int k i)) = if (H β).isSome = true then some (.ptr β (i.toNat * 5)) else none) ∧ (aa cGBs xs).drop (i.toNat * 5) = cGBs x ++ aa cGBs (xs.drop (i.toNat + 1)) ∧ (i.toNat * 5 ≤ (aa cGBs xs).length) = True := ixO Tryz.underlying23 (by kernel_rfl : szT Tryz.prog 49 = some 5) (fun _ => rfl) h
theorem aS {xs : List GBs} {x : GBs} {i : Int} (h : getI xs i = some x) : ((i.toNat * 5 + 1 ≤ (aa cGBs xs).length) = True ∧ (aa cGBs xs).drop (i.toNat * 5 + 1) = (.lit (.bool x.Round)) :: (.lit (.int .i64 x.Hours.Low)) :: (.lit (.int .i64 x.Hours.High)) :: (.sl (aa eI x.Needs) (List.length x.Needs) false) :: aa cGBs (xs.drop (i.toNat + 1))) ∧ ((i.toNat * 5 + 2 ≤ (aa cGBs xs).length) = True ∧ (aa cGBs xs).drop (i.toNat * 5 + 2) = (.lit (.int .i64 x.Hours.Low)) :: (.lit (.int .i64 x.Hours.High)) :: (.sl (aa eI x.Needs) (List.length x.Needs) false) :: aa cGBs (xs.drop (i.toNat + 1))) ∧ ((i.toNat * 5 + 3 ≤ (aa cGBs xs).length) = True ∧ (aa cGBs xs).drop (i.toNat * 5 + 3) = (.lit (.int .i64 x.Hours.High)) :: (.sl (aa eI x.Needs) (List.length x.Needs) false) :: aa cGBs (xs.drop (i.toNat + 1))) ∧ ((i.toNat * 5 + 4 ≤ (aa cGBs xs).length) = True ∧ (aa cGBs xs).drop (i.toNat * 5 + 4) = (.sl (aa eI x.Needs) (List.length x.Needs) false) :: aa cGBs (xs.drop (i.toNat + 1))) := ⟨⟨eq_true (by have := of_eq_true (setA (w := 5) (enc := cGBs) (fun _ => rfl) h); omega), by rw [← List.drop_drop, (aP h).2.1]; rfl⟩, ⟨eq_true (by have := of_eq_true (setA (w := 5) (enc := cGBs) (fun _ => rfl) h); omega), by rw [← List.drop_drop, (aP h).2.1]; rfl⟩, ⟨eq_true (by have := of_eq_true (setA (w := 5) (enc := cGBs) (fun _ => rfl) h); omega), by rw [← List.drop_drop, (aP h).2.1]; rfl⟩, ⟨eq_true (by have := of_eq_true (setA (w := 5) (enc := cGBs) (fun _ => rfl) h); omega), by rw [← List.drop_drop, (aP h).2.1]; rfl⟩⟩
theorem De {c0 c1 c2 c3 c4 : VV} (h : leafL [c0, c1, c2, c3, c4] = true) : ar Tryz.prog 23 1 [(0, .agg [c0, c1, c2, c3, c4])] = some ([c0, c1, c2, c3, c4], 5) := by
 have h2 : szT Tryz.prog 49 = some 5 := by kernel_rfl
 have h3 : vzero Tryz.prog 49 = some #[.int .i64 0, .bool false, .int .i64 0, .int .i64 0, .slice none 0 0] := by kernel_rfl
 simp only [fe, fc, Bool.and_true, Bool.and_eq_true] at h
 simp [ar, Tryz.underlying23, h2, h3, vfill, aH, h, overwrite, vzeros]
theorem aK {H : Nat → Option VObj} {xs : List GBs} {x : GBs} {f : Bool} {k : IntKind} {i : Int} (h : getI xs i = some x) : au Tryz.prog H 23 (.sl (aa cGBs xs) xs.length f) (.lit (.int k i)) = some (.tp (cGBs x ++ aa cGBs (xs.drop (i.toNat + 1)))) :=
 ixG Tryz.underlying23 (by kernel_rfl : szT Tryz.prog 49 = some 5) (by decide) (fun _ => rfl) h
theorem Df {c0 c1 c2 : VV} {cs : List VV} : vload Tryz.prog 25 (c0 :: c1 :: c2 :: cs) = some (.agg [c0, c1, c2]) := by
 have h1 : aggT Tryz.prog 25 = some true := by kernel_rfl
 have h2 : szT Tryz.prog 25 = some 3 := by kernel_rfl
 simp [vload, vpart, h1, h2]
theorem Dg : szT Tryz.prog 25 = some 3 := by kernel_rfl
theorem qT : vzl Tryz.prog 25 = some [.lit (.int .i64 0), .lit (.slice none 0 0), .lit (.slice none 0 0)] := by kernel_rfl
theorem Dh {H : Nat → Option VObj} {cs : List VV} : ae Tryz.prog H 25 (.tp cs) 0 = some (.tp (cs.drop 0)) := by
 have h2 : szT Tryz.prog 3 = some 1 := by kernel_rfl
 simp [ae, Tryz.underlying25, h2]
theorem Di {H : Nat → Option VObj} {β o : Nat} : ae Tryz.prog H 25 (.ptr β o) 0 = if (H β).isSome = true then some (.ptr β (o + 0)) else none := by
 have h2 : szT Tryz.prog 3 = some 1 := by kernel_rfl
 simp [ae, Tryz.underlying25, h2]
theorem Dj {c0 c1 c2 : VV} : vfield Tryz.prog 25 (.agg [c0, c1, c2]) 0 = some (c0) := by
 have h1 : aggT Tryz.prog 3 = some false := by kernel_rfl
 have h2 : szT Tryz.prog 3 = some 1 := by kernel_rfl
 simp [vfield, Tryz.underlying25, vpart, h1, h2]
theorem Dk {H : Nat → Option VObj} {cs : List VV} : ae Tryz.prog H 25 (.tp cs) 1 = some (.tp (cs.drop 1)) := by
 have h2 : szT Tryz.prog 22 = some 1 := by kernel_rfl
 simp [ae, Tryz.underlying25, h2]
theorem Dl {H : Nat → Option VObj} {β o : Nat} : ae Tryz.prog H 25 (.ptr β o) 1 = if (H β).isSome = true then some (.ptr β (o + 1)) else none := by
 have h2 : szT Tryz.prog 22 = some 1 := by kernel_rfl
 simp [ae, Tryz.underlying25, h2]
theorem Dm {c0 c1 c2 : VV} : vfield Tryz.prog 25 (.agg [c0, c1, c2]) 1 = some (c1) := by
 have h1 : aggT Tryz.prog 22 = some false := by kernel_rfl
 have h2 : szT Tryz.prog 22 = some 1 := by kernel_rfl
 simp [vfield, Tryz.underlying25, vpart, h1, h2]
theorem Dn {H : Nat → Option VObj} {cs : List VV} : ae Tryz.prog H 25 (.tp cs) 2 = some (.tp (cs.drop 2)) := by
 have h2 : szT Tryz.prog 23 = some 1 := by kernel_rfl
 simp [ae, Tryz.underlying25, h2]
theorem Dp {H : Nat → Option VObj} {β o : Nat} : ae Tryz.prog H 25 (.ptr β o) 2 = if (H β).isSome = true then some (.ptr β (o + 2)) else none := by
 have h2 : szT Tryz.prog 23 = some 1 := by kernel_rfl
 simp [ae, Tryz.underlying25, h2]
theorem Dq {c0 c1 c2 : VV} : vfield Tryz.prog 25 (.agg [c0, c1, c2]) 2 = some (c2) := by
 have h1 : aggT Tryz.prog 23 = some false := by kernel_rfl
 have h2 : szT Tryz.prog 23 = some 1 := by kernel_rfl
 simp [vfield, Tryz.underlying25, vpart, h1, h2]
theorem Dr {c : VV} {cs : List VV} : vload Tryz.prog 29 (c :: cs) = some c := by
 have h1 : aggT Tryz.prog 29 = some false := by kernel_rfl
 simp [vload, vpart, h1]
theorem Ds : szT Tryz.prog 29 = some 1 := by kernel_rfl
theorem qU : vzl Tryz.prog 29 = some [.lit (.int .i64 0)] := by kernel_rfl
theorem Dt {c : VV} {cs : List VV} : vload Tryz.prog 31 (c :: cs) = some c := by
 have h1 : aggT Tryz.prog 31 = some false := by kernel_rfl
 simp [vload, vpart, h1]
theorem Du : szT Tryz.prog 31 = some 1 := by kernel_rfl
theorem qV : vzl Tryz.prog 31 = some [.lit (.slice none 0 0)] := by kernel_rfl
theorem qW {H : Nat → Option VObj} {cs : List VV} {n : Nat} {f : Bool} : vlen Tryz.prog H 31 (.sl cs n f) = some (.lit (.int .i64 n)) := by simp [vlen, Tryz.underlying31, sls]
theorem lenN31 {H : Nat → Option VObj} : vlen Tryz.prog H 31 (.lit (.slice none 0 0)) = some (.lit (.int .i64 0)) := by simp [vlen, Tryz.underlying31, sls]
theorem lenR31 {H : Nat → Option VObj} {β off n w c : Nat} : vlen Tryz.prog H 31 (.ref β off n w c) = (match H β with | some (.cells _ cs) => if off ≤ cs.length then some (.lit (.int .i64 n)) else none | _ => none) := lenR Tryz.underlying31
theorem jm : elemT Tryz.prog 31 = some 35 := by simp [elemT, Tryz.underlying31]
theorem pc : appOk Tryz.prog 31 = some (35, 2, 16) := by kernel_rfl
theorem Dv {xs : List GSpan} : (aa cGSpan xs).take (xs.length * 2) = aa cGSpan xs := sW (fun _ => rfl)
theorem pb : ∀ x : GSpan, leafL (cGSpan x) = true := fun x => by simp only [eI_eq, jt, eB_eq, eS_eq, ju, mu, fc, fe, s7, s8, s9, sA, sB, Bool.and_self]
theorem Dw {c0 c1 : VV} (h : leafL [c0, c1] = true) : ar Tryz.prog 31 1 [(0, .agg [c0, c1])] = some ([c0, c1], 2) := by
 have h2 : szT Tryz.prog 35 = some 2 := by kernel_rfl
 have h3 : vzero Tryz.prog 35 = some #[.int .i64 0, .int .i64 0] := by kernel_rfl
 simp only [fe, fc, Bool.and_true, Bool.and_eq_true] at h
 simp [ar, Tryz.underlying31, h2, h3, vfill, aH, h, overwrite, vzeros]
theorem xE {H : Nat → Option VObj} {xs : List GSpan} {x : GSpan} {f : Bool} {k : IntKind} {i : Int} (h : getI xs i = some x) : au Tryz.prog H 31 (.sl (aa cGSpan xs) xs.length f) (.lit (.int k i)) = some (.tp (cGSpan x ++ aa cGSpan (xs.drop (i.toNat + 1)))) :=
 ixG Tryz.underlying31 (by kernel_rfl : szT Tryz.prog 35 = some 2) (by decide) (fun _ => rfl) h
theorem Dx {c0 c1 : VV} {cs : List VV} : vload Tryz.prog 35 (c0 :: c1 :: cs) = some (.agg [c0, c1]) := by
 have h1 : aggT Tryz.prog 35 = some true := by kernel_rfl
 have h2 : szT Tryz.prog 35 = some 2 := by kernel_rfl
 simp [vload, vpart, h1, h2]
theorem Dy : szT Tryz.prog 35 = some 2 := by kernel_rfl
theorem iB : vzl Tryz.prog 35 = some [.lit (.int .i64 0), .lit (.int .i64 0)] := by kernel_rfl
theorem Dz {H : Nat → Option VObj} {cs : List VV} : ae Tryz.prog H 35 (.tp cs) 0 = some (.tp (cs.drop 0)) := by
 have h2 : szT Tryz.prog 3 = some 1 := by kernel_rfl
 simp [ae, Tryz.underlying35, h2]
theorem D0 {H : Nat → Option VObj} {β o : Nat} : ae Tryz.prog H 35 (.ptr β o) 0 = if (H β).isSome = true then some (.ptr β (o + 0)) else none := by
 have h2 : szT Tryz.prog 3 = some 1 := by kernel_rfl
 simp [ae, Tryz.underlying35, h2]
theorem D1 {c0 c1 : VV} : vfield Tryz.prog 35 (.agg [c0, c1]) 0 = some (c0) := by
 have h1 : aggT Tryz.prog 3 = some false := by kernel_rfl
 have h2 : szT Tryz.prog 3 = some 1 := by kernel_rfl
 simp [vfield, Tryz.underlying35, vpart, h1, h2]
theorem D2 {H : Nat → Option VObj} {cs : List VV} : ae Tryz.prog H 35 (.tp cs) 1 = some (.tp (cs.drop 1)) := by
 have h2 : szT Tryz.prog 3 = some 1 := by kernel_rfl
 simp [ae, Tryz.underlying35, h2]
theorem D3 {H : Nat → Option VObj} {β o : Nat} : ae Tryz.prog H 35 (.ptr β o) 1 = if (H β).isSome = true then some (.ptr β (o + 1)) else none := by
 have h2 : szT Tryz.prog 3 = some 1 := by kernel_rfl
 simp [ae, Tryz.underlying35, h2]
theorem D4 {c0 c1 : VV} : vfield Tryz.prog 35 (.agg [c0, c1]) 1 = some (c1) := by
 have h1 : aggT Tryz.prog 3 = some false := by kernel_rfl
 have h2 : szT Tryz.prog 3 = some 1 := by kernel_rfl
 simp [vfield, Tryz.underlying35, vpart, h1, h2]
theorem D5 {c0 c1 c2 c3 c4 : VV} {cs : List VV} : vload Tryz.prog 49 (c0 :: c1 :: c2 :: c3 :: c4 :: cs) = some (.agg [c0, c1, c2, c3, c4]) := by
 have h1 : aggT Tryz.prog 49 = some true := by kernel_rfl
 have h2 : szT Tryz.prog 49 = some 5 := by kernel_rfl
 simp [vload, vpart, h1, h2]
theorem D6 : szT Tryz.prog 49 = some 5 := by kernel_rfl
theorem qX : vzl Tryz.prog 49 = some [.lit (.int .i64 0), .lit (.bool false), .lit (.int .i64 0), .lit (.int .i64 0), .lit (.slice none 0 0)] := by kernel_rfl
theorem D7 {H : Nat → Option VObj} {cs : List VV} : ae Tryz.prog H 49 (.tp cs) 0 = some (.tp (cs.drop 0)) := by
 have h2 : szT Tryz.prog 3 = some 1 := by kernel_rfl
 simp [ae, Tryz.underlying49, h2]
theorem D8 {H : Nat → Option VObj} {β o : Nat} : ae Tryz.prog H 49 (.ptr β o) 0 = if (H β).isSome = true then some (.ptr β (o + 0)) else none := by
 have h2 : szT Tryz.prog 3 = some 1 := by kernel_rfl
 simp [ae, Tryz.underlying49, h2]
theorem D9 {c0 c1 c2 c3 c4 : VV} : vfield Tryz.prog 49 (.agg [c0, c1, c2, c3, c4]) 0 = some (c0) := by
 have h1 : aggT Tryz.prog 3 = some false := by kernel_rfl
 have h2 : szT Tryz.prog 3 = some 1 := by kernel_rfl
 simp [vfield, Tryz.underlying49, vpart, h1, h2]
theorem DA {H : Nat → Option VObj} {cs : List VV} : ae Tryz.prog H 49 (.tp cs) 1 = some (.tp (cs.drop 1)) := by
 have h2 : szT Tryz.prog 4 = some 1 := by kernel_rfl
 simp [ae, Tryz.underlying49, h2]
theorem DB {H : Nat → Option VObj} {β o : Nat} : ae Tryz.prog H 49 (.ptr β o) 1 = if (H β).isSome = true then some (.ptr β (o + 1)) else none := by
 have h2 : szT Tryz.prog 4 = some 1 := by kernel_rfl
 simp [ae, Tryz.underlying49, h2]
theorem DC {c0 c1 c2 c3 c4 : VV} : vfield Tryz.prog 49 (.agg [c0, c1, c2, c3, c4]) 1 = some (c1) := by
 have h1 : aggT Tryz.prog 4 = some false := by kernel_rfl
 have h2 : szT Tryz.prog 4 = some 1 := by kernel_rfl
 simp [vfield, Tryz.underlying49, vpart, h1, h2]
theorem DD {H : Nat → Option VObj} {cs : List VV} : ae Tryz.prog H 49 (.tp cs) 2 = some (.tp (cs.drop 2)) := by
 have h2 : szT Tryz.prog 35 = some 2 := by kernel_rfl
 simp [ae, Tryz.underlying49, h2]
theorem DE {H : Nat → Option VObj} {β o : Nat} : ae Tryz.prog H 49 (.ptr β o) 2 = if (H β).isSome = true then some (.ptr β (o + 2)) else none := by
 have h2 : szT Tryz.prog 35 = some 2 := by kernel_rfl
 simp [ae, Tryz.underlying49, h2]
theorem DF {c0 c1 c2 c3 c4 : VV} : vfield Tryz.prog 49 (.agg [c0, c1, c2, c3, c4]) 2 = some (.agg [c2, c3]) := by
 have h1 : aggT Tryz.prog 35 = some true := by kernel_rfl
 have h2 : szT Tryz.prog 35 = some 2 := by kernel_rfl
 simp [vfield, Tryz.underlying49, vpart, h1, h2]
theorem DG {H : Nat → Option VObj} {cs : List VV} : ae Tryz.prog H 49 (.tp cs) 3 = some (.tp (cs.drop 4)) := by
 have h2 : szT Tryz.prog 22 = some 1 := by kernel_rfl
 simp [ae, Tryz.underlying49, h2]
theorem DH {H : Nat → Option VObj} {β o : Nat} : ae Tryz.prog H 49 (.ptr β o) 3 = if (H β).isSome = true then some (.ptr β (o + 4)) else none := by
 have h2 : szT Tryz.prog 22 = some 1 := by kernel_rfl
 simp [ae, Tryz.underlying49, h2]
theorem DI {c0 c1 c2 c3 c4 : VV} : vfield Tryz.prog 49 (.agg [c0, c1, c2, c3, c4]) 3 = some (c4) := by
 have h1 : aggT Tryz.prog 22 = some false := by kernel_rfl
 have h2 : szT Tryz.prog 22 = some 1 := by kernel_rfl
 simp [vfield, Tryz.underlying49, vpart, h1, h2]
theorem DJ {c : VV} {cs : List VV} : vload Tryz.prog 51 (c :: cs) = some c := by
 have h1 : aggT Tryz.prog 51 = some false := by kernel_rfl
 simp [vload, vpart, h1]
theorem DK : szT Tryz.prog 51 = some 1 := by kernel_rfl
theorem qY : vzl Tryz.prog 51 = some [.lit (.slice none 0 0)] := by kernel_rfl
theorem qZ {H : Nat → Option VObj} {cs : List VV} {n : Nat} {f : Bool} : vlen Tryz.prog H 51 (.sl cs n f) = some (.lit (.int .i64 n)) := by simp [vlen, Tryz.underlying51, sls]
theorem lenN51 {H : Nat → Option VObj} : vlen Tryz.prog H 51 (.lit (.slice none 0 0)) = some (.lit (.int .i64 0)) := by simp [vlen, Tryz.underlying51, sls]
theorem lenR51 {H : Nat → Option VObj} {β off n w c : Nat} : vlen Tryz.prog H 51 (.ref β off n w c) = (match H β with | some (.cells _ cs) => if off ≤ cs.length then some (.lit (.int .i64 n)) else none | _ => none) := lenR Tryz.underlying51
theorem DL : elemT Tryz.prog 51 = some 60 := by simp [elemT, Tryz.underlying51]
theorem DM {xs : List Int} : (aa eI xs).take (xs.length * 1) = aa eI xs := sW (fun _ => rfl)
theorem DN {a0 : VV} (h : leafL [a0] = true) : ar Tryz.prog 51 1 [(0, a0)] = some ([a0], 1) := by
 have h2 : szT Tryz.prog 60 = some 1 := by kernel_rfl
 have h3 : vzero Tryz.prog 60 = some #[.int .i64 0] := by kernel_rfl
 simp only [fe, fc, Bool.and_true, Bool.and_eq_true] at h
 simp [ar, Tryz.underlying51, h2, h3, vfill, vcells1, h, overwrite, vzeros, List.range_succ]
theorem DO {a0 a1 : VV} (h : leafL [a0, a1] = true) : ar Tryz.prog 51 2 [(0, a0), (1, a1)] = some ([a0, a1], 1) := by
 have h2 : szT Tryz.prog 60 = some 1 := by kernel_rfl
 have h3 : vzero Tryz.prog 60 = some #[.int .i64 0] := by kernel_rfl
 simp only [fe, fc, Bool.and_true, Bool.and_eq_true] at h
 simp [ar, Tryz.underlying51, h2, h3, vfill, vcells1, h, overwrite, vzeros, List.range_succ]
theorem DP {a0 a1 a2 : VV} (h : leafL [a0, a1, a2] = true) : ar Tryz.prog 51 3 [(0, a0), (1, a1), (2, a2)] = some ([a0, a1, a2], 1) := by
 have h2 : szT Tryz.prog 60 = some 1 := by kernel_rfl
 have h3 : vzero Tryz.prog 60 = some #[.int .i64 0] := by kernel_rfl
 simp only [fe, fc, Bool.and_true, Bool.and_eq_true] at h
 simp [ar, Tryz.underlying51, h2, h3, vfill, vcells1, h, overwrite, vzeros, List.range_succ]
theorem DQ {c : VV} {cs : List VV} : vload Tryz.prog 60 (c :: cs) = some c := by
 have h1 : aggT Tryz.prog 60 = some false := by kernel_rfl
 simp [vload, vpart, h1]
theorem DS : szT Tryz.prog 60 = some 1 := by kernel_rfl
theorem ra : vzl Tryz.prog 60 = some [.lit (.int .i64 0)] := by kernel_rfl
theorem DT {c0 c1 c2 c3 c4 : VV} {cs : List VV} : vload Tryz.prog 92 (c0 :: c1 :: c2 :: c3 :: c4 :: cs) = some (.agg [c0, c1, c2, c3, c4]) := by
 have h1 : aggT Tryz.prog 92 = some true := by kernel_rfl
 have h2 : szT Tryz.prog 92 = some 5 := by kernel_rfl
 simp [vload, vpart, h1, h2]
theorem DU : szT Tryz.prog 92 = some 5 := by kernel_rfl
theorem kG : vzl Tryz.prog 92 = some [.lit (.int .i64 0), .lit (.slice none 0 0), .lit (.slice none 0 0), .lit (.slice none 0 0), .lit (.map none)] := by kernel_rfl
theorem DV {H : Nat → Option VObj} {cs : List VV} : ae Tryz.prog H 92 (.tp cs) 0 = some (.tp (cs.drop 0)) := by
 have h2 : szT Tryz.prog 25 = some 3 := by kernel_rfl
 simp [ae, Tryz.underlying92, h2]
theorem DW {H : Nat → Option VObj} {β o : Nat} : ae Tryz.prog H 92 (.ptr β o) 0 = if (H β).isSome = true then some (.ptr β (o + 0)) else none := by
 have h2 : szT Tryz.prog 25 = some 3 := by kernel_rfl
 simp [ae, Tryz.underlying92, h2]
theorem DX {c0 c1 c2 c3 c4 : VV} : vfield Tryz.prog 92 (.agg [c0, c1, c2, c3, c4]) 0 = some (.agg [c0, c1, c2]) := by
 have h1 : aggT Tryz.prog 25 = some true := by kernel_rfl
 have h2 : szT Tryz.prog 25 = some 3 := by kernel_rfl
 simp [vfield, Tryz.underlying92, vpart, h1, h2]
theorem DY {H : Nat → Option VObj} {cs : List VV} : ae Tryz.prog H 92 (.tp cs) 1 = some (.tp (cs.drop 3)) := by
 have h2 : szT Tryz.prog 22 = some 1 := by kernel_rfl
 simp [ae, Tryz.underlying92, h2]
theorem DZ {H : Nat → Option VObj} {β o : Nat} : ae Tryz.prog H 92 (.ptr β o) 1 = if (H β).isSome = true then some (.ptr β (o + 3)) else none := by
 have h2 : szT Tryz.prog 22 = some 1 := by kernel_rfl
 simp [ae, Tryz.underlying92, h2]
theorem Ea {c0 c1 c2 c3 c4 : VV} : vfield Tryz.prog 92 (.agg [c0, c1, c2, c3, c4]) 1 = some (c3) := by
 have h1 : aggT Tryz.prog 22 = some false := by kernel_rfl
 have h2 : szT Tryz.prog 22 = some 1 := by kernel_rfl
 simp [vfield, Tryz.underlying92, vpart, h1, h2]
theorem Eb {H : Nat → Option VObj} {cs : List VV} : ae Tryz.prog H 92 (.tp cs) 2 = some (.tp (cs.drop 4)) := by
 have h2 : szT Tryz.prog 90 = some 1 := by kernel_rfl
 simp [ae, Tryz.underlying92, h2]
theorem Ec {H : Nat → Option VObj} {β o : Nat} : ae Tryz.prog H 92 (.ptr β o) 2 = if (H β).isSome = true then some (.ptr β (o + 4)) else none := by
 have h2 : szT Tryz.prog 90 = some 1 := by kernel_rfl
 simp [ae, Tryz.underlying92, h2]
theorem Ee {c0 c1 c2 c3 c4 : VV} : vfield Tryz.prog 92 (.agg [c0, c1, c2, c3, c4]) 2 = some (c4) := by
 have h1 : aggT Tryz.prog 90 = some false := by kernel_rfl
 have h2 : szT Tryz.prog 90 = some 1 := by kernel_rfl
 simp [vfield, Tryz.underlying92, vpart, h1, h2]
theorem rb {c0 c1 : VV} {cs : List VV} : vload Tryz.prog 152 (c0 :: c1 :: cs) = some (.agg [c0, c1]) := by
 have h1 : aggT Tryz.prog 152 = some true := by kernel_rfl
 have h2 : szT Tryz.prog 152 = some 2 := by kernel_rfl
 simp [vload, vpart, h1, h2]
theorem re : szT Tryz.prog 152 = some 2 := by kernel_rfl
theorem iC : vzl Tryz.prog 152 = some [.lit (.int .i64 0), .lit (.int .i64 0)] := by kernel_rfl
theorem Ef {H : Nat → Option VObj} {cs : List VV} : ae Tryz.prog H 152 (.tp cs) 0 = some (.tp (cs.drop 0)) := by
 have h2 : szT Tryz.prog 3 = some 1 := by kernel_rfl
 simp [ae, Tryz.underlying152, h2]
theorem Eg {H : Nat → Option VObj} {β o : Nat} : ae Tryz.prog H 152 (.ptr β o) 0 = if (H β).isSome = true then some (.ptr β (o + 0)) else none := by
 have h2 : szT Tryz.prog 3 = some 1 := by kernel_rfl
 simp [ae, Tryz.underlying152, h2]
theorem Eh {c0 c1 : VV} : vfield Tryz.prog 152 (.agg [c0, c1]) 0 = some (c0) := by
 have h1 : aggT Tryz.prog 3 = some false := by kernel_rfl
 have h2 : szT Tryz.prog 3 = some 1 := by kernel_rfl
 simp [vfield, Tryz.underlying152, vpart, h1, h2]
theorem Ei {H : Nat → Option VObj} {cs : List VV} : ae Tryz.prog H 152 (.tp cs) 1 = some (.tp (cs.drop 1)) := by
 have h2 : szT Tryz.prog 3 = some 1 := by kernel_rfl
 simp [ae, Tryz.underlying152, h2]
theorem Ej {H : Nat → Option VObj} {β o : Nat} : ae Tryz.prog H 152 (.ptr β o) 1 = if (H β).isSome = true then some (.ptr β (o + 1)) else none := by
 have h2 : szT Tryz.prog 3 = some 1 := by kernel_rfl
 simp [ae, Tryz.underlying152, h2]
theorem Ek {c0 c1 : VV} : vfield Tryz.prog 152 (.agg [c0, c1]) 1 = some (c1) := by
 have h1 : aggT Tryz.prog 3 = some false := by kernel_rfl
 have h2 : szT Tryz.prog 3 = some 1 := by kernel_rfl
 simp [vfield, Tryz.underlying152, vpart, h1, h2]
theorem rh {c : VV} {cs : List VV} : vload Tryz.prog 156 (c :: cs) = some c := by
 have h1 : aggT Tryz.prog 156 = some false := by kernel_rfl
 simp [vload, vpart, h1]
theorem ri : szT Tryz.prog 156 = some 1 := by kernel_rfl
theorem mw : vzl Tryz.prog 156 = some [.lit (.int .i64 0)] := by kernel_rfl
theorem rj : szT Tryz.prog 153 = some 1 := by kernel_rfl
theorem rk {c : VV} {cs : List VV} : vload Tryz.prog 153 (c :: cs) = some c := by
 have h1 : aggT Tryz.prog 153 = some false := by kernel_rfl
 simp [vload, vpart, h1]
theorem my : vzl Tryz.prog 153 = some [.lit .nilFunc] := by kernel_rfl
theorem rl : szT Tryz.prog 154 = some 2 := by kernel_rfl
theorem iD : vzl Tryz.prog 154 = some [.lit .nilFunc, .lit .nilFunc] := by kernel_rfl
theorem rn {c0 c1 : VV} {cs : List VV} : vload Tryz.prog 154 (c0 :: c1 :: cs) = some (.agg [c0, c1]) := by
 have h1 : aggT Tryz.prog 154 = some true := by kernel_rfl
 have h2 : szT Tryz.prog 154 = some 2 := by kernel_rfl
 simp [vload, vpart, h1, h2]
theorem El {c0 c1 : VV} {k : IntKind} : vindex Tryz.prog 154 (.agg [c0, c1]) (.lit (.int k 0)) = some c0 := by
 have h1 : aggT Tryz.prog 153 = some false := by kernel_rfl
 have h2 : szT Tryz.prog 153 = some 1 := by kernel_rfl
 simp [vindex, Tryz.underlying154, vpart, h1, h2]
theorem Em {H : Nat → Option VObj} {β o : Nat} {k : IntKind} : au Tryz.prog H 154 (.ptr β o) (.lit (.int k 0)) = if (H β).isSome = true then some (.ptr β (o + 0)) else none := by
 have h2 : szT Tryz.prog 153 = some 1 := by kernel_rfl
 simp [au, Tryz.underlying154, h2]
theorem Eo {c0 c1 : VV} {k : IntKind} : vindex Tryz.prog 154 (.agg [c0, c1]) (.lit (.int k 1)) = some c1 := by
 have h1 : aggT Tryz.prog 153 = some false := by kernel_rfl
 have h2 : szT Tryz.prog 153 = some 1 := by kernel_rfl
 simp [vindex, Tryz.underlying154, vpart, h1, h2]
theorem Ep {H : Nat → Option VObj} {β o : Nat} {k : IntKind} : au Tryz.prog H 154 (.ptr β o) (.lit (.int k 1)) = if (H β).isSome = true then some (.ptr β (o + 1)) else none := by
 have h2 : szT Tryz.prog 153 = some 1 := by kernel_rfl
 simp [au, Tryz.underlying154, h2]
theorem Er : vbuild Tryz.prog 35 [] = some (.agg [.lit (.int .i64 0), .lit (.int .i64 0)]) := by
 rw [oS iB (by kernel_rfl)]
 rfl
theorem Es {bX ct : VV} (h : leafL [bX, ct] = true) : vbuild Tryz.prog 35 [(0, bX), (1, ct)] = some (.agg [bX, ct]) := by
 have p0 : placeT Tryz.prog 35 0 = some (0, 1) := by kernel_rfl
 have p1 : placeT Tryz.prog 35 1 = some (1, 1) := by kernel_rfl
 simp only [fe, fc, Bool.and_true, Bool.and_eq_true] at h
 rw [oS iB (by kernel_rfl)]
 simp [vfill, p0, p1, vcells1, h, overwrite]
theorem Oc {bX iE iF ct mz : VV} (h : leafL [bX, iE, iF, ct, mz] = true) : vbuild Tryz.prog 92 [(0, .agg [bX, iE, iF]), (1, ct), (2, mz)] = some (.agg [bX, iE, iF, ct, mz]) := by
 have p0 : placeT Tryz.prog 92 0 = some (0, 3) := by kernel_rfl
 have p1 : placeT Tryz.prog 92 1 = some (3, 1) := by kernel_rfl
 have p2 : placeT Tryz.prog 92 2 = some (4, 1) := by kernel_rfl
 simp only [fe, fc, Bool.and_true, Bool.and_eq_true] at h
 have q0 : aH (.agg [bX, iE, iF]) = some [bX, iE, iF] := by rw [Gs]; simp [fe, fc, h]
 rw [oS kG (by kernel_rfl)]
 simp [vfill, p0, p1, p2, vcells1, h, overwrite, q0]
theorem Et {bX ct : VV} (h : leafL [bX, ct] = true) : vbuild Tryz.prog 152 [(0, bX), (1, ct)] = some (.agg [bX, ct]) := by
 have p0 : placeT Tryz.prog 152 0 = some (0, 1) := by kernel_rfl
 have p1 : placeT Tryz.prog 152 1 = some (1, 1) := by kernel_rfl
 simp only [fe, fc, Bool.and_true, Bool.and_eq_true] at h
 rw [oS iC (by kernel_rfl)]
 simp [vfill, p0, p1, vcells1, h, overwrite]
theorem Eu {bX ct : VV} (h : leafL [bX, ct] = true) : vbuild Tryz.prog 154 [(0, bX), (1, ct)] = some (.agg [bX, ct]) := by
 have p0 : placeT Tryz.prog 154 0 = some (0, 1) := by kernel_rfl
 have p1 : placeT Tryz.prog 154 1 = some (1, 1) := by kernel_rfl
 simp only [fe, fc, Bool.and_true, Bool.and_eq_true] at h
 rw [oS iD (by kernel_rfl)]
 simp [vfill, p0, p1, vcells1, h, overwrite]
theorem Od {H : Nat → Option VObj} {x y : Operand} {a b : Bool} : binV Tryz.prog H .eql 4 x y (.lit (.bool a)) (.lit (.bool b)) = some (.lit (.bool (a == b))) := xe Tryz.underlying4
theorem Oe {H : Nat → Option VObj} {x y : Operand} {a b : Bool} : binV Tryz.prog H .neq 4 x y (.lit (.bool a)) (.lit (.bool b)) = some (.lit (.bool (a != b))) := xf Tryz.underlying4
theorem rp {H : Nat → Option VObj} {x y : Operand} {a0 b0 : Int} {a1 b1 : Int} : binV Tryz.prog H .eql 35 x y (.agg [.lit (.int .i64 a0), .lit (.int .i64 a1)]) (.agg [.lit (.int .i64 b0), .lit (.int .i64 b1)]) = some (.lit (.bool (a0 == b0 && (a1 == b1)))) ∧ binV Tryz.prog H .neq 35 x y (.agg [.lit (.int .i64 a0), .lit (.int .i64 a1)]) (.agg [.lit (.int .i64 b0), .lit (.int .i64 b1)]) = some (.lit (.bool (!(a0 == b0 && (a1 == b1))))) := by
 refine binS (xs := [.int .i64 a0, .int .i64 a1]) (ys := [.int .i64 b0, .int .i64 b1]) (by simp [VV.val?, valL?]) (by simp [VV.val?, valL?]) Tryz.underlying35 (by kernel_rfl) (by kernel_rfl) ?_
 simp [eqF, ig, eq1, Tryz.underlying3]
theorem Ev {H : Nat → Option VObj} {x y : Operand} {a0 b0 : Int} {a1 b1 : Int} : binV Tryz.prog H .eql 35 x y (.agg [.lit (.int .i64 a0), .lit (.int .i64 a1)]) (.agg [.lit (.int .i64 b0), .lit (.int .i64 b1)]) = some (.lit (.bool (a0 == b0 && (a1 == b1)))) := rp.1
theorem Ew {H : Nat → Option VObj} {x y : Operand} {a0 b0 : Int} {a1 b1 : Int} : binV Tryz.prog H .neq 35 x y (.agg [.lit (.int .i64 a0), .lit (.int .i64 a1)]) (.agg [.lit (.int .i64 b0), .lit (.int .i64 b1)]) = some (.lit (.bool (!(a0 == b0 && (a1 == b1))))) := rp.2
theorem Ex : (VV.lit Value.nilFunc).leaf = true := rfl
theorem Ey : (VV.lit Value.nilIface).leaf = true := rfl
def tyf := (And.intro (And.intro (And.intro (And.intro (And.intro (And.intro (And.intro @mu @n3) (And.intro @qO @tf)) (And.intro (And.intro @NU @NV) (And.intro @CQ (And.intro @NW @NX)))) (And.intro (And.intro (And.intro @CS @NY) (And.intro @NZ @CT)) (And.intro (And.intro @Oa @Ob) (And.intro @CU (And.intro @CV @CW))))) (And.intro (And.intro (And.intro (And.intro @qP @qQ) (And.intro @lenN22 @lenR22)) (And.intro (And.intro @eh @CX) (And.intro @CY (And.intro @CZ @Da)))) (And.intro (And.intro (And.intro @Db @Dc) (And.intro @qR (And.intro @qS @lenN23))) (And.intro (And.intro @lenR23 @ix) (And.intro @Dd (And.intro @De @Df)))))) (And.intro (And.intro (And.intro (And.intro (And.intro @Dg @qT) (And.intro @Dh @Di)) (And.intro (And.intro @Dj @Dk) (And.intro @Dl (And.intro @Dm @Dn)))) (And.intro (And.intro (And.intro @Dp @Dq) (And.intro @Dr @Ds)) (And.intro (And.intro @qU @Dt) (And.intro @Du (And.intro @qV @qW))))) (And.intro (And.intro (And.intro (And.intro @lenN31 @lenR31) (And.intro @jm @Dv)) (And.intro (And.intro @Dw @Dx) (And.intro @Dy (And.intro @iB @Dz)))) (And.intro (And.intro (And.intro @D0 @D1) (And.intro @D2 (And.intro @D3 @D4))) (And.intro (And.intro @D5 @D6) (And.intro @qX (And.intro @D7 @D8))))))) (And.intro (And.intro (And.intro (And.intro (And.intro (And.intro @D9 @DA) (And.intro @DB @DC)) (And.intro (And.intro @DD @DE) (And.intro @DF (And.intro @DG @DH)))) (And.intro (And.intro (And.intro @DI @DJ) (And.intro @DK @qY)) (And.intro (And.intro @qZ @lenN51) (And.intro @lenR51 (And.intro @DL @DM))))) (And.intro (And.intro (And.intro (And.intro @DN @DO) (And.intro @DP @DQ)) (And.intro (And.intro @DS @ra) (And.intro @DT (And.intro @DU @kG)))) (And.intro (And.intro (And.intro @DV @DW) (And.intro @DX (And.intro @DY @DZ))) (And.intro (And.intro @Ea @Eb) (And.intro @Ec (And.intro @Ee @rb)))))) (And.intro (And.intro (And.intro (And.intro (And.intro @re @iC) (And.intro @Ef @Eg)) (And.intro (And.intro @Eh @Ei) (And.intro @Ej (And.intro @Ek @rh)))) (And.intro (And.intro (And.intro @ri @mw) (And.intro @rj (And.intro @rk @my))) (And.intro (And.intro @rl @iD) (And.intro @rn (And.intro @El @Em))))) (And.intro (And.intro (And.intro (And.intro @Eo @Ep) (And.intro @Er @Es)) (And.intro (And.intro @Oc @Et) (And.intro @Eu (And.intro @Od @Oe)))) (And.intro (And.intro (And.intro @Ev @Ew) (And.intro @Ex (And.intro @Ey @Kx))) (And.intro (And.intro @eI_eq @jt) (And.intro @eB_eq (And.intro @eS_eq @ju))))))))
def aG := (And.intro (And.intro (And.intro (And.intro @dc.norm @dc.normL) (And.intro @dc.shown @dc.showL)) (And.intro (And.intro @dB.norm @dB.normL) (And.intro @dB.shown @dB.showL))) (And.intro (And.intro (And.intro @gT.norm @gT.normL) (And.intro @gT.shown @gT.showL)) (And.intro (And.intro @n4.norm @n4.normL) (And.intro @n4.shown @n4.showL))))
def tytre := (And.intro (And.intro (And.intro @dc.tree @dc.treeL) (And.intro @dB.tree @dB.treeL)) (And.intro (And.intro @gT.tree @gT.treeL) (And.intro @n4.tree @n4.treeL)))
end Go.V
namespace Go.V
open Go Go.Proofs IntKind
theorem ktA {P : Program} {G : Glob} {d : Option Tmp} {γ : Nat} {tm : Nat → VV} {H : Nat → Option VObj} {nx : Nat} {df : List VDef} {K : St → Prop} {Qp : VV → St → Prop} {f : FuncId} {args args0 : List VV} {x : VV} (hp : ah P G f args0 (.tree x)) (h : fin d γ tm H nx df K x .none) (hn : normL args = args0 := by first | (simp only [nrm, aG] <;> rfl) | rfl) (ht : treeL args = true := by simp only [tre, tytre, Bool.and_self]) : callK P G f args ⟨tm, H, nx, df⟩ d γ K Qp := ktree hn ht hp h
theorem dktA {P : Program} {G : Glob} {d : Option Tmp} {γ : Nat} {tm : Nat → VV} {H : Nat → Option VObj} {nx : Nat} {df : List VDef} {K : List Nat → List Nat → St → Prop} {f : FuncId} {args args0 : List VV} {x : VV} (hp : ah P G f args0 (.tree x)) (h : fin d γ tm H nx df (K [] []) x .none) (hn : normL args = args0 := by first | (simp only [nrm, aG] <;> rfl) | rfl) (ht : treeL args = true := by simp only [tre, tytre, Bool.and_self]) : dcallK P G f args tm H nx df d γ K := dktree hn ht hp h
theorem optI {α β : Type} {K : Option β → Prop} {X : Option α} {F : α → Option β} (h : K (Option.bind X F)) (kN : ¬ K none) : ∃ r, X = some r ∧ K (F r) := by
  cases X with
  | none => exact absurd h kN
  | some r => exact ⟨r, rfl, h⟩
end Go.V
end
section
namespace Go.V
open Go Go.Proofs IntKind
def Dec (P : Program) (n : Nat) (t : TypeId) {α : Type} (enc : α → List VV) (R : α → Prop) : Prop := ∀ xs, ShapeT P n t xs → ∃ x : α, R x ∧ normL xs = enc x
theorem Ez {P : Program} {n : Nat} {t : TypeId} (hu : P.underlying t = some (.int .i64)) : Dec P (n + 1) t eI (fun _ => True) := by
 intro xs h
 simp only [ShapeT, hu] at h
 obtain ⟨i, _, rfl⟩ := h
 exact ⟨i, trivial, by simp only [lU, lT, Gv, eI]⟩
theorem E0 {P : Program} {n : Nat} {t : TypeId} (hu : P.underlying t = some .bool) : Dec P (n + 1) t eB (fun _ => True) := by
 intro xs h
 simp only [ShapeT, hu] at h
 obtain ⟨b, rfl⟩ := h
 exact ⟨b, trivial, by simp only [lU, lT, y8, eB]⟩
theorem HO {P : Program} {n : Nat} {t : TypeId} {α : Type} {enc : α → List VV} {R : α → Prop} (h : Dec P n t enc R) : ∀ yss : List (List VV), (∀ ys ∈ yss, ShapeT P n t ys) → ∃ l : List α, l.length = yss.length ∧ (∀ x ∈ l, R x) ∧ normL yss.flatten = aa enc l
 | [], _ => ⟨[], rfl, fun _ hx => (by cases hx), rfl⟩
 | ys :: yss, hs => by
  obtain ⟨x, hx, e⟩ := h ys (hs ys (List.mem_cons_self ..))
  obtain ⟨l, h1, h2, h3⟩ := HO h yss (fun y hy => hs y (List.mem_cons_of_mem _ hy))
  refine ⟨x :: l, by simp [h1], fun y hy => ?_, by rw [List.flatten_cons, mT, e, h3, fD]⟩
  rcases List.mem_cons.1 hy with rfl | hy
  ·exact hx
  ·exact h2 y hy
theorem HP {P : Program} {n : Nat} {t e : TypeId} {α : Type} {enc : α → List VV} {R : α → Prop} (hu : P.underlying t = some (.slice e)) (h : Dec P n e enc R) : Dec P (n + 1) t (fun l : List α => [.sl (aa enc l) l.length false]) (fun l => lenOk l = true ∧ ∀ x ∈ l, R x) := by
 intro xs hs
 simp only [ShapeT, hu] at hs
 rcases hs with rfl | ⟨yss, hl, hall, rfl⟩
 ·exact ⟨[], ⟨rfl, fun _ hx => (by cases hx)⟩, by simp only [lU, lT, Gt]; rfl⟩
 ·obtain ⟨l, h1, h2, h3⟩ := HO h yss hall
  refine ⟨l, ⟨?_, h2⟩, by simp only [lU, lT, pL, h3, h1]⟩
  have : maxLen = 9223372036854775807 := by decide
  unfold lenOk
  exact decide_eq_true (by omega)
theorem Of {P : Program} {n : Nat} {t : TypeId} {fs : Array Field} {xs : List VV} (hu : P.underlying t = some (.struct fs)) (h : ShapeT P (n + 1) t xs) : ∃ yss, FieldsS (ShapeT P n) fs.toList yss ∧ xs = yss.flatten := by
 simp only [ShapeT, hu] at h
 exact h
def TypesS (S : TypeId → List VV → Prop) : List TypeId → List (List VV) → Prop
 | [], [] => True
 | t :: ts, ys :: yss => S t ys ∧ TypesS S ts yss
 | _, _ => False
theorem HQ {S : TypeId → List VV → Prop} : ∀ (fs : List Field) (yss : List (List VV)), FieldsS S fs yss → TypesS S (fs.map Field.type) yss
 | [], [], _ => trivial
 | f :: fs, ys :: yss, ⟨h1, h2⟩ => ⟨h1, HQ fs yss h2⟩
 | [], _ :: _, h => h
 | _ :: _, [], h => h
theorem E1 {P : Program} {n : Nat} {t : TypeId} {fs : Array Field} {ts : List TypeId} {xs : List VV} (hu : P.underlying t = some (.struct fs)) (ht : fs.toList.map Field.type = ts) (h : ShapeT P (n + 1) t xs) : ∃ yss, TypesS (ShapeT P n) ts yss ∧ xs = yss.flatten := by
 obtain ⟨yss, h1, h2⟩ := Of hu h
 exact ⟨yss, ht ▸ HQ _ _ h1, h2⟩
theorem sP {P : Program} {n : Nat} {t : TypeId} {ts : List TypeId} {xs : List VV} (h : ArgsS P n (t :: ts) xs) : ∃ x xs', xs = x :: xs' ∧ ArgS P n t x ∧ ArgsS P n ts xs' := by
 match xs, h with
 | x :: xs', h => exact ⟨x, xs', rfl, h.1, h.2⟩
theorem BZ {P : Program} {n : Nat} {xs : List VV} (h : ArgsS P n [] xs) : xs = [] := by
 match xs, h with
 | [], _ => rfl
theorem Ni {P : Program} {n : Nat} {t : TypeId} {fs : Array Field} {x : VV} {α : Type} {enc : α → List VV} {R : α → Prop} (hu : P.underlying t = some (.struct fs)) (hd : Dec P n t enc R) (h : ArgS P n t x) : ∃ s, R s ∧ normV x = .agg (enc s) := by
 obtain ⟨ys, h1, h2⟩ := h
 rw [hu] at h2
 obtain rfl : x = .agg ys := h2
 obtain ⟨s, hs, e⟩ := hd ys h1
 exact ⟨s, hs, by rw [Gu, e]⟩
theorem BX {P : Program} {n : Nat} {t : TypeId} {d : TypeDesc} {x : VV} {α : Type} {enc : α → List VV} {R : α → Prop} (hu : P.underlying t = some d) (hn : (∀ fs, d ≠ .struct fs) ∧ ∀ m e, d ≠ .array m e) (hd : Dec P n t enc R) (h : ArgS P n t x) : ∃ s, R s ∧ [normV x] = enc s := by
 obtain ⟨ys, h1, h2⟩ := h
 rw [hu] at h2
 have h3 : ys = [x] := by
  cases d <;> first | exact h2 | exact absurd rfl (hn.1 _) | exact absurd rfl (hn.2 _ _)
 subst h3
 obtain ⟨s, hs, e⟩ := hd _ h1
 exact ⟨s, hs, by rw [← e, lU, lT]⟩
end Go.V
end
section
set_option maxRecDepth 100000
namespace Go.V
open Go Go.Proofs IntKind
def E2 (x : GBs) : Prop := lenOk x.Needs = true
def HR (x : GBk) : Prop := lenOk x.Boards = true ∧ lenOk x.Strokes = true ∧ ∀ y ∈ x.Strokes, E2 y
section
variable {P : Program} (ff : P.underlying 3 = some (.int .i64)) (cG : P.underlying 22 = some (.slice 3)) (gD : P.underlying 4 = some (.bool)) {HS : Array Field} (cH : P.underlying 35 = some (.struct HS)) (cI : HS.toList.map Field.type = [3, 3]) {HT : Array Field} (cJ : P.underlying 49 = some (.struct HT)) (cK : HT.toList.map Field.type = [3, 4, 35, 22]) (cL : P.underlying 23 = some (.slice 49)) {HU : Array Field} (cM : P.underlying 25 = some (.struct HU)) (cN : HU.toList.map Field.type = [3, 22, 23])
include ff cG gD cH cI cJ cK cL cM cN
theorem gd_3 {n : Nat} : Dec P (n + 1) 3 eI (fun _ => True) := Ez ff
theorem gd_22 {n : Nat} : Dec P (n + 2) 22 (eSl eI) (fun l => lenOk l = true ∧ ∀ x ∈ l, True) := HP cG (gd_3 ff cG gD cH cI cJ cK cL cM cN (n := n))
theorem gd_4 {n : Nat} : Dec P (n + 1) 4 eB (fun _ => True) := E0 gD
theorem gd_35 {n : Nat} : Dec P (n + 2) 35 cGSpan (fun _ => True) := by
 intro xs h
 obtain ⟨yss, hf, rfl⟩ := E1 (n := n + 1) (ts := [3, 3]) cH cI h
 match yss, hf with
 | [y0, y1], ⟨h0, h1, _⟩ =>
  obtain ⟨x0, r0, e0⟩ := gd_3 ff cG gD cH cI cJ cK cL cM cN (n := n + 0) _ h0
  obtain ⟨x1, r1, e1⟩ := gd_3 ff cG gD cH cI cJ cK cL cM cN (n := n + 0) _ h1
  exact ⟨⟨x0, x1⟩, trivial, by simp only [List.flatten_cons, List.flatten_nil, List.append_nil, mT, e0, e1, eI, kn, eB, eS, eSl, mu, List.cons_append, List.nil_append]⟩
theorem gd_49 {n : Nat} : Dec P (n + 3) 49 cGBs (E2) := by
 intro xs h
 obtain ⟨yss, hf, rfl⟩ := E1 (n := n + 2) (ts := [3, 4, 35, 22]) cJ cK h
 match yss, hf with
 | [y0, y1, y2, y3], ⟨h0, h1, h2, h3, _⟩ =>
  obtain ⟨x0, r0, e0⟩ := gd_3 ff cG gD cH cI cJ cK cL cM cN (n := n + 1) _ h0
  obtain ⟨x1, r1, e1⟩ := gd_4 ff cG gD cH cI cJ cK cL cM cN (n := n + 1) _ h1
  obtain ⟨x2, r2, e2⟩ := gd_35 ff cG gD cH cI cJ cK cL cM cN (n := n + 0) _ h2
  obtain ⟨x3, r3, e3⟩ := gd_22 ff cG gD cH cI cJ cK cL cM cN (n := n + 0) _ h3
  exact ⟨⟨x0, x1, x2, x3⟩, r3.1, by simp only [List.flatten_cons, List.flatten_nil, List.append_nil, mT, e0, e1, e2, e3, eI, kn, eB, eS, eSl, n3, mu, List.cons_append, List.nil_append]⟩
theorem gd_23 {n : Nat} : Dec P (n + 4) 23 (eSl cGBs) (fun l => lenOk l = true ∧ ∀ x ∈ l, E2 x) := HP cL (gd_49 ff cG gD cH cI cJ cK cL cM cN (n := n))
theorem gd_25 {n : Nat} : Dec P (n + 5) 25 cGBk (HR) := by
 intro xs h
 obtain ⟨yss, hf, rfl⟩ := E1 (n := n + 4) (ts := [3, 22, 23]) cM cN h
 match yss, hf with
 | [y0, y1, y2], ⟨h0, h1, h2, _⟩ =>
  obtain ⟨x0, r0, e0⟩ := gd_3 ff cG gD cH cI cJ cK cL cM cN (n := n + 3) _ h0
  obtain ⟨x1, r1, e1⟩ := gd_22 ff cG gD cH cI cJ cK cL cM cN (n := n + 2) _ h1
  obtain ⟨x2, r2, e2⟩ := gd_23 ff cG gD cH cI cJ cK cL cM cN (n := n + 0) _ h2
  exact ⟨⟨x0, x1, x2⟩, ⟨r1.1, r2.1, r2.2⟩, by simp only [List.flatten_cons, List.flatten_nil, List.append_nil, mT, e0, e1, e2, eI, kn, eB, eS, eSl, qO, List.cons_append, List.nil_append]⟩
end
theorem dec_3 {n : Nat} : Dec Tryz.prog (n + 1) 3 eI (fun _ => True) := gd_3 Tryz.underlying3 Tryz.underlying22 Tryz.underlying4 Tryz.underlying35 (by kernel_rfl) Tryz.underlying49 (by kernel_rfl) Tryz.underlying23 Tryz.underlying25 (by kernel_rfl)
theorem BY {n : Nat} : Dec Tryz.prog (n + 2) 22 (eSl eI) (fun l => lenOk l = true ∧ ∀ x ∈ l, True) := gd_22 Tryz.underlying3 Tryz.underlying22 Tryz.underlying4 Tryz.underlying35 (by kernel_rfl) Tryz.underlying49 (by kernel_rfl) Tryz.underlying23 Tryz.underlying25 (by kernel_rfl)
theorem BW {n : Nat} : Dec Tryz.prog (n + 5) 25 cGBk (HR) := gd_25 Tryz.underlying3 Tryz.underlying22 Tryz.underlying4 Tryz.underlying35 (by kernel_rfl) Tryz.underlying49 (by kernel_rfl) Tryz.underlying23 Tryz.underlying25 (by kernel_rfl)
end Go.V
end
section
namespace Go.V
open Go Go.Proofs IntKind
def goB (b : Bool) : Option (LOut Bool Unit) := cond b (some (.go ())) (some (.ret false))
theorem ln (a b : Bool) : goB (a && b) = cond a (goB b) (some (.ret false)) := by cases a <;> rfl
theorem csome (a b : Bool) : cond a (some b) (some false) = some (a && b) := by cases a <;> rfl
theorem jI {X : Type} (b : Bool) (kr : Bool → Option X) (kg : Unit → Option X) (kb : Nat → Unit → Option X) : lbind (goB b) kr kg kb = cond b (kg ()) (kr false) := by cases b <;> rfl
def inB (a b n : Int) : Bool := decide (a ≤ n) && decide (n ≤ b)
theorem og {a b n : Int} : inB a b n = true ↔ a ≤ n ∧ n ≤ b := by simp [inB]
theorem fP {n : Int} (h1 : -9223372036854775808 ≤ n) (h2 : n < 9223372036854775808) : i64.wrap n = n := IntWalk.i64_in _ (by omega)
theorem BI {α : Type} {xs : List α} (h : lenOk xs = true) : xs.length < 9223372036854775808 := by simpa [lenOk] using h
theorem fO {α : Type} {xs : List α} (h : xs.length < 9223372036854775808) : lenOk xs = true := by simpa [lenOk] using h
theorem uK {α : Type} {xs : List α} {i : Int} {x : α} (h : getI xs i = some x) : x ∈ xs := by
 unfold getI at h
 split at h
 ·exact List.mem_of_getElem? h
 ·cases h
theorem lp {α : Type} {xs : List α} {i : Int} {x : α} (h : getI xs i = some x) : 0 ≤ i ∧ i < xs.length := ⟨(kd h).1, (kd h).2.1⟩
end Go.V
end
section
namespace Go.V
def mxL (l : List Int) : Int := l.foldl max 0
theorem HV : ∀ (l : List Int) (a b : Int), l.foldl max a ≤ b ↔ a ≤ b ∧ ∀ x ∈ l, x ≤ b
 | [], a, b => by simp
 | x :: l, a, b => by
  simp only [List.foldl_cons, HV l, List.mem_cons, forall_eq_or_imp]
  constructor
  ·rintro ⟨h1, h2⟩; exact ⟨by omega, by omega, h2⟩
  ·rintro ⟨h1, h2, h3⟩; exact ⟨by omega, h3⟩
theorem j6 {l : List Int} {b : Int} : mxL l ≤ b ↔ 0 ≤ b ∧ ∀ x ∈ l, x ≤ b := HV l 0 b
theorem rq (l : List Int) : 0 ≤ mxL l := (j6.1 (Int.le_refl _)).1
theorem E3 {l : List Int} {x : Int} (h : x ∈ l) : x ≤ mxL l := (j6.1 (Int.le_refl _)).2 x h
def frF (hd : Nat → Int) (e : Nat → Int) (h : Int) : Nat → Int
 | 0 => 0
 | k + 1 => if hd k = h then e k else frF hd e h k
theorem HW {hd : Nat → Int} {e e' : Nat → Int} {h : Int} : ∀ {n : Nat}, (∀ k, k < n → e k = e' k) → frF hd e h n = frF hd e' h n
 | 0, _ => rfl
 | n + 1, hk => by
  unfold frF
  rw [hk n (Nat.lt_succ_self _), HW (fun k h => hk k (Nat.lt_succ_of_lt h))]
theorem ru {hd : Nat → Int} {e : Nat → Int} {h b : Int} (hb : 0 ≤ b) : ∀ {n : Nat}, (∀ k, k < n → hd k = h → e k ≤ b) → frF hd e h n ≤ b
 | 0, _ => hb
 | n + 1, hk => by
  unfold frF
  split
  ·rename_i hh; exact hk n (Nat.lt_succ_self _) hh
  ·exact ru hb (fun k h1 h2 => hk k (Nat.lt_succ_of_lt h1) h2)
theorem rv {hd : Nat → Int} {e e' : Nat → Int} {h : Int} : ∀ {n : Nat}, (∀ k, k < n → e k ≤ e' k) → frF hd e h n ≤ frF hd e' h n
 | 0, _ => Int.le_refl _
 | n + 1, hk => by
  unfold frF
  split
  ·exact hk n (Nat.lt_succ_self _)
  ·exact rv (fun k h => hk k (Nat.lt_succ_of_lt h))
def bgF (hd : Nat → Int) (nd : Nat → List Int) (e : Nat → Int) (s : Nat) : Int := max (max 0 (frF hd e (hd s) s)) (mxL ((nd s).map fun k => e k.toNat))
def En (hd : Nat → Int) (nd : Nat → List Int) (d : Nat → Int) : Nat → Nat → Int
 | 0, _ => 0
 | f + 1, s => bgF hd nd (En hd nd d f) s + d s
def NdOk (nd : Nat → List Int) : Prop := ∀ s, ∀ k ∈ nd s, 0 ≤ k ∧ k.toNat < s
theorem HX {hd : Nat → Int} {nd : Nat → List Int} {e e' : Nat → Int} {s : Nat} (hn : NdOk nd) (h : ∀ k, k < s → e k = e' k) : bgF hd nd e s = bgF hd nd e' s := by
 unfold bgF
 rw [HW h]
 congr 2
 exact List.map_congr_left fun k hk => h _ (hn s k hk).2
theorem ry {hd : Nat → Int} {nd : Nat → List Int} {d : Nat → Int} (hn : NdOk nd) : ∀ (f g s : Nat), s < f → s < g → En hd nd d f s = En hd nd d g s
 | 0, _, _, h, _ => absurd h (Nat.not_lt_zero _)
 | _ + 1, 0, _, _, h => absurd h (Nat.not_lt_zero _)
 | f + 1, g + 1, s, h1, h2 => by
  unfold En
  rw [HX hn (e' := En hd nd d g) (fun k hk => ry hn f g k (by omega) (by omega))]
def Ed (hd : Nat → Int) (nd : Nat → List Int) (d : Nat → Int) (s : Nat) : Int := En hd nd d (s + 1) s
def Bg (hd : Nat → Int) (nd : Nat → List Int) (d : Nat → Int) (s : Nat) : Int := bgF hd nd (Ed hd nd d) s
theorem Ed_eq {hd : Nat → Int} {nd : Nat → List Int} {d : Nat → Int} (hn : NdOk nd) (s : Nat) : Ed hd nd d s = Bg hd nd d s + d s := by
 show bgF hd nd (En hd nd d s) s + d s = _
 rw [HX hn (e' := Ed hd nd d) (fun k hk => ry hn s (k + 1) k hk (Nat.lt_succ_self _))]
 rfl
theorem E4 (hd : Nat → Int) (nd : Nat → List Int) (e : Nat → Int) (s : Nat) : 0 ≤ bgF hd nd e s := by
 have := rq ((nd s).map fun k => e k.toNat)
 unfold bgF
 omega
section
variable {hd : Nat → Int} {nd : Nat → List Int} {d d' : Nat → Int}
theorem Bg_nn (s : Nat) : 0 ≤ Bg hd nd d s := E4 _ _ _ _
theorem Ed_nn (hn : NdOk nd) (h : ∀ k, 0 ≤ d k) (s : Nat) : 0 ≤ Ed hd nd d s := by
 rw [Ed_eq hn]
 have := Bg_nn (hd := hd) (nd := nd) (d := d) s
 have := h s
 omega
theorem E5 {e e' : Nat → Int} {s : Nat} (hn : NdOk nd) (h : ∀ k, k < s → e k ≤ e' k) : bgF hd nd e s ≤ bgF hd nd e' s := by
 have h1 := rv (hd := hd) (h := hd s) (n := s) h
 have h2 : mxL ((nd s).map fun k => e k.toNat) ≤ mxL ((nd s).map fun k => e' k.toNat) := by
  refine j6.2 ⟨rq _, ?_⟩
  intro x hx
  obtain ⟨k, hk, rfl⟩ := List.mem_map.1 hx
  exact Int.le_trans (h _ (hn s k hk).2) (E3 (List.mem_map_of_mem (f := fun k : Int => e' k.toNat) hk))
 unfold bgF
 omega
theorem rz (hn : NdOk nd) : ∀ (f s : Nat), s < f → (∀ k, k ≤ s → d k ≤ d' k) → Ed hd nd d s ≤ Ed hd nd d' s
 | 0, _, h, _ => absurd h (Nat.not_lt_zero _)
 | f + 1, s, h, hd' => by
  rw [Ed_eq hn, Ed_eq hn]
  have h1 : Bg hd nd d s ≤ Bg hd nd d' s := E5 hn fun k hk => rz hn f k (by omega) (fun j hj => hd' j (by omega))
  have := hd' s (Nat.le_refl _)
  omega
theorem Ed_le (hn : NdOk nd) (h : ∀ k, d k ≤ d' k) (s : Nat) : Ed hd nd d s ≤ Ed hd nd d' s := rz hn (s + 1) s (Nat.lt_succ_self _) (fun k _ => h k)
theorem E6 (hn : NdOk nd) {s : Nat} {b : Int} (hb : 0 ≤ b) (h1 : ∀ k, k < s → hd k = hd s → Ed hd nd d k ≤ b) (h2 : ∀ k ∈ nd s, Ed hd nd d k.toNat ≤ b) : Bg hd nd d s ≤ b := by
 have h3 := ru (hd := hd) (e := Ed hd nd d) (h := hd s) (n := s) hb h1
 have h4 : mxL ((nd s).map fun k => Ed hd nd d k.toNat) ≤ b := by
  refine j6.2 ⟨hb, ?_⟩
  intro x hx
  obtain ⟨k, hk, rfl⟩ := List.mem_map.1 hx
  exact h2 k hk
 unfold Bg bgF
 omega
theorem Ed_bd (hn : NdOk nd) {m : Int} (h0 : ∀ k, 0 ≤ d k ∧ d k ≤ m) : ∀ (f s : Nat), s < f → Ed hd nd d s ≤ m * (s + 1)
 | 0, _, h => absurd h (Nat.not_lt_zero _)
 | f + 1, s, h => by
  have hm : 0 ≤ m := Int.le_trans (h0 0).1 (h0 0).2
  have key : ∀ k, k < s → Ed hd nd d k ≤ m * s := fun k hk => by
   refine Int.le_trans (Ed_bd hn h0 f k (by omega)) ?_
   exact Int.mul_le_mul_of_nonneg_left (by omega) hm
  have h1 : Bg hd nd d s ≤ m * s := E6 hn (Int.mul_nonneg hm (by omega)) (fun k hk _ => key k hk) (fun k hk => key _ (hn s k hk).2)
  rw [Ed_eq hn, Int.mul_add]
  have := h0 s
  omega
theorem pw (hn : NdOk nd) {m : Int} (h0 : ∀ k, 0 ≤ d k ∧ d k ≤ m) (s : Nat) : Ed hd nd d s ≤ m * (s + 1) := Ed_bd hn h0 (s + 1) s (Nat.lt_succ_self _)
def tkF (e : Nat → Int) : Nat → Int
 | 0 => 0
 | n + 1 => max (tkF e n) (e n)
theorem mn (e : Nat → Int) : ∀ n, 0 ≤ tkF e n
 | 0 => Int.le_refl _
 | n + 1 => by have := mn e n; unfold tkF; omega
theorem lJ {e : Nat → Int} : ∀ {n k : Nat}, k < n → e k ≤ tkF e n
 | 0, _, h => absurd h (Nat.not_lt_zero _)
 | n + 1, k, h => by
  unfold tkF
  rcases Nat.lt_or_ge k n with h1 | h1
  ·have := lJ (e := e) h1; omega
  ·have : k = n := by omega
   subst this
   omega
theorem lK {e : Nat → Int} {b : Int} (hb : 0 ≤ b) : ∀ {n : Nat}, (∀ k, k < n → e k ≤ b) → tkF e n ≤ b
 | 0, _ => hb
 | n + 1, h => by
  have h1 := lK hb (n := n) (fun k hk => h k (by omega))
  have h2 := h n (by omega)
  unfold tkF
  omega
theorem xK {e e' : Nat → Int} {n : Nat} (h : ∀ k, k < n → e k ≤ e' k) : tkF e n ≤ tkF e' n := lK (mn e' n) fun k hk => Int.le_trans (h k hk) (lJ hk)
theorem xL {e e' : Nat → Int} {n : Nat} (h : ∀ k, k < n → e k = e' k) : tkF e n = tkF e' n := Int.le_antisymm (xK fun k hk => by rw [h k hk]; exact Int.le_refl _) (xK fun k hk => by rw [h k hk]; exact Int.le_refl _)
end
end Go.V
end
section
namespace Go.V
open Go Go.Proofs IntKind
def iS (aE : Int) (bj : Int) (aM : Int) : Option (Bool) := cond (decide (aE ≤ bj)) (some (decide (bj ≤ aM))) (some false)
theorem m2 (aE : Int) (bj : Int) (aM : Int) (R : Bool) (h : iS aE bj aM = some R) : ah Tryz.prog G0 95 [.lit (.int .i64 aE), .lit (.int .i64 bj), .lit (.int .i64 aM)] (.tree (.lit (.bool R))) := by
 refine ah.runR mixed Tryz.call95 Tryz.func95 rfl (by simp [Tryz.ntmps95]; kernel_rfl) ?_
 obtain ⟨KF, h, kF, kN⟩ := bU h
 simp only [iS] at h
 cases d1 : (decide (aE ≤ bj))
 ·simp only [d1, hs] at h
  try simp only [vz, tyf, d1, nm, seval]
  obtain rfl := kF _ h
  exact aZ Tryz.results95 rfl
 simp only [d1, hs] at h
 try simp only [vz, tyf, d1, nm, seval]
 obtain rfl := kF _ h
 exact aZ Tryz.results95 rfl
def mJ (aE : Int) (aM : Int) : List Int → Int → Option (LOut (Bool) (Unit))
 | [], kH => some (.go ())
 | e0 :: p0, kH => Option.bind (iS aE e0 aM) (fun r1 => cond (r1) (mJ aE aM p0 (kH + 1)) (some (.ret false)))
def kO (aE : Int) (aj : List Int) (aM : Int) : Option (Bool) := cond (lenOk aj) (lbind (mJ aE aM aj 0) (fun r3 => some r3) (fun c2 => some true) (fun _ _ => none)) none
theorem tV (aE : Int) (aj : List Int) (aM : Int) (R : Bool) (h : kO aE aj aM = some R) : ah Tryz.prog G0 103 [.lit (.int .i64 aE), .sl (aa eI aj) (List.length aj) false, .lit (.int .i64 aM)] (.tree (.lit (.bool R))) := by
 refine ah.runR mixed Tryz.call103 Tryz.func103 rfl (by simp [Tryz.ntmps103]; kernel_rfl) ?_
 obtain ⟨KF, h, kF, kN⟩ := bU h
 simp only [kO] at h
 cases g5 : (lenOk aj)
 ·simp only [g5, hs] at h
  exact absurd h kN
 simp only [g5, hs] at h
 simp only [vz, tyf, g5, nm, seval]
 obtain ⟨K4, h, Og, Oh, O4, Oi⟩ := fh h kN
 obtain ⟨f4, Oj, h⟩ := call2 h
 obtain ⟨I4, E7⟩ : ∃ I : Nat → St → Prop, I = (fun m st => ∃ (p4 : List Int) (cB : Int), m = List.length p4 ∧ 0 ≤ cB ∧ List.drop (Int.toNat cB) aj = p4 ∧ st.df = [] ∧ 4 ≤ st.nx ∧ st.tm 0 = .lit (.int .i64 aE) ∧ st.tm 2 = .lit (.int .i64 aM) ∧ st.tm 9 = .sl (aa eI aj) (List.length aj) false ∧ st.tm 10 = .lit (.int .i64 (List.length aj : Int)) ∧ st.tm 11 = .lit (.int .i64 cB) ∧ K4 (f4 p4 cB)) := ⟨_, rfl⟩
 refine loopK mixed (by kernel_rfl) I4 (List.length aj) (by rw [E7]; refine ⟨aj, 0, rfl, Int.le_refl _, rfl, rfl, (show 4 ≤ 4 by omega), ?_, ?_, ?_, ?_, ?_, h⟩ <;> first | (simp only [ua, nm, seval] <;> rfl) | rfl) ?_
 rintro m ⟨tm, H, HY, df⟩ hinv
 rw [E7] at hinv
 obtain ⟨p4, cB, rfl, n5, rA, hdf, Ok, e6, e7, e8, e9, aV, h⟩ := hinv
 simp only at hdf Ok e6 e7 e8 e9 aV
 have n6 := gF (m := 4) (b := HY) (by omega)
 subst hdf Oj
 cases p4 with
 | nil =>
  have bG : (decide (cB < (List.length aj : Int))) = false := fj n5 rA
  simp only [mJ, hs, reduceCtorEq] at h
  replace h := Oh _ h
  try dsimp only at h
  try simp only [hs] at h
  try simp only [vz, tyf, g5, n6, e6, e7, e8, e9, aV, bG, nm, seval]
  obtain rfl := kF _ h
  exact aZ Tryz.results103 rfl
 | cons e4 p4 =>
  have gL : (decide (cB < (List.length aj : Int))) = true := fk n5 rA
  have mj := dg n5 rA
  have rB := fm n5 rA g5
  simp only [mJ, hs, reduceCtorEq] at h
  obtain ⟨HZ, Ol, h⟩ := optI h Oi
  try simp only [hs] at h
  simp only [vz, tyf, g5, n6, e6, e7, e8, e9, aV, gL, (aR mj), rB, nm, seval]
  refine ktA (m2 _ _ _ _ Ol) ?_
  refine bx (fun tm => tm 0 = .lit (.int .i64 aE) ∧ tm 2 = .lit (.int .i64 aM) ∧ tm 9 = .sl (aa eI aj) (List.length aj) false ∧ tm 10 = .lit (.int .i64 (List.length aj : Int)) ∧ tm 11 = .lit (.int .i64 cB) ∧ tm 18 = .lit (.bool HZ) ∧ True) (by refine ⟨e6, e7, e8, e9, aV, ?_, trivial⟩ <;> first | (simp only [ua, n6, e6, e7, e8, e9, aV, gL, rB, nm, seval] <;> rfl) | rfl) ?_
  rintro tm ⟨bp, bI, cR, cD, b4, bf, _⟩
  cases hZ : (HZ)
  ·simp only [hZ, hs] at h
   try simp only [vz, tyf, g5, n6, gL, (aR mj), rB, bp, bI, cR, cD, b4, bf, hZ, nm, seval]
   replace h := Og _ h
   try dsimp only at h
   obtain rfl := kF _ h
   exact aZ Tryz.results103 rfl
  simp only [hZ, hs] at h
  simp only [vz, tyf, g5, n6, gL, (aR mj), rB, bp, bI, cR, cD, b4, bf, hZ, nm, seval]
  exact ⟨List.length p4, Nat.lt_succ_self _, by rw [E7]; refine ⟨p4, cB + 1, rfl, Int.le_trans n5 (Int.le_add_one (Int.le_refl _)), dh n5 rA, rfl, (show 4 ≤ HY + 11 by omega), bp, bI, cR, cD, ?_, (by first | exact h | (simp only [gL, hZ]; exact h))⟩ <;> first | (simp only [ua, n6, gL, rB, bp, bI, cR, cD, b4, bf, hZ, nm, seval] <;> rfl) | rfl⟩
def rG (bd : List Int) : Option (Bool) := Option.bind (iS 1 (List.length bd : Int) 3) (fun r1 => cond (r1) (Option.bind (kO 0 bd 60) (fun r2 => some r2)) (some false))
theorem Ix (bd : List Int) (R : Bool) (h : rG bd = some R) : ah Tryz.prog G0 101 [.sl (aa eI bd) (List.length bd) false] (.tree (.lit (.bool R))) := by
 refine ah.runR mixed Tryz.call101 Tryz.func101 rfl (by simp [Tryz.ntmps101]; kernel_rfl) ?_
 obtain ⟨KF, h, kF, kN⟩ := bU h
 simp only [rG] at h
 obtain ⟨r3, o4, h⟩ := optI h kN
 try simp only [hs] at h
 simp only [vz, tyf, nm, seval]
 refine ktA (m2 _ _ _ _ o4) ?_
 refine bx (fun tm => tm 0 = .sl (aa eI bd) (List.length bd) false ∧ tm 5 = .lit (.bool r3) ∧ True) (by refine ⟨?_, ?_, trivial⟩ <;> first | (simp only [ua, nm, seval] <;> rfl) | rfl) ?_
 rintro tm ⟨e5, e6, _⟩
 cases d7 : (r3)
 ·simp only [d7, hs] at h
  try simp only [vz, tyf, e5, e6, d7, nm, seval]
  obtain rfl := kF _ h
  exact aZ Tryz.results101 rfl
 simp only [d7, hs] at h
 obtain ⟨r8, o9, h⟩ := optI h kN
 try simp only [hs] at h
 simp only [vz, tyf, e5, e6, d7, nm, seval]
 refine ktA (tV _ _ _ _ o9) ?_
 refine bx (fun tm => tm 6 = .lit (.bool true) ∧ tm 8 = .lit (.bool r8) ∧ True) (by refine ⟨?_, ?_, trivial⟩ <;> first | (simp only [ua, e5, e6, d7, nm, seval] <;> rfl) | rfl) ?_
 rintro tm ⟨aV, bc, _⟩
 try simp only [vz, tyf, d7, aV, bc, nm, seval]
 obtain rfl := kF _ h
 exact aZ Tryz.results101 rfl
def rD (ai : GBk) (cC : Int) : Option (Bool) := Option.bind (iS 0 cC (i64.wrap ((List.length ai.Boards : Int) - 1))) (fun r1 => some r1)
theorem Iu (ai : GBk) (cC : Int) (R : Bool) (h : rD ai cC = some R) : ah Tryz.prog G0 71 [.agg (cGBk ai), .lit (.int .i64 cC)] (.tree (.lit (.bool R))) := by
 refine ah.runR mixed Tryz.call71 Tryz.func71 rfl (by simp [Tryz.ntmps71]; kernel_rfl) ?_
 obtain ⟨KF, h, kF, kN⟩ := bU h
 simp only [rD] at h
 obtain ⟨r2, o3, h⟩ := optI h kN
 try simp only [hs] at h
 simp only [vz, tyf, nm, seval]
 refine ktA (m2 _ _ _ _ o3) ?_
 refine bx (fun tm => tm 10 = .lit (.bool r2) ∧ True) (by refine ⟨?_, trivial⟩ <;> first | (simp only [ua, nm, seval] <;> rfl) | rfl) ?_
 rintro tm ⟨e4, _⟩
 try simp only [vz, tyf, e4, nm, seval]
 obtain rfl := kF _ h
 exact aZ Tryz.results71 rfl
def nE (aE : Int) (dK : GSpan) (aM : Int) : Option (Bool) := cond (decide (aE ≤ dK.Low)) (cond (decide (dK.Low ≤ dK.High)) (some (decide (dK.High ≤ aM))) (some false)) (some false)
theorem Iv (aE : Int) (dK : GSpan) (aM : Int) (R : Bool) (h : nE aE dK aM = some R) : ah Tryz.prog G0 133 [.lit (.int .i64 aE), .agg (cGSpan dK), .lit (.int .i64 aM)] (.tree (.lit (.bool R))) := by
 refine ah.runR mixed Tryz.call133 Tryz.func133 rfl (by simp [Tryz.ntmps133]; kernel_rfl) ?_
 obtain ⟨KF, h, kF, kN⟩ := bU h
 simp only [nE] at h
 cases d1 : (decide (aE ≤ dK.Low))
 ·simp only [d1, hs] at h
  try simp only [vz, tyf, d1, nm, seval]
  obtain rfl := kF _ h
  exact aZ Tryz.results133 rfl
 simp only [d1, hs] at h
 cases d2 : (decide (dK.Low ≤ dK.High))
 ·simp only [d2, hs] at h
  try simp only [vz, tyf, d1, d2, nm, seval]
  obtain rfl := kF _ h
  exact aZ Tryz.results133 rfl
 simp only [d2, hs] at h
 try simp only [vz, tyf, d1, d2, nm, seval]
 obtain rfl := kF _ h
 exact aZ Tryz.results133 rfl
def mK (aj : List Int) : List Int → Int → Option (LOut (Bool) (Unit))
 | [], b2 => some (.go ())
 | e0 :: p0, b2 => Option.bind (getI aj (i64.wrap (b2 - 1))) (fun x1 => cond (decide (e0 ≤ x1)) (some (.ret false)) (mK aj p0 (b2 + 1)))
def nG (aE : Int) (aj : List Int) (aM : Int) : Option (Bool) := cond (lenOk aj) (cond (leB 0 1) (lbind (mK aj (List.drop (Int.toNat 1) aj) 1) (fun r4 => some r4) (fun c2 => Option.bind (kO aE aj aM) (fun r3 => some r3)) (fun _ _ => none)) none) none
theorem Iw (aE : Int) (aj : List Int) (aM : Int) (R : Bool) (h : nG aE aj aM = some R) : ah Tryz.prog G0 134 [.lit (.int .i64 aE), .sl (aa eI aj) (List.length aj) false, .lit (.int .i64 aM)] (.tree (.lit (.bool R))) := by
 refine ah.runR mixed Tryz.call134 Tryz.func134 rfl (by simp [Tryz.ntmps134]; kernel_rfl) ?_
 obtain ⟨KF, h, kF, kN⟩ := bU h
 simp only [nG] at h
 cases g6 : (lenOk aj)
 ·simp only [g6, hs] at h
  exact absurd h kN
 simp only [g6, hs] at h
 cases g7 : (leB 0 1)
 ·simp only [g7, hs] at h
  exact absurd h kN
 simp only [g7, hs] at h
 simp only [vz, tyf, g6, g7, nm, seval]
 obtain ⟨K5, h, GQ, sL, ME, nq⟩ := fh h kN
 obtain ⟨f5, B4, h⟩ := call2 h
 obtain ⟨I5, kz⟩ : ∃ I : Nat → St → Prop, I = (fun m st => ∃ (p5 : List Int) (bw : Int), m = List.length p5 ∧ 0 ≤ bw ∧ List.drop (Int.toNat bw) aj = p5 ∧ st.df = [] ∧ 2 ≤ st.nx ∧ st.tm 0 = .lit (.int .i64 aE) ∧ st.tm 1 = .sl (aa eI aj) (List.length aj) false ∧ st.tm 2 = .lit (.int .i64 aM) ∧ st.tm 7 = .lit (.int .i64 bw) ∧ K5 (f5 p5 bw)) := ⟨_, rfl⟩
 refine loopK mixed (by kernel_rfl) I5 (List.length (List.drop (Int.toNat 1) aj)) (by rw [kz]; refine ⟨List.drop (Int.toNat 1) aj, 1, rfl, of_decide_eq_true g7, rfl, rfl, (show 2 ≤ 2 by omega), ?_, ?_, ?_, ?_, h⟩ <;> first | (simp only [ua, nm, seval] <;> rfl) | rfl) ?_
 rintro m ⟨tm, H, i9, df⟩ hinv
 rw [kz] at hinv
 obtain ⟨p5, bw, rfl, ej, fv, hdf, B5, e8, e9, aV, bc, h⟩ := hinv
 simp only at hdf B5 e8 e9 aV bc
 have fp := gF (m := 2) (b := i9) (by omega)
 subst hdf B4
 cases p5 with
 | nil =>
  have gL : (decide (bw < (List.length aj : Int))) = false := fj ej fv
  simp only [mK, hs, reduceCtorEq] at h
  replace h := sL _ h
  try dsimp only at h
  try simp only [hs] at h
  obtain ⟨nt, mj, h⟩ := optI h kN
  try simp only [hs] at h
  simp only [vz, tyf, g6, g7, fp, e8, e9, aV, bc, gL, nm, seval]
  refine ktA (tV _ _ _ _ mj) ?_
  refine bx (fun tm => tm 27 = .lit (.bool nt) ∧ True) (by refine ⟨?_, trivial⟩ <;> first | (simp only [ua, fp, e8, e9, aV, bc, gL, nm, seval] <;> rfl) | rfl) ?_
  rintro tm ⟨bn, _⟩
  try simp only [vz, tyf, g6, g7, fp, gL, bn, nm, seval]
  obtain rfl := kF _ h
  exact aZ Tryz.results134 rfl
 | cons e5 p5 =>
  have bM : (decide (bw < (List.length aj : Int))) = true := fk ej fv
  have lv := dg ej fv
  have ki := fm ej fv g6
  simp only [mK, hs, reduceCtorEq] at h
  simp only [vz, tyf, g6, g7, fp, e8, e9, aV, bc, bM, (aR lv), ki, nm, seval]
  refine nV (fun tm => tm 0 = .lit (.int .i64 aE) ∧ tm 1 = .sl (aa eI aj) (List.length aj) false ∧ tm 2 = .lit (.int .i64 aM) ∧ tm 7 = .lit (.int .i64 bw) ∧ True) (by refine ⟨e8, e9, aV, bc, trivial⟩ <;> first | (simp only [ua, fp, e8, e9, aV, bc, bM, ki, nm, seval] <;> rfl) | rfl) ?_
  rintro tm ⟨cR, cD, b4, bf, _⟩
  obtain ⟨Om, m3, h⟩ := optI h nq
  try simp only [hs] at h
  cases bz : (decide (e5 ≤ Om))
  ·simp only [bz, hs] at h
   simp only [vz, tyf, g6, g7, fp, bM, (aR lv), ki, cR, cD, b4, bf, (aR m3), bz, nm, seval]
   exact ⟨List.length p5, Nat.lt_succ_self _, by rw [kz]; refine ⟨p5, bw + 1, rfl, Int.le_trans ej (Int.le_add_one (Int.le_refl _)), dh ej fv, rfl, (show 2 ≤ i9 + 17 by omega), cR, cD, b4, ?_, (by first | exact h | (simp only [bM, bz]; exact h))⟩ <;> first | (simp only [ua, fp, bM, ki, cR, cD, b4, bf, bz, nm, seval] <;> rfl) | rfl⟩
  simp only [bz, hs] at h
  try simp only [vz, tyf, g6, g7, fp, bM, (aR lv), ki, cR, cD, b4, bf, (aR m3), bz, nm, seval]
  replace h := GQ _ h
  try dsimp only at h
  obtain rfl := kF _ h
  exact aZ Tryz.results134 rfl
end Go.V
end
