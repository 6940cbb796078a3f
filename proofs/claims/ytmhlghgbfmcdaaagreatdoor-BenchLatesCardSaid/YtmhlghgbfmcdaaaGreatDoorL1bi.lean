/- Part of a proof. -/
import Derived.Test.YtmhlghgbfmcdaaaGreatDoorL1bh
import Derived.Test.YtmhlghgbfmcdaaaGreatDoorL1az
import Derived.Test.YtmhlghgbfmcdaaaGreatDoorProg
set_option linter.all false
set_option maxRecDepth 4000
set_option maxHeartbeats 40000000
section
namespace Go.V
open Go Go.Proofs IntKind
theorem mixed : Tryz.prog.follows .mixedOrders = true := by kernel_rfl
structure GSpan where
 Low : Int
 High : Int
 deriving Inhabited, DecidableEq
def aL (x : GSpan) : List VV := [.lit (.int .i64 x.Low), .lit (.int .i64 x.High)]
theorem pD {x : GSpan} : aL x = [.lit (.int .i64 x.Low), .lit (.int .i64 x.High)] := rfl
theorem fS : EncOk aL := EncOk.of (fun x => by simp only [pD, tre, Bool.and_self]) (fun x => by simp only [pD, nrm]) (fun x H d => by simp only [pD, nrm, List.map_cons, List.map_nil])
structure GBs where
 Board : Int
 Round : Bool
 Hours : GSpan
 Needs : List Int
 deriving Inhabited, DecidableEq
def cGBs (x : GBs) : List VV := [.lit (.int .i64 x.Board), .lit (.bool x.Round), .lit (.int .i64 x.Hours.Low), .lit (.int .i64 x.Hours.High), .sl (aa eI x.Needs) (List.length x.Needs) false]
theorem tt {x : GBs} : cGBs x = [.lit (.int .i64 x.Board), .lit (.bool x.Round), .lit (.int .i64 x.Hours.Low), .lit (.int .i64 x.Hours.High), .sl (aa eI x.Needs) (List.length x.Needs) false] := rfl
theorem iw : EncOk cGBs := EncOk.of (fun x => by simp only [tt, tre, fS.tree, fS.treeL, Bool.and_self]) (fun x => by simp only [tt, nrm, fS.norm, fS.normL, fS.shown, fS.showL]) (fun x H d => by simp only [tt, nrm, List.map_cons, List.map_nil])
structure GBk where
 Apprentices : Int
 Boards : List Int
 Strokes : List GBs
 deriving Inhabited, DecidableEq
def cGBk (x : GBk) : List VV := [.lit (.int .i64 x.Apprentices), .sl (aa eI x.Boards) (List.length x.Boards) false, .sl (aa cGBs x.Strokes) (List.length x.Strokes) false]
theorem tu {x : GBk} : cGBk x = [.lit (.int .i64 x.Apprentices), .sl (aa eI x.Boards) (List.length x.Boards) false, .sl (aa cGBs x.Strokes) (List.length x.Strokes) false] := rfl
theorem kK : EncOk cGBk := EncOk.of (fun x => by simp only [tu, tre, fS.tree, fS.treeL, iw.tree, iw.treeL, Bool.and_self]) (fun x => by simp only [tu, nrm, fS.norm, fS.normL, fS.shown, fS.showL, iw.norm, iw.normL, iw.shown, iw.showL]) (fun x H d => by simp only [tu, nrm, List.map_cons, List.map_nil])
structure GBe where
 stroke : Int
 hours : Int
 deriving Inhabited, DecidableEq
def cGBe (x : GBe) : List VV := [.lit (.int .i64 x.stroke), .lit (.int .i64 x.hours)]
theorem wW {x : GBe} : cGBe x = [.lit (.int .i64 x.stroke), .lit (.int .i64 x.hours)] := rfl
theorem rZ : EncOk cGBe := EncOk.of (fun x => by simp only [wW, tre, fS.tree, fS.treeL, iw.tree, iw.treeL, kK.tree, kK.treeL, Bool.and_self]) (fun x => by simp only [wW, nrm, fS.norm, fS.normL, fS.shown, fS.showL, iw.norm, iw.normL, iw.shown, iw.showL, kK.norm, kK.normL, kK.shown, kK.showL]) (fun x H d => by simp only [wW, nrm, List.map_cons, List.map_nil])
theorem Nn {c : VV} {cs : List VV} : vload Tryz.prog 2 (c :: cs) = some c := by
 have h1 : aggT Tryz.prog 2 = some false := by kernel_rfl
 simp [vload, vpart, h1]
theorem No : szT Tryz.prog 2 = some 1 := by kernel_rfl
theorem zX : vzl Tryz.prog 2 = some [.lit (.int .i64 0)] := by kernel_rfl
theorem Np {c : VV} {cs : List VV} : vload Tryz.prog 3 (c :: cs) = some c := by
 have h1 : aggT Tryz.prog 3 = some false := by kernel_rfl
 simp [vload, vpart, h1]
theorem Nq : szT Tryz.prog 3 = some 1 := by kernel_rfl
theorem zY : vzl Tryz.prog 3 = some [.lit (.int .i64 0)] := by kernel_rfl
theorem Nr {c : VV} {cs : List VV} : vload Tryz.prog 4 (c :: cs) = some c := by
 have h1 : aggT Tryz.prog 4 = some false := by kernel_rfl
 simp [vload, vpart, h1]
theorem Ns : szT Tryz.prog 4 = some 1 := by kernel_rfl
theorem zZ : vzl Tryz.prog 4 = some [.lit (.bool false)] := by kernel_rfl
theorem Nt {c : VV} {cs : List VV} : vload Tryz.prog 9 (c :: cs) = some c := by
 have h1 : aggT Tryz.prog 9 = some false := by kernel_rfl
 simp [vload, vpart, h1]
theorem Nu : szT Tryz.prog 9 = some 1 := by kernel_rfl
theorem Aa : vzl Tryz.prog 9 = some [.lit (.string ⟨#[]⟩)] := by kernel_rfl
theorem Ab {c : VV} {cs : List VV} : vload Tryz.prog 22 (c :: cs) = some c := by
 have h1 : aggT Tryz.prog 22 = some false := by kernel_rfl
 simp [vload, vpart, h1]
theorem Ac : szT Tryz.prog 22 = some 1 := by kernel_rfl
theorem tv : vzl Tryz.prog 22 = some [.lit (.slice none 0 0)] := by kernel_rfl
theorem tw {H : Nat → Option VObj} {cs : List VV} {n : Nat} {f : Bool} : vlen Tryz.prog H 22 (.sl cs n f) = some (.lit (.int .i64 n)) := by simp [vlen, Tryz.underlying22, sls]
theorem lenN22 {H : Nat → Option VObj} : vlen Tryz.prog H 22 (.lit (.slice none 0 0)) = some (.lit (.int .i64 0)) := by simp [vlen, Tryz.underlying22, sls]
theorem lenR22 {H : Nat → Option VObj} {β off n w c : Nat} : vlen Tryz.prog H 22 (.ref β off n w c) = (match H β with | some (.cells _ cs) => if off ≤ cs.length then some (.lit (.int .i64 n)) else none | _ => none) := lenR Tryz.underlying22
theorem ca : elemT Tryz.prog 22 = some 3 := by simp [elemT, Tryz.underlying22]
theorem ei : appOk Tryz.prog 22 = some (3, 1, 8) := by kernel_rfl
theorem Ad {xs : List Int} : (aa eI xs).take (xs.length * 1) = aa eI xs := wP (fun _ => rfl)
theorem eP : ∀ x : Int, leafL (eI x) = true := fun x => by simp only [eI_eq, mZ, eB_eq, eS_eq, na, iE, iF, wX, wY, wZ, xa, xc, Bool.and_self]
theorem aY {xs : List Int} {x : Int} {i : Int} (h : getI xs i = some x) : (∀ (H : Nat → Option VObj) (β c : Nat) (k : IntKind), aq Tryz.prog H 22 (.ref β 0 xs.length 1 c) (.lit (.int k i)) = if (H β).isSome = true then some (.ptr β (i.toNat * 1)) else none) ∧ (aa eI xs).drop (i.toNat * 1) = eI x ++ aa eI (xs.drop (i.toNat + 1)) ∧ (i.toNat * 1 ≤ (aa eI xs).length) = True := ixO Tryz.underlying22 (by kernel_rfl : szT Tryz.prog 3 = some 1) (fun _ => rfl) h
theorem Ae {a0 : VV} (h : leafL [a0] = true) : av Tryz.prog 22 1 [(0, a0)] = some ([a0], 1) := by
 have h2 : szT Tryz.prog 3 = some 1 := by kernel_rfl
 have h3 : vzero Tryz.prog 3 = some #[.int .i64 0] := by kernel_rfl
 simp only [iF, iE, Bool.and_true, Bool.and_eq_true] at h
 simp [av, Tryz.underlying22, h2, h3, vfill, vcells1, h, overwrite, vzeros, List.range_succ]
theorem Af {a0 a1 : VV} (h : leafL [a0, a1] = true) : av Tryz.prog 22 2 [(0, a0), (1, a1)] = some ([a0, a1], 1) := by
 have h2 : szT Tryz.prog 3 = some 1 := by kernel_rfl
 have h3 : vzero Tryz.prog 3 = some #[.int .i64 0] := by kernel_rfl
 simp only [iF, iE, Bool.and_true, Bool.and_eq_true] at h
 simp [av, Tryz.underlying22, h2, h3, vfill, vcells1, h, overwrite, vzeros, List.range_succ]
theorem Ag {a0 a1 a2 : VV} (h : leafL [a0, a1, a2] = true) : av Tryz.prog 22 3 [(0, a0), (1, a1), (2, a2)] = some ([a0, a1, a2], 1) := by
 have h2 : szT Tryz.prog 3 = some 1 := by kernel_rfl
 have h3 : vzero Tryz.prog 3 = some #[.int .i64 0] := by kernel_rfl
 simp only [iF, iE, Bool.and_true, Bool.and_eq_true] at h
 simp [av, Tryz.underlying22, h2, h3, vfill, vcells1, h, overwrite, vzeros, List.range_succ]
theorem aj {H : Nat → Option VObj} {xs : List Int} {x : Int} {f : Bool} {k : IntKind} {i : Int} (h : getI xs i = some x) : aq Tryz.prog H 22 (.sl (aa eI xs) xs.length f) (.lit (.int k i)) = some (.tp (eI x ++ aa eI (xs.drop (i.toNat + 1)))) :=
 ixG Tryz.underlying22 (by kernel_rfl : szT Tryz.prog 3 = some 1) (by decide) (fun _ => rfl) h
theorem Ah {c : VV} {cs : List VV} : vload Tryz.prog 23 (c :: cs) = some c := by
 have h1 : aggT Tryz.prog 23 = some false := by kernel_rfl
 simp [vload, vpart, h1]
theorem Ai : szT Tryz.prog 23 = some 1 := by kernel_rfl
theorem tx : vzl Tryz.prog 23 = some [.lit (.slice none 0 0)] := by kernel_rfl
theorem tz {H : Nat → Option VObj} {cs : List VV} {n : Nat} {f : Bool} : vlen Tryz.prog H 23 (.sl cs n f) = some (.lit (.int .i64 n)) := by simp [vlen, Tryz.underlying23, sls]
theorem lenN23 {H : Nat → Option VObj} : vlen Tryz.prog H 23 (.lit (.slice none 0 0)) = some (.lit (.int .i64 0)) := by simp [vlen, Tryz.underlying23, sls]
theorem lenR23 {H : Nat → Option VObj} {β off n w c : Nat} : vlen Tryz.prog H 23 (.ref β off n w c) = (match H β with | some (.cells _ cs) => if off ≤ cs.length then some (.lit (.int .i64 n)) else none | _ => none) := lenR Tryz.underlying23
theorem Aj : elemT Tryz.prog 23 = some 49 := by simp [elemT, Tryz.underlying23]
theorem Ak {xs : List GBs} : (aa cGBs xs).take (xs.length * 5) = aa cGBs xs := wP (fun _ => rfl)
theorem Al {c0 c1 c2 c3 c4 : VV} (h : leafL [c0, c1, c2, c3, c4] = true) : av Tryz.prog 23 1 [(0, .agg [c0, c1, c2, c3, c4])] = some ([c0, c1, c2, c3, c4], 5) := by
 have h2 : szT Tryz.prog 49 = some 5 := by kernel_rfl
 have h3 : vzero Tryz.prog 49 = some #[.int .i64 0, .bool false, .int .i64 0, .int .i64 0, .slice none 0 0] := by kernel_rfl
 simp only [iF, iE, Bool.and_true, Bool.and_eq_true] at h
 simp [av, Tryz.underlying23, h2, h3, vfill, aK, h, overwrite, vzeros]
theorem aJ {H : Nat → Option VObj} {xs : List GBs} {x : GBs} {f : Bool} {k : IntKind} {i : Int} (h : getI xs i = some x) : aq Tryz.prog H 23 (.sl (aa cGBs xs) xs.length f) (.lit (.int k i)) = some (.tp (cGBs x ++ aa cGBs (xs.drop (i.toNat + 1)))) :=
 ixG Tryz.underlying23 (by kernel_rfl : szT Tryz.prog 49 = some 5) (by decide) (fun _ => rfl) h
theorem Am {c0 c1 c2 : VV} {cs : List VV} : vload Tryz.prog 25 (c0 :: c1 :: c2 :: cs) = some (.agg [c0, c1, c2]) := by
 have h1 : aggT Tryz.prog 25 = some true := by kernel_rfl
 have h2 : szT Tryz.prog 25 = some 3 := by kernel_rfl
 simp [vload, vpart, h1, h2]
theorem An : szT Tryz.prog 25 = some 3 := by kernel_rfl
theorem t0 : vzl Tryz.prog 25 = some [.lit (.int .i64 0), .lit (.slice none 0 0), .lit (.slice none 0 0)] := by kernel_rfl
theorem Ao {H : Nat → Option VObj} {cs : List VV} : ah Tryz.prog H 25 (.tp cs) 0 = some (.tp (cs.drop 0)) := by
 have h2 : szT Tryz.prog 3 = some 1 := by kernel_rfl
 simp [ah, Tryz.underlying25, h2]
theorem Ap {H : Nat → Option VObj} {β o : Nat} : ah Tryz.prog H 25 (.ptr β o) 0 = if (H β).isSome = true then some (.ptr β (o + 0)) else none := by
 have h2 : szT Tryz.prog 3 = some 1 := by kernel_rfl
 simp [ah, Tryz.underlying25, h2]
theorem Aq {c0 c1 c2 : VV} : vfield Tryz.prog 25 (.agg [c0, c1, c2]) 0 = some (c0) := by
 have h1 : aggT Tryz.prog 3 = some false := by kernel_rfl
 have h2 : szT Tryz.prog 3 = some 1 := by kernel_rfl
 simp [vfield, Tryz.underlying25, vpart, h1, h2]
theorem Ar {H : Nat → Option VObj} {cs : List VV} : ah Tryz.prog H 25 (.tp cs) 1 = some (.tp (cs.drop 1)) := by
 have h2 : szT Tryz.prog 22 = some 1 := by kernel_rfl
 simp [ah, Tryz.underlying25, h2]
theorem As {H : Nat → Option VObj} {β o : Nat} : ah Tryz.prog H 25 (.ptr β o) 1 = if (H β).isSome = true then some (.ptr β (o + 1)) else none := by
 have h2 : szT Tryz.prog 22 = some 1 := by kernel_rfl
 simp [ah, Tryz.underlying25, h2]
theorem At {c0 c1 c2 : VV} : vfield Tryz.prog 25 (.agg [c0, c1, c2]) 1 = some (c1) := by
 have h1 : aggT Tryz.prog 22 = some false := by kernel_rfl
 have h2 : szT Tryz.prog 22 = some 1 := by kernel_rfl
 simp [vfield, Tryz.underlying25, vpart, h1, h2]
theorem Au {H : Nat → Option VObj} {cs : List VV} : ah Tryz.prog H 25 (.tp cs) 2 = some (.tp (cs.drop 2)) := by
 have h2 : szT Tryz.prog 23 = some 1 := by kernel_rfl
 simp [ah, Tryz.underlying25, h2]
theorem Av {H : Nat → Option VObj} {β o : Nat} : ah Tryz.prog H 25 (.ptr β o) 2 = if (H β).isSome = true then some (.ptr β (o + 2)) else none := by
 have h2 : szT Tryz.prog 23 = some 1 := by kernel_rfl
 simp [ah, Tryz.underlying25, h2]
theorem Aw {c0 c1 c2 : VV} : vfield Tryz.prog 25 (.agg [c0, c1, c2]) 2 = some (c2) := by
 have h1 : aggT Tryz.prog 23 = some false := by kernel_rfl
 have h2 : szT Tryz.prog 23 = some 1 := by kernel_rfl
 simp [vfield, Tryz.underlying25, vpart, h1, h2]
theorem Ax {c : VV} {cs : List VV} : vload Tryz.prog 29 (c :: cs) = some c := by
 have h1 : aggT Tryz.prog 29 = some false := by kernel_rfl
 simp [vload, vpart, h1]
theorem Ay : szT Tryz.prog 29 = some 1 := by kernel_rfl
theorem t4 : vzl Tryz.prog 29 = some [.lit (.int .i64 0)] := by kernel_rfl
theorem Az {c : VV} {cs : List VV} : vload Tryz.prog 31 (c :: cs) = some c := by
 have h1 : aggT Tryz.prog 31 = some false := by kernel_rfl
 simp [vload, vpart, h1]
theorem AA : szT Tryz.prog 31 = some 1 := by kernel_rfl
theorem t5 : vzl Tryz.prog 31 = some [.lit (.slice none 0 0)] := by kernel_rfl
theorem t6 {H : Nat → Option VObj} {cs : List VV} {n : Nat} {f : Bool} : vlen Tryz.prog H 31 (.sl cs n f) = some (.lit (.int .i64 n)) := by simp [vlen, Tryz.underlying31, sls]
theorem lenN31 {H : Nat → Option VObj} : vlen Tryz.prog H 31 (.lit (.slice none 0 0)) = some (.lit (.int .i64 0)) := by simp [vlen, Tryz.underlying31, sls]
theorem lenR31 {H : Nat → Option VObj} {β off n w c : Nat} : vlen Tryz.prog H 31 (.ref β off n w c) = (match H β with | some (.cells _ cs) => if off ≤ cs.length then some (.lit (.int .i64 n)) else none | _ => none) := lenR Tryz.underlying31
theorem nc : elemT Tryz.prog 31 = some 35 := by simp [elemT, Tryz.underlying31]
theorem t7 : appOk Tryz.prog 31 = some (35, 2, 16) := by kernel_rfl
theorem AB {xs : List GSpan} : (aa aL xs).take (xs.length * 2) = aa aL xs := wP (fun _ => rfl)
theorem t8 : ∀ x : GSpan, leafL (aL x) = true := fun x => by simp only [eI_eq, mZ, eB_eq, eS_eq, na, pD, iE, iF, wX, wY, wZ, xa, xc, Bool.and_self]
theorem AD {c0 c1 : VV} (h : leafL [c0, c1] = true) : av Tryz.prog 31 1 [(0, .agg [c0, c1])] = some ([c0, c1], 2) := by
 have h2 : szT Tryz.prog 35 = some 2 := by kernel_rfl
 have h3 : vzero Tryz.prog 35 = some #[.int .i64 0, .int .i64 0] := by kernel_rfl
 simp only [iF, iE, Bool.and_true, Bool.and_eq_true] at h
 simp [av, Tryz.underlying31, h2, h3, vfill, aK, h, overwrite, vzeros]
theorem nf {H : Nat → Option VObj} {xs : List GSpan} {x : GSpan} {f : Bool} {k : IntKind} {i : Int} (h : getI xs i = some x) : aq Tryz.prog H 31 (.sl (aa aL xs) xs.length f) (.lit (.int k i)) = some (.tp (aL x ++ aa aL (xs.drop (i.toNat + 1)))) :=
 ixG Tryz.underlying31 (by kernel_rfl : szT Tryz.prog 35 = some 2) (by decide) (fun _ => rfl) h
theorem AE {c0 c1 : VV} {cs : List VV} : vload Tryz.prog 35 (c0 :: c1 :: cs) = some (.agg [c0, c1]) := by
 have h1 : aggT Tryz.prog 35 = some true := by kernel_rfl
 have h2 : szT Tryz.prog 35 = some 2 := by kernel_rfl
 simp [vload, vpart, h1, h2]
theorem AF : szT Tryz.prog 35 = some 2 := by kernel_rfl
theorem ln : vzl Tryz.prog 35 = some [.lit (.int .i64 0), .lit (.int .i64 0)] := by kernel_rfl
theorem AG {H : Nat → Option VObj} {cs : List VV} : ah Tryz.prog H 35 (.tp cs) 0 = some (.tp (cs.drop 0)) := by
 have h2 : szT Tryz.prog 3 = some 1 := by kernel_rfl
 simp [ah, Tryz.underlying35, h2]
theorem AH {H : Nat → Option VObj} {β o : Nat} : ah Tryz.prog H 35 (.ptr β o) 0 = if (H β).isSome = true then some (.ptr β (o + 0)) else none := by
 have h2 : szT Tryz.prog 3 = some 1 := by kernel_rfl
 simp [ah, Tryz.underlying35, h2]
theorem AI {c0 c1 : VV} : vfield Tryz.prog 35 (.agg [c0, c1]) 0 = some (c0) := by
 have h1 : aggT Tryz.prog 3 = some false := by kernel_rfl
 have h2 : szT Tryz.prog 3 = some 1 := by kernel_rfl
 simp [vfield, Tryz.underlying35, vpart, h1, h2]
theorem AJ {H : Nat → Option VObj} {cs : List VV} : ah Tryz.prog H 35 (.tp cs) 1 = some (.tp (cs.drop 1)) := by
 have h2 : szT Tryz.prog 3 = some 1 := by kernel_rfl
 simp [ah, Tryz.underlying35, h2]
theorem AK {H : Nat → Option VObj} {β o : Nat} : ah Tryz.prog H 35 (.ptr β o) 1 = if (H β).isSome = true then some (.ptr β (o + 1)) else none := by
 have h2 : szT Tryz.prog 3 = some 1 := by kernel_rfl
 simp [ah, Tryz.underlying35, h2]
theorem AL {c0 c1 : VV} : vfield Tryz.prog 35 (.agg [c0, c1]) 1 = some (c1) := by
 have h1 : aggT Tryz.prog 3 = some false := by kernel_rfl
 have h2 : szT Tryz.prog 3 = some 1 := by kernel_rfl
 simp [vfield, Tryz.underlying35, vpart, h1, h2]
theorem AM {c0 c1 c2 c3 c4 : VV} {cs : List VV} : vload Tryz.prog 49 (c0 :: c1 :: c2 :: c3 :: c4 :: cs) = some (.agg [c0, c1, c2, c3, c4]) := by
 have h1 : aggT Tryz.prog 49 = some true := by kernel_rfl
 have h2 : szT Tryz.prog 49 = some 5 := by kernel_rfl
 simp [vload, vpart, h1, h2]
theorem AN : szT Tryz.prog 49 = some 5 := by kernel_rfl
theorem t9 : vzl Tryz.prog 49 = some [.lit (.int .i64 0), .lit (.bool false), .lit (.int .i64 0), .lit (.int .i64 0), .lit (.slice none 0 0)] := by kernel_rfl
theorem AO {H : Nat → Option VObj} {cs : List VV} : ah Tryz.prog H 49 (.tp cs) 0 = some (.tp (cs.drop 0)) := by
 have h2 : szT Tryz.prog 3 = some 1 := by kernel_rfl
 simp [ah, Tryz.underlying49, h2]
theorem AP {H : Nat → Option VObj} {β o : Nat} : ah Tryz.prog H 49 (.ptr β o) 0 = if (H β).isSome = true then some (.ptr β (o + 0)) else none := by
 have h2 : szT Tryz.prog 3 = some 1 := by kernel_rfl
 simp [ah, Tryz.underlying49, h2]
theorem AQ {c0 c1 c2 c3 c4 : VV} : vfield Tryz.prog 49 (.agg [c0, c1, c2, c3, c4]) 0 = some (c0) := by
 have h1 : aggT Tryz.prog 3 = some false := by kernel_rfl
 have h2 : szT Tryz.prog 3 = some 1 := by kernel_rfl
 simp [vfield, Tryz.underlying49, vpart, h1, h2]
theorem AR {H : Nat → Option VObj} {cs : List VV} : ah Tryz.prog H 49 (.tp cs) 1 = some (.tp (cs.drop 1)) := by
 have h2 : szT Tryz.prog 4 = some 1 := by kernel_rfl
 simp [ah, Tryz.underlying49, h2]
theorem AS {H : Nat → Option VObj} {β o : Nat} : ah Tryz.prog H 49 (.ptr β o) 1 = if (H β).isSome = true then some (.ptr β (o + 1)) else none := by
 have h2 : szT Tryz.prog 4 = some 1 := by kernel_rfl
 simp [ah, Tryz.underlying49, h2]
theorem AT {c0 c1 c2 c3 c4 : VV} : vfield Tryz.prog 49 (.agg [c0, c1, c2, c3, c4]) 1 = some (c1) := by
 have h1 : aggT Tryz.prog 4 = some false := by kernel_rfl
 have h2 : szT Tryz.prog 4 = some 1 := by kernel_rfl
 simp [vfield, Tryz.underlying49, vpart, h1, h2]
theorem AU {H : Nat → Option VObj} {cs : List VV} : ah Tryz.prog H 49 (.tp cs) 2 = some (.tp (cs.drop 2)) := by
 have h2 : szT Tryz.prog 35 = some 2 := by kernel_rfl
 simp [ah, Tryz.underlying49, h2]
theorem AV {H : Nat → Option VObj} {β o : Nat} : ah Tryz.prog H 49 (.ptr β o) 2 = if (H β).isSome = true then some (.ptr β (o + 2)) else none := by
 have h2 : szT Tryz.prog 35 = some 2 := by kernel_rfl
 simp [ah, Tryz.underlying49, h2]
theorem AW {c0 c1 c2 c3 c4 : VV} : vfield Tryz.prog 49 (.agg [c0, c1, c2, c3, c4]) 2 = some (.agg [c2, c3]) := by
 have h1 : aggT Tryz.prog 35 = some true := by kernel_rfl
 have h2 : szT Tryz.prog 35 = some 2 := by kernel_rfl
 simp [vfield, Tryz.underlying49, vpart, h1, h2]
theorem AX {H : Nat → Option VObj} {cs : List VV} : ah Tryz.prog H 49 (.tp cs) 3 = some (.tp (cs.drop 4)) := by
 have h2 : szT Tryz.prog 22 = some 1 := by kernel_rfl
 simp [ah, Tryz.underlying49, h2]
theorem AY {H : Nat → Option VObj} {β o : Nat} : ah Tryz.prog H 49 (.ptr β o) 3 = if (H β).isSome = true then some (.ptr β (o + 4)) else none := by
 have h2 : szT Tryz.prog 22 = some 1 := by kernel_rfl
 simp [ah, Tryz.underlying49, h2]
theorem AZ {c0 c1 c2 c3 c4 : VV} : vfield Tryz.prog 49 (.agg [c0, c1, c2, c3, c4]) 3 = some (c4) := by
 have h1 : aggT Tryz.prog 22 = some false := by kernel_rfl
 have h2 : szT Tryz.prog 22 = some 1 := by kernel_rfl
 simp [vfield, Tryz.underlying49, vpart, h1, h2]
theorem Ba {c : VV} {cs : List VV} : vload Tryz.prog 51 (c :: cs) = some c := by
 have h1 : aggT Tryz.prog 51 = some false := by kernel_rfl
 simp [vload, vpart, h1]
theorem Bc : szT Tryz.prog 51 = some 1 := by kernel_rfl
theorem tA : vzl Tryz.prog 51 = some [.lit (.slice none 0 0)] := by kernel_rfl
theorem tB {H : Nat → Option VObj} {cs : List VV} {n : Nat} {f : Bool} : vlen Tryz.prog H 51 (.sl cs n f) = some (.lit (.int .i64 n)) := by simp [vlen, Tryz.underlying51, sls]
theorem lenN51 {H : Nat → Option VObj} : vlen Tryz.prog H 51 (.lit (.slice none 0 0)) = some (.lit (.int .i64 0)) := by simp [vlen, Tryz.underlying51, sls]
theorem lenR51 {H : Nat → Option VObj} {β off n w c : Nat} : vlen Tryz.prog H 51 (.ref β off n w c) = (match H β with | some (.cells _ cs) => if off ≤ cs.length then some (.lit (.int .i64 n)) else none | _ => none) := lenR Tryz.underlying51
theorem fk : elemT Tryz.prog 51 = some 60 := by simp [elemT, Tryz.underlying51]
theorem iG : appOk Tryz.prog 51 = some (60, 1, 8) := by kernel_rfl
theorem Bd {xs : List Int} : (aa eI xs).take (xs.length * 1) = aa eI xs := wP (fun _ => rfl)
theorem iH : ∀ x : Int, leafL (eI x) = true := fun x => by simp only [eI_eq, mZ, eB_eq, eS_eq, na, iE, iF, wX, wY, wZ, xa, xc, Bool.and_self]
theorem Be {a0 : VV} (h : leafL [a0] = true) : av Tryz.prog 51 1 [(0, a0)] = some ([a0], 1) := by
 have h2 : szT Tryz.prog 60 = some 1 := by kernel_rfl
 have h3 : vzero Tryz.prog 60 = some #[.int .i64 0] := by kernel_rfl
 simp only [iF, iE, Bool.and_true, Bool.and_eq_true] at h
 simp [av, Tryz.underlying51, h2, h3, vfill, vcells1, h, overwrite, vzeros, List.range_succ]
theorem Bf {a0 a1 : VV} (h : leafL [a0, a1] = true) : av Tryz.prog 51 2 [(0, a0), (1, a1)] = some ([a0, a1], 1) := by
 have h2 : szT Tryz.prog 60 = some 1 := by kernel_rfl
 have h3 : vzero Tryz.prog 60 = some #[.int .i64 0] := by kernel_rfl
 simp only [iF, iE, Bool.and_true, Bool.and_eq_true] at h
 simp [av, Tryz.underlying51, h2, h3, vfill, vcells1, h, overwrite, vzeros, List.range_succ]
theorem Bh {a0 a1 a2 : VV} (h : leafL [a0, a1, a2] = true) : av Tryz.prog 51 3 [(0, a0), (1, a1), (2, a2)] = some ([a0, a1, a2], 1) := by
 have h2 : szT Tryz.prog 60 = some 1 := by kernel_rfl
 have h3 : vzero Tryz.prog 60 = some #[.int .i64 0] := by kernel_rfl
 simp only [iF, iE, Bool.and_true, Bool.and_eq_true] at h
 simp [av, Tryz.underlying51, h2, h3, vfill, vcells1, h, overwrite, vzeros, List.range_succ]
theorem lp {H : Nat → Option VObj} {xs : List Int} {x : Int} {f : Bool} {k : IntKind} {i : Int} (h : getI xs i = some x) : aq Tryz.prog H 51 (.sl (aa eI xs) xs.length f) (.lit (.int k i)) = some (.tp (eI x ++ aa eI (xs.drop (i.toNat + 1)))) :=
 ixG Tryz.underlying51 (by kernel_rfl : szT Tryz.prog 60 = some 1) (by decide) (fun _ => rfl) h
theorem Bi {c : VV} {cs : List VV} : vload Tryz.prog 60 (c :: cs) = some c := by
 have h1 : aggT Tryz.prog 60 = some false := by kernel_rfl
 simp [vload, vpart, h1]
theorem Bj : szT Tryz.prog 60 = some 1 := by kernel_rfl
theorem tC : vzl Tryz.prog 60 = some [.lit (.int .i64 0)] := by kernel_rfl
theorem Bk {c0 c1 c2 c3 c4 : VV} {cs : List VV} : vload Tryz.prog 92 (c0 :: c1 :: c2 :: c3 :: c4 :: cs) = some (.agg [c0, c1, c2, c3, c4]) := by
 have h1 : aggT Tryz.prog 92 = some true := by kernel_rfl
 have h2 : szT Tryz.prog 92 = some 5 := by kernel_rfl
 simp [vload, vpart, h1, h2]
theorem Bl : szT Tryz.prog 92 = some 5 := by kernel_rfl
theorem od : vzl Tryz.prog 92 = some [.lit (.int .i64 0), .lit (.slice none 0 0), .lit (.slice none 0 0), .lit (.slice none 0 0), .lit (.map none)] := by kernel_rfl
theorem Bm {H : Nat → Option VObj} {cs : List VV} : ah Tryz.prog H 92 (.tp cs) 0 = some (.tp (cs.drop 0)) := by
 have h2 : szT Tryz.prog 25 = some 3 := by kernel_rfl
 simp [ah, Tryz.underlying92, h2]
theorem Bn {H : Nat → Option VObj} {β o : Nat} : ah Tryz.prog H 92 (.ptr β o) 0 = if (H β).isSome = true then some (.ptr β (o + 0)) else none := by
 have h2 : szT Tryz.prog 25 = some 3 := by kernel_rfl
 simp [ah, Tryz.underlying92, h2]
theorem Bo {c0 c1 c2 c3 c4 : VV} : vfield Tryz.prog 92 (.agg [c0, c1, c2, c3, c4]) 0 = some (.agg [c0, c1, c2]) := by
 have h1 : aggT Tryz.prog 25 = some true := by kernel_rfl
 have h2 : szT Tryz.prog 25 = some 3 := by kernel_rfl
 simp [vfield, Tryz.underlying92, vpart, h1, h2]
theorem Bp {H : Nat → Option VObj} {cs : List VV} : ah Tryz.prog H 92 (.tp cs) 1 = some (.tp (cs.drop 3)) := by
 have h2 : szT Tryz.prog 22 = some 1 := by kernel_rfl
 simp [ah, Tryz.underlying92, h2]
theorem Bq {H : Nat → Option VObj} {β o : Nat} : ah Tryz.prog H 92 (.ptr β o) 1 = if (H β).isSome = true then some (.ptr β (o + 3)) else none := by
 have h2 : szT Tryz.prog 22 = some 1 := by kernel_rfl
 simp [ah, Tryz.underlying92, h2]
theorem Br {c0 c1 c2 c3 c4 : VV} : vfield Tryz.prog 92 (.agg [c0, c1, c2, c3, c4]) 1 = some (c3) := by
 have h1 : aggT Tryz.prog 22 = some false := by kernel_rfl
 have h2 : szT Tryz.prog 22 = some 1 := by kernel_rfl
 simp [vfield, Tryz.underlying92, vpart, h1, h2]
theorem Bs {H : Nat → Option VObj} {cs : List VV} : ah Tryz.prog H 92 (.tp cs) 2 = some (.tp (cs.drop 4)) := by
 have h2 : szT Tryz.prog 90 = some 1 := by kernel_rfl
 simp [ah, Tryz.underlying92, h2]
theorem Bt {H : Nat → Option VObj} {β o : Nat} : ah Tryz.prog H 92 (.ptr β o) 2 = if (H β).isSome = true then some (.ptr β (o + 4)) else none := by
 have h2 : szT Tryz.prog 90 = some 1 := by kernel_rfl
 simp [ah, Tryz.underlying92, h2]
theorem Bu {c0 c1 c2 c3 c4 : VV} : vfield Tryz.prog 92 (.agg [c0, c1, c2, c3, c4]) 2 = some (c4) := by
 have h1 : aggT Tryz.prog 90 = some false := by kernel_rfl
 have h2 : szT Tryz.prog 90 = some 1 := by kernel_rfl
 simp [vfield, Tryz.underlying92, vpart, h1, h2]
theorem tD {c0 c1 : VV} {cs : List VV} : vload Tryz.prog 152 (c0 :: c1 :: cs) = some (.agg [c0, c1]) := by
 have h1 : aggT Tryz.prog 152 = some true := by kernel_rfl
 have h2 : szT Tryz.prog 152 = some 2 := by kernel_rfl
 simp [vload, vpart, h1, h2]
theorem tE : szT Tryz.prog 152 = some 2 := by kernel_rfl
theorem lq : vzl Tryz.prog 152 = some [.lit (.int .i64 0), .lit (.int .i64 0)] := by kernel_rfl
theorem Bv {H : Nat → Option VObj} {cs : List VV} : ah Tryz.prog H 152 (.tp cs) 0 = some (.tp (cs.drop 0)) := by
 have h2 : szT Tryz.prog 3 = some 1 := by kernel_rfl
 simp [ah, Tryz.underlying152, h2]
theorem Bw {H : Nat → Option VObj} {β o : Nat} : ah Tryz.prog H 152 (.ptr β o) 0 = if (H β).isSome = true then some (.ptr β (o + 0)) else none := by
 have h2 : szT Tryz.prog 3 = some 1 := by kernel_rfl
 simp [ah, Tryz.underlying152, h2]
theorem Bx {c0 c1 : VV} : vfield Tryz.prog 152 (.agg [c0, c1]) 0 = some (c0) := by
 have h1 : aggT Tryz.prog 3 = some false := by kernel_rfl
 have h2 : szT Tryz.prog 3 = some 1 := by kernel_rfl
 simp [vfield, Tryz.underlying152, vpart, h1, h2]
theorem By {H : Nat → Option VObj} {cs : List VV} : ah Tryz.prog H 152 (.tp cs) 1 = some (.tp (cs.drop 1)) := by
 have h2 : szT Tryz.prog 3 = some 1 := by kernel_rfl
 simp [ah, Tryz.underlying152, h2]
theorem Bz {H : Nat → Option VObj} {β o : Nat} : ah Tryz.prog H 152 (.ptr β o) 1 = if (H β).isSome = true then some (.ptr β (o + 1)) else none := by
 have h2 : szT Tryz.prog 3 = some 1 := by kernel_rfl
 simp [ah, Tryz.underlying152, h2]
theorem B1 {c0 c1 : VV} : vfield Tryz.prog 152 (.agg [c0, c1]) 1 = some (c1) := by
 have h1 : aggT Tryz.prog 3 = some false := by kernel_rfl
 have h2 : szT Tryz.prog 3 = some 1 := by kernel_rfl
 simp [vfield, Tryz.underlying152, vpart, h1, h2]
theorem tF {c : VV} {cs : List VV} : vload Tryz.prog 156 (c :: cs) = some c := by
 have h1 : aggT Tryz.prog 156 = some false := by kernel_rfl
 simp [vload, vpart, h1]
theorem tG : szT Tryz.prog 156 = some 1 := by kernel_rfl
theorem pE : vzl Tryz.prog 156 = some [.lit (.int .i64 0)] := by kernel_rfl
theorem tH : szT Tryz.prog 153 = some 1 := by kernel_rfl
theorem tI {c : VV} {cs : List VV} : vload Tryz.prog 153 (c :: cs) = some c := by
 have h1 : aggT Tryz.prog 153 = some false := by kernel_rfl
 simp [vload, vpart, h1]
theorem pF : vzl Tryz.prog 153 = some [.lit .nilFunc] := by kernel_rfl
theorem tJ : szT Tryz.prog 154 = some 2 := by kernel_rfl
theorem lr : vzl Tryz.prog 154 = some [.lit .nilFunc, .lit .nilFunc] := by kernel_rfl
theorem tK {c0 c1 : VV} {cs : List VV} : vload Tryz.prog 154 (c0 :: c1 :: cs) = some (.agg [c0, c1]) := by
 have h1 : aggT Tryz.prog 154 = some true := by kernel_rfl
 have h2 : szT Tryz.prog 154 = some 2 := by kernel_rfl
 simp [vload, vpart, h1, h2]
theorem B2 {c0 c1 : VV} {k : IntKind} : vindex Tryz.prog 154 (.agg [c0, c1]) (.lit (.int k 0)) = some c0 := by
 have h1 : aggT Tryz.prog 153 = some false := by kernel_rfl
 have h2 : szT Tryz.prog 153 = some 1 := by kernel_rfl
 simp [vindex, Tryz.underlying154, vpart, h1, h2]
theorem B3 {H : Nat → Option VObj} {β o : Nat} {k : IntKind} : aq Tryz.prog H 154 (.ptr β o) (.lit (.int k 0)) = if (H β).isSome = true then some (.ptr β (o + 0)) else none := by
 have h2 : szT Tryz.prog 153 = some 1 := by kernel_rfl
 simp [aq, Tryz.underlying154, h2]
theorem B4 {c0 c1 : VV} {k : IntKind} : vindex Tryz.prog 154 (.agg [c0, c1]) (.lit (.int k 1)) = some c1 := by
 have h1 : aggT Tryz.prog 153 = some false := by kernel_rfl
 have h2 : szT Tryz.prog 153 = some 1 := by kernel_rfl
 simp [vindex, Tryz.underlying154, vpart, h1, h2]
theorem B5 {H : Nat → Option VObj} {β o : Nat} {k : IntKind} : aq Tryz.prog H 154 (.ptr β o) (.lit (.int k 1)) = if (H β).isSome = true then some (.ptr β (o + 1)) else none := by
 have h2 : szT Tryz.prog 153 = some 1 := by kernel_rfl
 simp [aq, Tryz.underlying154, h2]
theorem B7 : vbuild Tryz.prog 35 [] = some (.agg [.lit (.int .i64 0), .lit (.int .i64 0)]) := by
 rw [tL ln (by kernel_rfl)]
 rfl
theorem B8 {d6 ej : VV} (h : leafL [d6, ej] = true) : vbuild Tryz.prog 35 [(0, d6), (1, ej)] = some (.agg [d6, ej]) := by
 have p0 : placeT Tryz.prog 35 0 = some (0, 1) := by kernel_rfl
 have p1 : placeT Tryz.prog 35 1 = some (1, 1) := by kernel_rfl
 simp only [iF, iE, Bool.and_true, Bool.and_eq_true] at h
 rw [tL ln (by kernel_rfl)]
 simp [vfill, p0, p1, vcells1, h, overwrite]
theorem BA {d6 lu lv ej pG : VV} (h : leafL [d6, lu, lv, ej, pG] = true) : vbuild Tryz.prog 92 [(0, .agg [d6, lu, lv]), (1, ej), (2, pG)] = some (.agg [d6, lu, lv, ej, pG]) := by
 have p0 : placeT Tryz.prog 92 0 = some (0, 3) := by kernel_rfl
 have p1 : placeT Tryz.prog 92 1 = some (3, 1) := by kernel_rfl
 have p2 : placeT Tryz.prog 92 2 = some (4, 1) := by kernel_rfl
 simp only [iF, iE, Bool.and_true, Bool.and_eq_true] at h
 have q0 : aK (.agg [d6, lu, lv]) = some [d6, lu, lv] := by rw [JR]; simp [iF, iE, h]
 rw [tL od (by kernel_rfl)]
 simp [vfill, p0, p1, p2, vcells1, h, overwrite, q0]
theorem BC {d6 ej : VV} (h : leafL [d6, ej] = true) : vbuild Tryz.prog 152 [(0, d6), (1, ej)] = some (.agg [d6, ej]) := by
 have p0 : placeT Tryz.prog 152 0 = some (0, 1) := by kernel_rfl
 have p1 : placeT Tryz.prog 152 1 = some (1, 1) := by kernel_rfl
 simp only [iF, iE, Bool.and_true, Bool.and_eq_true] at h
 rw [tL lq (by kernel_rfl)]
 simp [vfill, p0, p1, vcells1, h, overwrite]
theorem BD {d6 ej : VV} (h : leafL [d6, ej] = true) : vbuild Tryz.prog 154 [(0, d6), (1, ej)] = some (.agg [d6, ej]) := by
 have p0 : placeT Tryz.prog 154 0 = some (0, 1) := by kernel_rfl
 have p1 : placeT Tryz.prog 154 1 = some (1, 1) := by kernel_rfl
 simp only [iF, iE, Bool.and_true, Bool.and_eq_true] at h
 rw [tL lr (by kernel_rfl)]
 simp [vfill, p0, p1, vcells1, h, overwrite]
theorem Nv {H : Nat → Option VObj} {x y : Operand} {a b : Bool} : binV Tryz.prog H .eql 4 x y (.lit (.bool a)) (.lit (.bool b)) = some (.lit (.bool (a == b))) := BE Tryz.underlying4
theorem Nw {H : Nat → Option VObj} {x y : Operand} {a b : Bool} : binV Tryz.prog H .neq 4 x y (.lit (.bool a)) (.lit (.bool b)) = some (.lit (.bool (a != b))) := BF Tryz.underlying4
theorem tM {H : Nat → Option VObj} {x y : Operand} {a0 b0 : Int} {a1 b1 : Int} : binV Tryz.prog H .eql 35 x y (.agg [.lit (.int .i64 a0), .lit (.int .i64 a1)]) (.agg [.lit (.int .i64 b0), .lit (.int .i64 b1)]) = some (.lit (.bool (a0 == b0 && (a1 == b1)))) ∧ binV Tryz.prog H .neq 35 x y (.agg [.lit (.int .i64 a0), .lit (.int .i64 a1)]) (.agg [.lit (.int .i64 b0), .lit (.int .i64 b1)]) = some (.lit (.bool (!(a0 == b0 && (a1 == b1))))) := by
 refine binS (xs := [.int .i64 a0, .int .i64 a1]) (ys := [.int .i64 b0, .int .i64 b1]) (by simp [VV.val?, valL?]) (by simp [VV.val?, valL?]) Tryz.underlying35 (by kernel_rfl) (by kernel_rfl) ?_
 simp [eqF, lx, eq1, Tryz.underlying3]
theorem BG {H : Nat → Option VObj} {x y : Operand} {a0 b0 : Int} {a1 b1 : Int} : binV Tryz.prog H .eql 35 x y (.agg [.lit (.int .i64 a0), .lit (.int .i64 a1)]) (.agg [.lit (.int .i64 b0), .lit (.int .i64 b1)]) = some (.lit (.bool (a0 == b0 && (a1 == b1)))) := tM.1
theorem BI {H : Nat → Option VObj} {x y : Operand} {a0 b0 : Int} {a1 b1 : Int} : binV Tryz.prog H .neq 35 x y (.agg [.lit (.int .i64 a0), .lit (.int .i64 a1)]) (.agg [.lit (.int .i64 b0), .lit (.int .i64 b1)]) = some (.lit (.bool (!(a0 == b0 && (a1 == b1))))) := tM.2
theorem BJ : (VV.lit Value.nilFunc).leaf = true := rfl
theorem BK : (VV.lit Value.nilIface).leaf = true := rfl
def tyf := (And.intro (And.intro (And.intro (And.intro (And.intro (And.intro (And.intro @pD @tt) (And.intro @tu @wW)) (And.intro (And.intro @Nn @No) (And.intro @zX (And.intro @Np @Nq)))) (And.intro (And.intro (And.intro @zY @Nr) (And.intro @Ns @zZ)) (And.intro (And.intro @Nt @Nu) (And.intro @Aa (And.intro @Ab @Ac))))) (And.intro (And.intro (And.intro (And.intro @tv @tw) (And.intro @lenN22 @lenR22)) (And.intro (And.intro @ca @Ad) (And.intro @Ae (And.intro @Af @Ag)))) (And.intro (And.intro (And.intro @Ah @Ai) (And.intro @tx (And.intro @tz @lenN23))) (And.intro (And.intro @lenR23 @Aj) (And.intro @Ak (And.intro @Al @Am)))))) (And.intro (And.intro (And.intro (And.intro (And.intro @An @t0) (And.intro @Ao @Ap)) (And.intro (And.intro @Aq @Ar) (And.intro @As (And.intro @At @Au)))) (And.intro (And.intro (And.intro @Av @Aw) (And.intro @Ax @Ay)) (And.intro (And.intro @t4 @Az) (And.intro @AA (And.intro @t5 @t6))))) (And.intro (And.intro (And.intro (And.intro @lenN31 @lenR31) (And.intro @nc @AB)) (And.intro (And.intro @AD @AE) (And.intro @AF (And.intro @ln @AG)))) (And.intro (And.intro (And.intro @AH @AI) (And.intro @AJ (And.intro @AK @AL))) (And.intro (And.intro @AM @AN) (And.intro @t9 (And.intro @AO @AP))))))) (And.intro (And.intro (And.intro (And.intro (And.intro (And.intro @AQ @AR) (And.intro @AS @AT)) (And.intro (And.intro @AU @AV) (And.intro @AW (And.intro @AX @AY)))) (And.intro (And.intro (And.intro @AZ @Ba) (And.intro @Bc @tA)) (And.intro (And.intro @tB @lenN51) (And.intro @lenR51 (And.intro @fk @Bd))))) (And.intro (And.intro (And.intro (And.intro @Be @Bf) (And.intro @Bh @Bi)) (And.intro (And.intro @Bj @tC) (And.intro @Bk (And.intro @Bl @od)))) (And.intro (And.intro (And.intro @Bm @Bn) (And.intro @Bo (And.intro @Bp @Bq))) (And.intro (And.intro @Br @Bs) (And.intro @Bt (And.intro @Bu @tD)))))) (And.intro (And.intro (And.intro (And.intro (And.intro @tE @lq) (And.intro @Bv @Bw)) (And.intro (And.intro @Bx @By) (And.intro @Bz (And.intro @B1 @tF)))) (And.intro (And.intro (And.intro @tG @pE) (And.intro @tH (And.intro @tI @pF))) (And.intro (And.intro @tJ @lr) (And.intro @tK (And.intro @B2 @B3))))) (And.intro (And.intro (And.intro (And.intro @B4 @B5) (And.intro @B7 @B8)) (And.intro (And.intro @BA @BC) (And.intro @BD (And.intro @Nv @Nw)))) (And.intro (And.intro (And.intro @BG @BI) (And.intro @BJ (And.intro @BK @Nx))) (And.intro (And.intro @eI_eq @mZ) (And.intro @eB_eq (And.intro @eS_eq @na))))))))
def aI := (And.intro (And.intro (And.intro (And.intro @fS.norm @fS.normL) (And.intro @fS.shown @fS.showL)) (And.intro (And.intro @iw.norm @iw.normL) (And.intro @iw.shown @iw.showL))) (And.intro (And.intro (And.intro @kK.norm @kK.normL) (And.intro @kK.shown @kK.showL)) (And.intro (And.intro @rZ.norm @rZ.normL) (And.intro @rZ.shown @rZ.showL))))
def tytre := (And.intro (And.intro (And.intro @fS.tree @fS.treeL) (And.intro @iw.tree @iw.treeL)) (And.intro (And.intro @kK.tree @kK.treeL) (And.intro @rZ.tree @rZ.treeL)))
end Go.V
namespace Go.V
open Go Go.Proofs IntKind
theorem ktA {P : Program} {G : Glob} {d : Option Tmp} {γ : Nat} {tm : Nat → VV} {H : Nat → Option VObj} {nx : Nat} {df : List VDef} {K : St → Prop} {Qp : VV → St → Prop} {f : FuncId} {args args0 : List VV} {x : VV} (hp : ai P G f args0 (.tree x)) (h : fin d γ tm H nx df K x .none) (hn : normL args = args0 := by first | (simp only [nrm, aI] <;> rfl) | rfl) (ht : treeL args = true := by simp only [tre, tytre, Bool.and_self]) : callK P G f args ⟨tm, H, nx, df⟩ d γ K Qp := ktree hn ht hp h
theorem dktA {P : Program} {G : Glob} {d : Option Tmp} {γ : Nat} {tm : Nat → VV} {H : Nat → Option VObj} {nx : Nat} {df : List VDef} {K : List Nat → List Nat → St → Prop} {f : FuncId} {args args0 : List VV} {x : VV} (hp : ai P G f args0 (.tree x)) (h : fin d γ tm H nx df (K [] []) x .none) (hn : normL args = args0 := by first | (simp only [nrm, aI] <;> rfl) | rfl) (ht : treeL args = true := by simp only [tre, tytre, Bool.and_self]) : dcallK P G f args tm H nx df d γ K := dktree hn ht hp h
theorem optI {α β : Type} {K : Option β → Prop} {X : Option α} {F : α → Option β} (h : K (Option.bind X F)) (kN : ¬ K none) : ∃ r, X = some r ∧ K (F r) := by
  cases X with
  | none => exact absurd h kN
  | some r => exact ⟨r, rfl, h⟩
end Go.V
end
section
namespace Go.V
open Go Go.Proofs IntKind
def Dec (P : Program) (n : Nat) (t : TypeId) {α : Type} (enc : α → List VV) (R : α → Prop) : Prop := ∀ xs, ShapeT P n t xs → ∃ x : α, R x ∧ normL xs = enc x
theorem BL {P : Program} {n : Nat} {t : TypeId} (hu : P.underlying t = some (.int .i64)) : Dec P (n + 1) t eI (fun _ => True) := by
 intro xs h
 simp only [ShapeT, hu] at h
 obtain ⟨i, _, rfl⟩ := h
 exact ⟨i, trivial, by simp only [pz, p7, JS, eI]⟩
theorem BM {P : Program} {n : Nat} {t : TypeId} (hu : P.underlying t = some .bool) : Dec P (n + 1) t eB (fun _ => True) := by
 intro xs h
 simp only [ShapeT, hu] at h
 obtain ⟨b, rfl⟩ := h
 exact ⟨b, trivial, by simp only [pz, p7, zb, eB]⟩
theorem tN {P : Program} {n : Nat} {t : TypeId} {α : Type} {enc : α → List VV} {R : α → Prop} (h : Dec P n t enc R) : ∀ yss : List (List VV), (∀ ys ∈ yss, ShapeT P n t ys) → ∃ l : List α, l.length = yss.length ∧ (∀ x ∈ l, R x) ∧ normL yss.flatten = aa enc l
 | [], _ => ⟨[], rfl, fun _ hx => (by cases hx), rfl⟩
 | ys :: yss, hs => by
  obtain ⟨x, hx, e⟩ := h ys (hs ys (List.mem_cons_self ..))
  obtain ⟨l, h1, h2, h3⟩ := tN h yss (fun y hy => hs y (List.mem_cons_of_mem _ hy))
  refine ⟨x :: l, by simp [h1], fun y hy => ?_, by rw [List.flatten_cons, rW, e, h3, cP]⟩
  rcases List.mem_cons.1 hy with rfl | hy
  ·exact hx
  ·exact h2 y hy
theorem JT {P : Program} {n : Nat} {t e : TypeId} {α : Type} {enc : α → List VV} {R : α → Prop} (hu : P.underlying t = some (.slice e)) (h : Dec P n e enc R) : Dec P (n + 1) t (fun l : List α => [.sl (aa enc l) l.length false]) (fun l => au l = true ∧ ∀ x ∈ l, R x) := by
 intro xs hs
 simp only [ShapeT, hu] at hs
 rcases hs with rfl | ⟨yss, hl, hall, rfl⟩
 ·exact ⟨[], ⟨rfl, fun _ hx => (by cases hx)⟩, by simp only [pz, p7, JU]; rfl⟩
 ·obtain ⟨l, h1, h2, h3⟩ := tN h yss hall
  refine ⟨l, ⟨?_, h2⟩, by simp only [pz, p7, tO, h3, h1]⟩
  have : maxLen = 9223372036854775807 := by decide
  unfold au
  exact decide_eq_true (by omega)
theorem BN {P : Program} {n : Nat} {t : TypeId} {fs : Array Field} {xs : List VV} (hu : P.underlying t = some (.struct fs)) (h : ShapeT P (n + 1) t xs) : ∃ yss, FieldsS (ShapeT P n) fs.toList yss ∧ xs = yss.flatten := by
 simp only [ShapeT, hu] at h
 exact h
def TypesS (S : TypeId → List VV → Prop) : List TypeId → List (List VV) → Prop
 | [], [] => True
 | t :: ts, ys :: yss => S t ys ∧ TypesS S ts yss
 | _, _ => False
theorem tP {S : TypeId → List VV → Prop} : ∀ (fs : List Field) (yss : List (List VV)), FieldsS S fs yss → TypesS S (fs.map Field.type) yss
 | [], [], _ => trivial
 | f :: fs, ys :: yss, ⟨h1, h2⟩ => ⟨h1, tP fs yss h2⟩
 | [], _ :: _, h => h
 | _ :: _, [], h => h
theorem BO {P : Program} {n : Nat} {t : TypeId} {fs : Array Field} {ts : List TypeId} {xs : List VV} (hu : P.underlying t = some (.struct fs)) (ht : fs.toList.map Field.type = ts) (h : ShapeT P (n + 1) t xs) : ∃ yss, TypesS (ShapeT P n) ts yss ∧ xs = yss.flatten := by
 obtain ⟨yss, h1, h2⟩ := BN hu h
 exact ⟨yss, ht ▸ tP _ _ h1, h2⟩
theorem JA {P : Program} {n : Nat} {t : TypeId} {ts : List TypeId} {xs : List VV} (h : ArgsS P n (t :: ts) xs) : ∃ x xs', xs = x :: xs' ∧ ArgS P n t x ∧ ArgsS P n ts xs' := by
 match xs, h with
 | x :: xs', h => exact ⟨x, xs', rfl, h.1, h.2⟩
theorem yO {P : Program} {n : Nat} {xs : List VV} (h : ArgsS P n [] xs) : xs = [] := by
 match xs, h with
 | [], _ => rfl
theorem yK {P : Program} {n : Nat} {t : TypeId} {fs : Array Field} {x : VV} {α : Type} {enc : α → List VV} {R : α → Prop} (hu : P.underlying t = some (.struct fs)) (hd : Dec P n t enc R) (h : ArgS P n t x) : ∃ s, R s ∧ normV x = .agg (enc s) := by
 obtain ⟨ys, h1, h2⟩ := h
 rw [hu] at h2
 obtain rfl : x = .agg ys := h2
 obtain ⟨s, hs, e⟩ := hd ys h1
 exact ⟨s, hs, by rw [JV, e]⟩
theorem yM {P : Program} {n : Nat} {t : TypeId} {d : TypeDesc} {x : VV} {α : Type} {enc : α → List VV} {R : α → Prop} (hu : P.underlying t = some d) (hn : (∀ fs, d ≠ .struct fs) ∧ ∀ m e, d ≠ .array m e) (hd : Dec P n t enc R) (h : ArgS P n t x) : ∃ s, R s ∧ [normV x] = enc s := by
 obtain ⟨ys, h1, h2⟩ := h
 rw [hu] at h2
 have h3 : ys = [x] := by
  cases d <;> first | exact h2 | exact absurd rfl (hn.1 _) | exact absurd rfl (hn.2 _ _)
 subst h3
 obtain ⟨s, hs, e⟩ := hd _ h1
 exact ⟨s, hs, by rw [← e, pz, p7]⟩
end Go.V
end
section
set_option maxRecDepth 100000
namespace Go.V
open Go Go.Proofs IntKind
def BP (x : GBs) : Prop := au x.Needs = true
def JW (x : GBk) : Prop := au x.Boards = true ∧ au x.Strokes = true ∧ ∀ y ∈ x.Strokes, BP y
section
variable {P : Program} (iI : P.underlying 3 = some (.int .i64)) (fl : P.underlying 22 = some (.slice 3)) (ka : P.underlying 4 = some (.bool)) {JX : Array Field} (fm : P.underlying 35 = some (.struct JX)) (fp : JX.toList.map Field.type = [3, 3]) {JY : Array Field} (fq : P.underlying 49 = some (.struct JY)) (fu : JY.toList.map Field.type = [3, 4, 35, 22]) (fv : P.underlying 23 = some (.slice 49)) {JZ : Array Field} (fw : P.underlying 25 = some (.struct JZ)) (fx : JZ.toList.map Field.type = [3, 22, 23])
include iI fl ka fm fp fq fu fv fw fx
theorem gd_3 {n : Nat} : Dec P (n + 1) 3 eI (fun _ => True) := BL iI
theorem gd_22 {n : Nat} : Dec P (n + 2) 22 (eSl eI) (fun l => au l = true ∧ ∀ x ∈ l, True) := JT fl (gd_3 iI fl ka fm fp fq fu fv fw fx (n := n))
theorem gd_4 {n : Nat} : Dec P (n + 1) 4 eB (fun _ => True) := BM ka
theorem gd_35 {n : Nat} : Dec P (n + 2) 35 aL (fun _ => True) := by
 intro xs h
 obtain ⟨yss, hf, rfl⟩ := BO (n := n + 1) (ts := [3, 3]) fm fp h
 match yss, hf with
 | [y0, y1], ⟨h0, h1, _⟩ =>
  obtain ⟨x0, r0, e0⟩ := gd_3 iI fl ka fm fp fq fu fv fw fx (n := n + 0) _ h0
  obtain ⟨x1, r1, e1⟩ := gd_3 iI fl ka fm fp fq fu fv fw fx (n := n + 0) _ h1
  exact ⟨⟨x0, x1⟩, trivial, by simp only [List.flatten_cons, List.flatten_nil, List.append_nil, rW, e0, e1, eI, rV, eB, eS, eSl, pD, List.cons_append, List.nil_append]⟩
theorem gd_49 {n : Nat} : Dec P (n + 3) 49 cGBs (BP) := by
 intro xs h
 obtain ⟨yss, hf, rfl⟩ := BO (n := n + 2) (ts := [3, 4, 35, 22]) fq fu h
 match yss, hf with
 | [y0, y1, y2, y3], ⟨h0, h1, h2, h3, _⟩ =>
  obtain ⟨x0, r0, e0⟩ := gd_3 iI fl ka fm fp fq fu fv fw fx (n := n + 1) _ h0
  obtain ⟨x1, r1, e1⟩ := gd_4 iI fl ka fm fp fq fu fv fw fx (n := n + 1) _ h1
  obtain ⟨x2, r2, e2⟩ := gd_35 iI fl ka fm fp fq fu fv fw fx (n := n + 0) _ h2
  obtain ⟨x3, r3, e3⟩ := gd_22 iI fl ka fm fp fq fu fv fw fx (n := n + 0) _ h3
  exact ⟨⟨x0, x1, x2, x3⟩, r3.1, by simp only [List.flatten_cons, List.flatten_nil, List.append_nil, rW, e0, e1, e2, e3, eI, rV, eB, eS, eSl, tt, pD, List.cons_append, List.nil_append]⟩
theorem gd_23 {n : Nat} : Dec P (n + 4) 23 (eSl cGBs) (fun l => au l = true ∧ ∀ x ∈ l, BP x) := JT fv (gd_49 iI fl ka fm fp fq fu fv fw fx (n := n))
theorem gd_25 {n : Nat} : Dec P (n + 5) 25 cGBk (JW) := by
 intro xs h
 obtain ⟨yss, hf, rfl⟩ := BO (n := n + 4) (ts := [3, 22, 23]) fw fx h
 match yss, hf with
 | [y0, y1, y2], ⟨h0, h1, h2, _⟩ =>
  obtain ⟨x0, r0, e0⟩ := gd_3 iI fl ka fm fp fq fu fv fw fx (n := n + 3) _ h0
  obtain ⟨x1, r1, e1⟩ := gd_22 iI fl ka fm fp fq fu fv fw fx (n := n + 2) _ h1
  obtain ⟨x2, r2, e2⟩ := gd_23 iI fl ka fm fp fq fu fv fw fx (n := n + 0) _ h2
  exact ⟨⟨x0, x1, x2⟩, ⟨r1.1, r2.1, r2.2⟩, by simp only [List.flatten_cons, List.flatten_nil, List.append_nil, rW, e0, e1, e2, eI, rV, eB, eS, eSl, tu, List.cons_append, List.nil_append]⟩
end
theorem yN {n : Nat} : Dec Tryz.prog (n + 2) 22 (eSl eI) (fun l => au l = true ∧ ∀ x ∈ l, True) := gd_22 Tryz.underlying3 Tryz.underlying22 Tryz.underlying4 Tryz.underlying35 (by kernel_rfl) Tryz.underlying49 (by kernel_rfl) Tryz.underlying23 Tryz.underlying25 (by kernel_rfl)
theorem yL {n : Nat} : Dec Tryz.prog (n + 5) 25 cGBk (JW) := gd_25 Tryz.underlying3 Tryz.underlying22 Tryz.underlying4 Tryz.underlying35 (by kernel_rfl) Tryz.underlying49 (by kernel_rfl) Tryz.underlying23 Tryz.underlying25 (by kernel_rfl)
end Go.V
end
section
namespace Go.V
open Go Go.Proofs IntKind
def goB (b : Bool) : Option (LOut Bool Unit) := cond b (some (.go ())) (some (.ret false))
theorem pH (a b : Bool) : goB (a && b) = cond a (goB b) (some (.ret false)) := by cases a <;> rfl
theorem csome (a b : Bool) : cond a (some b) (some false) = some (a && b) := by cases a <;> rfl
theorem oe {X : Type} (b : Bool) (kr : Bool → Option X) (kg : Unit → Option X) (kb : Nat → Unit → Option X) : lbind (goB b) kr kg kb = cond b (kg ()) (kr false) := by cases b <;> rfl
def inB (a b n : Int) : Bool := decide (a ≤ n) && decide (n ≤ b)
theorem pI {a b n : Int} : inB a b n = true ↔ a ≤ n ∧ n ≤ b := by simp [inB]
theorem ix {n : Int} (h1 : -9223372036854775808 ≤ n) (h2 : n < 9223372036854775808) : i64.wrap n = n := IntWalk.i64_in _ (by omega)
theorem BQ {α : Type} {xs : List α} (h : au xs = true) : xs.length < 9223372036854775808 := by simpa [au] using h
theorem fA {α : Type} {xs : List α} (h : xs.length < 9223372036854775808) : au xs = true := by simpa [au] using h
theorem BR {α : Type} {xs : List α} {i : Int} {x : α} (h : getI xs i = some x) : x ∈ xs := by
 unfold getI at h
 split at h
 ·exact List.mem_of_getElem? h
 ·cases h
theorem xd {α : Type} {xs : List α} {i : Int} {x : α} (h : getI xs i = some x) : 0 ≤ i ∧ i < xs.length := ⟨(oa h).1, (oa h).2.1⟩
end Go.V
end
section
namespace Go.V
def mxL (l : List Int) : Int := l.foldl max 0
theorem Ka : ∀ (l : List Int) (a b : Int), l.foldl max a ≤ b ↔ a ≤ b ∧ ∀ x ∈ l, x ≤ b
 | [], a, b => by simp
 | x :: l, a, b => by
  simp only [List.foldl_cons, Ka l, List.mem_cons, forall_eq_or_imp]
  constructor
  ·rintro ⟨h1, h2⟩; exact ⟨by omega, by omega, h2⟩
  ·rintro ⟨h1, h2, h3⟩; exact ⟨by omega, h3⟩
theorem pJ {l : List Int} {b : Int} : mxL l ≤ b ↔ 0 ≤ b ∧ ∀ x ∈ l, x ≤ b := Ka l 0 b
theorem BS (l : List Int) : 0 ≤ mxL l := (pJ.1 (Int.le_refl _)).1
theorem BT {l : List Int} {x : Int} (h : x ∈ l) : x ≤ mxL l := (pJ.1 (Int.le_refl _)).2 x h
def frF (hd : Nat → Int) (e : Nat → Int) (h : Int) : Nat → Int
 | 0 => 0
 | k + 1 => if hd k = h then e k else frF hd e h k
theorem Kb {hd : Nat → Int} {e e' : Nat → Int} {h : Int} : ∀ {n : Nat}, (∀ k, k < n → e k = e' k) → frF hd e h n = frF hd e' h n
 | 0, _ => rfl
 | n + 1, hk => by
  unfold frF
  rw [hk n (Nat.lt_succ_self _), Kb (fun k h => hk k (Nat.lt_succ_of_lt h))]
theorem tQ {hd : Nat → Int} {e : Nat → Int} {h b : Int} (hb : 0 ≤ b) : ∀ {n : Nat}, (∀ k, k < n → hd k = h → e k ≤ b) → frF hd e h n ≤ b
 | 0, _ => hb
 | n + 1, hk => by
  unfold frF
  split
  ·rename_i hh; exact hk n (Nat.lt_succ_self _) hh
  ·exact tQ hb (fun k h1 h2 => hk k (Nat.lt_succ_of_lt h1) h2)
theorem pK {hd : Nat → Int} {e : Nat → Int} {h : Int} (he : ∀ k, 0 ≤ e k) : ∀ (n : Nat), 0 ≤ frF hd e h n
 | 0 => Int.le_refl _
 | n + 1 => by
  unfold frF
  split
  ·exact he n
  ·exact pK he n
def bgF (hd : Nat → Int) (nd : Nat → List Int) (e : Nat → Int) (s : Nat) : Int := max (max 0 (frF hd e (hd s) s)) (mxL ((nd s).map fun k => e k.toNat))
def En (hd : Nat → Int) (nd : Nat → List Int) (d : Nat → Int) : Nat → Nat → Int
 | 0, _ => 0
 | f + 1, s => bgF hd nd (En hd nd d f) s + d s
def NdOk (nd : Nat → List Int) : Prop := ∀ s, ∀ k ∈ nd s, 0 ≤ k ∧ k.toNat < s
theorem Kc {hd : Nat → Int} {nd : Nat → List Int} {e e' : Nat → Int} {s : Nat} (hn : NdOk nd) (h : ∀ k, k < s → e k = e' k) : bgF hd nd e s = bgF hd nd e' s := by
 unfold bgF
 rw [Kb h]
 congr 2
 exact List.map_congr_left fun k hk => h _ (hn s k hk).2
theorem tR {hd : Nat → Int} {nd : Nat → List Int} {d : Nat → Int} (hn : NdOk nd) : ∀ (f g s : Nat), s < f → s < g → En hd nd d f s = En hd nd d g s
 | 0, _, _, h, _ => absurd h (Nat.not_lt_zero _)
 | _ + 1, 0, _, _, h => absurd h (Nat.not_lt_zero _)
 | f + 1, g + 1, s, h1, h2 => by
  unfold En
  rw [Kc hn (e' := En hd nd d g) (fun k hk => tR hn f g k (by omega) (by omega))]
def Ed (hd : Nat → Int) (nd : Nat → List Int) (d : Nat → Int) (s : Nat) : Int := En hd nd d (s + 1) s
def Bg (hd : Nat → Int) (nd : Nat → List Int) (d : Nat → Int) (s : Nat) : Int := bgF hd nd (Ed hd nd d) s
theorem Ed_eq {hd : Nat → Int} {nd : Nat → List Int} {d : Nat → Int} (hn : NdOk nd) (s : Nat) : Ed hd nd d s = Bg hd nd d s + d s := by
 show bgF hd nd (En hd nd d s) s + d s = _
 rw [Kc hn (e' := Ed hd nd d) (fun k hk => tR hn s (k + 1) k hk (Nat.lt_succ_self _))]
 rfl
theorem BU (hd : Nat → Int) (nd : Nat → List Int) (e : Nat → Int) (s : Nat) : 0 ≤ bgF hd nd e s := by
 have := BS ((nd s).map fun k => e k.toNat)
 unfold bgF
 omega
section
variable {hd : Nat → Int} {nd : Nat → List Int} {d d' : Nat → Int}
theorem Bg_nn (s : Nat) : 0 ≤ Bg hd nd d s := BU _ _ _ _
theorem Ed_nn (hn : NdOk nd) (h : ∀ k, 0 ≤ d k) (s : Nat) : 0 ≤ Ed hd nd d s := by
 rw [Ed_eq hn]
 have := Bg_nn (hd := hd) (nd := nd) (d := d) s
 have := h s
 omega
theorem BV (hn : NdOk nd) {s : Nat} {k : Int} (hk : k ∈ nd s) : Ed hd nd d k.toNat ≤ Bg hd nd d s := by
 have := BT (List.mem_map_of_mem (f := fun k : Int => Ed hd nd d k.toNat) hk)
 unfold Bg bgF
 omega
theorem xe (s : Nat) : frF hd (Ed hd nd d) (hd s) s ≤ Bg hd nd d s := by
 unfold Bg bgF
 omega
theorem BW (hn : NdOk nd) (h0 : ∀ k, 0 ≤ d k) {h : Int} : ∀ {n k : Nat}, k < n → hd k = h → Ed hd nd d k ≤ frF hd (Ed hd nd d) h n
 | 0, _, hk, _ => absurd hk (Nat.not_lt_zero _)
 | n + 1, k, hk, hh => by
  unfold frF
  split
  ·rename_i hn'
   rcases Nat.lt_or_ge k n with h1 | h1
   ·have h2 := BW hn h0 h1 hh
    have h3 := xe (hd := hd) (nd := nd) (d := d) n
    rw [hn'] at h3
    rw [Ed_eq hn n]
    have := h0 n
    omega
   ·have : k = n := by omega
    subst this
    exact Int.le_refl _
  ·rename_i hn'
   have : k ≠ n := by rintro rfl; exact hn' hh
   exact BW hn h0 (by omega) hh
theorem BX (hn : NdOk nd) (h0 : ∀ k, 0 ≤ d k) {k s : Nat} (hk : k < s) (hh : hd k = hd s) : Ed hd nd d k ≤ Bg hd nd d s := Int.le_trans (BW hn h0 hk hh) (xe s)
theorem tS (hn : NdOk nd) {s : Nat} {b : Int} (hb : 0 ≤ b) (h1 : ∀ k, k < s → hd k = hd s → Ed hd nd d k ≤ b) (h2 : ∀ k ∈ nd s, Ed hd nd d k.toNat ≤ b) : Bg hd nd d s ≤ b := by
 have h3 := tQ (hd := hd) (e := Ed hd nd d) (h := hd s) (n := s) hb h1
 have h4 : mxL ((nd s).map fun k => Ed hd nd d k.toNat) ≤ b := by
  refine pJ.2 ⟨hb, ?_⟩
  intro x hx
  obtain ⟨k, hk, rfl⟩ := List.mem_map.1 hx
  exact h2 k hk
 unfold Bg bgF
 omega
theorem Ed_bd (hn : NdOk nd) {m : Int} (h0 : ∀ k, 0 ≤ d k ∧ d k ≤ m) : ∀ (f s : Nat), s < f → Ed hd nd d s ≤ m * (s + 1)
 | 0, _, h => absurd h (Nat.not_lt_zero _)
 | f + 1, s, h => by
  have hm : 0 ≤ m := Int.le_trans (h0 0).1 (h0 0).2
  have key : ∀ k, k < s → Ed hd nd d k ≤ m * s := fun k hk => by
   refine Int.le_trans (Ed_bd hn h0 f k (by omega)) ?_
   exact Int.mul_le_mul_of_nonneg_left (by omega) hm
  have h1 : Bg hd nd d s ≤ m * s := tS hn (Int.mul_nonneg hm (by omega)) (fun k hk _ => key k hk) (fun k hk => key _ (hn s k hk).2)
  rw [Ed_eq hn, Int.mul_add]
  have := h0 s
  omega
theorem tT (hn : NdOk nd) {m : Int} (h0 : ∀ k, 0 ≤ d k ∧ d k ≤ m) (s : Nat) : Ed hd nd d s ≤ m * (s + 1) := Ed_bd hn h0 (s + 1) s (Nat.lt_succ_self _)
end
end Go.V
end
section
namespace Go.V
open Go Go.Proofs IntKind
def og (aG : Int) (bC : Int) (aR : Int) : Option (Bool) := cond (decide (aG ≤ bC)) (some (decide (bC ≤ aR))) (some false)
theorem tU (aG : Int) (bC : Int) (aR : Int) (R : Bool) (h : og aG bC aR = some R) : ai Tryz.prog G0 95 [.lit (.int .i64 aG), .lit (.int .i64 bC), .lit (.int .i64 aR)] (.tree (.lit (.bool R))) := by
 refine ai.runR mixed Tryz.call95 Tryz.func95 rfl (by simp [Tryz.ntmps95]; kernel_rfl) ?_
 obtain ⟨KF, h, kF, kN⟩ := cO h
 simp only [og] at h
 cases d1 : (decide (aG ≤ bC))
 ·simp only [d1, hs] at h
  try simp only [vz, tyf, d1, nm, seval]
  obtain rfl := kF _ h
  exact bw Tryz.results95 rfl
 simp only [d1, hs] at h
 try simp only [vz, tyf, d1, nm, seval]
 obtain rfl := kF _ h
 exact bw Tryz.results95 rfl
def sa (aG : Int) (aR : Int) : List Int → Int → Option (LOut (Bool) (Unit))
 | [], oh => some (.go ())
 | e0 :: p0, oh => Option.bind (og aG e0 aR) (fun r1 => cond (r1) (sa aG aR p0 (oh + 1)) (some (.ret false)))
def pL (aG : Int) (ak : List Int) (aR : Int) : Option (Bool) := cond (au ak) (lbind (sa aG aR ak 0) (fun r3 => some r3) (fun c2 => some true) (fun _ _ => none)) none
theorem BY (aG : Int) (ak : List Int) (aR : Int) (R : Bool) (h : pL aG ak aR = some R) : ai Tryz.prog G0 103 [.lit (.int .i64 aG), .sl (aa eI ak) (List.length ak) false, .lit (.int .i64 aR)] (.tree (.lit (.bool R))) := by
 refine ai.runR mixed Tryz.call103 Tryz.func103 rfl (by simp [Tryz.ntmps103]; kernel_rfl) ?_
 obtain ⟨KF, h, kF, kN⟩ := cO h
 simp only [pL] at h
 cases g5 : (au ak)
 ·simp only [g5, hs] at h
  exact absurd h kN
 simp only [g5, hs] at h
 simp only [vz, tyf, g5, nm, seval]
 obtain ⟨K4, h, Ke, xf, Ny, xg⟩ := eN h kN
 obtain ⟨f4, BZ, h⟩ := call2 h
 obtain ⟨I4, mj⟩ : ∃ I : Nat → St → Prop, I = (fun m st => ∃ (p4 : List Int) (eQ : Int), m = List.length p4 ∧ 0 ≤ eQ ∧ List.drop (Int.toNat eQ) ak = p4 ∧ st.df = [] ∧ 4 ≤ st.nx ∧ st.tm 0 = .lit (.int .i64 aG) ∧ st.tm 2 = .lit (.int .i64 aR) ∧ st.tm 9 = .sl (aa eI ak) (List.length ak) false ∧ st.tm 10 = .lit (.int .i64 (List.length ak : Int)) ∧ st.tm 11 = .lit (.int .i64 eQ) ∧ K4 (f4 p4 eQ)) := ⟨_, rfl⟩
 refine loopK mixed (by kernel_rfl) I4 (List.length ak) (by rw [mj]; refine ⟨ak, 0, rfl, Int.le_refl _, rfl, rfl, (show 4 ≤ 4 by omega), ?_, ?_, ?_, ?_, ?_, h⟩ <;> first | (simp only [ua, nm, seval] <;> rfl) | rfl) ?_
 rintro m ⟨tm, H, kc, df⟩ hinv
 rw [mj] at hinv
 obtain ⟨p4, eQ, rfl, ga, iy, hdf, Ca, e6, e7, e8, e9, aV, h⟩ := hinv
 simp only at hdf Ca e6 e7 e8 e9 aV
 have sb := fg (m := 4) (b := kc) (by omega)
 subst hdf BZ
 cases p4 with
 | nil =>
  have bk : (decide (eQ < (List.length ak : Int))) = false := dR ga iy
  simp only [sa, hs, reduceCtorEq] at h
  replace h := xf _ h
  try dsimp only at h
  try simp only [hs] at h
  try simp only [vz, tyf, g5, sb, e6, e7, e8, e9, aV, bk, nm, seval]
  obtain rfl := kF _ h
  exact bw Tryz.results103 rfl
 | cons e4 p4 =>
  have fB : (decide (eQ < (List.length ak : Int))) = true := dQ ga iy
  have pM := cA ga iy
  have tV := dN ga iy g5
  simp only [sa, hs, reduceCtorEq] at h
  obtain ⟨gX, kL, h⟩ := optI h xg
  try simp only [hs] at h
  simp only [vz, tyf, g5, sb, e6, e7, e8, e9, aV, fB, (aj pM), tV, nm, seval]
  refine ktA (tU _ _ _ _ kL) ?_
  refine bZ (fun tm => tm 0 = .lit (.int .i64 aG) ∧ tm 2 = .lit (.int .i64 aR) ∧ tm 9 = .sl (aa eI ak) (List.length ak) false ∧ tm 10 = .lit (.int .i64 (List.length ak : Int)) ∧ tm 11 = .lit (.int .i64 eQ) ∧ tm 18 = .lit (.bool gX) ∧ True) (by refine ⟨e6, e7, e8, e9, aV, ?_, trivial⟩ <;> first | (simp only [ua, sb, e6, e7, e8, e9, aV, fB, tV, nm, seval] <;> rfl) | rfl) ?_
  rintro tm ⟨bN, cq, dY, dw, cC, cM, _⟩
  cases gx : (gX)
  ·simp only [gx, hs] at h
   try simp only [vz, tyf, g5, sb, fB, (aj pM), tV, bN, cq, dY, dw, cC, cM, gx, nm, seval]
   replace h := Ke _ h
   try dsimp only at h
   obtain rfl := kF _ h
   exact bw Tryz.results103 rfl
  simp only [gx, hs] at h
  simp only [vz, tyf, g5, sb, fB, (aj pM), tV, bN, cq, dY, dw, cC, cM, gx, nm, seval]
  exact ⟨List.length p4, Nat.lt_succ_self _, by rw [mj]; refine ⟨p4, eQ + 1, rfl, Int.le_trans ga (Int.le_add_one (Int.le_refl _)), bJ ga iy, rfl, (show 4 ≤ kc + 11 by omega), bN, cq, dY, dw, ?_, (by first | exact h | (simp only [fB, gx]; exact h))⟩ <;> first | (simp only [ua, sb, fB, tV, bN, cq, dY, dw, cC, cM, gx, nm, seval] <;> rfl) | rfl⟩
def xi (bE : List Int) : Option (Bool) := Option.bind (og 1 (List.length bE : Int) 3) (fun r1 => cond (r1) (Option.bind (pL 0 bE 60) (fun r2 => some r2)) (some false))
theorem Nz (bE : List Int) (R : Bool) (h : xi bE = some R) : ai Tryz.prog G0 101 [.sl (aa eI bE) (List.length bE) false] (.tree (.lit (.bool R))) := by
 refine ai.runR mixed Tryz.call101 Tryz.func101 rfl (by simp [Tryz.ntmps101]; kernel_rfl) ?_
 obtain ⟨KF, h, kF, kN⟩ := cO h
 simp only [xi] at h
 obtain ⟨r3, o4, h⟩ := optI h kN
 try simp only [hs] at h
 simp only [vz, tyf, nm, seval]
 refine ktA (tU _ _ _ _ o4) ?_
 refine bZ (fun tm => tm 0 = .sl (aa eI bE) (List.length bE) false ∧ tm 5 = .lit (.bool r3) ∧ True) (by refine ⟨?_, ?_, trivial⟩ <;> first | (simp only [ua, nm, seval] <;> rfl) | rfl) ?_
 rintro tm ⟨e5, e6, _⟩
 cases d7 : (r3)
 ·simp only [d7, hs] at h
  try simp only [vz, tyf, e5, e6, d7, nm, seval]
  obtain rfl := kF _ h
  exact bw Tryz.results101 rfl
 simp only [d7, hs] at h
 obtain ⟨r8, o9, h⟩ := optI h kN
 try simp only [hs] at h
 simp only [vz, tyf, e5, e6, d7, nm, seval]
 refine ktA (BY _ _ _ _ o9) ?_
 refine bZ (fun tm => tm 6 = .lit (.bool true) ∧ tm 8 = .lit (.bool r8) ∧ True) (by refine ⟨?_, ?_, trivial⟩ <;> first | (simp only [ua, e5, e6, d7, nm, seval] <;> rfl) | rfl) ?_
 rintro tm ⟨aV, aZ, _⟩
 try simp only [vz, tyf, d7, aV, aZ, nm, seval]
 obtain rfl := kF _ h
 exact bw Tryz.results101 rfl
def xj (ag : GBk) (aO : Int) : Option (Bool) := Option.bind (og 0 aO (i64.wrap ((List.length ag.Boards : Int) - 1))) (fun r1 => some r1)
theorem N0 (ag : GBk) (aO : Int) (R : Bool) (h : xj ag aO = some R) : ai Tryz.prog G0 71 [.agg (cGBk ag), .lit (.int .i64 aO)] (.tree (.lit (.bool R))) := by
 refine ai.runR mixed Tryz.call71 Tryz.func71 rfl (by simp [Tryz.ntmps71]; kernel_rfl) ?_
 obtain ⟨KF, h, kF, kN⟩ := cO h
 simp only [xj] at h
 obtain ⟨r2, o3, h⟩ := optI h kN
 try simp only [hs] at h
 simp only [vz, tyf, nm, seval]
 refine ktA (tU _ _ _ _ o3) ?_
 refine bZ (fun tm => tm 10 = .lit (.bool r2) ∧ True) (by refine ⟨?_, trivial⟩ <;> first | (simp only [ua, nm, seval] <;> rfl) | rfl) ?_
 rintro tm ⟨e4, _⟩
 try simp only [vz, tyf, e4, nm, seval]
 obtain rfl := kF _ h
 exact bw Tryz.results71 rfl
def tW (aG : Int) (gB : GSpan) (aR : Int) : Option (Bool) := cond (decide (aG ≤ gB.Low)) (cond (decide (gB.Low ≤ gB.High)) (some (decide (gB.High ≤ aR))) (some false)) (some false)
theorem N1 (aG : Int) (gB : GSpan) (aR : Int) (R : Bool) (h : tW aG gB aR = some R) : ai Tryz.prog G0 133 [.lit (.int .i64 aG), .agg (aL gB), .lit (.int .i64 aR)] (.tree (.lit (.bool R))) := by
 refine ai.runR mixed Tryz.call133 Tryz.func133 rfl (by simp [Tryz.ntmps133]; kernel_rfl) ?_
 obtain ⟨KF, h, kF, kN⟩ := cO h
 simp only [tW] at h
 cases d1 : (decide (aG ≤ gB.Low))
 ·simp only [d1, hs] at h
  try simp only [vz, tyf, d1, nm, seval]
  obtain rfl := kF _ h
  exact bw Tryz.results133 rfl
 simp only [d1, hs] at h
 cases d2 : (decide (gB.Low ≤ gB.High))
 ·simp only [d2, hs] at h
  try simp only [vz, tyf, d1, d2, nm, seval]
  obtain rfl := kF _ h
  exact bw Tryz.results133 rfl
 simp only [d2, hs] at h
 try simp only [vz, tyf, d1, d2, nm, seval]
 obtain rfl := kF _ h
 exact bw Tryz.results133 rfl
def sc (ak : List Int) : List Int → Int → Option (LOut (Bool) (Unit))
 | [], bt => some (.go ())
 | e0 :: p0, bt => Option.bind (getI ak (i64.wrap (bt - 1))) (fun x1 => cond (decide (e0 ≤ x1)) (some (.ret false)) (sc ak p0 (bt + 1)))
def tX (aG : Int) (ak : List Int) (aR : Int) : Option (Bool) := cond (au ak) (cond (leB 0 1) (lbind (sc ak (List.drop (Int.toNat 1) ak) 1) (fun r4 => some r4) (fun c2 => Option.bind (pL aG ak aR) (fun r3 => some r3)) (fun _ _ => none)) none) none
theorem N2 (aG : Int) (ak : List Int) (aR : Int) (R : Bool) (h : tX aG ak aR = some R) : ai Tryz.prog G0 134 [.lit (.int .i64 aG), .sl (aa eI ak) (List.length ak) false, .lit (.int .i64 aR)] (.tree (.lit (.bool R))) := by
 refine ai.runR mixed Tryz.call134 Tryz.func134 rfl (by simp [Tryz.ntmps134]; kernel_rfl) ?_
 obtain ⟨KF, h, kF, kN⟩ := cO h
 simp only [tX] at h
 cases g6 : (au ak)
 ·simp only [g6, hs] at h
  exact absurd h kN
 simp only [g6, hs] at h
 cases g7 : (leB 0 1)
 ·simp only [g7, hs] at h
  exact absurd h kN
 simp only [g7, hs] at h
 simp only [vz, tyf, g6, g7, nm, seval]
 obtain ⟨K5, h, pN, ml, xk, kM⟩ := eN h kN
 obtain ⟨f5, ng, h⟩ := call2 h
 obtain ⟨I5, gC⟩ : ∃ I : Nat → St → Prop, I = (fun m st => ∃ (p5 : List Int) (cb : Int), m = List.length p5 ∧ 0 ≤ cb ∧ List.drop (Int.toNat cb) ak = p5 ∧ st.df = [] ∧ 2 ≤ st.nx ∧ st.tm 0 = .lit (.int .i64 aG) ∧ st.tm 1 = .sl (aa eI ak) (List.length ak) false ∧ st.tm 2 = .lit (.int .i64 aR) ∧ st.tm 7 = .lit (.int .i64 cb) ∧ K5 (f5 p5 cb)) := ⟨_, rfl⟩
 refine loopK mixed (by kernel_rfl) I5 (List.length (List.drop (Int.toNat 1) ak)) (by rw [gC]; refine ⟨List.drop (Int.toNat 1) ak, 1, rfl, of_decide_eq_true g7, rfl, rfl, (show 2 ≤ 2 by omega), ?_, ?_, ?_, ?_, h⟩ <;> first | (simp only [ua, nm, seval] <;> rfl) | rfl) ?_
 rintro m ⟨tm, H, gD, df⟩ hinv
 rw [gC] at hinv
 obtain ⟨p5, cb, rfl, cN, dC, hdf, nh, e8, e9, aV, aZ, h⟩ := hinv
 simp only at hdf nh e8 e9 aV aZ
 have jg := fg (m := 2) (b := gD) (by omega)
 subst hdf ng
 cases p5 with
 | nil =>
  have fB : (decide (cb < (List.length ak : Int))) = false := dR cN dC
  simp only [sc, hs, reduceCtorEq] at h
  replace h := ml _ h
  try dsimp only at h
  try simp only [hs] at h
  obtain ⟨sd, pM, h⟩ := optI h kN
  try simp only [hs] at h
  simp only [vz, tyf, g6, g7, jg, e8, e9, aV, aZ, fB, nm, seval]
  refine ktA (BY _ _ _ _ pM) ?_
  refine bZ (fun tm => tm 27 = .lit (.bool sd) ∧ True) (by refine ⟨?_, trivial⟩ <;> first | (simp only [ua, jg, e8, e9, aV, aZ, fB, nm, seval] <;> rfl) | rfl) ?_
  rintro tm ⟨bX, _⟩
  try simp only [vz, tyf, g6, g7, jg, fB, bX, nm, seval]
  obtain rfl := kF _ h
  exact bw Tryz.results134 rfl
 | cons e5 p5 =>
  have mm : (decide (cb < (List.length ak : Int))) = true := dQ cN dC
  have ni := cA cN dC
  have tY := dN cN dC g6
  simp only [sc, hs, reduceCtorEq] at h
  simp only [vz, tyf, g6, g7, jg, e8, e9, aV, aZ, mm, (aj ni), tY, nm, seval]
  refine iD (fun tm => tm 0 = .lit (.int .i64 aG) ∧ tm 1 = .sl (aa eI ak) (List.length ak) false ∧ tm 2 = .lit (.int .i64 aR) ∧ tm 7 = .lit (.int .i64 cb) ∧ True) (by refine ⟨e8, e9, aV, aZ, trivial⟩ <;> first | (simp only [ua, jg, e8, e9, aV, aZ, mm, tY, nm, seval] <;> rfl) | rfl) ?_
  rintro tm ⟨dY, dw, cC, cM, _⟩
  obtain ⟨N3, kO, h⟩ := optI h kM
  try simp only [hs] at h
  cases fC : (decide (e5 ≤ N3))
  ·simp only [fC, hs] at h
   simp only [vz, tyf, g6, g7, jg, mm, (aj ni), tY, dY, dw, cC, cM, (aj kO), fC, nm, seval]
   exact ⟨List.length p5, Nat.lt_succ_self _, by rw [gC]; refine ⟨p5, cb + 1, rfl, Int.le_trans cN (Int.le_add_one (Int.le_refl _)), bJ cN dC, rfl, (show 2 ≤ gD + 17 by omega), dY, dw, cC, ?_, (by first | exact h | (simp only [mm, fC]; exact h))⟩ <;> first | (simp only [ua, jg, mm, tY, dY, dw, cC, cM, fC, nm, seval] <;> rfl) | rfl⟩
  simp only [fC, hs] at h
  try simp only [vz, tyf, g6, g7, jg, mm, (aj ni), tY, dY, dw, cC, cM, (aj kO), fC, nm, seval]
  replace h := pN _ h
  try dsimp only at h
  obtain rfl := kF _ h
  exact bw Tryz.results134 rfl
def se (ag : GBk) : List GBs → Int → Option (LOut (Bool) (Unit))
 | [], bO => some (.go ())
 | e0 :: p0, bO => Option.bind (xj ag e0.Board) (fun r2 => cond (r2) (Option.bind (tW 1 e0.Hours 6) (fun r3 => cond (r3) (Option.bind (tX 0 e0.Needs (i64.wrap (bO - 1))) (fun r4 => cond (r4) (se ag p0 (bO + 1)) (some (.ret false)))) (some (.ret false)))) (some (.ret false)))
def xl (ag : GBk) : Option (Bool) := Option.bind (og 1 (List.length ag.Strokes : Int) 6) (fun r1 => cond (r1) (cond (au ag.Strokes) (lbind (se ag ag.Strokes 0) (fun r6 => some r6) (fun c5 => some true) (fun _ _ => none)) none) (some false))
theorem N4 (ag : GBk) (R : Bool) (h : xl ag = some R) : ai Tryz.prog G0 102 [.agg (cGBk ag)] (.tree (.lit (.bool R))) := by
 refine ai.runR mixed Tryz.call102 Tryz.func102 rfl (by simp [Tryz.ntmps102]; kernel_rfl) ?_
 obtain ⟨KF, h, kF, kN⟩ := cO h
 simp only [xl] at h
 obtain ⟨r7, o8, h⟩ := optI h kN
 try simp only [hs] at h
 simp only [vz, tyf, nm, seval]
 refine ktA (tU _ _ _ _ o8) ?_
 refine bZ (fun tm => tm 1 = .ptr 0 0 ∧ tm 8 = .lit (.bool r7) ∧ True) (by refine ⟨?_, ?_, trivial⟩ <;> first | (simp only [ua, nm, seval] <;> rfl) | rfl) ?_
 rintro tm ⟨e9, aV, _⟩
 cases gb : (r7)
 ·simp only [gb, hs] at h
  try simp only [vz, tyf, e9, aV, gb, nm, seval]
  obtain rfl := kF _ h
  exact bw Tryz.results102 rfl
 simp only [gb, hs] at h
 cases om : (au ag.Strokes)
 ·simp only [om, hs] at h
  exact absurd h kN
 simp only [om, hs] at h
 simp only [vz, tyf, e9, aV, gb, om, nm, seval]
 obtain ⟨N5, h, pO, Cb, N6, pP⟩ := eN h kN
 obtain ⟨N7, Cc, h⟩ := call2 h
 obtain ⟨N8, pQ⟩ : ∃ I : Nat → St → Prop, I = (fun m st => ∃ (oo : List GBs) (bQ : Int), m = List.length oo ∧ 0 ≤ bQ ∧ List.drop (Int.toNat bQ) ag.Strokes = oo ∧ st.df = [] ∧ 11 ≤ st.nx ∧ st.H 0 = some (.cells (some 25) (cGBk ag)) ∧ st.tm 1 = .ptr 0 0 ∧ st.tm 11 = .sl (aa cGBs ag.Strokes) (List.length ag.Strokes) false ∧ st.tm 12 = .lit (.int .i64 (List.length ag.Strokes : Int)) ∧ st.tm 13 = .lit (.int .i64 bQ) ∧ N5 (N7 oo bQ)) := ⟨_, rfl⟩
 refine loopK mixed (by kernel_rfl) N8 (List.length ag.Strokes) (by rw [pQ]; refine ⟨ag.Strokes, 0, rfl, Int.le_refl _, rfl, rfl, (show 11 ≤ 11 by omega), ?_, e9, ?_, ?_, ?_, h⟩ <;> first | (simp only [ua, e9, aV, gb, nm, seval] <;> rfl) | rfl) ?_
 rintro m ⟨tm, H, nj, df⟩ hinv
 rw [pQ] at hinv
 obtain ⟨oo, bQ, rfl, kd, ly, hdf, Cd, sf, bn, bX, bR, bN, h⟩ := hinv
 simp only at hdf Cd sf bn bX bR bN
 have tZ := fg (m := 11) (b := nj) (by omega)
 subst hdf Cc
 cases oo with
 | nil =>
  have dm : (decide (bQ < (List.length ag.Strokes : Int))) = false := dR kd ly
  simp only [se, hs, reduceCtorEq] at h
  replace h := Cb _ h
  try dsimp only at h
  try simp only [hs] at h
  try simp only [vz, tyf, gb, om, tZ, bn, bX, bR, bN, sf, dm, nm, seval]
  obtain rfl := kF _ h
  exact bw Tryz.results102 rfl
 | cons bh oo =>
  have ke : (decide (bQ < (List.length ag.Strokes : Int))) = true := dQ kd ly
  have eJ := cA kd ly
  have oq := dN kd ly om
  simp only [se, hs, reduceCtorEq] at h
  obtain ⟨dD, kO, h⟩ := optI h pP
  try simp only [hs] at h
  simp only [vz, tyf, gb, om, tZ, bn, bX, bR, bN, sf, ke, (aJ eJ), oq, nm, seval]
  refine ktA (N0 _ _ _ kO) ?_
  refine bZ (fun tm => tm 1 = .ptr 0 0 ∧ tm 3 = .lit (.int .i64 bQ) ∧ tm 4 = .ptr (nj + 4) 0 ∧ tm 11 = .sl (aa cGBs ag.Strokes) (List.length ag.Strokes) false ∧ tm 12 = .lit (.int .i64 (List.length ag.Strokes : Int)) ∧ tm 13 = .lit (.int .i64 bQ) ∧ tm 21 = .lit (.bool dD) ∧ True) (by refine ⟨bn, ?_, ?_, bX, bR, bN, ?_, trivial⟩ <;> first | (simp only [ua, gb, tZ, bn, bX, bR, bN, sf, ke, oq, nm, seval] <;> rfl) | rfl) ?_
  rintro tm ⟨cn, bp, dx, dE, cQ, cG, ep, _⟩
  cases fD : (dD)
  ·simp only [fD, hs] at h
   have fU := And.intro gb (And.intro om (And.intro tZ (And.intro sf (And.intro ke (And.intro oq fD)))))
   try simp only [vz, tyf, fU, (aJ eJ), cn, bp, dx, dE, cQ, cG, ep, nm, seval]
   replace h := pO _ h
   try dsimp only at h
   obtain rfl := kF _ h
   exact bw Tryz.results102 rfl
  simp only [fD, hs] at h
  have nk := And.intro gb (And.intro om (And.intro tZ (And.intro sf (And.intro ke (And.intro oq fD)))))
  obtain ⟨ub, Ce, h⟩ := optI h pP
  try simp only [hs] at h
  simp only [vz, tyf, nk, (aJ eJ), cn, bp, dx, dE, cQ, cG, ep, nm, seval]
  refine ktA (N1 _ _ _ _ Ce) ?_
  refine bZ (fun tm => tm 1 = .ptr 0 0 ∧ tm 3 = .lit (.int .i64 bQ) ∧ tm 4 = .ptr (nj + 4) 0 ∧ tm 11 = .sl (aa cGBs ag.Strokes) (List.length ag.Strokes) false ∧ tm 12 = .lit (.int .i64 (List.length ag.Strokes : Int)) ∧ tm 13 = .lit (.int .i64 bQ) ∧ tm 23 = .lit (.bool false) ∧ tm 26 = .lit (.bool ub) ∧ True) (by refine ⟨cn, bp, dx, dE, cQ, cG, ?_, ?_, trivial⟩ <;> first | (simp only [ua, nk, cn, bp, dx, dE, cQ, cG, ep, nm, seval] <;> rfl) | rfl) ?_
  rintro tm ⟨cR, cS, bV, ck, bz, b4, bG, cy, _⟩
  cases da : (ub)
  ·simp only [da, hs] at h
   try simp only [vz, tyf, nk, (aJ eJ), cR, cS, bV, ck, bz, b4, bG, cy, da, nm, seval]
   replace h := pO _ h
   try dsimp only at h
   obtain rfl := kF _ h
   exact bw Tryz.results102 rfl
  simp only [da, hs] at h
  obtain ⟨Kf, N9, h⟩ := optI h pP
  try simp only [hs] at h
  simp only [vz, tyf, nk, (aJ eJ), cR, cS, bV, ck, bz, b4, bG, cy, da, nm, seval]
  refine ktA (N2 _ _ _ _ N9) ?_
  refine bZ (fun tm => tm 1 = .ptr 0 0 ∧ tm 11 = .sl (aa cGBs ag.Strokes) (List.length ag.Strokes) false ∧ tm 12 = .lit (.int .i64 (List.length ag.Strokes : Int)) ∧ tm 13 = .lit (.int .i64 bQ) ∧ tm 29 = .lit (.bool false) ∧ tm 34 = .lit (.bool Kf) ∧ True) (by refine ⟨cR, ck, bz, b4, ?_, ?_, trivial⟩ <;> first | (simp only [ua, nk, cR, cS, bV, ck, bz, b4, bG, cy, da, nm, seval] <;> rfl) | rfl) ?_
  rintro tm ⟨iJ, lz, l3, jx, jy, eu, _⟩
  cases sg : (Kf)
  ·simp only [sg, hs] at h
   try simp only [vz, tyf, nk, (aJ eJ), da, iJ, lz, l3, jx, jy, eu, sg, nm, seval]
   replace h := pO _ h
   try dsimp only at h
   obtain rfl := kF _ h
   exact bw Tryz.results102 rfl
  simp only [sg, hs] at h
  simp only [vz, tyf, nk, (aJ eJ), da, iJ, lz, l3, jx, jy, eu, sg, nm, seval]
  exact ⟨List.length oo, Nat.lt_succ_self _, by rw [pQ]; refine ⟨oo, bQ + 1, rfl, Int.le_trans kd (Int.le_add_one (Int.le_refl _)), bJ kd ly, rfl, (show 11 ≤ nj + 28 by omega), ?_, iJ, lz, l3, ?_, (by first | exact h | (simp only [nk, da, sg]; exact h))⟩ <;> first | (simp only [ua, nk, da, iJ, lz, l3, jx, jy, eu, sg, nm, seval] <;> rfl) | rfl⟩
end Go.V
end
