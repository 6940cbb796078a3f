/- Part of a proof. -/
import Derived.Test.YtmhlghgbfmcdaaaGreatDoorG1bl
set_option linter.all false
set_option maxRecDepth 4000
set_option maxHeartbeats 40000000
section
namespace Go.V
open Go Go.Proofs IntKind
def ik (al : GBk) (an : List Int) : List GBs → Int → (List GSpan) → (List (Gbe × Int)) → Option (LOut ((List GSpan) × Int) ((List GSpan) × (List (Gbe × Int))))
 | [], il, bB, cb => some (.go (bB, cb))
 | e0 :: p0, il, bB, cb => Option.bind (qX al an ([il]) cb) (fun r4 => cond (roomOk 16 (List.length (bB ++ [r4.1]))) (ik al an p0 (il + 1) (bB ++ [r4.1]) r4.2) none)
def qY (al : GBk) (an : List Int) : Option ((List GSpan) × Int) := Option.bind (jt al) (fun r1 => cond (r1) (Option.bind (mi al an) (fun r2 => cond (r2) (cond (lenOk al.Strokes) (lbind (ik al an al.Strokes 0 ([] : List GSpan) ([] : List (Gbe × Int))) (fun r6 => some r6) (fun c5 => some (c5.1, 0)) (fun _ _ => none)) none) (some (([] : List GSpan), 2)))) (some (([] : List GSpan), 2)))
theorem Mt (al : GBk) (an : List Int) (R : (List GSpan) × Int) (h : qY al an = some R) : aj Tryz.prog G0 22 [.agg (cGBk al), .sl (ae eI an) (List.length an) false] (.tree (.tup [.sl (ae cGSpan R.1) (List.length R.1) false, .lit (.int .i64 R.2)])) := by
 refine aj.runR mixed Tryz.call22 Tryz.func22 rfl (by simp [Tryz.ntmps22]; kernel_rfl) ?_
 obtain ⟨KF, h, kF, kN⟩ := cn h
 simp only [qY] at h
 obtain ⟨r7, o8, h⟩ := optI h kN
 try simp only [hs] at h
 simp only [vz, mq, mqm, vsi, tyf, mqt, nm, seval]
 refine ktree (args0 := [.agg (cGBk al)]) (by first | (simp only [nrm, aI, @bZ] <;> rfl) | rfl) (by simp only [tre, tytre, mqr, Bool.and_self]) (zu _ _ o8) ?_
 refine bw (fun tm => tm 1 = .sl (ae eI an) (List.length an) false ∧ tm 2 = .ptr 0 0 ∧ tm 10 = .lit (.bool r7) ∧ True) (by refine ⟨?_, ?_, ?_, trivial⟩ <;> first | (simp only [ua, b5, nm, seval] <;> rfl) | rfl) ?_
 rintro tm ⟨e9, aY, br, _⟩
 cases bK : (r7)
 ·simp only [bK, hs] at h
  try simp only [vz, mq, mqm, vsi, tyf, mqt, e9, aY, br, bK, nm, seval]
  refine bS (x := (.tup [.lit (.slice none 0 0), .lit (.int .i64 2)])) (by first | (simp only [Tryz.results22, resV, resL, resV1, bX, bY, uw, cr, tyf, mqt, bK, nm, seval] <;> rfl) | rfl) ?_
  obtain rfl := kF _ h
  refine eT ?_ ?_
  ·simp only [tre, tytre, mqr, Bool.and_self]
  ·first | (simp only [outV, uw, ej, cr, tyf, mqt, nrm, aI, e9, aY, br, bK, nm, seval] <;> rfl) | rfl
 simp only [bK, hs] at h
 obtain ⟨qZ, Mu, h⟩ := optI h kN
 try simp only [hs] at h
 simp only [vz, mq, mqm, vsi, tyf, mqt, e9, aY, br, bK, nm, seval]
 refine ktree (args0 := [.agg (cGBk al), .sl (ae eI an) (List.length an) false]) (by first | (simp only [nrm, aI, @bZ] <;> rfl) | rfl) (by simp only [tre, tytre, mqr, Bool.and_self]) (Ix _ _ _ Mu) ?_
 refine bw (fun tm => tm 1 = .sl (ae eI an) (List.length an) false ∧ tm 2 = .ptr 0 0 ∧ tm 12 = .lit (.bool false) ∧ tm 15 = .lit (.bool qZ) ∧ True) (by refine ⟨e9, aY, ?_, ?_, trivial⟩ <;> first | (simp only [ua, b5, e9, aY, br, bK, nm, seval] <;> rfl) | rfl) ?_
 rintro tm ⟨dr, bx, bu, bL, _⟩
 cases cX : (qZ)
 ·simp only [cX, hs] at h
  try simp only [vz, mq, mqm, vsi, tyf, mqt, bK, dr, bx, bu, bL, cX, nm, seval]
  refine bS (x := (.tup [.lit (.slice none 0 0), .lit (.int .i64 2)])) (by first | (simp only [Tryz.results22, resV, resL, resV1, bX, bY, uw, cr, tyf, mqt, bK, cX, nm, seval] <;> rfl) | rfl) ?_
  obtain rfl := kF _ h
  refine eT ?_ ?_
  ·simp only [tre, tytre, mqr, Bool.and_self]
  ·first | (simp only [outV, uw, ej, cr, tyf, mqt, nrm, aI, bK, dr, bx, bu, bL, cX, nm, seval] <;> rfl) | rfl
 simp only [cX, hs] at h
 try simp only [vz, mq, mqm, vsi, tyf, mqt, bK, dr, bx, bu, bL, cX, nm, seval]
 refine kopen ?_
 rw [ja]
 refine aq.run mixed Tryz.call69 Tryz.func69 rfl (by simp [Tryz.ntmps69]; kernel_rfl) ?_
 try simp only [vz, mq, mqm, vsi, tyf, mqt, bK, cX, nm, seval]
 refine bS (x := (.agg ((cGBk al) ++ [.sl (ae eI an) (List.length an) false] ++ [.mp 21]))) (by first | (simp only [Tryz.results69, resV, resL, resV1, bX, bY, uw, cr, tyf, mqt, bK, cX, nm, seval] <;> rfl) | rfl) ?_
 cases ep : (lenOk al.Strokes)
 ·simp only [ep, hs] at h
  exact absurd h kN
 simp only [ep, hs] at h
 simp only [vz, mq, mqm, vsi, tyf, mqt, bK, cX, dr, bx, bu, bL, ep, nm, seval]
 obtain ⟨Mv, h, Mw, ra, Mx, ju⟩ := f9 h kN
 obtain ⟨My, zw, h⟩ := call4 h
 obtain ⟨Mz, jv⟩ : ∃ I : Nat → St → Prop, I = (fun m st => ∃ (gH : List GBs) (bd : Int) (bE : List GSpan) (fA : List (Gbe × Int)) (fT : VV), m = List.length gH ∧ 0 ≤ bd ∧ List.drop (Int.toNat bd) al.Strokes = gH ∧ st.df = [] ∧ 29 ≤ st.nx ∧ st.H 21 = some (.map (encM aO bC fA)) ∧ st.H 15 = some (.cells (some 92) ((cGBk al) ++ [.sl (ae eI an) (List.length an) false] ++ [.mp 21])) ∧ st.tm 6 = .ptr 15 0 ∧ st.tm 23 = .lit (.int .i64 (List.length al.Strokes : Int)) ∧ st.tm 7 = fT ∧ st.tm 24 = .lit (.int .i64 bd) ∧ ((∃ (β : Nat) (el : Option TypeId), fT = .ref β 0 (List.length bE) 2 (List.length bE) ∧ β < st.nx ∧ β ≠ 21 ∧ β ≠ 15 ∧ st.H β = some (.cells el (ae cGSpan bE))) ∨ (fT = .lit (.slice none 0 0) ∧ bE = [])) ∧ Mv (My gH bd bE fA)) := ⟨_, rfl⟩
 refine loopK mixed (by kernel_rfl) Mz (List.length al.Strokes) (by rw [jv]; refine ⟨al.Strokes, 0, ([] : List GSpan), ([] : List (Gbe × Int)), .lit (.slice none 0 0), rfl, Int.le_refl _, rfl, rfl, (show 29 ≤ 29 by omega), ?_, ?_, ?_, ?_, ?_, ?_, Or.inr ⟨rfl, rfl⟩, h⟩ <;> first | (simp only [ua, b5, bK, cX, dr, bx, bu, bL, nm, seval] <;> rfl) | rfl) ?_
 rintro m ⟨tm, H, eu, df⟩ hinv
 rw [jv] at hinv
 obtain ⟨gH, bd, bE, fA, fT, rfl, db, dJ, hdf, zx, dt, du, b6, cl, cM, bp, im, h⟩ := hinv
 simp only at hdf zx dt du b6 cl cM bp im
 have dE := gI (m := 29) (b := eu) (by omega)
 subst hdf zw
 rcases im with ⟨k7, iq, rfl, zy, zz, z1, eU⟩ | ⟨rfl, rfl⟩
 ·have iu := fB zy
  have iv := ne_f zz
  have iw := ne_f z1
  cases gH with
  | nil =>
   have dG : (decide (bd < (List.length al.Strokes : Int))) = false := fl db dJ
   simp only [ik, hs, reduceCtorEq] at h
   replace h := ra _ h
   try dsimp only at h
   try simp only [hs] at h
   try simp only [vz, mq, mqm, vsi, tyf, mqt, bK, cX, ep, dE, b6, cl, cM, bp, dt, du, iu, eU, iv, iw, dG, nm, seval]
   refine bS (x := (.tup [.ref k7 0 (List.length bE) 2 (List.length bE), .lit (.int .i64 0)])) (by first | (simp only [Tryz.results22, resV, resL, resV1, bX, bY, uw, cr, tyf, mqt, bK, cX, ep, dE, dt, du, iu, eU, iv, iw, dG, nm, seval] <;> rfl) | rfl) ?_
   obtain rfl := kF _ h
   refine eT ?_ ?_
   ·simp only [tre, tytre, mqr, Bool.and_self]
   ·first | (simp only [outV, uw, ej, cr, tyf, mqt, nrm, aI, bK, cX, ep, dE, b6, cl, cM, bp, dt, du, iu, eU, iv, iw, dG, nm, seval] <;> rfl) | rfl
  | cons dc gH =>
   have cq : (decide (bd < (List.length al.Strokes : Int))) = true := fm db dJ
   have jw := dv db dJ
   have re := fp db dJ ep
   simp only [ik, hs, reduceCtorEq] at h
   obtain ⟨k8, M0, h⟩ := optI h ju
   try simp only [hs] at h
   simp only [vz, mq, mqm, vsi, tyf, mqt, bK, cX, ep, dE, b6, cl, cM, bp, dt, du, iu, eU, iv, iw, cq, (aV jw), re, nm, seval]
   refine kupdF (args' := [.agg ((cGBk al) ++ [.sl (ae eI an) (List.length an) false] ++ [.mp 21]), .sl (ae eI ([bd])) (List.length ([bd])) false]) (g := (eu + 6)) (el := (some 3)) (cs := ae eI ([bd])) (by first | rfl | assumption | (simp only [aX, b2, eh, dE, dt, du, iu, eU, iv, iw, nm, seval] <;> rfl) | (simp only [aX, b2, hY, jc, gJ, gL, tyf, mqt, bK, cX, ep, dE, b6, cl, cM, bp, dt, du, iu, eU, iv, iw, cq, (aV jw), re, nm, seval]; done)) ⟨.same, Frozen.own (el := (some 3)) (cs := ae eI ([bd])) (by first | rfl | assumption | (simp only [aX, b2, eh, dE, dt, du, iu, eU, iv, iw, nm, seval] <;> rfl) | (simp only [aX, b2, hY, jc, gJ, gL, tyf, mqt, bK, cX, ep, dE, b6, cl, cM, bp, dt, du, iu, eU, iv, iw, cq, (aV jw), re, nm, seval]; done)) (eI_ok.treeL _) (dI (w := 1) (enc := eI) (fun _ => rfl) _), trivial⟩ (VUpd.at (β := 21) (y := (fun _ => .agg (cGSpan k8.1))) (Iy _ _ _ _ _ M0) (by omega) (by first | rfl | assumption | (simp only [aX, b2, dE, dt, du, iu, eU, iv, iw, nm, seval] <;> rfl)) (by first | rfl | (simp only [nrm, aI, @bZ, @dW] <;> rfl) | (simp only [tyf, mqt, List.cons_append, List.nil_append, nrm, aI, @bZ, @dW] <;> rfl)) (ez (fun _ => rfl) _)) ?_
   refine eV (fun tm => tm 6 = .ptr 15 0 ∧ tm 23 = .lit (.int .i64 (List.length al.Strokes : Int)) ∧ tm 24 = .lit (.int .i64 bd) ∧ tm 27 = .ref k7 0 (List.length bE) 2 (List.length bE) ∧ tm 31 = .agg (cGSpan k8.1) ∧ True) (by refine ⟨b6, cl, bp, ?_, ?_, trivial⟩ <;> first | (simp only [ua, b5, bK, cX, dE, b6, cl, cM, bp, dt, du, iu, eU, iv, iw, cq, re, nm, seval] <;> rfl) | rfl) ?_
   rintro tm ⟨fq, fu, fC, de, dX, _⟩
   have jd := And.intro bK (And.intro cX (And.intro ep (And.intro dE (And.intro dt (And.intro du (And.intro iu (And.intro eU (And.intro iv (And.intro iw (And.intro cq re))))))))))
   cases mj : (roomOk 16 (List.length (bE ++ [k8.1])))
   ·simp only [mj, hs] at h
    exact absurd h ju
   simp only [mj, hs] at h
   simp only [vz, mq, mqm, vsi, tyf, mqt, jd, (aV jw), fq, fu, fC, de, dX, mj, nm, seval]
   refine k_app (w := 2) (enc := cGSpan) (xs := bE) (ys := ([k8.1])) (el := iq) (ky := (some 35)) (fun _ => rfl) qb qa Tryz.underlying31 (by first | rfl | assumption | (simp only [aX, b2, jq, jd, nm, seval] <;> rfl) | (simp only [aX, b2, hY, jc, gJ, gL, tyf, mqt, jd, (aV jw), fq, fu, fC, de, dX, mj, nm, seval]; done)) (by first | rfl | assumption | (simp only [aX, b2, jq, jd, nm, seval] <;> rfl) | (simp only [aX, b2, hY, jc, gJ, gL, tyf, mqt, jd, (aV jw), fq, fu, fC, de, dX, mj, nm, seval]; done)) (Nat.zero_lt_succ _) mj ?_
   simp only [vz, mq, mqm, vsi, tyf, mqt, jd, (aV jw), fq, fu, fC, de, dX, mj, nm, seval]
   exact ⟨List.length gH, Nat.lt_succ_self _, by rw [jv]; refine ⟨gH, bd + 1, (bE ++ [k8.1]), k8.2, .ref (eu + 9) 0 (List.length (bE ++ [k8.1])) 2 (List.length (bE ++ [k8.1])), rfl, Int.le_trans db (Int.le_add_one (Int.le_refl _)), dw db dJ, rfl, (show 29 ≤ eu + 13 by omega), ?_, ?_, fq, fu, ?_, ?_, Or.inl ⟨eu + 9, (sameEl iq 35), rfl, (by first | omega | (simp only [nm, seval]; done) | (simp only [nm, seval]; omega)), (by first | omega | (intro hh; simp only [jd, reduceCtorEq] at hh)), (by first | omega | (intro hh; simp only [jd, reduceCtorEq] at hh)), ?_⟩, (by first | exact h | (simp only [jd]; exact h))⟩ <;> first | (simp only [ua, b5, jd, fq, fu, fC, de, dX, nm, seval] <;> rfl) | rfl⟩
 ·cases gH with
  | nil =>
   have gb : (decide (bd < (List.length al.Strokes : Int))) = false := fl db dJ
   simp only [ik, hs, reduceCtorEq] at h
   replace h := ra _ h
   try dsimp only at h
   try simp only [hs] at h
   try simp only [vz, mq, mqm, vsi, tyf, mqt, bK, cX, ep, dE, b6, cl, cM, bp, dt, du, gb, nm, seval]
   refine bS (x := (.tup [.lit (.slice none 0 0), .lit (.int .i64 0)])) (by first | (simp only [Tryz.results22, resV, resL, resV1, bX, bY, uw, cr, tyf, mqt, bK, cX, ep, dE, dt, du, gb, nm, seval] <;> rfl) | rfl) ?_
   obtain rfl := kF _ h
   refine eT ?_ ?_
   ·simp only [tre, tytre, mqr, Bool.and_self]
   ·first | (simp only [outV, uw, ej, cr, tyf, mqt, nrm, aI, bK, cX, ep, dE, b6, cl, cM, bp, dt, du, gb, nm, seval] <;> rfl) | rfl
  | cons dc gH =>
   have rh : (decide (bd < (List.length al.Strokes : Int))) = true := fm db dJ
   have o6 := dv db dJ
   have ri := fp db dJ ep
   simp only [ik, hs, reduceCtorEq] at h
   obtain ⟨k9, M1, h⟩ := optI h ju
   try simp only [hs] at h
   simp only [vz, mq, mqm, vsi, tyf, mqt, bK, cX, ep, dE, b6, cl, cM, bp, dt, du, rh, (aV o6), ri, nm, seval]
   refine kupdF (args' := [.agg ((cGBk al) ++ [.sl (ae eI an) (List.length an) false] ++ [.mp 21]), .sl (ae eI ([bd])) (List.length ([bd])) false]) (g := (eu + 6)) (el := (some 3)) (cs := ae eI ([bd])) (by first | rfl | assumption | (simp only [aX, b2, eh, dE, dt, du, nm, seval] <;> rfl) | (simp only [aX, b2, hY, jc, gJ, gL, tyf, mqt, bK, cX, ep, dE, b6, cl, cM, bp, dt, du, rh, (aV o6), ri, nm, seval]; done)) ⟨.same, Frozen.own (el := (some 3)) (cs := ae eI ([bd])) (by first | rfl | assumption | (simp only [aX, b2, eh, dE, dt, du, nm, seval] <;> rfl) | (simp only [aX, b2, hY, jc, gJ, gL, tyf, mqt, bK, cX, ep, dE, b6, cl, cM, bp, dt, du, rh, (aV o6), ri, nm, seval]; done)) (eI_ok.treeL _) (dI (w := 1) (enc := eI) (fun _ => rfl) _), trivial⟩ (VUpd.at (β := 21) (y := (fun _ => .agg (cGSpan k9.1))) (Iy _ _ _ _ _ M1) (by omega) (by first | rfl | assumption | (simp only [aX, b2, dE, dt, du, nm, seval] <;> rfl)) (by first | rfl | (simp only [nrm, aI, @bZ, @dW] <;> rfl) | (simp only [tyf, mqt, List.cons_append, List.nil_append, nrm, aI, @bZ, @dW] <;> rfl)) (ez (fun _ => rfl) _)) ?_
   refine eV (fun tm => tm 6 = .ptr 15 0 ∧ tm 23 = .lit (.int .i64 (List.length al.Strokes : Int)) ∧ tm 24 = .lit (.int .i64 bd) ∧ tm 27 = .lit (.slice none 0 0) ∧ tm 31 = .agg (cGSpan k9.1) ∧ True) (by refine ⟨b6, cl, bp, ?_, ?_, trivial⟩ <;> first | (simp only [ua, b5, bK, cX, dE, b6, cl, cM, bp, dt, du, rh, ri, nm, seval] <;> rfl) | rfl) ?_
   rintro tm ⟨jx, jy, kA, kC, kD, _⟩
   have kE := And.intro bK (And.intro cX (And.intro ep (And.intro dE (And.intro dt (And.intro du (And.intro rh ri))))))
   cases oA : (roomOk 16 (List.length (([] : List GSpan) ++ [k9.1])))
   ·simp only [oA, hs] at h
    exact absurd h ju
   simp only [oA, hs] at h
   simp only [vz, mq, mqm, vsi, tyf, mqt, kE, (aV o6), jx, jy, kA, kC, kD, oA, nm, seval]
   refine lY (w := 2) (enc := cGSpan) (ys := ([k9.1])) (ky := (some 35)) (fun _ => rfl) qb qa Tryz.underlying31 (by first | rfl | assumption | (simp only [aX, b2, jq, kE, nm, seval] <;> rfl) | (simp only [aX, b2, hY, jc, gJ, gL, tyf, mqt, kE, (aV o6), jx, jy, kA, kC, kD, oA, nm, seval]; done)) (Nat.zero_lt_succ _) oA ?_
   simp only [vz, mq, mqm, vsi, tyf, mqt, kE, (aV o6), jx, jy, kA, kC, kD, oA, nm, seval]
   exact ⟨List.length gH, Nat.lt_succ_self _, by rw [jv]; refine ⟨gH, bd + 1, (([] : List GSpan) ++ [k9.1]), k9.2, .ref (eu + 9) 0 (List.length (([] : List GSpan) ++ [k9.1])) 2 (List.length (([] : List GSpan) ++ [k9.1])), rfl, Int.le_trans db (Int.le_add_one (Int.le_refl _)), dw db dJ, rfl, (show 29 ≤ eu + 13 by omega), ?_, ?_, jx, jy, ?_, ?_, Or.inl ⟨eu + 9, (some 35), rfl, (by first | omega | (simp only [nm, seval]; done) | (simp only [nm, seval]; omega)), (by first | omega | (intro hh; simp only [kE, reduceCtorEq] at hh)), (by first | omega | (intro hh; simp only [kE, reduceCtorEq] at hh)), ?_⟩, (by first | exact h | (simp only [kE]; exact h))⟩ <;> first | (simp only [ua, b5, kE, jx, jy, kA, kC, kD, nm, seval] <;> rfl) | rfl⟩








def ml  : List GSpan → Int → Int → Option (LOut (Int) (Int))
 | [], ix, bB => some (.go bB)
 | e0 :: p0, ix, bB => ml p0 (ix + 1) (if bB < e0.High then e0.High else bB)
def mm (al : GBk) (an : List Int) : Option (Int) := Option.bind (qY al an) (fun r1 => cond (r1.2 != 0) (some (-1)) (cond ((List.length r1.1 : Int) != (List.length an : Int)) (some (-1)) (cond (lenOk r1.1) (lbind (ml r1.1 0 0) (fun r3 => some r3) (fun c2 => some c2) (fun _ _ => none)) none)))
theorem z2 (al : GBk) (an : List Int) (R : Int) (h : mm al an = some R) : aj Tryz.prog G0 50 [.agg (cGBk al), .sl (ae eI an) (List.length an) false] (.tree (.lit (.int .i64 R))) := by
 refine aj.runR mixed Tryz.call50 Tryz.func50 rfl (by simp [Tryz.ntmps50]; kernel_rfl) ?_
 obtain ⟨KF, h, kF, kN⟩ := cn h
 simp only [mm] at h
 obtain ⟨r4, o5, h⟩ := optI h kN
 try simp only [hs] at h
 simp only [vz, tyf, nm, seval]
 refine ktA (Mt _ _ _ o5) ?_
 refine bw (fun tm => tm 1 = .sl (ae eI an) (List.length an) false ∧ tm 12 = .tup [.sl (ae cGSpan r4.1) (List.length r4.1) false, .lit (.int .i64 r4.2)] ∧ True) (by refine ⟨?_, ?_, trivial⟩ <;> first | (simp only [ua, nm, seval] <;> rfl) | rfl) ?_
 rintro tm ⟨e6, e7, _⟩
 cases d8 : (r4.2 != 0)
 ·simp only [d8, hs] at h
  cases d9 : ((List.length r4.1 : Int) != (List.length an : Int))
  ·simp only [d9, hs] at h
   cases kG : (lenOk r4.1)
   ·simp only [kG, hs] at h
    exact absurd h kN
   simp only [kG, hs] at h
   simp only [vz, tyf, e6, e7, d8, d9, kG, nm, seval]
   obtain ⟨M3, h, M4, z3, M5, M6⟩ := f9 h kN
   obtain ⟨M7, z4, h⟩ := call3 h
   obtain ⟨M8, mn⟩ : ∃ I : Nat → St → Prop, I = (fun m st => ∃ (kH : List GSpan) (cY : Int) (dY : Int), m = List.length kH ∧ 0 ≤ cY ∧ List.drop (Int.toNat cY) r4.1 = kH ∧ st.df = [] ∧ 21 ≤ st.nx ∧ st.tm 5 = .sl (ae cGSpan r4.1) (List.length r4.1) false ∧ st.tm 7 = .lit (.int .i64 dY) ∧ st.tm 8 = .lit (.int .i64 cY) ∧ M3 (M7 kH cY dY)) := ⟨_, rfl⟩
   refine loopK mixed (by kernel_rfl) M8 (List.length r4.1) (by rw [mn]; refine ⟨r4.1, 0, 0, rfl, Int.le_refl _, rfl, rfl, (show 21 ≤ 21 by omega), ?_, ?_, ?_, h⟩ <;> first | (simp only [ua, e6, e7, d8, d9, nm, seval] <;> rfl) | rfl) ?_
   rintro m ⟨tm, H, rj, df⟩ hinv
   rw [mn] at hinv
   obtain ⟨kH, cY, dY, rfl, gf, iy, hdf, z5, bF, bz, bH, h⟩ := hinv
   simp only at hdf z5 bF bz bH
   have cC := gI (m := 21) (b := rj) (by omega)
   subst hdf z4
   cases kH with
   | nil =>
    have eC : (decide (cY < (List.length r4.1 : Int))) = false := fl gf iy
    simp only [ml, hs, reduceCtorEq] at h
    replace h := z3 _ h
    try dsimp only at h
    try simp only [hs] at h
    try simp only [vz, tyf, d8, d9, kG, cC, bF, bz, bH, eC, nm, seval]
    refine bS (x := (.lit (.int .i64 dY))) (by first | (simp only [Tryz.results50, resV, resL, resV1, bX, bY, uw, cr, tyf, d8, d9, kG, cC, eC, nm, seval] <;> rfl) | rfl) ?_
    obtain rfl := kF _ h
    refine eT ?_ ?_
    ·simp only [tre, tytre, Bool.and_self]
    ·first | (simp only [outV, uw, ej, cr, tyf, nrm, aI, d8, d9, kG, cC, bF, bz, bH, eC, nm, seval] <;> rfl) | rfl
   | cons aY kH =>
    have gg : (decide (cY < (List.length r4.1 : Int))) = true := fm gf iy
    have mo := dv gf iy
    have kI := fp gf iy kG
    simp only [ml, hs, reduceCtorEq] at h
    simp only [vz, tyf, d8, d9, kG, cC, bF, bz, bH, gg, (xh mo), kI, nm, seval]
    exact ⟨List.length kH, Nat.lt_succ_self _, by rw [mn]; refine ⟨kH, cY + 1, (if dY < aY.High then aY.High else dY), rfl, Int.le_trans gf (Int.le_add_one (Int.le_refl _)), dw gf iy, rfl, (show 21 ≤ rj + 15 by omega), bF, ?_, ?_, (by first | exact h | (simp only [d8, d9, gg]; exact h))⟩ <;> first | (simp only [ua, d8, d9, cC, bF, bz, bH, gg, kI, nm, seval] <;> rfl) | rfl⟩
  simp only [d9, hs] at h
  try simp only [vz, tyf, e6, e7, d8, d9, nm, seval]
  refine bS (x := (.lit (.int .i64 (-1)))) (by first | (simp only [Tryz.results50, resV, resL, resV1, bX, bY, uw, cr, tyf, d8, d9, nm, seval] <;> rfl) | rfl) ?_
  obtain rfl := kF _ h
  refine eT ?_ ?_
  ·simp only [tre, tytre, Bool.and_self]
  ·first | (simp only [outV, uw, ej, cr, tyf, nrm, aI, e6, e7, d8, d9, nm, seval] <;> rfl) | rfl
 simp only [d8, hs] at h
 try simp only [vz, tyf, e6, e7, d8, nm, seval]
 refine bS (x := (.lit (.int .i64 (-1)))) (by first | (simp only [Tryz.results50, resV, resL, resV1, bX, bY, uw, cr, tyf, d8, nm, seval] <;> rfl) | rfl) ?_
 obtain rfl := kF _ h
 refine eT ?_ ?_
 ·simp only [tre, tytre, Bool.and_self]
 ·first | (simp only [outV, uw, ej, cr, tyf, nrm, aI, e6, e7, d8, nm, seval] <;> rfl) | rfl
theorem room16 {n : Nat} (h : n ≤ 1000) : roomOk 16 n = true := by simp [roomOk]; omega
theorem rk {α : Type} {xs : List α} (h : 1 ≤ xs.length) : neB xs = true := by cases xs with | nil => simp at h | cons a p => rfl
def endS (b : GBk) (pl : List Int) (i : Nat) : GSpan := ⟨EE b pl 0 i, EE b pl 1 i⟩
def endsL (b : GBk) (pl : List Int) : List GSpan := (List.range b.Strokes.length).map (endS b pl)
theorem rl {x : Int} (h : 0 ≤ x) : mxL [x] = x := by show max 0 x = x; omega
theorem rn {b : GBk} (hb : BOk b) {pl : List Int} (hp : pl.length = b.Strokes.length) : ∀ (p : List GBs) (i : Nat) (acc : List GSpan) (l : List (Gbe × Int)), i + p.length = b.Strokes.length → acc.length = i → InvE b pl l →
  ∃ l', ik b pl p i acc l = some (.go (acc ++ (List.range' i p.length).map (endS b pl), l'))
 | [], i, acc, l, _, _, _ => ⟨l, by simp [ik]⟩
 | s :: p, i, acc, l, hi, ha, hl => by
  have hns := hb.ns
  simp only [List.length_cons] at hi
  obtain ⟨l1, e1, cG⟩ := z6 hb.h hp hl (p := [(i : Int)]) (fun k hk => by rw [List.mem_singleton.1 hk]; omega) (by simp)
  obtain ⟨l2, e2⟩ := rn hb hp p (i + 1) (acc ++ [endS b pl i]) l1 (by omega) (by simp [ha]) cG
  refine ⟨l2, ?_⟩
  simp only [ik, e1, Option.bind_some]
  have h0 := EE_b hb.h pl 0 (s := i) (by omega)
  have h1 := EE_b hb.h pl 1 (s := i) (by omega)
  simp only [List.map_cons, List.map_nil, Int.toNat_natCast]
  rw [rl h0.1, rl h1.1, room16 (by simp; omega), cond_true]
  have : ((i : Int) + 1) = ((i + 1 : Nat) : Int) := by omega
  rw [this]
  show ik b pl p ((i + 1 : Nat) : Int) (acc ++ [endS b pl i]) l1 = _
  rw [e2]
  simp [List.range'_succ]
theorem z7 {b : GBk} (h : Len b) (pl : List Int) : qY b pl = some (if benchB b && planB b pl then (endsL b pl, 0) else ([], 2)) := by
 unfold qY
 rw [z8 h, Iz h]
 cases hB : benchB b with
 | false => rfl
 | true =>
  cases hP : planB b pl with
  | false => rfl
  | true =>
   have hb := oB.1 hB
   obtain ⟨l', e⟩ := rn hb (oC.1 hP).len b.Strokes 0 [] [] (by simp) rfl InvE.nil
   simp only [Option.bind_some, cond_true, Bool.and_self, if_true]
   rw [fU h.st, cond_true]
   have e' : ik b pl b.Strokes 0 [] [] = _ := e
   rw [e']
   simp [lbind, endsL, List.range_eq_range']
theorem I0 (b : GBk) (pl : List Int) : (endsL b pl).length = b.Strokes.length := by simp [endsL]
theorem rp {b : GBk} {pl : List Int} : ∀ (k i : Nat) (c : Int), ml ((List.range' i k).map (endS b pl)) c (tkF (EE b pl 1) i) = some (.go (tkF (EE b pl 1) (i + k)))
 | 0, i, c => rfl
 | k + 1, i, c => by
  have := rp (b := b) (pl := pl) k (i + 1) (c + 1)
  simp only [List.range'_succ, List.map_cons, ml]
  have e : (if tkF (EE b pl 1) i < (endS b pl i).High then (endS b pl i).High else tkF (EE b pl 1) i) = tkF (EE b pl 1) (i + 1) := by
   show (if tkF (EE b pl 1) i < EE b pl 1 i then EE b pl 1 i else tkF (EE b pl 1) i) = max (tkF (EE b pl 1) i) (EE b pl 1 i)
   split <;> omega
  rw [e, this]
  congr 3
  omega
theorem mr {b : GBk} (h : Len b) {pl : List Int} (hB : benchB b = true) (hP : planB b pl = true) : mm b pl = some (TK b pl) := by
 have hl := (oC.1 hP).len
 unfold mm
 rw [z7 h, hB, hP]
 simp only [Bool.and_self, if_true, Option.bind_some]
 have e1 : ((0 : Int) != 0) = false := rfl
 have e2 : (((endsL b pl).length : Int) != (pl.length : Int)) = false := by rw [I0, hl]; simp
 rw [e1, cond_false, e2, cond_false, fU (by rw [I0]; exact h.st), cond_true]
 have := rp (b := b) (pl := pl) b.Strokes.length 0 0
 rw [← List.range_eq_range'] at this
 have e3 : ml (endsL b pl) 0 0 = some (.go (TK b pl)) := by
  unfold endsL TK
  rw [show tkF (EE b pl 1) b.Strokes.length = tkF (EE b pl 1) (0 + b.Strokes.length) by rw [Nat.zero_add]]
  exact this
 rw [e3]
 rfl
def itB (b : GBk) : VV := .fn (.func 115) [] [.tp (cGBk b)]
theorem z9 (b : GBk) : aj Tryz.prog G0 86 [.agg (cGBk b)] (.tree (itB b)) := by
  refine aj.run mixed Tryz.call86 Tryz.func86 rfl (by simp [Tryz.ntmps86]; kernel_rfl) ?_
  simp only [vz, tyf, seval, ua]
  refine ⟨rfl, .fn (.func 115) [] [.ptr 0 0], by simp [Tryz.results86, resV, resL, resV1, upd], 20, ?_⟩
  have h : treeL (cGBk b) = true := ur
  simp only [fQ] at h
  simp [treeL, VV.tree] at h
  simp [sealV, sealL, VV.tree, treeL, updH, h, itB, cGBk]
theorem takesOk {b : GBk} (hb : BH b) {L : List (List Int)} (h : plansO b = some L) : TakesOk b L (TK b) := by
  intro p hp l hl
  refine rq hb ?_ hl
  unfold plansO at h
  cases hs : (decide (0 < b.Strokes.length) && (decide (b.Strokes.length < 1000) && (decide (0 ≤ b.Apprentices) && decide (b.Apprentices < 1000)))) with
  | false => rw [hs] at h; cases h
  | true =>
  rw [hs, cond_true] at h
  have := yZ _ _ _ h p hp
  simpa using this
theorem ru {tk : List Int → Int} {R : List Int} : ∀ {L : List (List Int)} {a : Option (List Int)}, bestP tk L a = some R → R ∈ L ∨ a = some R
  | [], a, h => .inr h
  | x :: L, none, h => by
    simp only [bestP] at h
    rcases ru h with h | h
    · exact .inl (List.mem_cons_of_mem _ h)
    · cases h; exact .inl (List.mem_cons_self ..)
  | x :: L, some r, h => by
    simp only [bestP] at h
    rcases ru h with h | h
    · exact .inl (List.mem_cons_of_mem _ h)
    · split at h
      · cases h; exact .inl (List.mem_cons_self ..)
      · exact .inr h
def rv (b : GBk) : Option (List Int × Int × Int) := Option.bind (jt b) fun r => cond r (cond (benchB b) (Option.bind (plansO b) fun L => Option.bind (bestP (TK b) L none) fun R => some (R, TK b R, 0)) none) (some ([], 0, 2))
theorem M9 (al : GBk) (R : List Int × Int × Int) (h : rv al = some R) : aj Tryz.prog G0 51 [.agg (cGBk al)] (.tree (.tup [.sl (ae eI R.1) (List.length R.1) false, .lit (.int .i64 R.2.1), .lit (.int .i64 R.2.2)])) := by
  refine aj.runR mixed Tryz.call51 Tryz.func51 rfl (by simp [Tryz.ntmps51]; kernel_rfl) ?_
  unfold rv at h
  rcases o1 : jt al with _ | r1
  · rw [o1] at h; cases h
  rw [o1, Option.bind_some] at h
  simp only [vz, mq, mqm, vsi, tyf, mqt, nm, seval]
  refine ktree (args0 := [.agg (cGBk al)]) (by first | (simp only [nrm, aI, @bZ] <;> rfl) | rfl) (by simp only [tre, tytre, mqr, Bool.and_self]) (zu _ _ o1) ?_
  refine bw (fun tm => tm 1 = .ptr 0 0 ∧ tm 7 = .lit (.bool r1)) (by refine ⟨?_, ?_⟩ <;> first | (simp only [ua, b5, nm, seval] <;> rfl) | rfl) ?_
  rintro tm ⟨e1, e7⟩
  cases r1 with
  | false =>
    simp only [cond_false, Option.some.injEq] at h
    subst h
    simp only [vz, mq, mqm, vsi, tyf, mqt, e1, e7, nm, seval]
    refine bS (x := .tup [.lit (.slice none 0 0), .lit (.int .i64 0), .lit (.int .i64 2)]) (by first | (simp only [Tryz.results51, resV, resL, resV1, bX, bY, uw, cr, tyf, mqt, nm, seval] <;> rfl) | rfl) ?_
    refine eT ?_ ?_
    · simp only [tre, tytre, mqr, Bool.and_self]
    · first | (simp only [outV, uw, ej, cr, tyf, mqt, nrm, aI, nm, seval] <;> rfl) | rfl
  | true =>
    rw [cond_true] at h
    cases hB : benchB al with
    | false => rw [hB] at h; cases h
    | true =>
    rw [hB, cond_true] at h
    rcases hL : plansO al with _ | L
    · rw [hL] at h; cases h
    rw [hL, Option.bind_some] at h
    rcases hR : bestP (TK al) L none with _ | P
    · rw [hR] at h; cases h
    rw [hR, Option.bind_some, Option.some.injEq] at h
    subst h
    have hBH := (oB.1 hB).h
    simp only [vz, mq, mqm, vsi, tyf, mqt, e1, e7, nm, seval]
    refine ktree (args0 := [.agg (cGBk al)]) (by first | (simp only [nrm, aI, @bZ] <;> rfl) | rfl) (by simp only [tre, tytre, mqr, Bool.and_self]) (z9 _) ?_
    refine bw (fun tm => tm 1 = .ptr 0 0 ∧ tm 10 = itB al) (by refine ⟨?_, ?_⟩ <;> first | (simp only [ua, b5, e1, nm, seval] <;> rfl) | rfl) ?_
    clear e1 e7 tm
    rintro tm ⟨e1, aY⟩
    simp only [vz, mq, mqm, vsi, tyf, mqt, e1, aY, nm, seval]
    refine kopen ?_
    rw [ja]
    refine aq.mono (I1 (MA hL) (takesOk hBH hL) hR _ _) ?_ (fun _ _ _ h => h.elim)
    rintro v H2 n2 ⟨g1, g2, δ, l, rfl, g3, g4, g5, g6⟩
    simp only [iz, vz, mq, mqm, vsi, tyf, mqt, e1, aY, nm, seval]
    have hBH' := takesOk hBH hL
    have hPL : P ∈ L := (ru hR).resolve_right (by simp)
    obtain ⟨l', et, it⟩ := hBH' P hPL l g6
    have qd := fB g4
    have q0 : (δ = 10) = False := by simp; omega
    have q1 : (10 = δ) = False := by simp; omega
    refine kJ (fun tm => tm 5 = .ptr 10 0) (by first | (simp only [ua, nm, seval]; done) | rfl) ?_
    clear e1 aY tm
    rintro tm e5
    simp only [vz, mq, mqm, vsi, tyf, mqt, e5, q0, q1, qd, g5, nm, seval]
    refine dkupd (VUpd.at (β := δ) (y := (fun _ => .lit (.int .i64 (TK al P)))) (uu _ _ _ _ et) (by omega) (by first | rfl | assumption | (simp only [aX, b2, q0, q1, g5, nm, seval] <;> rfl)) (by first | rfl | (simp only [nrm, aI, @bZ, @dW] <;> rfl)) (ez (fun _ => rfl) _)) ?_
    refine eV (fun tm => tm 13 = .sl (ae eI P) (List.length P) false ∧ tm 15 = .lit (.int .i64 (TK al P))) (by refine ⟨?_, ?_⟩ <;> first | (simp only [ua, b5, e5, nm, seval] <;> rfl) | rfl) ?_
    clear e5 tm
    rintro tm ⟨bz, dr⟩
    simp only [vz, mq, mqm, vsi, tyf, mqt, bz, dr, q0, q1, qd, g5, nm, seval]
    refine ia ⟨?_, ?_⟩
    · simp only [ib, ic, dD, ig, and_true, true_and]
      repeat' (first | exact trivial | refine And.intro ?_ ?_ | rw [dD] | rw [ij] | exact Or.inl (by decide +kernel) | exact Or.inl (by dsimp only; decide +kernel) | (refine Or.inr ⟨?_, ?_⟩ <;> simp; done) | (refine Or.inr ⟨?_, ?_⟩ <;> simp <;> omega) | (refine Or.inr ⟨?_, ?_⟩ <;> simp [VEff.wr] <;> omega))
    simp only [vz, mq, mqm, vsi, tyf, mqt, bz, dr, nm, seval]
    refine bS (x := .tup [.sl (ae eI P) (List.length P) false, .lit (.int .i64 (TK al P)), .lit (.int .i64 0)]) (by first | (simp only [Tryz.results51, resV, resL, resV1, bX, bY, uw, cr, tyf, mqt, bz, dr, nm, seval] <;> rfl) | rfl) ?_
    refine eT ?_ ?_
    · simp only [tre, tytre, mqr, Bool.and_self]
    · first | (simp only [outV, uw, ej, cr, tyf, mqt, nrm, aI, nm, seval] <;> rfl) | rfl

theorem BH.with {b : GBk} (h : BH b) (n : Int) : BH ⟨n, b.Boards, b.Strokes⟩ := ⟨h.ns, h.s⟩
def wiB (b : GBk) (n : Int) : GBk := ⟨n, b.Boards, b.Strokes⟩

def mF (b : GBk) (p : List Int) (j : Int) : Bool := j == 0 || !(match b.Strokes[p.length]? with | some s => s.Round | none => true)
def LA (b : GBk) (a : Int) : List (List Int) := listsB (mF b) (a.toNat + 1) b.Strokes.length []
theorem zA {b : GBk} (hB : BOk b) {a : Int} (h0 : 0 ≤ a) (h3 : a ≤ 3) : plansO (wiB b a) = some (LA b a) := by
 have hn := hB.ns
 unfold plansO
 rw [show (decide (0 < (wiB b a).Strokes.length) && (decide ((wiB b a).Strokes.length < 1000) && (decide (0 ≤ (wiB b a).Apprentices) && decide ((wiB b a).Apprentices < 1000)))) = true by
  show (decide (0 < b.Strokes.length) && (decide (b.Strokes.length < 1000) && (decide (0 ≤ a) && decide (a < 1000)))) = true
  simp only [Bool.and_eq_true, decide_eq_true_eq]
  exact ⟨by omega, by omega, by omega, by omega⟩, cond_true]
 refine I2 (ln := b.Strokes.length) (m := mF b) (fun p j h1 h2 h3 h4 => ?_) b.Strokes.length [] (by simp) (by simp)
 have hs : getI (wiB b a).Strokes (p.length : Int) = some b.Strokes[p.length] := by
  unfold getI wiB
  rw [if_pos (by omega), Int.toNat_natCast, List.getElem?_eq_getElem h1]
 unfold uv mF
 rw [zB hs, List.getElem?_eq_getElem h1]
 rfl
theorem I8 {b : GBk} {l : Nat} (hl : 0 < l) : ∀ (k : Nat) (p : List Int), stepsB (mF b) l p (List.replicate k 0) = true
 | 0, _ => rfl
 | k + 1, p => by
  rw [List.replicate_succ]
  simp only [stepsB, Bool.and_eq_true, decide_eq_true_eq]
  exact ⟨⟨Int.le_refl _, by omega⟩, by simp [mF], I8 hl k _⟩
theorem zC {b : GBk} {a : Int} : List.replicate b.Strokes.length 0 ∈ LA b a := by
 unfold LA
 rw [ux]
 exact ⟨_, rfl, by simp, I8 (by omega) _ _⟩
theorem ry {tk : List Int → Int} : ∀ (L : List (List Int)) (a : Option (List Int)), (L ≠ [] ∨ a ≠ none) → ∃ R, bestP tk L a = some R ∧ (∀ p ∈ L, tk R ≤ tk p) ∧ ∀ r, a = some r → tk R ≤ tk r
 | [], none, h => by rcases h with h | h <;> exact absurd rfl h
 | [], some r, _ => ⟨r, rfl, (fun p hp => by cases hp), fun q hq => by cases hq; exact Int.le_refl _⟩
 | x :: L, none, _ => by
  obtain ⟨R, e, h1, h2⟩ := ry (tk := tk) L (some x) (.inr (by simp))
  refine ⟨R, e, fun p hp => ?_, fun r hr => by cases hr⟩
  rcases List.mem_cons.1 hp with rfl | hp
  ·exact h2 _ rfl
  ·exact h1 p hp
 | x :: L, some r, _ => by
  by_cases hlt : tk x < tk r
  ·obtain ⟨R, e, h1, h2⟩ := ry (tk := tk) L (some x) (.inr (by simp))
   have hx := h2 x rfl
   refine ⟨R, by simp only [bestP]; rw [if_pos hlt]; exact e, fun p hp => ?_, fun q hq => by cases hq; omega⟩
   rcases List.mem_cons.1 hp with rfl | hp
   ·exact hx
   ·exact h1 p hp
  ·obtain ⟨R, e, h1, h2⟩ := ry (tk := tk) L (some r) (.inr (by simp))
   have hx := h2 r rfl
   refine ⟨R, by simp only [bestP]; rw [if_neg hlt]; exact e, fun p hp => ?_, fun q hq => by cases hq; exact hx⟩
   rcases List.mem_cons.1 hp with rfl | hp
   ·omega
   ·exact h1 p hp
def IsB (b : GBk) (a : Int) (R : List Int) : Prop := bestP (TK (wiB b a)) (LA b a) none = some R ∧ R ∈ LA b a ∧ ∀ p ∈ LA b a, TK b R ≤ TK b p
theorem zD (b : GBk) (a : Int) : ∃ R, IsB b a R := by
 obtain ⟨R, e, h1, _⟩ := ry (tk := TK (wiB b a)) (LA b a) none (.inl (List.ne_nil_of_mem zC))
 exact ⟨R, e, (ru e).resolve_right (by simp), h1⟩
theorem BOk.wi {b : GBk} (hB : BOk b) {a : Int} (h0 : 0 ≤ a) (h3 : a ≤ 3) : BOk (wiB b a) := ⟨⟨h0, h3⟩, hB.nb, hB.bo, hB.ns, hB.st⟩
theorem Len.wi {b : GBk} (h : Len b) (a : Int) : Len (wiB b a) := ⟨h.bo, h.st, h.nd⟩
theorem zE {b : GBk} (h : Len b) (hB : BOk b) {a : Int} (h0 : 0 ≤ a) (h3 : a ≤ 3) {R : List Int} (hR : IsB b a R) : rv (wiB b a) = some (R, TK b R, 0) := by
 unfold rv
 rw [z8 (h.wi a), oB.2 (hB.wi h0 h3), Option.bind_some, cond_true, cond_true, zA hB h0 h3, Option.bind_some, hR.1]
 rfl
theorem aq.litG {P : Program} {G : Glob} {H : Nat → Option VObj} {f : FuncId} {args : List VV} {y : VV} {nx β : Nat} {es : List (Value × VV)} {args0 : Nat → List VV} {x : Nat → VV} (hb : H β = some (.map es)) (hn : ∀ b, normL (args.map (litV β b)) = args0 b)
  (ht : ∀ b, treeL (args.map (litV β b)) = true) (hx : ∀ (c : Ctx) (W : World) (v : Value), c.used β → Rep c W (x (c.φ β)) v → Rep c W y v) (hp : ∀ b, aj P G f (args0 b) (.tree (x b))) : aq P G f args H nx (fun z H' nx' => z = y ∧ H' = H ∧ nx' = nx) (fun _ _ _ => False) := by
 refine ⟨(hp 0).1, fun c W vs s hH hnx hG ha => ?_⟩
 have hl : c.live β := by simp [Ctx.live, hH, hb]
 have h1 := zF hl ha
 have h2 := hp (c.φ β)
 rw [← hn] at h2
 refine ((h2.norm).2 c.A W vs s.ltA (fun g cs hg => hG.tree g cs hg) (fO (ht _) h1)).mono ?_
 rintro e W' ⟨A', g1, g2, g3, hbl, v, rfl, hx'⟩
 have he := Ext.more g1 g2 hbl
 refine ⟨c.more A', H, nx, he, Sim.more s g1 g2 g3 hbl, hH, fun β hb => .inl hb, hnx, Nat.le_refl _, .inl ⟨y, v, rfl, ?_, rfl, rfl, rfl⟩⟩
 have h3 : Rep (c.more A') W' (x (c.φ β)) v := Rep.abides (fk (fun _ h => h)) _ hx'
 exact hx (c.more A') W' v (s.used β hl) h3
theorem kmapG {P : Program} {G : Glob} {H : Nat → Option VObj} {f : FuncId} {args : List VV} {y : VV} {d : Option Tmp} {γ β : Nat} {tm : Nat → VV} {nx : Nat} {df : List VDef} {K : St → Prop} {Qp : VV → St → Prop} {es : List (Value × VV)} {args0 : Nat → List VV} {x : Nat → VV} (hb : H β = some (.map es))
  (hn : ∀ b, normL (args.map (litV β b)) = args0 b) (ht : ∀ b, treeL (args.map (litV β b)) = true) (hx : ∀ (c : Ctx) (W : World) (v : Value), c.used β → Rep c W (x (c.φ β)) v → Rep c W y v) (hp : ∀ b, aj P G f (args0 b) (.tree (x b))) (h : fin d γ tm H nx df K y .none) : callK P G f args ⟨tm, H, nx, df⟩ d γ K Qp := by
 refine .inr (.inr ?_)
 unfold openK
 refine aq.mono (aq.litG hb hn ht hx hp) ?_ (fun _ _ _ h => h.elim)
 rintro v H2 dV ⟨rfl, rfl, rfl⟩
 rw [← c8 (K := K), dK] at h
 cases d <;> exact h
theorem I9 {c : Ctx} {W : World} {β : Nat} (hu : c.used β) {b : Nat} : ∀ (cs : List VV) (o : Nat), RepC c W b o (cs ++ [.lit (.map (some (c.φ β)))]) → RepC c W b o (cs ++ [.mp β])
 | [], o, ⟨u, e, h1, h2⟩ => by
  have h' : u = .map (some (c.φ β)) := h1
  subst h'
  exact ⟨_, e, ⟨⟨hu, rfl⟩, fun _ => rfl⟩, h2⟩
 | x :: cs, o, ⟨u, e, h1, h2⟩ => ⟨u, e, h1, I9 hu cs (o + 1) h2⟩
theorem zG {c : Ctx} {W : World} {β : Nat} (hu : c.used β) {f : Fn} {cs rest : List VV} {v : Value} (h : Rep c W (.fn f [] (.tp (cs ++ [.lit (.map (some (c.φ β)))]) :: rest)) v) : Rep c W (.fn f [] (.tp (cs ++ [.mp β]) :: rest)) v := by
 obtain ⟨l₁, l₂, e, h1, u, us, e2, ⟨b, o, e3, hA, h3⟩, h4⟩ := h
 exact ⟨l₁, l₂, e, h1, u, us, e2, ⟨b, o, e3, hA, I9 hu cs o h3⟩, h4⟩
def itP (b : GBk) (pl : List Int) (s : Int) (δ : Nat) : VV := .fn (.func 123) [] [.tp (planC b pl ++ [.mp δ]), .tp [.lit (.int .i64 s)]]
def gvL (b : GBk) (pl : List Int) (s : Int) : Nat → Int → Option (List (List Int))
 | 0, _ => some []
 | k + 1, h => Option.bind (iZ pl) fun c => Option.bind (getI c s) fun _ => Option.bind (jz b s h) fun m => Option.bind (gvL b pl s k (h + 1)) fun r => some (cond m (c.set s.toNat h :: r) r)
def plansOfO (b : GBk) (pl : List Int) (s : Int) : Option (List (List Int)) := cond (decide (0 ≤ b.Apprentices) && decide (b.Apprentices < 1000)) (gvL b pl s (b.Apprentices.toNat + 1) 0) none
theorem IB (b : GBk) (pl : List Int) (H : Nat → Option VObj) (nx : Nat) : aq Tryz.prog G0 69 [.agg (cGBk b), sI pl] H nx (fun v H' nx' => ∃ δ, v = .agg (planC b pl ++ [.mp δ]) ∧ nx ≤ δ ∧ δ < nx' ∧ H' δ = some (.map []) ∧ ∀ γ, γ < nx → H' γ = H γ) (fun _ _ _ => False) := by
 refine aq.run mixed Tryz.call69 Tryz.func69 rfl (by simp [Tryz.ntmps69]; kernel_rfl) ?_
 simp only [vz, mq, mqm, vsi, tyf, mqt, seval, ua, rg, nm]
 refine bS (x := .agg (planC b pl ++ [.mp (nx + 4)])) (by first | (simp only [Tryz.results69, resV, resL, resV1, bX, bY, uw, cr, tyf, mqt, nm, seval] <;> rfl) | rfl) ?_
 refine ⟨nx + 4, rfl, by omega, by omega, by simp [updH], fun γ hγ => ?_⟩
 simp only [updH]
 repeat rw [if_neg (by omega)]
theorem zH (b : GBk) (pl : List Int) (s : Int) (n : Nat) : aj Tryz.prog G0 93 [.agg (planC b pl ++ [.lit (.map (some n))]), .lit (.int .i64 s)] (.tree (.fn (.func 123) [] [.tp (planC b pl ++ [.lit (.map (some n))]), .tp [.lit (.int .i64 s)]])) := by
 refine aj.run mixed Tryz.call93 Tryz.func93 rfl (by simp [Tryz.ntmps93]; kernel_rfl) ?_
 simp only [planC, fQ, List.cons_append, List.nil_append, vz, mq, mqm, vsi, tyf, mqt, seval, ua, rg]
 refine ⟨rfl, .fn (.func 123) [] [.ptr 0 0, .ptr 1 0], by simp [Tryz.results93, resV, resL, resV1, upd], 20, ?_⟩
 have h1 : treeL (ae eI b.Boards) = true := eI_ok.treeL _
 have h2 : treeL (ae cGBs b.Strokes) = true := cN.treeL _
 have h3 : treeL (ae eI pl) = true := eI_ok.treeL _
 simp [sealV, sealL, VV.tree, treeL, updH, h1, h2, h3]
theorem MB {b : GBk} {pl : List Int} {s : Int} {δ : Nat} {L : List (List Int)} (h : plansOfO b pl s = some L) : IterM Tryz.prog G0 (itP b pl s δ) (L.map (plV b)) := by
 unfold plansOfO at h
 cases hs : (decide (0 ≤ b.Apprentices) && decide (b.Apprentices < 1000)) with
 | false => rw [hs] at h; cases h
 | true =>
 rw [hs, cond_true] at h
 simp only [Bool.and_eq_true, decide_eq_true_eq] at hs
 obtain ⟨oD, rz⟩ := hs
 have wA : i64.wrap (b.Apprentices + 1) = b.Apprentices + 1 := by rw [IntWalk.i64_in _ (by omega)]
 refine ⟨123, [], _, rfl, fun β I hst hr H nx hβ hI => ?_⟩
 refine aq.run mixed Tryz.call123 Tryz.func123 rfl (by simp [Tryz.ntmps123]; kernel_rfl) ?_
 simp only [planC, fQ, List.nil_append, List.cons_append, argsTm3, vz, mq, mqm, vsi, tyf, mqt, seval, ua, rg, nm, wA]
 obtain ⟨X, hX⟩ : ∃ X : List VV, X = [.lit (.int .i64 b.Apprentices), .sl (ae eI b.Boards) (List.length b.Boards) false, .sl (ae cGBs b.Strokes) (List.length b.Strokes) false, sI pl, .mp δ] := ⟨_, rfl⟩
 obtain ⟨IA, hIA⟩ : ∃ IA : Nat → St → Prop, IA = (fun (m : Nat) (st : St) => ∃ (hd : Int) (L2 : List (List Int)), 0 ≤ hd ∧ hd + (m : Int) = b.Apprentices + 1 ∧ gvL b pl s m hd = some L2 ∧ st.df = [] ∧ nx + 5 ≤ st.nx ∧ I (some (L2.map (plV b))) noFr st.H st.nx ∧ st.tm 0 = .yl β ∧ st.tm 1 = .tp X ∧ st.tm 2 = .tp [.lit (.int .i64 s)] ∧ st.tm 9 = .lit (.int .i64 (b.Apprentices + 1)) ∧ st.tm 10 = .lit (.int .i64 hd)) := ⟨_, rfl⟩
 refine loopK mixed (by kernel_rfl) IA (b.Apprentices.toNat + 1) ?_ ?_
 ·rw [hIA]
  refine ⟨0, L, Int.le_refl _, by omega, h, rfl, Nat.le_refl _, hst _ _ _ _ _ _ _ hI (fun _ _ _ => rfl) (by dsimp only; omega) (fun γ hγ => .inl hγ), ?_, ?_, ?_, ?_, ?_⟩ <;> first | (simp only [hX, ua, nm, seval] <;> rfl) | (simp only [hX, ua, nm, seval]; done) | rfl
 rintro m ⟨tm, H1, bm, df⟩ hinv
 rw [hIA] at hinv
 obtain ⟨hd, L2, h0, hm, hg, hdf, zI, hi, e0, e1, e2, e9, aY⟩ := hinv
 simp only at hdf zI hi e0 e1 e2 e9 aY
 subst hdf
 cases m with
 | zero =>
  have hlt : decide (hd < b.Apprentices + 1) = false := decide_eq_false (by omega)
  simp only [gvL, Option.some.injEq] at hg
  subst hg
  simp only [vz, mq, mqm, vsi, tyf, mqt, seval, ua, rg, nm, e9, aY, hlt]
  refine za (x := .tup []) (by simp [Tryz.results123, resV, resL]) (.inl ?_)
  exact hst _ _ _ _ _ _ _ hi (fun _ _ _ => rfl) (by omega) (fun γ h => .inl h)
 | succ m =>
  have hlt : decide (hd < b.Apprentices + 1) = true := decide_eq_true (by omega)
  simp only [gvL] at hg
  rcases hc : iZ pl with _ | c
  ·rw [hc] at hg; cases hg
  rw [hc, Option.bind_some] at hg
  rcases hx : getI c s with _ | x
  ·rw [hx] at hg; cases hg
  rw [hx, Option.bind_some] at hg
  rcases hmd : jz b s hd with _ | md
  ·rw [hmd] at hg; cases hg
  rw [hmd, Option.bind_some] at hg
  rcases fb : gvL b pl s m (hd + 1) with _ | L3
  ·rw [fb] at hg; cases hg
  rw [fb, Option.bind_some, Option.some.injEq] at hg
  subst hg
  have w6 := setA (w := 1) (enc := eI) (fun _ => rfl) hx
  have w7 := setB (w := 1) (enc := eI) hd (fun _ => rfl) hx
  simp only [vz, tyf, nm, seval] at w7
  have w8 := setC (w := 1) (enc := eI) c (Int.toNat s) hd (fun _ => rfl)
  simp only [vz, mq, mqm, vsi, tyf, mqt, seval, ua, rg, nm, e0, e1, e2, e9, aY, hlt, hX]
  refine kown (args0 := [.sl (ae eI pl) (List.length pl) false]) (by first | (simp only [nrm, aI, @bZ] <;> rfl) | rfl) (by simp only [tre, tytre, mqr, Bool.and_self]) (Ie _ _ hc) ?_
  try simp only [vz, mq, mqm, vsi, tyf, mqt, seval, ua, rg, nm, e0, e1, e2, e9, aY, hX, (fR hx), w6, w7, w8]
  refine ktree (args0 := [.agg (cGBk b), .lit (.int .i64 s), .lit (.int .i64 hd)]) (by first | (simp only [nrm, aI, @bZ] <;> rfl) | rfl) (by simp only [tre, tytre, mqr, Bool.and_self]) (zJ _ _ _ _ hmd) ?_
  refine bw (fun tm => tm 0 = .yl β ∧ tm 1 = .tp X ∧ tm 2 = .tp [.lit (.int .i64 s)] ∧ tm 5 = .ref (bm + 5) 0 (List.length c) 1 (List.length c) ∧ tm 9 = .lit (.int .i64 (b.Apprentices + 1)) ∧ tm 10 = .lit (.int .i64 hd) ∧ tm 24 = .lit (.bool md)) (by refine ⟨?_, ?_, ?_, ?_, ?_, ?_, ?_⟩ <;> first | (simp only [ua, e0, e1, e2, e9, aY, nm, seval] <;> rfl) | (simp only [ua, e0, e1, e2, e9, aY, nm, seval]; done) | rfl) ?_
  generalize zK : updH (updH H1 (bm + 5) (VObj.cells none (ae eI c))) (bm + 5) (VObj.cells none (ae eI (c.set s.toNat hd))) = H3
  have K5 : H3 (bm + 5) = some (.cells none (ae eI (c.set s.toNat hd))) := by rw [← zK]; simp [updH]
  have KF : ∀ γ, γ < bm + 5 → H3 γ = H1 γ := by
   intro γ hγ
   rw [← zK]
   simp only [updH]
   repeat rw [if_neg (by omega)]
  clear zK e0 e1 e2 e9 aY tm
  rintro tm ⟨e0, e1, e2, e5, e9, aY, b6⟩
  have hw : i64.wrap (hd + 1) = hd + 1 := by rw [IntWalk.i64_in _ (by omega)]
  cases md with
  | false =>
   simp only [cond_false] at hi
   simp only [vz, mq, mqm, vsi, tyf, mqt, seval, ua, rg, nm, e0, e1, e2, e5, e9, aY, b6, hw]
   refine ⟨m, Nat.lt_succ_self _, ?_⟩
   rw [hIA]
   refine ⟨hd + 1, L3, by omega, by omega, fb, rfl, (by dsimp only; omega), ?_, ?_, ?_, ?_, ?_, ?_⟩
   ·exact hst _ _ _ _ _ _ _ hi (fun γ hγ _ => KF γ (by omega)) (by dsimp only; omega) (fun γ h => .inl h)
   all_goals first | (simp only [ua, e0, e1, e2, e9, aY, nm, seval] <;> rfl) | (simp only [ua, e0, e1, e2, e9, aY, nm, seval]; done) | rfl
  | true =>
   simp only [cond_true, List.map_cons] at hi
   simp only [vz, mq, mqm, vsi, tyf, mqt, seval, ua, rg, nm, e0, e1, e2, e5, e9, aY, b6, hw, hX]
   refine kopen ?_
   rw [ja]
   refine aq.mono (aq.freeze1 (args' := [.agg (cGBk b), sI (c.set s.toNat hd)]) K5 ⟨.same, ?_, trivial⟩ (aq.atR (IB b (c.set s.toNat hd) _ _))) ?_ (fun _ _ _ h => h.elim)
   ·have hl : (c.set s.toNat hd).length = c.length := List.length_set
    have h9 := Frozen.own (n := (c.set s.toNat hd).length) (cp := (c.set s.toNat hd).length) K5 (eI_ok.treeL _) (dI (w := 1) (enc := eI) (fun _ => rfl) _)
    rw [← hl]
    exact h9
   rintro v H2 n2 ⟨δe, rfl, g1, g2, g3, g4⟩
   have mu : I (some (VV.agg (planC b (c.set s.toNat hd)) :: L3.map (plV b))) (fun γ => noFr γ ∨ γ = δe) H2 n2 := by
    refine hst _ _ _ _ _ _ _ hi (fun γ hγ _ => ?_) (by omega) ?_
    ·rw [g4 γ (by omega), b2, if_neg (by omega), KF γ (by omega)]
    ·rintro γ (h | rfl)
     ·exact h.elim
     ·exact .inr ⟨by omega, by omega⟩
   simp only [vz, mq, mqm, vsi, tyf, mqt, seval, ua, rg, nm, e0, e1, e2, e5, e9, aY, b6, hw]
   refine (hr (planC b (c.set s.toNat hd)) (L3.map (plV b)) noFr _ _ δe (fun γ h => h.elim) g2 (fun h => h) g3 mu) (some none) _ _ _ rfl rfl ?_
   rintro bb H5 n5 ⟨q1, q2, q3⟩
   cases bb with
   | true =>
    simp only [if_true] at q3
    simp only [vz, mq, mqm, vsi, tyf, mqt, seval, ua, rg, nm, e0, e1, e2, e5, e9, aY, b6, hw, Bool.not_true]
    refine ⟨m, Nat.lt_succ_self _, ?_⟩
    rw [hIA]
    refine ⟨hd + 1, L3, by omega, by omega, fb, rfl, (by dsimp only; omega), ?_, ?_, ?_, ?_, ?_, ?_⟩
    ·exact hst _ _ _ _ _ _ _ q3 (fun γ hγ _ => rfl) (by dsimp only; omega) (fun γ h => .inl h)
    all_goals first | (simp only [ua, e0, e1, e2, e9, aY, nm, seval] <;> rfl) | (simp only [ua, e0, e1, e2, e9, aY, nm, seval]; done) | rfl
   | false =>
    simp only [Bool.false_eq_true, if_false] at q3
    simp only [vz, mq, mqm, vsi, tyf, mqt, seval, ua, rg, nm, e0, e1, e2, e5, e9, aY, b6, hw, Bool.not_false]
    refine bS (x := .tup []) (by simp [Tryz.results123, resV, resL]) (.inr ?_)
    exact hst _ _ _ _ _ _ _ q3 (fun γ hγ _ => rfl) (by omega) (fun γ h => .inl h)
end Go.V
end
section
namespace Go.V
open Go Go.Proofs IntKind
set_option maxRecDepth 4000
set_option maxHeartbeats 4000000
theorem zL {b : GBk} {pl : List Int} {s : Int} : ∀ (k : Nat) (h : Int) (L : List (List Int)), gvL b pl s k h = some L → ∀ q ∈ L, q.length = pl.length
 | 0, h, L, e, q, hq => by simp [gvL] at e; subst e; cases hq
 | k + 1, h, L, e, q, hq => by
  simp only [gvL] at e
  rcases hc : iZ pl with _ | c
  ·rw [hc] at e; cases e
  rw [hc, Option.bind_some] at e
  rcases hx : getI c s with _ | x
  ·rw [hx] at e; cases e
  rw [hx, Option.bind_some] at e
  rcases hmd : jz b s h with _ | md
  ·rw [hmd] at e; cases e
  rw [hmd, Option.bind_some] at e
  rcases fb : gvL b pl s k (h + 1) with _ | L3
  ·rw [fb] at e; cases e
  rw [fb, Option.bind_some, Option.some.injEq] at e
  subst e
  have hcp : c = pl := by
   unfold iZ at hc
   cases h1 : neB pl with
   | false => rw [h1] at hc; cases hc
   | true =>
    cases h2 : roomOk 8 pl.length with
    | false => rw [h1, h2] at hc; cases hc
    | true => rw [h1, h2] at hc; simp at hc; exact hc.symm
  cases md with
  | false => exact zL k _ _ fb q hq
  | true =>
   rcases List.mem_cons.1 hq with rfl | hq
   ·simp [hcp]
   ·exact zL k _ _ fb q hq
theorem takesOkP {b : GBk} (hb : BH b) {pl : List Int} (hp : pl.length = b.Strokes.length) {s : Int} {L : List (List Int)} (h : plansOfO b pl s = some L) : TakesOk b L (TK b) := by
 intro p hpL l hl
 refine rq hb ?_ hl
 unfold plansOfO at h
 cases hs : (decide (0 ≤ b.Apprentices) && decide (b.Apprentices < 1000)) with
 | false => rw [hs] at h; cases h
 | true =>
 rw [hs, cond_true] at h
 rw [zL _ _ _ h p hpL, hp]
def rA (b : GBk) (pl : List Int) (s : Int) : Option (Int × Int × Int) := Option.bind (jt b) fun r => cond r (Option.bind (mi b pl) fun r2 => cond r2 (Option.bind (oE b s) fun r3 => cond r3 (cond (benchB b && decide (pl.length = b.Strokes.length)) (Option.bind (plansOfO b pl s) fun L => Option.bind (bestP (TK b) L none) fun R => Option.bind (getI R s) fun h => some (h, TK b R, 0)) none) (some (0, 0, 2))) (some (0, 0, 2))) (some (0, 0, 2))
theorem MC (al : GBk) (an : List Int) (aW : Int) (R : Int × Int × Int) (h : rA al an aW = some R) : aj Tryz.prog G0 56 [.agg (cGBk al), .sl (ae eI an) (List.length an) false, .lit (.int .i64 aW)] (.tree (.tup [.lit (.int .i64 R.1), .lit (.int .i64 R.2.1), .lit (.int .i64 R.2.2)])) := by
 refine aj.runR mixed Tryz.call56 Tryz.func56 rfl (by simp [Tryz.ntmps56]; kernel_rfl) ?_
 unfold rA at h
 rcases o1 : jt al with _ | r1
 ·rw [o1] at h; cases h
 rw [o1, Option.bind_some] at h
 simp only [vz, mq, mqm, vsi, tyf, mqt, nm, seval]
 refine ktree (args0 := [.agg (cGBk al)]) (by first | (simp only [nrm, aI, @bZ] <;> rfl) | rfl) (by simp only [tre, tytre, mqr, Bool.and_self]) (zu _ _ o1) ?_
 refine bw (fun tm => tm 1 = sI an ∧ tm 2 = .lit (.int .i64 aW) ∧ tm 3 = .ptr 0 0 ∧ tm 11 = .lit (.bool r1)) (by refine ⟨?_, ?_, ?_, ?_⟩ <;> first | (simp only [ua, b5, nm, seval] <;> rfl) | rfl) ?_
 rintro tm ⟨e1, e2, e3, br⟩
 cases r1 with
 | false =>
  simp only [cond_false, Option.some.injEq] at h
  subst h
  simp only [vz, mq, mqm, vsi, tyf, mqt, e1, e2, e3, br, nm, seval]
  refine bS (x := .tup [.lit (.int .i64 0), .lit (.int .i64 0), .lit (.int .i64 2)]) (by first | (simp only [Tryz.results56, resV, resL, resV1, bX, bY, uw, cr, tyf, mqt, nm, seval] <;> rfl) | rfl) ?_
  refine eT ?_ ?_
  ·simp only [tre, tytre, mqr, Bool.and_self]
  ·first | (simp only [outV, uw, ej, cr, tyf, mqt, nrm, aI, nm, seval] <;> rfl) | rfl
 | true =>
 rw [cond_true] at h
 rcases o2 : mi al an with _ | r2
 ·rw [o2] at h; cases h
 rw [o2, Option.bind_some] at h
 simp only [vz, mq, mqm, vsi, tyf, mqt, e1, e2, e3, br, nm, seval]
 refine ktree (args0 := [.agg (cGBk al), sI an]) (by first | (simp only [nrm, aI, @bZ] <;> rfl) | rfl) (by simp only [tre, tytre, mqr, Bool.and_self]) (Ix _ _ _ o2) ?_
 refine bw (fun tm => tm 1 = sI an ∧ tm 2 = .lit (.int .i64 aW) ∧ tm 3 = .ptr 0 0 ∧ tm 13 = .lit (.bool false) ∧ tm 16 = .lit (.bool r2)) (by refine ⟨?_, ?_, ?_, ?_, ?_⟩ <;> first | (simp only [ua, b5, e1, e2, e3, br, nm, seval] <;> rfl) | rfl) ?_
 clear e1 e2 e3 br tm
 rintro tm ⟨e1, e2, e3, bz, bx⟩
 cases r2 with
 | false =>
  simp only [cond_false, Option.some.injEq] at h
  subst h
  simp only [vz, mq, mqm, vsi, tyf, mqt, e1, e2, e3, bz, bx, nm, seval]
  refine bS (x := .tup [.lit (.int .i64 0), .lit (.int .i64 0), .lit (.int .i64 2)]) (by first | (simp only [Tryz.results56, resV, resL, resV1, bX, bY, uw, cr, tyf, mqt, nm, seval] <;> rfl) | rfl) ?_
  refine eT ?_ ?_
  ·simp only [tre, tytre, mqr, Bool.and_self]
  ·first | (simp only [outV, uw, ej, cr, tyf, mqt, nrm, aI, nm, seval] <;> rfl) | rfl
 | true =>
 rw [cond_true] at h
 rcases o3 : oE al aW with _ | r3
 ·rw [o3] at h; cases h
 rw [o3, Option.bind_some] at h
 simp only [vz, mq, mqm, vsi, tyf, mqt, e1, e2, e3, bz, bx, nm, seval]
 refine ktree (args0 := [.agg (cGBk al), .lit (.int .i64 aW)]) (by first | (simp only [nrm, aI, @bZ] <;> rfl) | rfl) (by simp only [tre, tytre, mqr, Bool.and_self]) (MD _ _ _ o3) ?_
 refine bw (fun tm => tm 1 = sI an ∧ tm 2 = .lit (.int .i64 aW) ∧ tm 3 = .ptr 0 0 ∧ tm 19 = .lit (.bool false) ∧ tm 22 = .lit (.bool r3)) (by refine ⟨?_, ?_, ?_, ?_, ?_⟩ <;> first | (simp only [ua, b5, e1, e2, e3, bz, bx, nm, seval] <;> rfl) | rfl) ?_
 clear e1 e2 e3 bz bx tm
 rintro tm ⟨e1, e2, e3, bN, bV⟩
 cases r3 with
 | false =>
  simp only [cond_false, Option.some.injEq] at h
  subst h
  simp only [vz, mq, mqm, vsi, tyf, mqt, e1, e2, e3, bN, bV, nm, seval]
  refine bS (x := .tup [.lit (.int .i64 0), .lit (.int .i64 0), .lit (.int .i64 2)]) (by first | (simp only [Tryz.results56, resV, resL, resV1, bX, bY, uw, cr, tyf, mqt, nm, seval] <;> rfl) | rfl) ?_
  refine eT ?_ ?_
  ·simp only [tre, tytre, mqr, Bool.and_self]
  ·first | (simp only [outV, uw, ej, cr, tyf, mqt, nrm, aI, nm, seval] <;> rfl) | rfl
 | true =>
 rw [cond_true] at h
 cases hB : benchB al && decide (an.length = al.Strokes.length) with
 | false => rw [hB] at h; cases h
 | true =>
 rw [hB, cond_true] at h
 simp only [Bool.and_eq_true, decide_eq_true_eq] at hB
 rcases hL : plansOfO al an aW with _ | L
 ·rw [hL] at h; cases h
 rw [hL, Option.bind_some] at h
 rcases hR : bestP (TK al) L none with _ | P
 ·rw [hR] at h; cases h
 rw [hR, Option.bind_some] at h
 rcases hh : getI P aW with _ | hand
 ·rw [hh] at h; cases h
 rw [hh, Option.bind_some, Option.some.injEq] at h
 subst h
 have hBH := (oB.1 hB.1).h
 have hT := takesOkP hBH hB.2 hL
 simp only [vz, mq, mqm, vsi, tyf, mqt, e1, e2, e3, bN, bV, nm, seval]
 refine kopen ?_
 rw [ja]
 refine aq.mono (aq.atR (IB al an _ _)) ?_ (fun _ _ _ h => h.elim)
 rintro v H1 n1 ⟨δ1, rfl, u1, u2, u3, u4⟩
 simp only [vz, mq, mqm, vsi, tyf, mqt, e1, e2, e3, bN, bV, nm, seval]
 refine kmapG (β := δ1) (y := itP al an aW δ1) (args0 := fun n => [.agg (planC al an ++ [.lit (.map (some n))]), .lit (.int .i64 aW)]) u3 (fun n => ?_) (fun n => ?_) (fun c W v hu hv => zG hu hv) (fun n => aj.at (zH al an aW n)) ?_
 ·simp only [planC, fQ, List.cons_append, List.nil_append, List.map_cons, List.map_nil, vlt, rB, nrm, aI, @bZ]
 ·have h1 : treeL (ae eI al.Boards) = true := eI_ok.treeL _
  have h2 : treeL (ae cGBs al.Strokes) = true := cN.treeL _
  have h3 : treeL (ae eI an) = true := eI_ok.treeL _
  simp [planC, fQ, litV, litC, treeL, VV.tree, h1, h2, h3]
 refine bw (fun tm => tm 2 = .lit (.int .i64 aW) ∧ tm 29 = itP al an aW δ1) (by refine ⟨?_, ?_⟩ <;> first | (simp only [ua, b5, e1, e2, nm, seval] <;> rfl) | rfl) ?_
 clear e1 e2 e3 bN bV tm
 rintro tm ⟨e2, ca⟩
 simp only [vz, mq, mqm, vsi, tyf, mqt, e2, ca, nm, seval]
 refine kopen ?_
 rw [ja]
 refine aq.mono (aq.atR (I1 (MB hL) hT hR _ _)) ?_ (fun _ _ _ h => h.elim)
 rintro v H2 n2 ⟨g1, g2, δ, l, rfl, g3, g4, g5, g6⟩
 simp only [iz, vz, mq, mqm, vsi, tyf, mqt, e2, ca, nm, seval]
 have hPL : P ∈ L := (ru hR).resolve_right (by simp)
 obtain ⟨l', et, it⟩ := hT P hPL l g6
 have qd := fB g4
 have q0 : (δ = 25) = False := by simp; omega
 have q1 : (25 = δ) = False := by simp; omega
 refine kJ (fun tm => tm 2 = .lit (.int .i64 aW) ∧ tm 9 = .ptr 25 0) (by refine ⟨?_, ?_⟩ <;> first | (simp only [ua, e2, nm, seval]; done) | rfl) ?_
 clear e2 ca tm
 rintro tm ⟨e2, e9⟩
 simp only [vz, mq, mqm, vsi, tyf, mqt, e2, e9, q0, q1, qd, g5, (ba hh), nm, seval]
 refine dkupd (VUpd.at (β := δ) (y := (fun _ => .lit (.int .i64 (TK al P)))) (uu _ _ _ _ et) (by omega) (by first | rfl | assumption | (simp only [aX, b2, q0, q1, g5, nm, seval] <;> rfl)) (by first | rfl | (simp only [nrm, aI, @bZ, @dW] <;> rfl)) (ez (fun _ => rfl) _)) ?_
 refine eV (fun tm => tm 35 = .lit (.int .i64 hand) ∧ tm 37 = .lit (.int .i64 (TK al P))) (by refine ⟨?_, ?_⟩ <;> first | (simp only [ua, b5, e2, e9, nm, seval] <;> rfl) | rfl) ?_
 clear e2 e9 tm
 rintro tm ⟨j0, fD⟩
 simp only [vz, mq, mqm, vsi, tyf, mqt, j0, fD, q0, q1, qd, g5, nm, seval]
 refine ia ⟨?_, ?_⟩
 ·simp only [ib, ic, dD, ig, and_true, true_and]
  repeat' (first | exact trivial | refine And.intro ?_ ?_ | rw [dD] | rw [ij] | exact Or.inl (by decide +kernel) | exact Or.inl (by dsimp only; decide +kernel) | (refine Or.inr ⟨?_, ?_⟩ <;> simp; done) | (refine Or.inr ⟨?_, ?_⟩ <;> simp <;> omega) | (refine Or.inr ⟨?_, ?_⟩ <;> simp [VEff.wr] <;> omega))
 simp only [vz, mq, mqm, vsi, tyf, mqt, j0, fD, nm, seval]
 refine bS (x := .tup [.lit (.int .i64 hand), .lit (.int .i64 (TK al P)), .lit (.int .i64 0)]) (by first | (simp only [Tryz.results56, resV, resL, resV1, bX, bY, uw, cr, tyf, mqt, j0, fD, nm, seval] <;> rfl) | rfl) ?_
 refine eT ?_ ?_
 ·simp only [tre, tytre, mqr, Bool.and_self]
 ·first | (simp only [outV, uw, ej, cr, tyf, mqt, nrm, aI, nm, seval] <;> rfl) | rfl
end Go.V
end
section
namespace Go.V
open Go Go.Proofs IntKind
def oF (bh : List Int) (ah : Int) (bj : Int) : Option (List Int) := cond (neB bh) (cond (roomOk 8 (List.length ([] ++ bh))) (Option.bind (getI ([] ++ bh) ah) (fun x1 => some (List.set ([] ++ bh) (Int.toNat ah) bj))) none) none
theorem uy (bh : List Int) (ah : Int) (bj : Int) (R : List Int) (h : oF bh ah bj = some R) : aj Tryz.prog G0 59 [.sl (ae eI bh) (List.length bh) false, .lit (.int .i64 ah), .lit (.int .i64 bj)] (.tree (.sl (ae eI R) (List.length R) false)) := by
 refine aj.runR mixed Tryz.call59 Tryz.func59 rfl (by simp [Tryz.ntmps59]; kernel_rfl) ?_
 obtain ⟨KF, h, kF, kN⟩ := cn h
 simp only [oF] at h
 cases g2 : (neB bh)
 ·simp only [g2, hs] at h
  exact absurd h kN
 simp only [g2, hs] at h
 cases g3 : (roomOk 8 (List.length ([] ++ bh)))
 ·simp only [g3, hs] at h
  exact absurd h kN
 simp only [g3, hs] at h
 simp only [vz, tyf, g2, g3, nm, seval]
 refine zM (w := 1) (enc := eI) (ys := bh) (fun _ => rfl) fZ fY Tryz.underlying22 g2 g3 ?_
 obtain ⟨x4, o5, h⟩ := optI h kN
 try simp only [hs] at h
 have w6 := setA (w := 1) (enc := eI) (fun _ => rfl) o5
 have w7 := setB (w := 1) (enc := eI) bj (fun _ => rfl) o5
 simp only [vz, tyf, nm, seval] at w7
 have w8 := setC (w := 1) (enc := eI) ([] ++ bh) (Int.toNat ah) bj (fun _ => rfl)
 try simp only [vz, tyf, g2, g3, (fR o5), w6, w7, w8, nm, seval]
 refine bS (x := (.ref 2 0 (List.length (List.set ([] ++ bh) (Int.toNat ah) bj)) 1 (List.length (List.set ([] ++ bh) (Int.toNat ah) bj)))) (by first | (simp only [Tryz.results59, resV, resL, resV1, bX, bY, uw, cr, tyf, g2, g3, (fR o5), w6, w7, w8, nm, seval] <;> rfl) | rfl) ?_
 obtain rfl := kF _ h
 refine eT ?_ ?_
 ·simp only [tre, tytre, Bool.and_self]
 ·first | (simp only [outV, uw, ej, cr, tyf, nrm, aI, g2, g3, (fR o5), w6, w7, w8, nm, seval] <;> rfl) | rfl
theorem uz {tk : List Int → Int} {R : List Int} : ∀ (L : List (List Int)) (a : Option (List Int)), bestP tk L a = some R → (a = some R ∧ ∀ p ∈ L, tk R ≤ tk p) ∨ (∃ L1 L2, L = L1 ++ R :: L2 ∧ (∀ p ∈ L1, tk R < tk p) ∧ (∀ p ∈ L2, tk R ≤ tk p) ∧ ∀ r, a = some r → tk R < tk r)
 | [], a, h => .inl ⟨h, fun p hp => by cases hp⟩
 | x :: L, none, h => by
  simp only [bestP] at h
  rcases uz L _ h with ⟨h1, h2⟩ | ⟨L1, L2, rfl, h1, h2, h3⟩
  ·cases h1
   exact .inr ⟨[], L, rfl, (fun p hp => by cases hp), h2, (fun r hr => by cases hr)⟩
  ·refine .inr ⟨x :: L1, L2, rfl, fun p hp => ?_, h2, fun r hr => by cases hr⟩
   rcases List.mem_cons.1 hp with rfl | hp
   ·exact h3 _ rfl
   ·exact h1 p hp
 | x :: L, some r, h => by
  simp only [bestP] at h
  by_cases hlt : tk x < tk r
  ·rw [if_pos hlt] at h
   rcases uz L _ h with ⟨h1, h2⟩ | ⟨L1, L2, rfl, h1, h2, h3⟩
   ·cases h1
    exact .inr ⟨[], L, rfl, (fun p hp => by cases hp), h2, (fun q hq => by cases hq; exact hlt)⟩
   ·have hx := h3 x rfl
    refine .inr ⟨x :: L1, L2, rfl, fun p hp => ?_, h2, fun q hq => by cases hq; omega⟩
    rcases List.mem_cons.1 hp with rfl | hp
    ·exact hx
    ·exact h1 p hp
  ·rw [if_neg hlt] at h
   rcases uz L _ h with ⟨h1, h2⟩ | ⟨L1, L2, rfl, h1, h2, h3⟩
   ·cases h1
    refine .inl ⟨rfl, fun p hp => ?_⟩
    rcases List.mem_cons.1 hp with rfl | hp
    ·omega
    ·exact h2 p hp
   ·have hr := h3 r rfl
    refine .inr ⟨x :: L1, L2, rfl, fun p hp => ?_, h2, fun q hq => by cases hq; exact hr⟩
    rcases List.mem_cons.1 hp with rfl | hp
    ·omega
    ·exact h1 p hp
theorem zN {b : GBk} (hA : 0 ≤ b.Apprentices) : ∀ (t : List Int) (p : List Int) (ss : List GBs), b.Strokes.drop p.length = ss → t.length = ss.length → (stepsB (mF b) (b.Apprentices.toNat + 1) p t = true ↔ planL b.Apprentices ss t = true)
 | [], p, [], _, _ => by simp [stepsB, planL]
 | h :: t, p, s :: ss, hd, hl => by
  have hg : b.Strokes[p.length]? = some s := by
   have := congrArg List.head? hd
   simpa [List.head?_drop] using this
  have eD : b.Strokes.drop (p ++ [h]).length = ss := by
   have := congrArg List.tail hd
   simpa [List.tail_drop] using this
  have ih := zN hA t (p ++ [h]) ss eD (by simpa using hl)
  simp only [stepsB, planL, Bool.and_eq_true, decide_eq_true_eq, rC, ih, mF, hg]
  constructor
  ·rintro ⟨⟨h1, h2⟩, h3, h4⟩
   exact ⟨⟨⟨h1, by omega⟩, h3⟩, h4⟩
  ·rintro ⟨⟨⟨h1, h2⟩, h3⟩, h4⟩
   exact ⟨⟨h1, by omega⟩, h3, h4⟩
theorem zO {b : GBk} (hB : BOk b) {q : List Int} : q ∈ LA b b.Apprentices ↔ planB b q = true := by
 have h0 := hB.ap
 have hn := hB.ns
 unfold LA
 rw [ux]
 constructor
 ·rintro ⟨t, e, hl, hs⟩
  have e : q = t := e
  subst e
  have h := (zN h0.1 q [] b.Strokes (by simp) hl).1 hs
  unfold planB
  simp [hl, h]
 ·intro h
  unfold planB at h
  simp only [Bool.and_eq_true, decide_eq_true_eq] at h
  exact ⟨q, rfl, h.1, (zN h0.1 q [] b.Strokes (by simp) h.1).2 h.2⟩
theorem zP (b : GBk) : wiB b b.Apprentices = b := rfl
def gF (x : GBs) (h : Int) : Bool := h == 0 || !x.Round
def gList (pl : List Int) (s : Nat) (x : GBs) : Nat → Int → List (List Int)
 | 0, _ => []
 | k + 1, h => cond (gF x h) (pl.set s h :: gList pl s x k (h + 1)) (gList pl s x k (h + 1))
theorem rD {b : GBk} (hB : BOk b) {pl : List Int} (hp : pl.length = b.Strokes.length) {s : Int} {x : GBs} (cZ : 0 ≤ s) (hx : getI b.Strokes s = some x) : ∀ (k : Nat) (h : Int), gvL b pl s k h = some (gList pl s.toNat x k h)
 | 0, h => rfl
 | k + 1, h => by
  have hn := hB.ns
  have hlt := u5 hx
  have hc : iZ pl = some pl := by
   unfold iZ
   rw [rk (by omega), cond_true, room8 (by omega), cond_true]
  simp only [gvL, hc, Option.bind_some, getP hp cZ (by omega), zB hx, rD hB hp cZ hx k (h + 1), gList, gF]
theorem zQ {b : GBk} (hB : BOk b) {pl : List Int} (hp : pl.length = b.Strokes.length) {s : Int} {x : GBs} (cZ : 0 ≤ s) (hx : getI b.Strokes s = some x) : plansOfO b pl s = some (gList pl s.toNat x (b.Apprentices.toNat + 1) 0) := by
 have h0 := hB.ap
 unfold plansOfO
 rw [show (decide (0 ≤ b.Apprentices) && decide (b.Apprentices < 1000)) = true by simp only [Bool.and_eq_true, decide_eq_true_eq]; omega, cond_true, rD hB hp cZ hx]
theorem u6 {pl : List Int} {s : Nat} {x : GBs} {q : List Int} : ∀ (k : Nat) (h : Int), q ∈ gList pl s x k h ↔ ∃ j : Int, h ≤ j ∧ j < h + k ∧ gF x j = true ∧ q = pl.set s j
 | 0, h => by simp [gList]; intro j h1 h2; omega
 | k + 1, h => by
  have ih := u6 (pl := pl) (s := s) (x := x) (q := q) k (h + 1)
  unfold gList
  constructor
  ·intro hq
   cases hg : gF x h with
   | true =>
    rw [hg, cond_true] at hq
    rcases List.mem_cons.1 hq with rfl | hq
    ·exact ⟨h, Int.le_refl _, by omega, hg, rfl⟩
    ·obtain ⟨j, h1, h2, h3, h4⟩ := ih.1 hq
     exact ⟨j, by omega, by omega, h3, h4⟩
   | false =>
    rw [hg, cond_false] at hq
    obtain ⟨j, h1, h2, h3, h4⟩ := ih.1 hq
    exact ⟨j, by omega, by omega, h3, h4⟩
  ·rintro ⟨j, h1, h2, h3, h4⟩
   by_cases e : j = h
   ·subst e
    rw [h3, cond_true, h4]
    exact List.mem_cons_self ..
   ·have hq : q ∈ gList pl s x k (h + 1) := ih.2 ⟨j, by omega, by omega, h3, h4⟩
    cases gF x h with
    | true => exact List.mem_cons_of_mem _ hq
    | false => exact hq
theorem zR {pl : List Int} {s : Nat} {x : GBs} {R : List Int} : ∀ (k : Nat) (h : Int) (L1 L2 : List (List Int)), gList pl s x k h = L1 ++ R :: L2 → ∃ j : Int, h ≤ j ∧ j < h + k ∧ gF x j = true ∧ R = pl.set s j ∧ ∀ i, h ≤ i → i < j → gF x i = true → pl.set s i ∈ L1
 | 0, h, L1, L2, e => by simp [gList] at e
 | k + 1, h, L1, L2, e => by
  unfold gList at e
  cases hg : gF x h with
  | true =>
   rw [hg, cond_true] at e
   cases L1 with
   | nil =>
    simp only [List.nil_append, List.cons.injEq] at e
    exact ⟨h, Int.le_refl _, by omega, hg, e.1.symm, fun i h1 h2 => by omega⟩
   | cons a L1 =>
    simp only [List.cons_append, List.cons.injEq] at e
    obtain ⟨j, h1, h2, h3, h4, h5⟩ := zR k (h + 1) L1 L2 e.2
    refine ⟨j, by omega, by omega, h3, h4, fun i ME mu eE => ?_⟩
    by_cases ei : i = h
    ·subst ei; rw [e.1]; exact List.mem_cons_self ..
    ·exact List.mem_cons_of_mem _ (h5 i (by omega) mu eE)
  | false =>
   rw [hg, cond_false] at e
   obtain ⟨j, h1, h2, h3, h4, h5⟩ := zR k (h + 1) L1 L2 e
   refine ⟨j, by omega, by omega, h3, h4, fun i ME mu eE => ?_⟩
   by_cases ei : i = h
   ·subst ei; rw [hg] at eE; cases eE
   ·exact h5 i (by omega) mu eE
theorem zS {pl : List Int} {n : Nat} (hp : pl.length = n) (h1 : 1 ≤ n) (h2 : n ≤ 6) {s : Int} (cZ : 0 ≤ s) (hs : s.toNat < n) (h : Int) : oF pl s h = some (pl.set s.toNat h) := by
 unfold oF
 rw [rk (by omega), cond_true, List.nil_append, room8 (by omega), cond_true, getP hp cZ hs]
 rfl
theorem rE {b : GBk} {pl : List Int} (hP : POk b pl) {s : Nat} {x : GBs} (hx : b.Strokes[s]? = some x) {h : Int} : POk b (pl.set s h) ↔ (0 ≤ h ∧ h ≤ b.Apprentices) ∧ gF x h = true := by
 have hlt : s < b.Strokes.length := (List.getElem?_eq_some_iff.1 hx).1
 have hl := hP.len
 constructor
 ·intro hq
  have := hq.may s x h hx (by rw [List.getElem?_set_self (by omega)])
  refine ⟨this.1, ?_⟩
  unfold gF
  rcases this.2 with h | h <;> simp [h]
 ·rintro ⟨h1, h2⟩
  refine ⟨by rw [List.length_set]; exact hl, fun i y k hy hk => ?_⟩
  by_cases e : s = i
  ·subst e
   rw [List.getElem?_set_self (by omega)] at hk
   cases hk
   rw [hx] at hy; cases hy
   refine ⟨h1, ?_⟩
   unfold gF at h2
   simpa using h2
  ·rw [List.getElem?_set_ne e] at hk
   exact hP.may i y k hy hk
theorem zT {pl : List Int} {n : Nat} (hp : pl.length = n) {s : Nat} (hs : s < n) : pl.set s (hF pl s) = pl := by
 unfold hF
 rw [List.getElem?_eq_getElem (by omega)]
 simp
theorem aj.runRQ {P : Program} {G : Glob} (hm : P.follows .mixedOrders = true) {f : FuncId} {fn : Func} {code : Code} {args : List VV} {r : PRes} (hc : Callable P f) (hf : P.funcs[f]? = some fn) (hb : fn.body = some code)
  (hst : (decide (args.length ≤ fn.ntmps) && codeQ fn.ntmps code) = true) (h : CWp P (G.at (some none)) fn.ntmps code (OpenPostD P G fn (RR r) (RPn r)) { tm := aP args, H := fun _ => none, nx := 0, df := [] }) : aj P G f args r := by
 rw [Bool.and_eq_true] at hst
 exact aj.runR hm hc hf hb (by rw [Bool.and_eq_true]; exact ⟨hst.1, je hst.2⟩) h
end Go.V
end
