/- Part of a proof. -/
import Derived.Test.YtmhlghgbfmcdaaaGreatDoorG5bk
set_option linter.all false
set_option maxRecDepth 4000
set_option maxHeartbeats 40000000
section
namespace Go.V
open Go Go.Proofs IntKind
def m9 (ak : GBk) (ai : List Int) : List GBs → Int → (List GSpan) → (List (Gbe × Int)) → Option (LOut ((List GSpan) × Int) ((List GSpan) × (List (Gbe × Int))))
 | [], mA, dt, bE => some (.go (dt, bE))
 | e0 :: p0, mA, dt, bE => Option.bind (wM ak ai ([mA]) bE) (fun r4 => cond (roomOk 16 (List.length (dt ++ [r4.1]))) (m9 ak ai p0 (mA + 1) (dt ++ [r4.1]) r4.2) none)
def wN (ak : GBk) (ai : List Int) : Option ((List GSpan) × Int) := Option.bind (qH ak) (fun r1 => cond (r1) (Option.bind (qI ak ai) (fun r2 => cond (r2) (cond (aF ak.Strokes) (aT (m9 ak ai ak.Strokes 0 ([] : List GSpan) ([] : List (Gbe × Int))) (fun r6 => some r6) (fun c5 => some (c5.1, 0)) (fun _ _ => none)) none) (some (([] : List GSpan), 2)))) (some (([] : List GSpan), 2)))
theorem SI (ak : GBk) (ai : List Int) (R : (List GSpan) × Int) (h : wN ak ai = some R) : al Tryz.prog G0 22 [.agg (cGBk ak), .sl (ae eI ai) (List.length ai) false] (.tree (.tup [.sl (ae cGSpan R.1) (List.length R.1) false, .lit (.int .i64 R.2)])) := by
 refine al.runR mixed Tryz.call22 Tryz.func22 rfl (by simp [Tryz.ntmps22]; kernel_rfl) ?_
 obtain ⟨KF, h, kF, kN⟩ := cR h
 simp only [wN] at h
 obtain ⟨r7, o8, h⟩ := optI h kN
 try simp only [hs] at h
 simp only [vz, mq, mqm, vsi, tyf, mqt, nm, seval]
 refine ktree (args0 := [.agg (cGBk ak)]) (by first | (simp only [nrm, aG, @cT] <;> rfl) | rfl) (by simp only [tre, aK, mqr, Bool.and_self]) (Dw _ _ o8) ?_
 refine bM (fun tm => tm 1 = .sl (ae eI ai) (List.length ai) false ∧ tm 2 = .ptr 0 0 ∧ tm 10 = .lit (.bool r7) ∧ True) (by refine ⟨?_, ?_, ?_, trivial⟩ <;> first | (simp only [ua, bL, nm, seval] <;> rfl) | rfl) ?_
 rintro tm ⟨e9, bj, bG, _⟩
 cases bT : (r7)
 ·simp only [bT, hs] at h
  try simp only [vz, mq, mqm, vsi, tyf, mqt, e9, bj, bG, bT, nm, seval]
  refine cz (x := (.tup [.lit (.slice none 0 0), .lit (.int .i64 2)])) (by first | (simp only [Tryz.results22, resV, resL, aO, cj, ck, uw, cr, tyf, mqt, bT, nm, seval] <;> rfl) | rfl) ?_
  obtain rfl := kF _ h
  refine gV ?_ ?_
  ·simp only [tre, aK, mqr, Bool.and_self]
  ·first | (simp only [outV, uw, gq, cr, tyf, mqt, nrm, aG, e9, bj, bG, bT, nm, seval] <;> rfl) | rfl
 simp only [bT, hs] at h
 obtain ⟨BJ, SJ, h⟩ := optI h kN
 try simp only [hs] at h
 simp only [vz, mq, mqm, vsi, tyf, mqt, e9, bj, bG, bT, nm, seval]
 refine ktree (args0 := [.agg (cGBk ak), .sl (ae eI ai) (List.length ai) false]) (by first | (simp only [nrm, aG, @cT] <;> rfl) | rfl) (by simp only [tre, aK, mqr, Bool.and_self]) (Dx _ _ _ SJ) ?_
 refine bM (fun tm => tm 1 = .sl (ae eI ai) (List.length ai) false ∧ tm 2 = .ptr 0 0 ∧ tm 12 = .lit (.bool false) ∧ tm 15 = .lit (.bool BJ) ∧ True) (by refine ⟨e9, bj, ?_, ?_, trivial⟩ <;> first | (simp only [ua, bL, e9, bj, bG, bT, nm, seval] <;> rfl) | rfl) ?_
 rintro tm ⟨dK, bD, bH, bR, _⟩
 cases cM : (BJ)
 ·simp only [cM, hs] at h
  try simp only [vz, mq, mqm, vsi, tyf, mqt, bT, dK, bD, bH, bR, cM, nm, seval]
  refine cz (x := (.tup [.lit (.slice none 0 0), .lit (.int .i64 2)])) (by first | (simp only [Tryz.results22, resV, resL, aO, cj, ck, uw, cr, tyf, mqt, bT, cM, nm, seval] <;> rfl) | rfl) ?_
  obtain rfl := kF _ h
  refine gV ?_ ?_
  ·simp only [tre, aK, mqr, Bool.and_self]
  ·first | (simp only [outV, uw, gq, cr, tyf, mqt, nrm, aG, bT, dK, bD, bH, bR, cM, nm, seval] <;> rfl) | rfl
 simp only [cM, hs] at h
 try simp only [vz, mq, mqm, vsi, tyf, mqt, bT, dK, bD, bH, bR, cM, nm, seval]
 refine kopen ?_
 rw [mB]
 refine aB.run mixed Tryz.call69 Tryz.func69 rfl (by simp [Tryz.ntmps69]; kernel_rfl) ?_
 try simp only [vz, mq, mqm, vsi, tyf, mqt, bT, cM, nm, seval]
 refine cz (x := (.agg ((cGBk ak) ++ [.sl (ae eI ai) (List.length ai) false] ++ [.mp 21]))) (by first | (simp only [Tryz.results69, resV, resL, aO, cj, ck, uw, cr, tyf, mqt, bT, cM, nm, seval] <;> rfl) | rfl) ?_
 cases iJ : (aF ak.Strokes)
 ·simp only [iJ, hs] at h
  exact absurd h kN
 simp only [iJ, hs] at h
 simp only [vz, mq, mqm, vsi, tyf, mqt, bT, cM, dK, bD, bH, bR, iJ, nm, seval]
 obtain ⟨SK, h, SL, wO, SM, oZ⟩ := fa h kN
 obtain ⟨SN, Dy, h⟩ := call4 h
 obtain ⟨SO, pa⟩ : ∃ I : Nat → St → Prop, I = (fun m st => ∃ (mm : List GBs) (bC : Int) (cB : List GSpan) (kc : List (Gbe × Int)) (kX : VV), m = List.length mm ∧ 0 ≤ bC ∧ List.drop (Int.toNat bC) ak.Strokes = mm ∧ st.df = [] ∧ 29 ≤ st.nx ∧ st.H 21 = some (.map (encM aI bQ kc)) ∧ st.H 15 = some (.cells (some 92) ((cGBk ak) ++ [.sl (ae eI ai) (List.length ai) false] ++ [.mp 21])) ∧ st.tm 6 = .ptr 15 0 ∧ st.tm 23 = .lit (.int .i64 (List.length ak.Strokes : Int)) ∧ st.tm 7 = kX ∧ st.tm 24 = .lit (.int .i64 bC) ∧ ((∃ (β : Nat) (el : Option TypeId), kX = .ref β 0 (List.length cB) 2 (List.length cB) ∧ β < st.nx ∧ β ≠ 21 ∧ β ≠ 15 ∧ st.H β = some (.cells el (ae cGSpan cB))) ∨ (kX = .lit (.slice none 0 0) ∧ cB = [])) ∧ SK (SN mm bC cB kc)) := ⟨_, rfl⟩
 refine loopK mixed (by kernel_rfl) SO (List.length ak.Strokes) (by rw [pa]; refine ⟨ak.Strokes, 0, ([] : List GSpan), ([] : List (Gbe × Int)), .lit (.slice none 0 0), rfl, Int.le_refl _, rfl, rfl, (show 29 ≤ 29 by omega), ?_, ?_, ?_, ?_, ?_, ?_, Or.inr ⟨rfl, rfl⟩, h⟩ <;> first | (simp only [ua, bL, bT, cM, dK, bD, bH, bR, nm, seval] <;> rfl) | rfl) ?_
 rintro m ⟨tm, H, iK, df⟩ hinv
 rw [pa] at hinv
 obtain ⟨mm, bC, cB, kc, kX, rfl, ga, hX, hdf, Dz, gD, gF, cn, bV, cH, bu, mC, h⟩ := hinv
 simp only at hdf Dz gD gF cn bV cH bu mC
 have gW := fb (m := 29) (b := iK) (by omega)
 subst hdf Dy
 rcases mC with ⟨qJ, mD, rfl, D0, D1, D2, gu⟩ | ⟨rfl, rfl⟩
 ·have mF := hY D0
  have mG := ne_f D1
  have mH := ne_f D2
  cases mm with
  | nil =>
   have gX : (decide (bC < (List.length ak.Strokes : Int))) = false := fc ga hX
   simp only [m9, hs, reduceCtorEq] at h
   replace h := wO _ h
   try dsimp only at h
   try simp only [hs] at h
   try simp only [vz, mq, mqm, vsi, tyf, mqt, bT, cM, iJ, gW, cn, bV, cH, bu, gD, gF, mF, gu, mG, mH, gX, nm, seval]
   refine cz (x := (.tup [.ref qJ 0 (List.length cB) 2 (List.length cB), .lit (.int .i64 0)])) (by first | (simp only [Tryz.results22, resV, resL, aO, cj, ck, uw, cr, tyf, mqt, bT, cM, iJ, gW, gD, gF, mF, gu, mG, mH, gX, nm, seval] <;> rfl) | rfl) ?_
   obtain rfl := kF _ h
   refine gV ?_ ?_
   ·simp only [tre, aK, mqr, Bool.and_self]
   ·first | (simp only [outV, uw, gq, cr, tyf, mqt, nrm, aG, bT, cM, iJ, gW, cn, bV, cH, bu, gD, gF, mF, gu, mG, mH, gX, nm, seval] <;> rfl) | rfl
  | cons gb mm =>
   have pb : (decide (bC < (List.length ak.Strokes : Int))) = true := fe ga hX
   have pc := dD ga hX
   have gG := eG ga hX iJ
   simp only [m9, hs, reduceCtorEq] at h
   obtain ⟨qK, SP, h⟩ := optI h oZ
   try simp only [hs] at h
   simp only [vz, mq, mqm, vsi, tyf, mqt, bT, cM, iJ, gW, cn, bV, cH, bu, gD, gF, mF, gu, mG, mH, pb, (aM pc), gG, nm, seval]
   refine kupdF (args' := [.agg ((cGBk ak) ++ [.sl (ae eI ai) (List.length ai) false] ++ [.mp 21]), .sl (ae eI ([bC])) (List.length ([bC])) false]) (g := (iK + 6)) (el := (some 3)) (cs := ae eI ([bC])) (by first | rfl | assumption | (simp only [bc, bm, dE, gW, gD, gF, mF, gu, mG, mH, nm, seval] <;> rfl) | (simp only [bc, bm, fP, gv, gd, gf, tyf, mqt, bT, cM, iJ, gW, cn, bV, cH, bu, gD, gF, mF, gu, mG, mH, pb, (aM pc), gG, nm, seval]; done)) ⟨.same, Frozen.own (el := (some 3)) (cs := ae eI ([bC])) (by first | rfl | assumption | (simp only [bc, bm, dE, gW, gD, gF, mF, gu, mG, mH, nm, seval] <;> rfl) | (simp only [bc, bm, fP, gv, gd, gf, tyf, mqt, bT, cM, iJ, gW, cn, bV, cH, bu, gD, gF, mF, gu, mG, mH, pb, (aM pc), gG, nm, seval]; done)) (eI_ok.treeL _) (fm (w := 1) (enc := eI) (fun _ => rfl) _), trivial⟩ (VUpd.at (β := 21) (y := (fun _ => .agg (cGSpan qK.1))) (Pr _ _ _ _ _ SP) (by omega) (by first | rfl | assumption | (simp only [bc, bm, gW, gD, gF, mF, gu, mG, mH, nm, seval] <;> rfl)) (by first | rfl | (simp only [nrm, aG, @cT, @fp] <;> rfl) | (simp only [tyf, mqt, List.cons_append, List.nil_append, nrm, aG, @cT, @fp] <;> rfl)) (gg (fun _ => rfl) _)) ?_
   refine gw (fun tm => tm 6 = .ptr 15 0 ∧ tm 23 = .lit (.int .i64 (List.length ak.Strokes : Int)) ∧ tm 24 = .lit (.int .i64 bC) ∧ tm 27 = .ref qJ 0 (List.length cB) 2 (List.length cB) ∧ tm 31 = .agg (cGSpan qK.1) ∧ True) (by refine ⟨cn, bV, bu, ?_, ?_, trivial⟩ <;> first | (simp only [ua, bL, bT, cM, gW, cn, bV, cH, bu, gD, gF, mF, gu, mG, mH, pb, gG, nm, seval] <;> rfl) | rfl) ?_
   rintro tm ⟨og, kY, kZ, de, cN, _⟩
   have oh := And.intro bT (And.intro cM (And.intro iJ (And.intro gW (And.intro gD (And.intro gF (And.intro mF (And.intro gu (And.intro mG (And.intro mH (And.intro pb gG))))))))))
   cases sd : (roomOk 16 (List.length (cB ++ [qK.1])))
   ·simp only [sd, hs] at h
    exact absurd h oZ
   simp only [sd, hs] at h
   simp only [vz, mq, mqm, vsi, tyf, mqt, oh, (aM pc), og, kY, kZ, de, cN, sd, nm, seval]
   refine k_app (w := 2) (enc := cGSpan) (xs := cB) (ys := ([qK.1])) (el := mD) (jT := (some 35)) (fun _ => rfl) wP wQ Tryz.underlying31 (by first | rfl | assumption | (simp only [bc, bm, pd, oh, nm, seval] <;> rfl) | (simp only [bc, bm, fP, gv, gd, gf, tyf, mqt, oh, (aM pc), og, kY, kZ, de, cN, sd, nm, seval]; done)) (by first | rfl | assumption | (simp only [bc, bm, pd, oh, nm, seval] <;> rfl) | (simp only [bc, bm, fP, gv, gd, gf, tyf, mqt, oh, (aM pc), og, kY, kZ, de, cN, sd, nm, seval]; done)) (Nat.zero_lt_succ _) sd ?_
   simp only [vz, mq, mqm, vsi, tyf, mqt, oh, (aM pc), og, kY, kZ, de, cN, sd, nm, seval]
   exact ⟨List.length mm, Nat.lt_succ_self _, by rw [pa]; refine ⟨mm, bC + 1, (cB ++ [qK.1]), qK.2, .ref (iK + 9) 0 (List.length (cB ++ [qK.1])) 2 (List.length (cB ++ [qK.1])), rfl, Int.le_trans ga (Int.le_add_one (Int.le_refl _)), cC ga hX, rfl, (show 29 ≤ iK + 13 by omega), ?_, ?_, og, kY, ?_, ?_, Or.inl ⟨iK + 9, (sameEl mD 35), rfl, (by first | omega | (simp only [nm, seval]; done) | (simp only [nm, seval]; omega)), (by first | omega | (intro hh; simp only [oh, reduceCtorEq] at hh)), (by first | omega | (intro hh; simp only [oh, reduceCtorEq] at hh)), ?_⟩, (by first | exact h | (simp only [oh]; exact h))⟩ <;> first | (simp only [ua, bL, oh, og, kY, kZ, de, cN, nm, seval] <;> rfl) | rfl⟩
 ·cases mm with
  | nil =>
   have lz : (decide (bC < (List.length ak.Strokes : Int))) = false := fc ga hX
   simp only [m9, hs, reduceCtorEq] at h
   replace h := wO _ h
   try dsimp only at h
   try simp only [hs] at h
   try simp only [vz, mq, mqm, vsi, tyf, mqt, bT, cM, iJ, gW, cn, bV, cH, bu, gD, gF, lz, nm, seval]
   refine cz (x := (.tup [.lit (.slice none 0 0), .lit (.int .i64 0)])) (by first | (simp only [Tryz.results22, resV, resL, aO, cj, ck, uw, cr, tyf, mqt, bT, cM, iJ, gW, gD, gF, lz, nm, seval] <;> rfl) | rfl) ?_
   obtain rfl := kF _ h
   refine gV ?_ ?_
   ·simp only [tre, aK, mqr, Bool.and_self]
   ·first | (simp only [outV, uw, gq, cr, tyf, mqt, nrm, aG, bT, cM, iJ, gW, cn, bV, cH, bu, gD, gF, lz, nm, seval] <;> rfl) | rfl
  | cons gb mm =>
   have wR : (decide (bC < (List.length ak.Strokes : Int))) = true := fe ga hX
   have qL := dD ga hX
   have wS := eG ga hX iJ
   simp only [m9, hs, reduceCtorEq] at h
   obtain ⟨qM, SQ, h⟩ := optI h oZ
   try simp only [hs] at h
   simp only [vz, mq, mqm, vsi, tyf, mqt, bT, cM, iJ, gW, cn, bV, cH, bu, gD, gF, wR, (aM qL), wS, nm, seval]
   refine kupdF (args' := [.agg ((cGBk ak) ++ [.sl (ae eI ai) (List.length ai) false] ++ [.mp 21]), .sl (ae eI ([bC])) (List.length ([bC])) false]) (g := (iK + 6)) (el := (some 3)) (cs := ae eI ([bC])) (by first | rfl | assumption | (simp only [bc, bm, dE, gW, gD, gF, nm, seval] <;> rfl) | (simp only [bc, bm, fP, gv, gd, gf, tyf, mqt, bT, cM, iJ, gW, cn, bV, cH, bu, gD, gF, wR, (aM qL), wS, nm, seval]; done)) ⟨.same, Frozen.own (el := (some 3)) (cs := ae eI ([bC])) (by first | rfl | assumption | (simp only [bc, bm, dE, gW, gD, gF, nm, seval] <;> rfl) | (simp only [bc, bm, fP, gv, gd, gf, tyf, mqt, bT, cM, iJ, gW, cn, bV, cH, bu, gD, gF, wR, (aM qL), wS, nm, seval]; done)) (eI_ok.treeL _) (fm (w := 1) (enc := eI) (fun _ => rfl) _), trivial⟩ (VUpd.at (β := 21) (y := (fun _ => .agg (cGSpan qM.1))) (Pr _ _ _ _ _ SQ) (by omega) (by first | rfl | assumption | (simp only [bc, bm, gW, gD, gF, nm, seval] <;> rfl)) (by first | rfl | (simp only [nrm, aG, @cT, @fp] <;> rfl) | (simp only [tyf, mqt, List.cons_append, List.nil_append, nrm, aG, @cT, @fp] <;> rfl)) (gg (fun _ => rfl) _)) ?_
   refine gw (fun tm => tm 6 = .ptr 15 0 ∧ tm 23 = .lit (.int .i64 (List.length ak.Strokes : Int)) ∧ tm 24 = .lit (.int .i64 bC) ∧ tm 27 = .lit (.slice none 0 0) ∧ tm 31 = .agg (cGSpan qM.1) ∧ True) (by refine ⟨cn, bV, bu, ?_, ?_, trivial⟩ <;> first | (simp only [ua, bL, bT, cM, gW, cn, bV, cH, bu, gD, gF, wR, wS, nm, seval] <;> rfl) | rfl) ?_
   rintro tm ⟨i6, gx, gY, l6, l7, _⟩
   have qN := And.intro bT (And.intro cM (And.intro iJ (And.intro gW (And.intro gD (And.intro gF (And.intro wR wS))))))
   cases v7 : (roomOk 16 (List.length (([] : List GSpan) ++ [qM.1])))
   ·simp only [v7, hs] at h
    exact absurd h oZ
   simp only [v7, hs] at h
   simp only [vz, mq, mqm, vsi, tyf, mqt, qN, (aM qL), i6, gx, gY, l6, l7, v7, nm, seval]
   refine l8 (w := 2) (enc := cGSpan) (ys := ([qM.1])) (jT := (some 35)) (fun _ => rfl) wP wQ Tryz.underlying31 (by first | rfl | assumption | (simp only [bc, bm, pd, qN, nm, seval] <;> rfl) | (simp only [bc, bm, fP, gv, gd, gf, tyf, mqt, qN, (aM qL), i6, gx, gY, l6, l7, v7, nm, seval]; done)) (Nat.zero_lt_succ _) v7 ?_
   simp only [vz, mq, mqm, vsi, tyf, mqt, qN, (aM qL), i6, gx, gY, l6, l7, v7, nm, seval]
   exact ⟨List.length mm, Nat.lt_succ_self _, by rw [pa]; refine ⟨mm, bC + 1, (([] : List GSpan) ++ [qM.1]), qM.2, .ref (iK + 9) 0 (List.length (([] : List GSpan) ++ [qM.1])) 2 (List.length (([] : List GSpan) ++ [qM.1])), rfl, Int.le_trans ga (Int.le_add_one (Int.le_refl _)), cC ga hX, rfl, (show 29 ≤ iK + 13 by omega), ?_, ?_, i6, gx, ?_, ?_, Or.inl ⟨iK + 9, (some 35), rfl, (by first | omega | (simp only [nm, seval]; done) | (simp only [nm, seval]; omega)), (by first | omega | (intro hh; simp only [qN, reduceCtorEq] at hh)), (by first | omega | (intro hh; simp only [qN, reduceCtorEq] at hh)), ?_⟩, (by first | exact h | (simp only [qN]; exact h))⟩ <;> first | (simp only [ua, bL, qN, i6, gx, gY, l6, l7, nm, seval] <;> rfl) | rfl⟩




theorem setAF {α : Type} {enc : α → List VV} {w : Nat} {xs : List α} {x : α} {i : Int} (o m : Nat) (he : ∀ x, (enc x).length = w) (hm : o + m ≤ w) (h : getI xs i = some x) : (i.toNat * w + o + m ≤ (ae enc xs).length) = True := by
 have h1 := of_eq_true (setA (w := w) (enc := enc) he h)
 exact eq_true (by omega)
theorem SS (A X B : List VV) (o : Nat) (cs : List VV) (h : o + cs.length ≤ X.length) : overwrite (A ++ (X ++ B)) (A.length + o) cs = A ++ (overwrite X o cs ++ B) := by
 unfold overwrite
 rw [List.take_append, List.take_of_length_le (Nat.le_add_right _ _), show A.length + o - A.length = o by omega, List.take_append_of_le_length (by omega),
  List.drop_append, List.drop_of_length_le (by omega), List.nil_append, show A.length + o + cs.length - A.length = o + cs.length by omega, List.drop_append_of_le_length h]
 simp only [List.append_assoc]
theorem setBF {α : Type} {enc : α → List VV} {w : Nat} {xs : List α} {x : α} {i : Int} (o : Nat) (cs : List VV) (v : α) (he : ∀ x, (enc x).length = w) (hc : o + cs.length ≤ w) (h : getI xs i = some x) (hv : enc v = overwrite (enc x) o cs) : overwrite (ae enc xs) (i.toNat * w + o) cs = ae enc (xs.set i.toNat v) := by
 obtain ⟨h0, h1, h2⟩ := pf h
 have hn : i.toNat < xs.length := by omega
 have e1 : xs = xs.take i.toNat ++ (x :: xs.drop (i.toNat + 1)) := by
  rw [← h2, List.take_append_drop]
 have e2 : xs.set i.toNat v = xs.take i.toNat ++ (v :: xs.drop (i.toNat + 1)) := by
  rw [List.set_eq_take_append_cons_drop, if_pos hn]
 have hl : (xs.take i.toNat).length = i.toNat := by rw [List.length_take]; omega
 have e3 : ae enc xs = ae enc (xs.take i.toNat) ++ (enc x ++ ae enc (xs.drop (i.toNat + 1))) := by
  conv => lhs; rw [e1, pg]
  rfl
 have e4 : (ae enc (xs.take i.toNat)).length = i.toNat * w := by rw [fm he, hl]
 rw [e3, ← e4, SS _ _ _ _ _ (by rw [he]; exact hc), ← hv, e2, pg]
 rfl
def wT (xs : List GBs) : Option (List GBs) := cond (neB xs) (cond (roomOk 56 xs.length) (some xs) none) none
theorem Ps (xs R : List GBs) (h : wT xs = some R) : al Tryz.prog G0 136 [.sl (ae cGBs xs) xs.length false] (.own (ae cGBs R) R.length 5) := by
 unfold wT at h
 cases hn : neB xs with
 | false => rw [hn] at h; cases h
 | true =>
 cases hr : roomOk 56 xs.length with
 | false => rw [hn, hr] at h; cases h
 | true =>
 rw [hn, hr] at h
 simp only [cond_true, Option.some.injEq] at h
 subst h
 have hc : ae cGBs xs ≠ [] := by
  cases xs with
  | nil => cases hn
  | cons a l => intro hh; cases hh
 have hnil : ∀ (H : Nat → Option VObj) (x y : Operand), binV Tryz.prog H .eql 23 x y (.sl (ae cGBs xs) xs.length false) (.lit (.slice none 0 0)) = some (.lit (.bool false)) := fun H x y => Pt Tryz.underlying23 hc
 have hb : aR Tryz.prog 23 0 [] = some ([], 5) := by kernel_rfl
 refine al.run mixed Tryz.call136 Tryz.func136 rfl (by simp [Tryz.ntmps136]; kernel_rfl) ?_
 simp only [vz, tyf, hnil, hb, List.map_nil, seval]
 refine wU (w := 5) (enc := cGBs) (xs := ([] : List GBs)) (ys := xs) (el := some 49) (fun _ => rfl) D3 D4 Tryz.underlying23 rfl hn (by rw [List.nil_append]; exact hr) ?_
 simp only [vz, tyf, List.nil_append, seval]
 refine ⟨rfl, .ref 5 0 xs.length 5 xs.length, by simp [Tryz.results136, resV, resL, aO, upd], (ae cGBs xs).length + 1, 5, _, ae cGBs xs, ⟨_, rfl⟩, by simp only [bc, bm, seval] <;> rfl, om _ _ (wV.treeL xs) (Nat.lt_succ_self _)⟩
def se (aa : GBk) (ag : List Int) (ah : Int) : Nat → Int → (List (Gbe × Int)) → Option (LOut ((Int) × List (Gbe × Int)) (Int × (List (Gbe × Int))))
 | 0, ct, bE => some (.go (ct, bE))
 | k0 + 1, ct, bE => Option.bind (wT aa.Strokes) (fun r5 => Option.bind (getI r5 ah) (fun x6 => Option.bind (sf (GBk.mk aa.Apprentices aa.Boards (List.set r5 (Int.toNat ah) (GBs.mk x6.Board x6.Round (GSpan.mk x6.Hours.Low (i64.wrap (x6.Hours.High + (ct + 1)))) x6.Needs))) ag ([] : List (Gbe × Int))) (fun r7 => Option.bind (sf aa ag bE) (fun r8 => cond (r7.1 == r8.1) (se aa ag ah k0 (ct + 1) r8.2) (some (.go (ct, r8.2)))))))
def BK (aa : GBk) (ag : List Int) (ah : Int) (l0 : List (Gbe × Int)) : Option ((Int) × List (Gbe × Int)) := cond (boundOk 9) (aT (se aa ag ah (Int.toNat (9 - 0)) 0 l0) (fun v8 => some v8) (fun c9 => some (c9.1, c9.2)) (fun _ _ => none)) none
theorem SU (aa : GBk) (ag : List Int) (ah : Int) (l0 : List (Gbe × Int)) (R : (Int) × List (Gbe × Int)) (h : BK aa ag ah l0 = some R) : VUpd Tryz.prog G0 81 (fun β => [.agg [.lit (.int .i64 aa.Apprentices), .sl (ae eI aa.Boards) (List.length aa.Boards) false, .sl (ae cGBs aa.Strokes) (List.length aa.Strokes) false, .sl (ae eI ag) (List.length ag) false, .mp β], .lit (.int .i64 ah)]) (encM aI bQ l0) (encM aI bQ R.2) (fun _ => .lit (.int .i64 R.1)) := by
 intro bp nx hlt
 have aZ := hY (β := bp) (nx := nx) hlt
 refine aB.run mixed Tryz.call81 Tryz.func81 rfl (by simp [Tryz.ntmps81]; kernel_rfl) ?_
 obtain ⟨KF, h, kF, kN⟩ := cR h
 simp only [BK] at h
 cases qO : (boundOk 9)
 ·simp only [qO, hs] at h
  exact absurd h kN
 simp only [qO, hs] at h
 simp only [vz, mq, mqm, flr, vsi, tyf, mqt, aZ, qO, nm, seval]
 obtain ⟨SV, h, SW, ph, SX, jn⟩ := fa h kN
 obtain ⟨SY, D5, h⟩ := call3 h
 obtain ⟨SZ, pj⟩ : ∃ I : Nat → St → Prop, I = (fun m st => ∃ (oo : Nat) (bd : Int) (kd : List (Gbe × Int)), oo = m ∧ loOk bd = true ∧ Int.toNat (9 - bd) = oo ∧ st.df = [] ∧ nx + 3 ≤ st.nx ∧ st.H bp = some (.map (encM aI bQ kd)) ∧ st.H nx = some (.cells (some 92) ((cGBk aa) ++ [.sl (ae eI ag) (List.length ag) false] ++ [.mp bp])) ∧ st.tm 1 = .lit (.int .i64 ah) ∧ st.tm 2 = .ptr nx 0 ∧ st.tm 5 = .lit (.int .i64 bd) ∧ SV (SY oo bd kd)) := ⟨_, rfl⟩
 refine loopK mixed (by kernel_rfl) SZ (Int.toNat (9 - 0)) (by rw [pj]; refine ⟨Int.toNat (9 - 0), 0, l0, rfl, (by rfl), rfl, rfl, (show nx + 3 ≤ nx + 3 by omega), ?_, ?_, ?_, ?_, ?_, h⟩ <;> first | (simp only [ua, bL, aZ, nm, seval] <;> rfl) | rfl) ?_
 rintro m ⟨tm, H, eJ, df⟩ hinv
 rw [pj] at hinv
 obtain ⟨oo, bd, kd, rfl, sg, mI, hdf, D6, sh, la, dK, bD, bH, h⟩ := hinv
 simp only at hdf D6 sh la dK bD bH
 have v9 := mn (a := nx) (m := 3) (b := eJ) (by omega)
 have mo := hY (β := bp) (nx := eJ) (by omega)
 subst hdf D5
 cases oo with
 | zero =>
  have ep : (decide (bd < 9)) = false := D7 mI
  simp only [se, hs, reduceCtorEq] at h
  simp only [vz, mq, mqm, flr, vsi, tyf, mqt, aZ, qO, v9, mo, dK, bD, bH, sh, la, ep, nm, seval]
  refine wW (fun tm => tm 1 = .lit (.int .i64 ah) ∧ tm 2 = .ptr nx 0 ∧ tm 5 = .lit (.int .i64 bd) ∧ True) (by refine ⟨dK, bD, bH, trivial⟩ <;> first | (simp only [ua, bL, aZ, v9, mo, dK, bD, bH, sh, la, ep, nm, seval] <;> rfl) | rfl) ?_
  rintro tm ⟨fQ, cO, bU, _⟩
  have mr := And.intro aZ (And.intro qO (And.intro v9 (And.intro mo (And.intro sh (And.intro la ep)))))
  refine Pu mixed 9 [([true, true, true, true, true, true, true, false, false, false, false, false, false], 7)] [false, false, false, false, false, false, false, false, true, false, true, true, true] [false, false, false, false, false, false, false, false, true, true, true, true, true] (by kernel_rfl) ?_
  refine Pv ?_
  simp only [vz, mq, mqm, flr, vsi, tyf, mqt, mr, fQ, cO, bU, nm, seval]
  refine vA ⟨?_, ?_⟩
  ·try simp only [jo, jq, dV, jr, and_true, true_and]
   repeat' (first | exact trivial | refine And.intro ?_ ?_ | rw [dV] | rw [js] | exact Or.inl (by decide +kernel) | exact Or.inl (by dsimp only; decide +kernel) | (refine Or.inr ⟨?_, ?_⟩ <;> simp; done) | (refine Or.inr ⟨?_, ?_⟩ <;> simp <;> omega) | (refine Or.inr ⟨?_, ?_⟩ <;> simp [VEff.wr] <;> omega))
  refine ⟨?_, ?_⟩
  ·refine pk rfl ?_
   try simp only [vz, mq, mqm, flr, vsi, tyf, mqt, mr, fQ, cO, bU, nm, seval]
   refine Pw ?_
   simp only [vz, mq, mqm, flr, vsi, tyf, mqt, mr, fQ, cO, bU, nm, seval]
   refine vA ⟨?_, ?_⟩
   ·try simp only [jo, jq, dV, jr, and_true, true_and]
    repeat' (first | exact trivial | refine And.intro ?_ ?_ | rw [dV] | rw [js] | exact Or.inl (by decide +kernel) | exact Or.inl (by dsimp only; decide +kernel) | (refine Or.inr ⟨?_, ?_⟩ <;> simp; done) | (refine Or.inr ⟨?_, ?_⟩ <;> simp <;> omega) | (refine Or.inr ⟨?_, ?_⟩ <;> simp [VEff.wr] <;> omega))
   replace h := ph _ h
   try dsimp only at h
   try simp only [hs] at h
   try simp only [vz, mq, mqm, flr, vsi, tyf, mqt, mr, fQ, cO, bU, nm, seval]
   refine cz (x := (.lit (.int .i64 bd))) (by first | (simp only [Tryz.results81, resV, resL, aO, cj, ck, uw, cr, tyf, mqt, mr, nm, seval] <;> rfl) | rfl) ?_
   obtain rfl := kF _ h
   refine ⟨(by first | rfl | assumption | (simp only [bc, bm, mr, nm, seval] <;> rfl)), ?_⟩
   exact sq_of (jd (by first | (simp only [tre, aK, mqr, Bool.and_self]; done) | rfl) rfl)
  refine wX rfl ?_
  try simp only [vz, mq, mqm, flr, vsi, tyf, mqt, mr, fQ, cO, bU, nm, seval]
  refine ⟨?_, ?_⟩
  ·try simp only [jo, jq, dV, jr, and_true, true_and]
   repeat' (first | exact trivial | refine And.intro ?_ ?_ | rw [dV] | rw [js] | exact Or.inl (by decide +kernel) | exact Or.inl (by dsimp only; decide +kernel) | (refine Or.inr ⟨?_, ?_⟩ <;> simp; done) | (refine Or.inr ⟨?_, ?_⟩ <;> simp <;> omega) | (refine Or.inr ⟨?_, ?_⟩ <;> simp [VEff.wr] <;> omega))
  refine pk rfl ?_
  try simp only [vz, mq, mqm, flr, vsi, tyf, mqt, mr, fQ, cO, bU, nm, seval]
  refine Px ?_
  simp only [vz, mq, mqm, flr, vsi, tyf, mqt, mr, fQ, cO, bU, nm, seval]
  refine vA ⟨?_, ?_⟩
  ·try simp only [jo, jq, dV, jr, and_true, true_and]
   repeat' (first | exact trivial | refine And.intro ?_ ?_ | rw [dV] | rw [js] | exact Or.inl (by decide +kernel) | exact Or.inl (by dsimp only; decide +kernel) | (refine Or.inr ⟨?_, ?_⟩ <;> simp; done) | (refine Or.inr ⟨?_, ?_⟩ <;> simp <;> omega) | (refine Or.inr ⟨?_, ?_⟩ <;> simp [VEff.wr] <;> omega))
  replace h := ph _ h
  try dsimp only at h
  try simp only [hs] at h
  try simp only [vz, mq, mqm, flr, vsi, tyf, mqt, mr, fQ, cO, bU, nm, seval]
  refine cz (x := (.lit (.int .i64 bd))) (by first | (simp only [Tryz.results81, resV, resL, aO, cj, ck, uw, cr, tyf, mqt, mr, nm, seval] <;> rfl) | rfl) ?_
  obtain rfl := kF _ h
  refine ⟨(by first | rfl | assumption | (simp only [bc, bm, mr, nm, seval] <;> rfl)), ?_⟩
  exact sq_of (jd (by first | (simp only [tre, aK, mqr, Bool.and_self]; done) | rfl) rfl)
 | succ oo =>
  have D8 : (decide (bd < 9)) = true := D9 mI
  have DA := DB sg mI qO
  simp only [se, hs, reduceCtorEq] at h
  simp only [vz, mq, mqm, flr, vsi, tyf, mqt, aZ, qO, v9, mo, dK, bD, bH, sh, la, D8, DA, nm, seval]
  refine wW (fun tm => tm 1 = .lit (.int .i64 ah) ∧ tm 2 = .ptr nx 0 ∧ tm 5 = .lit (.int .i64 bd) ∧ True) (by refine ⟨dK, bD, bH, trivial⟩ <;> first | (simp only [ua, bL, aZ, v9, mo, dK, bD, bH, sh, la, D8, DA, nm, seval] <;> rfl) | rfl) ?_
  rintro tm ⟨bu, cU, cI, _⟩
  have cq := And.intro aZ (And.intro qO (And.intro v9 (And.intro mo (And.intro sh (And.intro la (And.intro D8 DA))))))
  refine Pu mixed 9 [([true, true, true, true, true, true, true, false, false, false, false, false, false], 7)] [false, false, false, false, false, false, false, false, true, false, true, true, true] [false, false, false, false, false, false, false, false, true, true, true, true, true] (by kernel_rfl) ?_
  refine Pv ?_
  simp only [vz, mq, mqm, flr, vsi, tyf, mqt, cq, bu, cU, cI, nm, seval]
  refine vA ⟨?_, ?_⟩
  ·try simp only [jo, jq, dV, jr, and_true, true_and]
   repeat' (first | exact trivial | refine And.intro ?_ ?_ | rw [dV] | rw [js] | exact Or.inl (by decide +kernel) | exact Or.inl (by dsimp only; decide +kernel) | (refine Or.inr ⟨?_, ?_⟩ <;> simp; done) | (refine Or.inr ⟨?_, ?_⟩ <;> simp <;> omega) | (refine Or.inr ⟨?_, ?_⟩ <;> simp [VEff.wr] <;> omega))
  refine ⟨?_, ?_⟩
  ·refine pk rfl ?_
   try simp only [vz, mq, mqm, flr, vsi, tyf, mqt, cq, bu, cU, cI, nm, seval]
   refine kopen ?_
   rw [mB]
   refine aB.run mixed Tryz.call112 Tryz.func112 rfl (by simp [Tryz.ntmps112]; kernel_rfl) ?_
   obtain ⟨lb, DC, h⟩ := optI h jn
   try simp only [hs] at h
   simp only [vz, mq, mqm, flr, vsi, tyf, mqt, cq, nm, seval]
   refine kown (args0 := [.sl (ae cGBs aa.Strokes) (List.length aa.Strokes) false]) (by first | (simp only [nrm, aG, @cT] <;> rfl) | rfl) (by simp only [tre, aK, mqr, Bool.and_self]) (Ps _ _ DC) ?_
   obtain ⟨cJ, ez, h⟩ := optI h jn
   try simp only [hs] at h
   have gG := setAF (w := 5) (enc := cGBs) 3 1 (fun _ => rfl) (by decide) ez
   have je := setBF (w := 5) (enc := cGBs) 3 [.lit (.int .i64 (i64.wrap (cJ.Hours.High + (bd + 1))))] (GBs.mk cJ.Board cJ.Round (GSpan.mk cJ.Hours.Low (i64.wrap (cJ.Hours.High + (bd + 1)))) cJ.Needs) (fun _ => rfl) (Nat.le_of_ble_eq_true rfl) ez rfl
   simp only [vz, mq, mqm, flr, vsi, tyf, mqt, (bx ez), nm, seval] at je
   have jt := setC (w := 5) (enc := cGBs) lb (Int.toNat ah) (GBs.mk cJ.Board cJ.Round (GSpan.mk cJ.Hours.Low (i64.wrap (cJ.Hours.High + (bd + 1)))) cJ.Needs) (fun _ => rfl)
   try simp only [vz, mq, mqm, flr, vsi, tyf, mqt, cq, (bn ez), (bx ez), gG, je, jt, nm, seval]
   refine kopen ?_
   rw [mB]
   refine aB.freeze1 (args' := [.agg ([.lit (.int .i64 aa.Apprentices)] ++ [.sl (ae eI aa.Boards) (List.length aa.Boards) false] ++ [.sl (ae cGBs (List.set lb (Int.toNat ah) (GBs.mk cJ.Board cJ.Round (GSpan.mk cJ.Hours.Low (i64.wrap (cJ.Hours.High + (bd + 1)))) cJ.Needs))) (List.length lb) false]), .sl (ae eI ag) (List.length ag) false]) (γ := (eJ + 21)) (el := none) (cs := ae cGBs (List.set lb (Int.toNat ah) (GBs.mk cJ.Board cJ.Round (GSpan.mk cJ.Hours.Low (i64.wrap (cJ.Hours.High + (bd + 1)))) cJ.Needs))) ?_ ?_ ?_
   ·exact (by first | rfl | assumption | (simp only [bc, bm, mJ, cq, nm, seval] <;> rfl) | (simp only [bc, bm, fP, gv, gd, gf, tyf, mqt, cq, (bn ez), (bx ez), gG, je, jt, nm, seval]; done))
   ·exact ⟨Frozen.agg3 (γ := (eJ + 21)) (n := List.length lb) (w := 5) (cp := List.length lb) (x := .lit (.int .i64 aa.Apprentices)) (y := .sl (ae eI aa.Boards) (List.length aa.Boards) false) (el := none) (cs := ae cGBs (List.set lb (Int.toNat ah) (GBs.mk cJ.Board cJ.Round (GSpan.mk cJ.Hours.Low (i64.wrap (cJ.Hours.High + (bd + 1)))) cJ.Needs))) (by first | rfl | (simp only [tre, aK, mqr, Bool.and_self]; done)) (by first | rfl | (simp only [tre, aK, mqr, Bool.and_self]; done)) (by first | rfl | assumption | (simp only [bc, bm, mJ, cq, nm, seval] <;> rfl) | (simp only [bc, bm, fP, gv, gd, gf, tyf, mqt, cq, (bn ez), (bx ez), gG, je, jt, nm, seval]; done)) (wV.treeL _) (by simp only [List.length_set, fm (w := 5) (enc := cGBs) (fun _ => rfl)]), .same, trivial⟩
   refine aB.run mixed Tryz.call69 Tryz.func69 rfl (by simp [Tryz.ntmps69]; kernel_rfl) ?_
   try simp only [vz, mq, mqm, flr, vsi, tyf, mqt, cq, (bn ez), (bx ez), gG, je, jt, nm, seval]
   refine cz (x := (.agg ([.lit (.int .i64 aa.Apprentices)] ++ [.sl (ae eI aa.Boards) (List.length aa.Boards) false] ++ [.sl (ae cGBs (List.set lb (Int.toNat ah) (GBs.mk cJ.Board cJ.Round (GSpan.mk cJ.Hours.Low (i64.wrap (cJ.Hours.High + (bd + 1)))) cJ.Needs))) (List.length (List.set lb (Int.toNat ah) (GBs.mk cJ.Board cJ.Round (GSpan.mk cJ.Hours.Low (i64.wrap (cJ.Hours.High + (bd + 1)))) cJ.Needs))) false] ++ [.sl (ae eI ag) (List.length ag) false] ++ [.mp (eJ + 46)]))) (by first | (simp only [Tryz.results69, resV, resL, aO, cj, ck, uw, cr, tyf, mqt, cq, (bn ez), (bx ez), gG, je, jt, nm, seval] <;> rfl) | rfl) ?_
   try simp only [vz, mq, mqm, flr, vsi, tyf, mqt, cq, (bn ez), (bx ez), gG, je, jt, nm, seval]
   refine cz (x := (.agg ([.lit (.int .i64 aa.Apprentices)] ++ [.sl (ae eI aa.Boards) (List.length aa.Boards) false] ++ [.sl (ae cGBs (List.set lb (Int.toNat ah) (GBs.mk cJ.Board cJ.Round (GSpan.mk cJ.Hours.Low (i64.wrap (cJ.Hours.High + (bd + 1)))) cJ.Needs))) (List.length (List.set lb (Int.toNat ah) (GBs.mk cJ.Board cJ.Round (GSpan.mk cJ.Hours.Low (i64.wrap (cJ.Hours.High + (bd + 1)))) cJ.Needs))) false] ++ [.sl (ae eI ag) (List.length ag) false] ++ [.mp (eJ + 46)]))) (by first | (simp only [Tryz.results112, resV, resL, aO, cj, ck, uw, cr, tyf, mqt, cq, (bn ez), (bx ez), gG, je, jt, nm, seval] <;> rfl) | rfl) ?_
   try simp only [vz, mq, mqm, flr, vsi, tyf, mqt, cq, (bn ez), (bx ez), gG, je, jt, bu, cU, cI, nm, seval]
   refine Pw ?_
   obtain ⟨BL, vB, h⟩ := optI h jn
   try simp only [hs] at h
   simp only [vz, mq, mqm, flr, vsi, tyf, mqt, cq, (bn ez), (bx ez), gG, je, jt, bu, cU, cI, nm, seval]
   refine dkupd (VUpd.at (β := eJ + 46) (y := (fun _ => .lit (.int .i64 BL.1))) (wY _ _ _ _ vB) (by omega) (by first | rfl | assumption | (simp only [bc, bm, cq, nm, seval] <;> rfl)) (by first | rfl | (simp only [nrm, aG, @cT, @fp, List.length_set] <;> rfl)) (gg (fun _ => rfl) _)) ?_
   refine gw (fun tm => tm 1 = .lit (.int .i64 ah) ∧ tm 2 = .ptr nx 0 ∧ tm 5 = .lit (.int .i64 bd) ∧ tm 8 = .lit (.bool true) ∧ tm 14 = .lit (.int .i64 BL.1) ∧ True) (by refine ⟨bu, cU, cI, ?_, ?_, trivial⟩ <;> first | (simp only [ua, bL, cq, gG, je, jt, bu, cU, cI, nm, seval] <;> rfl) | rfl) ?_
   rintro tm ⟨kY, kZ, de, cN, d4, _⟩
   obtain ⟨si, DD, h⟩ := optI h jn
   try simp only [hs] at h
   simp only [vz, mq, mqm, flr, vsi, tyf, mqt, cq, (bn ez), (bx ez), gG, je, jt, kY, kZ, de, cN, d4, nm, seval]
   refine dkupd (VUpd.at (β := bp) (y := (fun _ => .lit (.int .i64 si.1))) (wY _ _ _ _ DD) (by omega) (by first | rfl | assumption | (simp only [bc, bm, cq, nm, seval] <;> rfl)) (by first | rfl | (simp only [nrm, aG, @cT, @fp] <;> rfl)) (gg (fun _ => rfl) _)) ?_
   refine gw (fun tm => tm 1 = .lit (.int .i64 ah) ∧ tm 2 = .ptr nx 0 ∧ tm 5 = .lit (.int .i64 bd) ∧ tm 8 = .lit (.bool true) ∧ tm 14 = .lit (.int .i64 BL.1) ∧ tm 16 = .lit (.int .i64 si.1) ∧ True) (by refine ⟨kY, kZ, de, ?_, d4, ?_, trivial⟩ <;> first | (simp only [ua, bL, cq, gG, je, jt, kY, kZ, de, cN, d4, nm, seval] <;> rfl) | rfl) ?_
   rintro tm ⟨dL, dq, fR, gZ, hC, i6, _⟩
   simp only [vz, mq, mqm, flr, vsi, tyf, mqt, cq, (bn ez), (bx ez), gG, je, jt, dL, dq, fR, gZ, hC, i6, nm, seval]
   refine vA ⟨?_, ?_⟩
   ·try simp only [jo, jq, dV, jr, and_true, true_and]
    repeat' (first | exact trivial | refine And.intro ?_ ?_ | rw [dV] | rw [js] | exact Or.inl (by decide +kernel) | exact Or.inl (by dsimp only; decide +kernel) | (refine Or.inr ⟨?_, ?_⟩ <;> simp; done) | (refine Or.inr ⟨?_, ?_⟩ <;> simp <;> omega) | (refine Or.inr ⟨?_, ?_⟩ <;> simp [VEff.wr] <;> omega))
   cases ju : (BL.1 == si.1)
   ·simp only [ju, hs] at h
    replace h := ph _ h
    try dsimp only at h
    try simp only [hs] at h
    try simp only [vz, mq, mqm, flr, vsi, tyf, mqt, cq, (bn ez), (bx ez), gG, je, jt, dL, dq, fR, gZ, hC, i6, ju, nm, seval]
    refine cz (x := (.lit (.int .i64 bd))) (by first | (simp only [Tryz.results81, resV, resL, aO, cj, ck, uw, cr, tyf, mqt, cq, (bn ez), (bx ez), gG, je, jt, ju, nm, seval] <;> rfl) | rfl) ?_
    obtain rfl := kF _ h
    refine ⟨(by first | rfl | assumption | (simp only [bc, bm, cq, nm, seval] <;> rfl)), ?_⟩
    exact sq_of (jd (by first | (simp only [tre, aK, mqr, Bool.and_self]; done) | rfl) rfl)
   simp only [ju, hs] at h
   simp only [vz, mq, mqm, flr, vsi, tyf, mqt, cq, (bn ez), (bx ez), gG, je, jt, dL, dq, fR, gZ, hC, i6, ju, nm, seval]
   exact ⟨oo, Nat.lt_succ_self _, by rw [pj]; refine ⟨oo, bd + 1, si.2, rfl, wZ sg, xa mI, rfl, (show nx + 3 ≤ eJ + 52 by omega), ?_, ?_, dL, dq, ?_, (by first | exact h | (simp only [cq, ju]; exact h))⟩ <;> first | (simp only [ua, bL, cq, gG, je, jt, dL, dq, fR, gZ, hC, i6, ju, nm, seval] <;> rfl) | rfl⟩
  refine wX rfl ?_
  try simp only [vz, mq, mqm, flr, vsi, tyf, mqt, cq, bu, cU, cI, nm, seval]
  refine ⟨?_, ?_⟩
  ·try simp only [jo, jq, dV, jr, and_true, true_and]
   repeat' (first | exact trivial | refine And.intro ?_ ?_ | rw [dV] | rw [js] | exact Or.inl (by decide +kernel) | exact Or.inl (by dsimp only; decide +kernel) | (refine Or.inr ⟨?_, ?_⟩ <;> simp; done) | (refine Or.inr ⟨?_, ?_⟩ <;> simp <;> omega) | (refine Or.inr ⟨?_, ?_⟩ <;> simp [VEff.wr] <;> omega))
  refine pk rfl ?_
  try simp only [vz, mq, mqm, flr, vsi, tyf, mqt, cq, bu, cU, cI, nm, seval]
  refine kopen ?_
  rw [mB]
  refine aB.run mixed Tryz.call112 Tryz.func112 rfl (by simp [Tryz.ntmps112]; kernel_rfl) ?_
  obtain ⟨mK, BM, h⟩ := optI h jn
  try simp only [hs] at h
  simp only [vz, mq, mqm, flr, vsi, tyf, mqt, cq, nm, seval]
  refine kown (args0 := [.sl (ae cGBs aa.Strokes) (List.length aa.Strokes) false]) (by first | (simp only [nrm, aG, @cT] <;> rfl) | rfl) (by simp only [tre, aK, mqr, Bool.and_self]) (Ps _ _ BM) ?_
  obtain ⟨cK, dX, h⟩ := optI h jn
  try simp only [hs] at h
  have jv := setAF (w := 5) (enc := cGBs) 3 1 (fun _ => rfl) (by decide) dX
  have jf := setBF (w := 5) (enc := cGBs) 3 [.lit (.int .i64 (i64.wrap (cK.Hours.High + (bd + 1))))] (GBs.mk cK.Board cK.Round (GSpan.mk cK.Hours.Low (i64.wrap (cK.Hours.High + (bd + 1)))) cK.Needs) (fun _ => rfl) (Nat.le_of_ble_eq_true rfl) dX rfl
  simp only [vz, mq, mqm, flr, vsi, tyf, mqt, (bx dX), nm, seval] at jf
  have jw := setC (w := 5) (enc := cGBs) mK (Int.toNat ah) (GBs.mk cK.Board cK.Round (GSpan.mk cK.Hours.Low (i64.wrap (cK.Hours.High + (bd + 1)))) cK.Needs) (fun _ => rfl)
  try simp only [vz, mq, mqm, flr, vsi, tyf, mqt, cq, (bn dX), (bx dX), jv, jf, jw, nm, seval]
  refine kopen ?_
  rw [mB]
  refine aB.freeze1 (args' := [.agg ([.lit (.int .i64 aa.Apprentices)] ++ [.sl (ae eI aa.Boards) (List.length aa.Boards) false] ++ [.sl (ae cGBs (List.set mK (Int.toNat ah) (GBs.mk cK.Board cK.Round (GSpan.mk cK.Hours.Low (i64.wrap (cK.Hours.High + (bd + 1)))) cK.Needs))) (List.length mK) false]), .sl (ae eI ag) (List.length ag) false]) (γ := (eJ + 21)) (el := none) (cs := ae cGBs (List.set mK (Int.toNat ah) (GBs.mk cK.Board cK.Round (GSpan.mk cK.Hours.Low (i64.wrap (cK.Hours.High + (bd + 1)))) cK.Needs))) ?_ ?_ ?_
  ·exact (by first | rfl | assumption | (simp only [bc, bm, mJ, cq, nm, seval] <;> rfl) | (simp only [bc, bm, fP, gv, gd, gf, tyf, mqt, cq, (bn dX), (bx dX), jv, jf, jw, nm, seval]; done))
  ·exact ⟨Frozen.agg3 (γ := (eJ + 21)) (n := List.length mK) (w := 5) (cp := List.length mK) (x := .lit (.int .i64 aa.Apprentices)) (y := .sl (ae eI aa.Boards) (List.length aa.Boards) false) (el := none) (cs := ae cGBs (List.set mK (Int.toNat ah) (GBs.mk cK.Board cK.Round (GSpan.mk cK.Hours.Low (i64.wrap (cK.Hours.High + (bd + 1)))) cK.Needs))) (by first | rfl | (simp only [tre, aK, mqr, Bool.and_self]; done)) (by first | rfl | (simp only [tre, aK, mqr, Bool.and_self]; done)) (by first | rfl | assumption | (simp only [bc, bm, mJ, cq, nm, seval] <;> rfl) | (simp only [bc, bm, fP, gv, gd, gf, tyf, mqt, cq, (bn dX), (bx dX), jv, jf, jw, nm, seval]; done)) (wV.treeL _) (by simp only [List.length_set, fm (w := 5) (enc := cGBs) (fun _ => rfl)]), .same, trivial⟩
  refine aB.run mixed Tryz.call69 Tryz.func69 rfl (by simp [Tryz.ntmps69]; kernel_rfl) ?_
  try simp only [vz, mq, mqm, flr, vsi, tyf, mqt, cq, (bn dX), (bx dX), jv, jf, jw, nm, seval]
  refine cz (x := (.agg ([.lit (.int .i64 aa.Apprentices)] ++ [.sl (ae eI aa.Boards) (List.length aa.Boards) false] ++ [.sl (ae cGBs (List.set mK (Int.toNat ah) (GBs.mk cK.Board cK.Round (GSpan.mk cK.Hours.Low (i64.wrap (cK.Hours.High + (bd + 1)))) cK.Needs))) (List.length (List.set mK (Int.toNat ah) (GBs.mk cK.Board cK.Round (GSpan.mk cK.Hours.Low (i64.wrap (cK.Hours.High + (bd + 1)))) cK.Needs))) false] ++ [.sl (ae eI ag) (List.length ag) false] ++ [.mp (eJ + 46)]))) (by first | (simp only [Tryz.results69, resV, resL, aO, cj, ck, uw, cr, tyf, mqt, cq, (bn dX), (bx dX), jv, jf, jw, nm, seval] <;> rfl) | rfl) ?_
  try simp only [vz, mq, mqm, flr, vsi, tyf, mqt, cq, (bn dX), (bx dX), jv, jf, jw, nm, seval]
  refine cz (x := (.agg ([.lit (.int .i64 aa.Apprentices)] ++ [.sl (ae eI aa.Boards) (List.length aa.Boards) false] ++ [.sl (ae cGBs (List.set mK (Int.toNat ah) (GBs.mk cK.Board cK.Round (GSpan.mk cK.Hours.Low (i64.wrap (cK.Hours.High + (bd + 1)))) cK.Needs))) (List.length (List.set mK (Int.toNat ah) (GBs.mk cK.Board cK.Round (GSpan.mk cK.Hours.Low (i64.wrap (cK.Hours.High + (bd + 1)))) cK.Needs))) false] ++ [.sl (ae eI ag) (List.length ag) false] ++ [.mp (eJ + 46)]))) (by first | (simp only [Tryz.results112, resV, resL, aO, cj, ck, uw, cr, tyf, mqt, cq, (bn dX), (bx dX), jv, jf, jw, nm, seval] <;> rfl) | rfl) ?_
  try simp only [vz, mq, mqm, flr, vsi, tyf, mqt, cq, (bn dX), (bx dX), jv, jf, jw, bu, cU, cI, nm, seval]
  refine Px ?_
  obtain ⟨BN, Ta, h⟩ := optI h jn
  try simp only [hs] at h
  simp only [vz, mq, mqm, flr, vsi, tyf, mqt, cq, (bn dX), (bx dX), jv, jf, jw, bu, cU, cI, nm, seval]
  refine dkupd (VUpd.at (β := eJ + 46) (y := (fun _ => .lit (.int .i64 BN.1))) (wY _ _ _ _ Ta) (by omega) (by first | rfl | assumption | (simp only [bc, bm, cq, nm, seval] <;> rfl)) (by first | rfl | (simp only [nrm, aG, @cT, @fp, List.length_set] <;> rfl)) (gg (fun _ => rfl) _)) ?_
  refine gw (fun tm => tm 1 = .lit (.int .i64 ah) ∧ tm 2 = .ptr nx 0 ∧ tm 5 = .lit (.int .i64 bd) ∧ tm 8 = .lit (.bool true) ∧ tm 14 = .lit (.int .i64 BN.1) ∧ tm 15 = .agg ((cGBk aa) ++ [.sl (ae eI ag) (List.length ag) false] ++ [.mp bp]) ∧ True) (by refine ⟨bu, cU, cI, ?_, ?_, ?_, trivial⟩ <;> first | (simp only [ua, bL, cq, jv, jf, jw, bu, cU, cI, nm, seval] <;> rfl) | rfl) ?_
  rintro tm ⟨qP, DE, DF, mu, iL, jg, _⟩
  obtain ⟨BO, Tb, h⟩ := optI h jn
  try simp only [hs] at h
  simp only [vz, mq, mqm, flr, vsi, tyf, mqt, cq, (bn dX), (bx dX), jv, jf, jw, qP, DE, DF, mu, iL, jg, nm, seval]
  refine dkupd (VUpd.at (β := bp) (y := (fun _ => .lit (.int .i64 BO.1))) (wY _ _ _ _ Tb) (by omega) (by first | rfl | assumption | (simp only [bc, bm, cq, nm, seval] <;> rfl)) (by first | rfl | (simp only [nrm, aG, @cT, @fp] <;> rfl)) (gg (fun _ => rfl) _)) ?_
  refine gw (fun tm => tm 1 = .lit (.int .i64 ah) ∧ tm 2 = .ptr nx 0 ∧ tm 5 = .lit (.int .i64 bd) ∧ tm 8 = .lit (.bool true) ∧ tm 14 = .lit (.int .i64 BN.1) ∧ tm 16 = .lit (.int .i64 BO.1) ∧ True) (by refine ⟨qP, DE, DF, ?_, iL, ?_, trivial⟩ <;> first | (simp only [ua, bL, cq, jv, jf, jw, qP, DE, DF, mu, iL, jg, nm, seval] <;> rfl) | rfl) ?_
  rintro tm ⟨l9, oq, BP, BQ, BR, ot, _⟩
  simp only [vz, mq, mqm, flr, vsi, tyf, mqt, cq, (bn dX), (bx dX), jv, jf, jw, l9, oq, BP, BQ, BR, ot, nm, seval]
  refine vA ⟨?_, ?_⟩
  ·try simp only [jo, jq, dV, jr, and_true, true_and]
   repeat' (first | exact trivial | refine And.intro ?_ ?_ | rw [dV] | rw [js] | exact Or.inl (by decide +kernel) | exact Or.inl (by dsimp only; decide +kernel) | (refine Or.inr ⟨?_, ?_⟩ <;> simp; done) | (refine Or.inr ⟨?_, ?_⟩ <;> simp <;> omega) | (refine Or.inr ⟨?_, ?_⟩ <;> simp [VEff.wr] <;> omega))
  cases sj : (BN.1 == BO.1)
  ·simp only [sj, hs] at h
   replace h := ph _ h
   try dsimp only at h
   try simp only [hs] at h
   try simp only [vz, mq, mqm, flr, vsi, tyf, mqt, cq, (bn dX), (bx dX), jv, jf, jw, l9, oq, BP, BQ, BR, ot, sj, nm, seval]
   refine cz (x := (.lit (.int .i64 bd))) (by first | (simp only [Tryz.results81, resV, resL, aO, cj, ck, uw, cr, tyf, mqt, cq, (bn dX), (bx dX), jv, jf, jw, sj, nm, seval] <;> rfl) | rfl) ?_
   obtain rfl := kF _ h
   refine ⟨(by first | rfl | assumption | (simp only [bc, bm, cq, nm, seval] <;> rfl)), ?_⟩
   exact sq_of (jd (by first | (simp only [tre, aK, mqr, Bool.and_self]; done) | rfl) rfl)
  simp only [sj, hs] at h
  simp only [vz, mq, mqm, flr, vsi, tyf, mqt, cq, (bn dX), (bx dX), jv, jf, jw, l9, oq, BP, BQ, BR, ot, sj, nm, seval]
  exact ⟨oo, Nat.lt_succ_self _, by rw [pj]; refine ⟨oo, bd + 1, BO.2, rfl, wZ sg, xa mI, rfl, (show nx + 3 ≤ eJ + 52 by omega), ?_, ?_, l9, oq, ?_, (by first | exact h | (simp only [cq, sj]; exact h))⟩ <;> first | (simp only [ua, bL, cq, jv, jf, jw, l9, oq, BP, BQ, BR, ot, sj, nm, seval] <;> rfl) | rfl⟩
def xb (ak : GBk) (ai : List Int) (aY : Int) : Option (Int × Int) := Option.bind (qH ak) (fun r1 => cond (r1) (Option.bind (qI ak ai) (fun r2 => cond (r2) (Option.bind (xc ak aY) (fun r3 => cond (r3) (Option.bind (BK ak ai aY ([] : List (Gbe × Int))) (fun r4 => some (r4.1, 0))) (some (0, 2)))) (some (0, 2)))) (some (0, 2)))
theorem Tc (ak : GBk) (ai : List Int) (aY : Int) (R : Int × Int) (h : xb ak ai aY = some R) : al Tryz.prog G0 43 [.agg (cGBk ak), .sl (ae eI ai) (List.length ai) false, .lit (.int .i64 aY)] (.tree (.tup [.lit (.int .i64 R.1), .lit (.int .i64 R.2)])) := by
 refine al.runR mixed Tryz.call43 Tryz.func43 rfl (by simp [Tryz.ntmps43]; kernel_rfl) ?_
 obtain ⟨KF, h, kF, kN⟩ := cR h
 simp only [xb] at h
 obtain ⟨r5, o6, h⟩ := optI h kN
 try simp only [hs] at h
 simp only [vz, mq, mqm, vsi, tyf, mqt, nm, seval]
 refine ktree (args0 := [.agg (cGBk ak)]) (by first | (simp only [nrm, aG, @cT] <;> rfl) | rfl) (by simp only [tre, aK, mqr, Bool.and_self]) (Dw _ _ o6) ?_
 refine bM (fun tm => tm 1 = .sl (ae eI ai) (List.length ai) false ∧ tm 2 = .lit (.int .i64 aY) ∧ tm 3 = .ptr 0 0 ∧ tm 9 = .lit (.bool r5) ∧ True) (by refine ⟨?_, ?_, ?_, ?_, trivial⟩ <;> first | (simp only [ua, bL, nm, seval] <;> rfl) | rfl) ?_
 rintro tm ⟨e7, e8, e9, bj, _⟩
 cases bS : (r5)
 ·simp only [bS, hs] at h
  try simp only [vz, mq, mqm, vsi, tyf, mqt, e7, e8, e9, bj, bS, nm, seval]
  refine cz (x := (.tup [.lit (.int .i64 0), .lit (.int .i64 2)])) (by first | (simp only [Tryz.results43, resV, resL, aO, cj, ck, uw, cr, tyf, mqt, bS, nm, seval] <;> rfl) | rfl) ?_
  obtain rfl := kF _ h
  refine gV ?_ ?_
  ·simp only [tre, aK, mqr, Bool.and_self]
  ·first | (simp only [outV, uw, gq, cr, tyf, mqt, nrm, aG, e7, e8, e9, bj, bS, nm, seval] <;> rfl) | rfl
 simp only [bS, hs] at h
 obtain ⟨Py, gH, h⟩ := optI h kN
 try simp only [hs] at h
 simp only [vz, mq, mqm, vsi, tyf, mqt, e7, e8, e9, bj, bS, nm, seval]
 refine ktree (args0 := [.agg (cGBk ak), .sl (ae eI ai) (List.length ai) false]) (by first | (simp only [nrm, aG, @cT] <;> rfl) | rfl) (by simp only [tre, aK, mqr, Bool.and_self]) (Dx _ _ _ gH) ?_
 refine bM (fun tm => tm 1 = .sl (ae eI ai) (List.length ai) false ∧ tm 2 = .lit (.int .i64 aY) ∧ tm 3 = .ptr 0 0 ∧ tm 11 = .lit (.bool false) ∧ tm 14 = .lit (.bool Py) ∧ True) (by refine ⟨e7, e8, e9, ?_, ?_, trivial⟩ <;> first | (simp only [ua, bL, e7, e8, e9, bj, bS, nm, seval] <;> rfl) | rfl) ?_
 rintro tm ⟨dM, dK, bD, bH, bR, _⟩
 cases cM : (Py)
 ·simp only [cM, hs] at h
  try simp only [vz, mq, mqm, vsi, tyf, mqt, bS, dM, dK, bD, bH, bR, cM, nm, seval]
  refine cz (x := (.tup [.lit (.int .i64 0), .lit (.int .i64 2)])) (by first | (simp only [Tryz.results43, resV, resL, aO, cj, ck, uw, cr, tyf, mqt, bS, cM, nm, seval] <;> rfl) | rfl) ?_
  obtain rfl := kF _ h
  refine gV ?_ ?_
  ·simp only [tre, aK, mqr, Bool.and_self]
  ·first | (simp only [outV, uw, gq, cr, tyf, mqt, nrm, aG, bS, dM, dK, bD, bH, bR, cM, nm, seval] <;> rfl) | rfl
 simp only [cM, hs] at h
 obtain ⟨ff, mw, h⟩ := optI h kN
 try simp only [hs] at h
 simp only [vz, mq, mqm, vsi, tyf, mqt, bS, dM, dK, bD, bH, bR, cM, nm, seval]
 refine ktree (args0 := [.agg (cGBk ak), .lit (.int .i64 aY)]) (by first | (simp only [nrm, aG, @cT] <;> rfl) | rfl) (by simp only [tre, aK, mqr, Bool.and_self]) (Td _ _ _ mw) ?_
 refine bM (fun tm => tm 1 = .sl (ae eI ai) (List.length ai) false ∧ tm 2 = .lit (.int .i64 aY) ∧ tm 3 = .ptr 0 0 ∧ tm 17 = .lit (.bool false) ∧ tm 20 = .lit (.bool ff) ∧ True) (by refine ⟨dM, dK, bD, ?_, ?_, trivial⟩ <;> first | (simp only [ua, bL, bS, dM, dK, bD, bH, bR, cM, nm, seval] <;> rfl) | rfl) ?_
 rintro tm ⟨cO, bU, cn, bV, cH, _⟩
 cases fS : (ff)
 ·simp only [fS, hs] at h
  try simp only [vz, mq, mqm, vsi, tyf, mqt, bS, cM, cO, bU, cn, bV, cH, fS, nm, seval]
  refine cz (x := (.tup [.lit (.int .i64 0), .lit (.int .i64 2)])) (by first | (simp only [Tryz.results43, resV, resL, aO, cj, ck, uw, cr, tyf, mqt, bS, cM, fS, nm, seval] <;> rfl) | rfl) ?_
  obtain rfl := kF _ h
  refine gV ?_ ?_
  ·simp only [tre, aK, mqr, Bool.and_self]
  ·first | (simp only [outV, uw, gq, cr, tyf, mqt, nrm, aG, bS, cM, cO, bU, cn, bV, cH, fS, nm, seval] <;> rfl) | rfl
 simp only [fS, hs] at h
 try simp only [vz, mq, mqm, vsi, tyf, mqt, bS, cM, cO, bU, cn, bV, cH, fS, nm, seval]
 refine kopen ?_
 rw [mB]
 refine aB.run mixed Tryz.call69 Tryz.func69 rfl (by simp [Tryz.ntmps69]; kernel_rfl) ?_
 try simp only [vz, mq, mqm, vsi, tyf, mqt, bS, cM, fS, nm, seval]
 refine cz (x := (.agg ((cGBk ak) ++ [.sl (ae eI ai) (List.length ai) false] ++ [.mp 29]))) (by first | (simp only [Tryz.results69, resV, resL, aO, cj, ck, uw, cr, tyf, mqt, bS, cM, fS, nm, seval] <;> rfl) | rfl) ?_
 obtain ⟨xd, Te, h⟩ := optI h kN
 try simp only [hs] at h
 simp only [vz, mq, mqm, vsi, tyf, mqt, bS, cM, fS, cO, bU, cn, bV, cH, nm, seval]
 refine kupd (VUpd.at (β := 29) (y := (fun _ => .lit (.int .i64 xd.1))) (SU _ _ _ _ _ Te) (by omega) (by first | rfl | assumption | (simp only [bc, bm, nm, seval] <;> rfl)) (by first | rfl | (simp only [nrm, aG, @cT, @fp] <;> rfl)) (gg (fun _ => rfl) _)) ?_
 refine gw (fun tm => tm 27 = .lit (.int .i64 xd.1) ∧ True) (by refine ⟨?_, trivial⟩ <;> first | (simp only [ua, bL, bS, cM, fS, cO, bU, cn, bV, cH, nm, seval] <;> rfl) | rfl) ?_
 rintro tm ⟨du, _⟩
 try simp only [vz, mq, mqm, vsi, tyf, mqt, bS, cM, fS, du, nm, seval]
 refine cz (x := (.tup [.lit (.int .i64 xd.1), .lit (.int .i64 0)])) (by first | (simp only [Tryz.results43, resV, resL, aO, cj, ck, uw, cr, tyf, mqt, bS, cM, fS, nm, seval] <;> rfl) | rfl) ?_
 obtain rfl := kF _ h
 refine gV ?_ ?_
 ·simp only [tre, aK, mqr, Bool.and_self]
 ·first | (simp only [outV, uw, gq, cr, tyf, mqt, nrm, aG, bS, cM, fS, du, nm, seval] <;> rfl) | rfl

theorem room16 {n : Nat} (h : n ≤ 1000) : roomOk 16 n = true := by simp [roomOk]; omega
theorem room56 {n : Nat} (h : n ≤ 1000) : roomOk 56 n = true := by simp [roomOk]; omega
theorem xe {α : Type} {xs : List α} (h : 1 ≤ xs.length) : neB xs = true := by cases xs with | nil => simp at h | cons a p => rfl
def endS (b : GBk) (pl : List Int) (i : Nat) : GSpan := ⟨EE b pl 0 i, EE b pl 1 i⟩
def endsL (b : GBk) (pl : List Int) : List GSpan := (List.range b.Strokes.length).map (endS b pl)
theorem xf {x : Int} (h : 0 ≤ x) : mxL [x] = x := by show max 0 x = x; omega
theorem xg {b : GBk} (hb : BOk b) {pl : List Int} (hp : pl.length = b.Strokes.length) : ∀ (p : List GBs) (i : Nat) (acc : List GSpan) (l : List (Gbe × Int)), i + p.length = b.Strokes.length → acc.length = i → InvE b pl l →
  ∃ l', m9 b pl p i acc l = some (.go (acc ++ (List.range' i p.length).map (endS b pl), l'))
 | [], i, acc, l, _, _, _ => ⟨l, by simp [m9]⟩
 | s :: p, i, acc, l, hi, ha, hl => by
  have hns := hb.ns
  simp only [List.length_cons] at hi
  obtain ⟨l1, e1, dY⟩ := DG hb.h hp hl (p := [(i : Int)]) (fun k hk => by rw [List.mem_singleton.1 hk]; omega) (by simp)
  obtain ⟨l2, e2⟩ := xg hb hp p (i + 1) (acc ++ [endS b pl i]) l1 (by omega) (by simp [ha]) dY
  refine ⟨l2, ?_⟩
  simp only [m9, e1, Option.bind_some]
  have h0 := EE_b hb.h pl 0 (s := i) (by omega)
  have h1 := EE_b hb.h pl 1 (s := i) (by omega)
  simp only [List.map_cons, List.map_nil, Int.toNat_natCast]
  rw [xf h0.1, xf h1.1, room16 (by simp; omega), cond_true]
  have : ((i : Int) + 1) = ((i + 1 : Nat) : Int) := by omega
  rw [this]
  show m9 b pl p ((i + 1 : Nat) : Int) (acc ++ [endS b pl i]) l1 = _
  rw [e2]
  simp [List.range'_succ]
theorem DH {b : GBk} (h : Len b) (pl : List Int) : wN b pl = some (if benchB b && planB b pl then (endsL b pl, 0) else ([], 2)) := by
 unfold wN
 rw [DI h, DJ h]
 cases hB : benchB b with
 | false => rfl
 | true =>
  cases hP : planB b pl with
  | false => rfl
  | true =>
   have hb := vC.1 hB
   obtain ⟨l', e⟩ := xg hb (BS.1 hP).len b.Strokes 0 [] [] (by simp) rfl InvE.nil
   simp only [Option.bind_some, cond_true, Bool.and_self, if_true]
   rw [fU h.st, cond_true]
   have e' : m9 b pl b.Strokes 0 [] [] = _ := e
   rw [e']
   simp [aT, endsL, List.range_eq_range']
theorem Pz (b : GBk) (pl : List Int) : (endsL b pl).length = b.Strokes.length := by simp [endsL]
theorem EE_36 {b : GBk} (hb : BOk b) (pl : List Int) (hr : Int) {s : Nat} (hs : s < b.Strokes.length) : EE b pl hr s ≤ 36 := by
 have h2 := DK (hd := hF pl) (d := dF b hr) hb.h.nd (m := 6) (fun k => by
  refine ⟨(hb.h.d hr k).1, ?_⟩
  unfold dF
  split
  ·rename_i x hx
   have := (hb.s hx).hr
   split <;> omega
  ·omega) s
 have := hb.ns
 unfold EE
 omega
theorem TK_b {b : GBk} (hb : BOk b) (pl : List Int) : 1 ≤ TK b pl ∧ TK b pl ≤ 36 := by
 have hns := hb.ns
 have h1 : EE b pl 1 0 ≤ TK b pl := sk (by omega)
 have h2 : TK b pl ≤ 36 := xh (by omega) fun k hk => EE_36 hb pl 1 hk
 have h3 := EE_eq hb.h pl 1 0
 have h4 := BB_b hb.h pl 1 (s := 0) (by omega)
 have h5 : 1 ≤ dF b 1 0 := by
  obtain ⟨x, e1, e2⟩ := getS (b := b) (s := 0) (Int.le_refl _) (by simp; omega)
  have e2' : b.Strokes[0]? = some x := e2
  have := (hb.s e2').hr
  unfold dF
  rw [e2']
  simp
  omega
 omega
def longS (x : GBs) (k : Int) : GBs := ⟨x.Board, x.Round, ⟨x.Hours.Low, x.Hours.High + k⟩, x.Needs⟩
def bump (b : GBk) (s : Nat) (x : GBs) (k : Int) : GBk := ⟨b.Apprentices, b.Boards, b.Strokes.set s (longS x k)⟩
theorem DL (b : GBk) (s : Nat) (x : GBs) (k : Int) : (bump b s x k).Strokes.length = b.Strokes.length := by simp [bump]
theorem DM {b : GBk} {s : Nat} {x : GBs} {k : Int} (i : Nat) : (bump b s x k).Strokes[i]? = if s = i ∧ i < b.Strokes.length then some (longS x k) else b.Strokes[i]? := by
 simp only [bump, List.getElem?_set]
 by_cases e : s = i
 ·subst e
  by_cases h : s < b.Strokes.length
  ·simp [h]
  ·simp [h]
 ·simp [e]
theorem xi {b : GBk} (hb : BOk b) {s : Nat} {x : GBs} (hx : b.Strokes[s]? = some x) {k : Int} (h0 : 0 ≤ k) (h1 : k ≤ 9) : BH (bump b s x k) := by
 refine ⟨by rw [DL]; exact hb.ns, fun {i y} hy => ?_⟩
 rw [DM] at hy
 split at hy
 ·rename_i e
  cases hy
  obtain ⟨rfl, _⟩ := e
  have := hb.s hx
  have h2 := this.hr
  exact ⟨this.nd, this.ad, by show 0 ≤ x.Hours.Low ∧ x.Hours.Low ≤ 15 ∧ 0 ≤ x.Hours.High + k ∧ x.Hours.High + k ≤ 15; omega⟩
 ·exact hb.h.s hy
theorem DN {b : GBk} {s : Nat} {x : GBs} (hx : b.Strokes[s]? = some x) (k : Int) : nF (bump b s x k) = nF b := by
 funext i
 unfold nF
 rw [DM]
 by_cases e : s = i ∧ i < b.Strokes.length
 ·rw [if_pos e, ← e.1, hx]
  rfl
 ·rw [if_neg e]
theorem DO {b : GBk} {s : Nat} {x : GBs} (hx : b.Strokes[s]? = some x) (k : Int) (i : Nat) : dF (bump b s x k) 1 i = if i = s then dF b 1 i + k else dF b 1 i := by
 unfold dF
 rw [DM]
 have hlt : s < b.Strokes.length := (List.getElem?_eq_some_iff.1 hx).1
 by_cases e : i = s
 ·subst e
  rw [if_pos ⟨rfl, hlt⟩, if_pos rfl, hx]
  simp [longS]
 ·rw [if_neg (fun h => e h.1.symm), if_neg e]
def spF (b : GBk) (pl : List Int) (s : Nat) (x : GBs) : Nat → Int → Int
 | 0, c => c
 | k + 1, c => if TK (bump b s x (c + 1)) pl = TK b pl then spF b pl s x k (c + 1) else c
theorem xj {b : GBk} (hb : BOk b) {pl : List Int} (hp : pl.length = b.Strokes.length) {s : Int} (gI : 0 ≤ s) {x : GBs} (hx : b.Strokes[s.toNat]? = some x) : ∀ (k : Nat) (c : Int) (l : List (Gbe × Int)), 0 ≤ c → c + k = 9 → InvE b pl l →
  ∃ l', se b pl s k c l = some (.go (spF b pl s.toNat x k c, l'))
 | 0, c, l, _, _, _ => ⟨l, rfl⟩
 | k + 1, c, l, h0, h1, hl => by
  have hns := hb.ns
  have hlt : s.toNat < b.Strokes.length := (List.getElem?_eq_some_iff.1 hx).1
  have hx' := (hb.s hx).hr
  have hg : getI b.Strokes s = some x := by unfold getI; rw [if_pos gI]; exact hx
  have hB := xi hb hx (k := c + 1) (by omega) (by omega)
  obtain ⟨l1, e1, _⟩ := DP hB (pl := pl) (by rw [DL]; exact hp) (InvE.nil (b := bump b s.toNat x (c + 1)) (pl := pl))
  obtain ⟨l2, e2, fg⟩ := DP hb.h hp hl
  have hc : wT b.Strokes = some b.Strokes := by
   unfold wT
   rw [xe hns.1, cond_true, room56 (by omega), cond_true]
  simp only [se, hc, hg, Option.bind_some]
  rw [gy (by omega) (by omega)]
  have e1' : sf ⟨b.Apprentices, b.Boards, b.Strokes.set s.toNat ⟨x.Board, x.Round, ⟨x.Hours.Low, x.Hours.High + (c + 1)⟩, x.Needs⟩⟩ pl [] = _ := e1
  rw [e1', Option.bind_some, e2, Option.bind_some]
  unfold spF
  by_cases h : TK (bump b s.toNat x (c + 1)) pl = TK b pl
  ·obtain ⟨l3, e3⟩ := xj hb hp gI hx k (c + 1) l2 (by omega) (by omega) fg
   rw [if_pos h]
   simp only [h, beq_self_eq_true, cond_true]
   exact ⟨l3, e3⟩
  ·rw [if_neg h, show (TK (bump b s.toNat x (c + 1)) pl == TK b pl) = false by simpa using h, cond_false]
   exact ⟨l2, rfl⟩
theorem DQ {b : GBk} (h : Len b) {pl : List Int} (hB : benchB b = true) (hP : planB b pl = true) {s : Int} (gI : 0 ≤ s) {x : GBs} (hx : b.Strokes[s.toNat]? = some x) : xb b pl s = some (spF b pl s.toNat x 9 0, 0) := by
 have hlt : s.toNat < b.Strokes.length := (List.getElem?_eq_some_iff.1 hx).1
 obtain ⟨l', e⟩ := xj (vC.1 hB) (BS.1 hP).len gI hx 9 0 [] (Int.le_refl _) rfl InvE.nil
 unfold xb BK
 rw [DI h, DJ h, Tf h, hB, hP]
 have hI : inB 0 ((b.Strokes.length : Int) - 1) s = true := my.2 (by omega)
 have hbo : boundOk 9 = true := by decide
 rw [hI, hbo]
 simp only [Option.bind_some, cond_true]
 have e' : se b pl s (Int.toNat (9 - 0)) 0 [] = _ := e
 rw [e']
 rfl
theorem spF_b {b : GBk} {pl : List Int} {s : Nat} {x : GBs} : ∀ (k : Nat) (c : Int), c ≤ spF b pl s x k c ∧ spF b pl s x k c ≤ c + k
 | 0, c => by simp [spF]
 | k + 1, c => by
  have := spF_b (b := b) (pl := pl) (s := s) (x := x) k (c + 1)
  unfold spF
  split <;> omega
def vD (eK : Int) : List Int → Int → Option (LOut (Int) (Unit))
 | [], fq => some (.go ())
 | e0 :: p0, fq => cond (eK == e0) (some (.ret fq)) (vD eK p0 (fq + 1))
def BT (cY : List Int) (eK : Int) : Option (Int) := cond (aF cY) (aT (vD eK cY 0) (fun r2 => some r2) (fun c1 => some (-1)) (fun _ _ => none)) none
theorem Tg (cY : List Int) (eK : Int) (R : Int) (h : BT cY eK = some R) : al Tryz.prog G0 172 [.sl (ae eI cY) (List.length cY) false, .lit (.int .i64 eK)] (.tree (.lit (.int .i64 R))) := by
 refine al.runR mixed Tryz.call172 Tryz.func172 rfl (by simp [Tryz.ntmps172]; kernel_rfl) ?_
 obtain ⟨KF, h, kF, kN⟩ := cR h
 simp only [BT] at h
 cases g4 : (aF cY)
 ·simp only [g4, hs] at h
  exact absurd h kN
 simp only [g4, hs] at h
 simp only [vz, tyf, g4, nm, seval]
 obtain ⟨K3, h, qQ, lA, xk, pn⟩ := fa h kN
 obtain ⟨f3, mM, h⟩ := call2 h
 obtain ⟨I3, fV⟩ : ∃ I : Nat → St → Prop, I = (fun m st => ∃ (p3 : List Int) (dG : Int), m = List.length p3 ∧ 0 ≤ dG ∧ List.drop (Int.toNat dG) cY = p3 ∧ st.df = [] ∧ 4 ≤ st.nx ∧ st.tm 0 = .sl (ae eI cY) (List.length cY) false ∧ st.tm 1 = .lit (.int .i64 eK) ∧ st.tm 7 = .lit (.int .i64 (List.length cY : Int)) ∧ st.tm 8 = .lit (.int .i64 dG) ∧ K3 (f3 p3 dG)) := ⟨_, rfl⟩
 refine loopK mixed (by kernel_rfl) I3 (List.length cY) (by rw [fV]; refine ⟨cY, 0, rfl, Int.le_refl _, rfl, rfl, (show 4 ≤ 4 by omega), ?_, ?_, ?_, ?_, h⟩ <;> first | (simp only [ua, nm, seval] <;> rfl) | rfl) ?_
 rintro m ⟨tm, H, fh, df⟩ hinv
 rw [fV] at hinv
 obtain ⟨p3, dG, rfl, cu, dg, hdf, mN, e5, e6, e7, e8, h⟩ := hinv
 simp only at hdf mN e5 e6 e7 e8
 have n9 := fb (m := 4) (b := fh) (by omega)
 subst hdf mM
 cases p3 with
 | nil =>
  have gJ : (decide (dG < (List.length cY : Int))) = false := fc cu dg
  simp only [vD, hs, reduceCtorEq] at h
  replace h := lA _ h
  try dsimp only at h
  try simp only [hs] at h
  try simp only [vz, tyf, g4, n9, e5, e6, e7, e8, gJ, nm, seval]
  refine cz (x := (.lit (.int .i64 (-1)))) (by first | (simp only [Tryz.results172, resV, resL, aO, cj, ck, uw, cr, tyf, g4, n9, gJ, nm, seval] <;> rfl) | rfl) ?_
  obtain rfl := kF _ h
  refine gV ?_ ?_
  ·simp only [tre, aK, Bool.and_self]
  ·first | (simp only [outV, uw, gq, cr, tyf, nrm, aG, g4, n9, e5, e6, e7, e8, gJ, nm, seval] <;> rfl) | rfl
 | cons e3 p3 =>
  have bS : (decide (dG < (List.length cY : Int))) = true := fe cu dg
  have gH := dD cu dg
  have hJ := eG cu dg g4
  simp only [vD, hs, reduceCtorEq] at h
  cases bw : (eK == e3)
  ·simp only [bw, hs] at h
   simp only [vz, tyf, g4, n9, e5, e6, e7, e8, bS, (aw gH), hJ, bw, nm, seval]
   exact ⟨List.length p3, Nat.lt_succ_self _, by rw [fV]; refine ⟨p3, dG + 1, rfl, Int.le_trans cu (Int.le_add_one (Int.le_refl _)), cC cu dg, rfl, (show 4 ≤ fh + 11 by omega), e5, e6, e7, ?_, (by first | exact h | (simp only [bS, bw]; exact h))⟩ <;> first | (simp only [ua, n9, e5, e6, e7, e8, bS, hJ, bw, nm, seval] <;> rfl) | rfl⟩
  simp only [bw, hs] at h
  try simp only [vz, tyf, g4, n9, e5, e6, e7, e8, bS, (aw gH), hJ, bw, nm, seval]
  refine cz (x := (.lit (.int .i64 dG))) (by first | (simp only [Tryz.results172, resV, resL, aO, cj, ck, uw, cr, tyf, g4, n9, bS, (aw gH), hJ, bw, nm, seval] <;> rfl) | rfl) ?_
  replace h := qQ _ h
  try dsimp only at h
  obtain rfl := kF _ h
  refine gV ?_ ?_
  ·simp only [tre, aK, Bool.and_self]
  ·first | (simp only [outV, uw, gq, cr, tyf, nrm, aG, g4, n9, e5, e6, e7, e8, bS, (aw gH), hJ, bw, nm, seval] <;> rfl) | rfl
def xl (cY : List Int) (eK : Int) : Option (Bool) := Option.bind (BT cY eK) (fun r1 => some (decide (r1 ≥ 0)))
theorem Th (cY : List Int) (eK : Int) (R : Bool) (h : xl cY eK = some R) : al Tryz.prog G0 161 [.sl (ae eI cY) (List.length cY) false, .lit (.int .i64 eK)] (.tree (.lit (.bool R))) := by
 refine al.runR mixed Tryz.call161 Tryz.func161 rfl (by simp [Tryz.ntmps161]; kernel_rfl) ?_
 obtain ⟨KF, h, kF, kN⟩ := cR h
 simp only [xl] at h
 obtain ⟨r2, o3, h⟩ := optI h kN
 try simp only [hs] at h
 simp only [vz, tyf, nm, seval]
 refine ktA (Tg _ _ _ o3) ?_
 refine bM (fun tm => tm 7 = .lit (.int .i64 r2) ∧ True) (by refine ⟨?_, trivial⟩ <;> first | (simp only [ua, nm, seval] <;> rfl) | rfl) ?_
 rintro tm ⟨e4, _⟩
 try simp only [vz, tyf, e4, nm, seval]
 obtain rfl := kF _ h
 exact bz Tryz.results161 rfl
def BU (aa : GBk) (ag : List Int) (bN : List Int) (aY : Int) (l0 : List (Gbe × Int)) : Option ((Bool) × List (Gbe × Int)) := Option.bind (DS aa ag aY 1 l0) (fun r1 => cond ((List.length bN : Int) == 0) (some (r1.1 == 0, r1.2)) (Option.bind (getI bN (i64.wrap ((List.length bN : Int) - 1))) (fun x2 => Option.bind (BV aa ag x2 1 r1.2) (fun r3 => cond (r1.1 == r3.1) (Option.bind (getI aa.Strokes aY) (fun x4 => Option.bind (xl x4.Needs x2) (fun r5 => cond (r5) (some (true, r3.2)) (Option.bind (getI ag aY) (fun x6 => Option.bind (getI ag x2) (fun x7 => some (x6 == x7, r3.2))))))) (some (false, r3.2))))))
theorem Ti (aa : GBk) (ag : List Int) (bN : List Int) (aY : Int) (l0 : List (Gbe × Int)) (R : (Bool) × List (Gbe × Int)) (h : BU aa ag bN aY l0 = some R) : VUpd Tryz.prog G0 135 (fun β => [.agg [.lit (.int .i64 aa.Apprentices), .sl (ae eI aa.Boards) (List.length aa.Boards) false, .sl (ae cGBs aa.Strokes) (List.length aa.Strokes) false, .sl (ae eI ag) (List.length ag) false, .mp β], .sl (ae eI bN) (List.length bN) false, .lit (.int .i64 aY)]) (encM aI bQ l0) (encM aI bQ R.2) (fun _ => .lit (.bool R.1)) := by
 intro bp nx hlt
 have aZ := hY (β := bp) (nx := nx) hlt
 refine aB.run mixed Tryz.call135 Tryz.func135 rfl (by simp [Tryz.ntmps135]; kernel_rfl) ?_
 obtain ⟨KF, h, kF, kN⟩ := cR h
 simp only [BU] at h
 obtain ⟨r8, o9, h⟩ := optI h kN
 try simp only [hs] at h
 simp only [vz, mq, mqm, vsi, tyf, mqt, aZ, nm, seval]
 refine kupd (VUpd.at (β := bp) (y := (fun _ => .lit (.int .i64 r8.1))) (Tj _ _ _ _ _ _ o9) (by omega) (by first | rfl | assumption | (simp only [bc, bm, aZ, nm, seval] <;> rfl)) (by first | rfl | (simp only [nrm, aG, @cT, @fp] <;> rfl)) (gg (fun _ => rfl) _)) ?_
 refine gw (fun tm => tm 1 = .sl (ae eI bN) (List.length bN) false ∧ tm 2 = .lit (.int .i64 aY) ∧ tm 3 = .ptr nx 0 ∧ tm 11 = .lit (.int .i64 r8.1) ∧ True) (by refine ⟨?_, ?_, ?_, ?_, trivial⟩ <;> first | (simp only [ua, bL, aZ, nm, seval] <;> rfl) | rfl) ?_
 rintro tm ⟨bj, bG, bX, cg, _⟩
 cases bw : ((List.length bN : Int) == 0)
 ·simp only [bw, hs] at h
  obtain ⟨mz, dZ, h⟩ := optI h kN
  try simp only [hs] at h
  simp only [vz, mq, mqm, vsi, tyf, mqt, aZ, bj, bG, bX, cg, bw, (aw dZ), nm, seval]
  refine sn (fun tm => tm 2 = .lit (.int .i64 aY) ∧ tm 3 = .ptr nx 0 ∧ tm 7 = .lit (.int .i64 r8.1) ∧ tm 8 = .lit (.int .i64 mz) ∧ True) (by refine ⟨bG, bX, ?_, ?_, trivial⟩ <;> first | (simp only [ua, bL, aZ, bj, bG, bX, cg, bw, nm, seval] <;> rfl) | rfl) ?_
  rintro tm ⟨bH, bR, cP, gb, _⟩
  obtain ⟨ke, ou, h⟩ := optI h kN
  try simp only [hs] at h
  simp only [vz, mq, mqm, vsi, tyf, mqt, aZ, bw, (aw dZ), bH, bR, cP, gb, nm, seval]
  refine dkupd (VUpd.at (β := bp) (y := (fun _ => .lit (.int .i64 ke.1))) (DT _ _ _ _ _ _ ou) (by omega) (by first | rfl | assumption | (simp only [bc, bm, aZ, nm, seval] <;> rfl)) (by first | rfl | (simp only [nrm, aG, @cT, @fp] <;> rfl)) (gg (fun _ => rfl) _)) ?_
  refine gw (fun tm => tm 2 = .lit (.int .i64 aY) ∧ tm 3 = .ptr nx 0 ∧ tm 8 = .lit (.int .i64 mz) ∧ tm 23 = .lit (.int .i64 r8.1) ∧ tm 26 = .lit (.int .i64 ke.1) ∧ True) (by refine ⟨bH, bR, gb, ?_, ?_, trivial⟩ <;> first | (simp only [ua, bL, aZ, bw, bH, bR, cP, gb, nm, seval] <;> rfl) | rfl) ?_
  rintro tm ⟨bU, cn, bV, cH, bu, _⟩
  cases lB : (r8.1 == ke.1)
  ·simp only [lB, hs] at h
   simp only [vz, mq, mqm, vsi, tyf, mqt, aZ, bw, (aw dZ), bU, cn, bV, cH, bu, lB, nm, seval]
   refine po ⟨?_, ?_⟩
   ·simp only [jo, jq, dV, jr, and_true, true_and]
    repeat' (first | exact trivial | refine And.intro ?_ ?_ | rw [dV] | rw [js] | exact Or.inl (by decide +kernel) | exact Or.inl (by dsimp only; decide +kernel) | (refine Or.inr ⟨?_, ?_⟩ <;> simp; done) | (refine Or.inr ⟨?_, ?_⟩ <;> simp <;> omega) | (refine Or.inr ⟨?_, ?_⟩ <;> simp [VEff.wr] <;> omega))
   try simp only [vz, mq, mqm, vsi, tyf, mqt, aZ, bw, (aw dZ), bU, cn, bV, cH, bu, lB, nm, seval]
   refine cz (x := (.lit (.bool false))) (by first | (simp only [Tryz.results135, resV, resL, aO, cj, ck, uw, cr, tyf, mqt, aZ, bw, (aw dZ), lB, nm, seval] <;> rfl) | rfl) ?_
   obtain rfl := kF _ h
   refine ⟨(by first | rfl | assumption | (simp only [bc, bm, aZ, nm, seval] <;> rfl)), ?_⟩
   exact sq_of (jd (by first | (simp only [tre, aK, mqr, Bool.and_self]; done) | rfl) rfl)
  simp only [lB, hs] at h
  obtain ⟨BW, lC, h⟩ := optI h kN
  try simp only [hs] at h
  obtain ⟨lb, DC, h⟩ := optI h kN
  try simp only [hs] at h
  simp only [vz, mq, mqm, vsi, tyf, mqt, aZ, bw, (aw dZ), bU, cn, bV, cH, bu, lB, (aM lC), nm, seval]
  refine dktree (args0 := [.sl (ae eI BW.Needs) (List.length BW.Needs) false, .lit (.int .i64 mz)]) (by first | (simp only [nrm, aG, @cT] <;> rfl) | rfl) (by simp only [tre, aK, mqr, Bool.and_self]) (Th _ _ _ DC) ?_
  refine bM (fun tm => tm 2 = .lit (.int .i64 aY) ∧ tm 3 = .ptr nx 0 ∧ tm 8 = .lit (.int .i64 mz) ∧ tm 28 = .lit (.bool true) ∧ tm 37 = .lit (.bool lb) ∧ True) (by refine ⟨bU, cn, bV, ?_, ?_, trivial⟩ <;> first | (simp only [ua, bL, aZ, bw, bU, cn, bV, cH, bu, lB, nm, seval] <;> rfl) | rfl) ?_
  rintro tm ⟨gh, i7, jU, ov, m0, _⟩
  cases oy : (lb)
  ·simp only [oy, hs] at h
   obtain ⟨Tk, DU, h⟩ := optI h kN
   try simp only [hs] at h
   obtain ⟨Tl, ld, h⟩ := optI h kN
   try simp only [hs] at h
   simp only [vz, mq, mqm, vsi, tyf, mqt, aZ, bw, (aw dZ), lB, (aM lC), gh, i7, jU, ov, m0, oy, (aw DU), (aw ld), nm, seval]
   refine po ⟨?_, ?_⟩
   ·simp only [jo, jq, dV, jr, and_true, true_and]
    repeat' (first | exact trivial | refine And.intro ?_ ?_ | rw [dV] | rw [js] | exact Or.inl (by decide +kernel) | exact Or.inl (by dsimp only; decide +kernel) | (refine Or.inr ⟨?_, ?_⟩ <;> simp; done) | (refine Or.inr ⟨?_, ?_⟩ <;> simp <;> omega) | (refine Or.inr ⟨?_, ?_⟩ <;> simp [VEff.wr] <;> omega))
   try simp only [vz, mq, mqm, vsi, tyf, mqt, aZ, bw, (aw dZ), lB, (aM lC), gh, i7, jU, ov, m0, oy, (aw DU), (aw ld), nm, seval]
   refine cz (x := (.lit (.bool (Tk == Tl)))) (by first | (simp only [Tryz.results135, resV, resL, aO, cj, ck, uw, cr, tyf, mqt, aZ, bw, (aw dZ), lB, (aM lC), oy, (aw DU), (aw ld), nm, seval] <;> rfl) | rfl) ?_
   obtain rfl := kF _ h
   refine ⟨(by first | rfl | assumption | (simp only [bc, bm, aZ, nm, seval] <;> rfl)), ?_⟩
   exact sq_of (jd (by first | (simp only [tre, aK, mqr, Bool.and_self]; done) | rfl) rfl)
  simp only [oy, hs] at h
  simp only [vz, mq, mqm, vsi, tyf, mqt, aZ, bw, (aw dZ), lB, (aM lC), gh, i7, jU, ov, m0, oy, nm, seval]
  refine po ⟨?_, ?_⟩
  ·simp only [jo, jq, dV, jr, and_true, true_and]
   repeat' (first | exact trivial | refine And.intro ?_ ?_ | rw [dV] | rw [js] | exact Or.inl (by decide +kernel) | exact Or.inl (by dsimp only; decide +kernel) | (refine Or.inr ⟨?_, ?_⟩ <;> simp; done) | (refine Or.inr ⟨?_, ?_⟩ <;> simp <;> omega) | (refine Or.inr ⟨?_, ?_⟩ <;> simp [VEff.wr] <;> omega))
  try simp only [vz, mq, mqm, vsi, tyf, mqt, aZ, bw, (aw dZ), lB, (aM lC), gh, i7, jU, ov, m0, oy, nm, seval]
  refine cz (x := (.lit (.bool true))) (by first | (simp only [Tryz.results135, resV, resL, aO, cj, ck, uw, cr, tyf, mqt, aZ, bw, (aw dZ), lB, (aM lC), oy, nm, seval] <;> rfl) | rfl) ?_
  obtain rfl := kF _ h
  refine ⟨(by first | rfl | assumption | (simp only [bc, bm, aZ, nm, seval] <;> rfl)), ?_⟩
  exact sq_of (jd (by first | (simp only [tre, aK, mqr, Bool.and_self]; done) | rfl) rfl)
 simp only [bw, hs] at h
 try simp only [vz, mq, mqm, vsi, tyf, mqt, aZ, bj, bG, bX, cg, bw, nm, seval]
 refine cz (x := (.lit (.bool (r8.1 == 0)))) (by first | (simp only [Tryz.results135, resV, resL, aO, cj, ck, uw, cr, tyf, mqt, aZ, bw, nm, seval] <;> rfl) | rfl) ?_
 obtain rfl := kF _ h
 refine ⟨(by first | rfl | assumption | (simp only [bc, bm, aZ, nm, seval] <;> rfl)), ?_⟩
 exact sq_of (jd (by first | (simp only [tre, aK, mqr, Bool.and_self]; done) | rfl) rfl)
end Go.V
end
