/- Part of a proof. -/
import Derived.Test.YtmhlghgbfmcdaaaGreatDoorG6bj
set_option linter.all false
set_option maxRecDepth 4000
set_option maxHeartbeats 40000000
section
namespace Go.V
open Go Go.Proofs IntKind
def mK (rc : GBk → (List Int) → Int → Int → (List (Gbe × Int)) → Option ((Int) × List (Gbe × Int))) (aa : GBk) (ag : List Int) (aj : Int) : List Int → Int → (List Int) → (List (Gbe × Int)) → Option (LOut ((List Int) × List (Gbe × Int)) ((List Int) × (List (Gbe × Int))))
 | [], gI, cY, bO => some (.go (cY, bO))
 | e0 :: p0, gI, cY, bO => Option.bind (rc aa ag e0 aj bO) (fun r2 => cond (aS 8 (List.length (cY ++ [r2.1]))) (mK rc aa ag aj p0 (gI + 1) (cY ++ [r2.1]) r2.2) none)
def vB (rc : GBk → (List Int) → Int → Int → (List (Gbe × Int)) → Option ((Int) × List (Gbe × Int))) (aa : GBk) (ag : List Int) (aK : List Int) (aj : Int) (l0 : List (Gbe × Int)) : Option ((List Int) × List (Gbe × Int)) := cond (aG aK) (lbind (mK rc aa ag aj aK 0 ([] : List Int) l0) (fun r4 => some r4) (fun c3 => some (c3.1, c3.2)) (fun _ _ => none)) none
theorem RX (rc : GBk → (List Int) → Int → Int → (List (Gbe × Int)) → Option ((Int) × List (Gbe × Int))) (rc_ok : ∀ (aa : GBk) (ag : List Int) (ai : Int) (aj : Int) (l0 : List (Gbe × Int)) (R : (Int) × List (Gbe × Int)), rc aa ag ai aj l0 = some R → VUpd Tryz.prog G0 118 (fun β => [.agg [.lit (.int .i64 aa.Apprentices), .sl (ae eI aa.Boards) (List.length aa.Boards) false, .sl (ae cGBs aa.Strokes) (List.length aa.Strokes) false, .sl (ae eI ag) (List.length ag) false, .mp β], .lit (.int .i64 ai), .lit (.int .i64 aj)]) (encM aM bQ l0) (encM aM bQ R.2) (fun _ => .lit (.int .i64 R.1))) (aa : GBk) (ag : List Int) (aK : List Int) (aj : Int) (l0 : List (Gbe × Int)) (R : (List Int) × List (Gbe × Int)) (h : vB rc aa ag aK aj l0 = some R) : VUpd Tryz.prog G0 106 (fun β => [.agg [.lit (.int .i64 aa.Apprentices), .sl (ae eI aa.Boards) (List.length aa.Boards) false, .sl (ae cGBs aa.Strokes) (List.length aa.Strokes) false, .sl (ae eI ag) (List.length ag) false, .mp β], .sl (ae eI aK) (List.length aK) false, .lit (.int .i64 aj)]) (encM aM bQ l0) (encM aM bQ R.2) (fun _ => .sl (ae eI R.1) (List.length R.1) false) := by
 intro bt nx hlt
 have bd := fZ (β := bt) (nx := nx) hlt
 refine au.run mixed Tryz.call106 Tryz.func106 rfl (by simp [Tryz.ntmps106]; kernel_rfl) ?_
 obtain ⟨KF, h, kF, kN⟩ := cI h
 simp only [vB] at h
 cases g6 : (aG aK)
 ·simp only [g6, hs] at h
  exact absurd h kN
 simp only [g6, hs] at h
 simp only [vz, mq, mqm, vsi, tyf, mqt, bd, g6, nm, seval]
 obtain ⟨K5, h, vp, mC, Hr, lj⟩ := eR h kN
 obtain ⟨f5, ql, h⟩ := call4 h
 obtain ⟨I5, iI⟩ : ∃ I : Nat → St → Prop, I = (fun m st => ∃ (p5 : List Int) (cZ : Int) (bz : List Int) (lv : List (Gbe × Int)) (mM : VV), m = List.length p5 ∧ 0 ≤ cZ ∧ List.drop (Int.toNat cZ) aK = p5 ∧ st.df = [] ∧ nx + 6 ≤ st.nx ∧ st.H bt = some (.map (encM aM bQ lv)) ∧ st.H nx = some (.cells (some 92) ((cGBk aa) ++ [.sl (ae eI ag) (List.length ag) false] ++ [.mp bt])) ∧ st.tm 2 = .lit (.int .i64 aj) ∧ st.tm 3 = .ptr nx 0 ∧ st.tm 10 = .sl (ae eI aK) (List.length aK) false ∧ st.tm 11 = .lit (.int .i64 (List.length aK : Int)) ∧ st.tm 7 = mM ∧ st.tm 12 = .lit (.int .i64 cZ) ∧ ((∃ (β : Nat) (el : Option TypeId), mM = .ref β 0 (List.length bz) 1 (List.length bz) ∧ β < st.nx ∧ β ≠ bt ∧ β ≠ nx ∧ st.H β = some (.cells el (ae eI bz))) ∨ (mM = .lit (.slice none 0 0) ∧ bz = [])) ∧ K5 (f5 p5 cZ bz lv)) := ⟨_, rfl⟩
 refine loopK mixed (by kernel_rfl) I5 (List.length aK) (by rw [iI]; refine ⟨aK, 0, ([] : List Int), l0, .lit (.slice none 0 0), rfl, Int.le_refl _, rfl, rfl, (show nx + 6 ≤ nx + 6 by omega), ?_, ?_, ?_, ?_, ?_, ?_, ?_, ?_, Or.inr ⟨rfl, rfl⟩, h⟩ <;> first | (simp only [ua, bW, bd, nm, seval] <;> rfl) | rfl) ?_
 rintro m ⟨tm, H, ir, df⟩ hinv
 rw [iI] at hinv
 obtain ⟨p5, cZ, bz, lv, mM, rfl, eG, fe, hdf, qm, H7, H8, e9, bk, bF, cn, bI, bS, nZ, h⟩ := hinv
 simp only at hdf qm H7 H8 e9 bk bF cn bI bS nZ
 have fG := kH (a := nx) (m := 6) (b := ir) (by omega)
 have fH := fZ (β := bt) (nx := ir) (by omega)
 subst hdf ql
 rcases nZ with ⟨vC, oa, rfl, HJ, HK, HL, mN⟩ | ⟨rfl, rfl⟩
 ·have mO := fZ HJ
  have mP := ne_f HK
  have mQ := ne_f HL
  cases p5 with
  | nil =>
   have mF : (decide (cZ < (List.length aK : Int))) = false := fj eG fe
   simp only [mK, hs, reduceCtorEq] at h
   replace h := mC _ h
   try dsimp only at h
   try simp only [hs] at h
   try simp only [vz, mq, mqm, vsi, tyf, mqt, bd, g6, fG, fH, e9, bk, bF, cn, bI, bS, H7, H8, mO, mN, mP, mQ, mF, nm, seval]
   refine ct (x := (.ref vC 0 (List.length bz) 1 (List.length bz))) (by first | (simp only [Tryz.results106, resV, resL, aO, bX, bY, uw, cr, tyf, mqt, bd, g6, fG, fH, H7, H8, mO, mN, mP, mQ, mF, nm, seval] <;> rfl) | rfl) ?_
   obtain rfl := kF _ h
   refine ⟨(by first | rfl | assumption | (simp only [ba, bj, bd, fG, fH, H7, H8, mO, mN, mP, mQ, nm, seval] <;> rfl)), ?_⟩
   exact Bm (by first | rfl | assumption | (simp only [ba, bj, bd, fG, fH, H7, H8, mO, mN, mP, mQ, nm, seval] <;> rfl)) (by first | rfl | assumption | (simp only [ba, bj, bd, fG, fH, H7, H8, mO, mN, mP, mQ, nm, seval] <;> rfl)) eI_ok (fun _ => rfl)
  | cons e5 p5 =>
   have qA : (decide (cZ < (List.length aK : Int))) = true := fh eG fe
   have mR := dG eG fe
   have kU := eQ eG fe g6
   simp only [mK, hs, reduceCtorEq] at h
   obtain ⟨j2, iE, h⟩ := optI h lj
   try simp only [hs] at h
   simp only [vz, mq, mqm, vsi, tyf, mqt, bd, g6, fG, fH, e9, bk, bF, cn, bI, bS, H7, H8, mO, mN, mP, mQ, qA, (aB mR), kU, nm, seval]
   refine kupd (VUpd.at (β := bt) (y := (fun _ => .lit (.int .i64 j2.1))) (rc_ok _ _ _ _ _ _ iE) (by omega) (by first | rfl | assumption | (simp only [ba, bj, bd, fG, fH, H7, H8, mO, mN, mP, mQ, nm, seval] <;> rfl)) (by first | rfl | (simp only [nrm, aF, @dH, @gk] <;> rfl)) (gj (fun _ => rfl) _)) ?_
   refine gD (fun tm => tm 2 = .lit (.int .i64 aj) ∧ tm 3 = .ptr nx 0 ∧ tm 10 = .sl (ae eI aK) (List.length aK) false ∧ tm 11 = .lit (.int .i64 (List.length aK : Int)) ∧ tm 12 = .lit (.int .i64 cZ) ∧ tm 16 = .ref vC 0 (List.length bz) 1 (List.length bz) ∧ tm 20 = .lit (.int .i64 j2.1) ∧ True) (by refine ⟨e9, bk, bF, cn, bS, ?_, ?_, trivial⟩ <;> first | (simp only [ua, bW, bd, fG, fH, e9, bk, bF, cn, bI, bS, H7, H8, mO, mN, mP, mQ, qA, kU, nm, seval] <;> rfl) | rfl) ?_
   rintro tm ⟨bA, bZ, bR, cj, ck, dV, fx, _⟩
   have ky := And.intro bd (And.intro g6 (And.intro fG (And.intro fH (And.intro H7 (And.intro H8 (And.intro mO (And.intro mN (And.intro mP (And.intro mQ (And.intro qA kU))))))))))
   cases jd : (aS 8 (List.length (bz ++ [j2.1])))
   ·simp only [jd, hs] at h
    exact absurd h lj
   simp only [jd, hs] at h
   simp only [vz, mq, mqm, vsi, tyf, mqt, ky, (aB mR), bA, bZ, bR, cj, ck, dV, fx, jd, nm, seval]
   refine k_app (w := 1) (enc := eI) (xs := bz) (ys := ([j2.1])) (el := oa) (gC := (some 3)) (fun _ => rfl) dW dL Tryz.underlying22 (by first | rfl | assumption | (simp only [ba, bj, bC, ky, nm, seval] <;> rfl) | (simp only [ba, bj, ga, gi, gx, gy, tyf, mqt, ky, (aB mR), bA, bZ, bR, cj, ck, dV, fx, jd, nm, seval]; done)) (by first | rfl | assumption | (simp only [ba, bj, bC, ky, nm, seval] <;> rfl) | (simp only [ba, bj, ga, gi, gx, gy, tyf, mqt, ky, (aB mR), bA, bZ, bR, cj, ck, dV, fx, jd, nm, seval]; done)) (Nat.zero_lt_succ _) jd ?_
   simp only [vz, mq, mqm, vsi, tyf, mqt, ky, (aB mR), bA, bZ, bR, cj, ck, dV, fx, jd, nm, seval]
   exact ⟨List.length p5, Nat.lt_succ_self _, by rw [iI]; refine ⟨p5, cZ + 1, (bz ++ [j2.1]), j2.2, .ref (ir + 10) 0 (List.length (bz ++ [j2.1])) 1 (List.length (bz ++ [j2.1])), rfl, Int.le_trans eG (Int.le_add_one (Int.le_refl _)), cU eG fe, rfl, (show nx + 6 ≤ ir + 14 by omega), ?_, ?_, bA, bZ, bR, cj, ?_, ?_, Or.inl ⟨ir + 10, (sameEl oa 3), rfl, (by first | omega | (simp only [nm, seval]; done) | (simp only [nm, seval]; omega)), (by first | omega | (intro hh; simp only [ky, reduceCtorEq] at hh)), (by first | omega | (intro hh; simp only [ky, reduceCtorEq] at hh)), ?_⟩, (by first | exact h | (simp only [ky]; exact h))⟩ <;> first | (simp only [ua, bW, ky, bA, bZ, bR, cj, ck, dV, fx, nm, seval] <;> rfl) | rfl⟩
 ·cases p5 with
  | nil =>
   have MS : (decide (cZ < (List.length aK : Int))) = false := fj eG fe
   simp only [mK, hs, reduceCtorEq] at h
   replace h := mC _ h
   try dsimp only at h
   try simp only [hs] at h
   try simp only [vz, mq, mqm, vsi, tyf, mqt, bd, g6, fG, fH, e9, bk, bF, cn, bI, bS, H7, H8, MS, nm, seval]
   refine ct (x := (.lit (.slice none 0 0))) (by first | (simp only [Tryz.results106, resV, resL, aO, bX, bY, uw, cr, tyf, mqt, bd, g6, fG, fH, H7, H8, MS, nm, seval] <;> rfl) | rfl) ?_
   obtain rfl := kF _ h
   refine ⟨(by first | rfl | assumption | (simp only [ba, bj, bd, fG, fH, H7, H8, nm, seval] <;> rfl)), ?_⟩
   exact sq_of Bk
  | cons e5 p5 =>
   have iR : (decide (cZ < (List.length aK : Int))) = true := fh eG fe
   have rR := dG eG fe
   have HM := eQ eG fe g6
   simp only [mK, hs, reduceCtorEq] at h
   obtain ⟨lp, lW, h⟩ := optI h lj
   try simp only [hs] at h
   simp only [vz, mq, mqm, vsi, tyf, mqt, bd, g6, fG, fH, e9, bk, bF, cn, bI, bS, H7, H8, iR, (aB rR), HM, nm, seval]
   refine kupd (VUpd.at (β := bt) (y := (fun _ => .lit (.int .i64 lp.1))) (rc_ok _ _ _ _ _ _ lW) (by omega) (by first | rfl | assumption | (simp only [ba, bj, bd, fG, fH, H7, H8, nm, seval] <;> rfl)) (by first | rfl | (simp only [nrm, aF, @dH, @gk] <;> rfl)) (gj (fun _ => rfl) _)) ?_
   refine gD (fun tm => tm 2 = .lit (.int .i64 aj) ∧ tm 3 = .ptr nx 0 ∧ tm 10 = .sl (ae eI aK) (List.length aK) false ∧ tm 11 = .lit (.int .i64 (List.length aK : Int)) ∧ tm 12 = .lit (.int .i64 cZ) ∧ tm 16 = .lit (.slice none 0 0) ∧ tm 20 = .lit (.int .i64 lp.1) ∧ True) (by refine ⟨e9, bk, bF, cn, bS, ?_, ?_, trivial⟩ <;> first | (simp only [ua, bW, bd, fG, fH, e9, bk, bF, cn, bI, bS, H7, H8, iR, HM, nm, seval] <;> rfl) | rfl) ?_
   rintro tm ⟨cE, cy, cz, cW, d6, cF, cu, _⟩
   have oc := And.intro bd (And.intro g6 (And.intro fG (And.intro fH (And.intro H7 (And.intro H8 (And.intro iR HM))))))
   cases si : (aS 8 (List.length (([] : List Int) ++ [lp.1])))
   ·simp only [si, hs] at h
    exact absurd h lj
   simp only [si, hs] at h
   simp only [vz, mq, mqm, vsi, tyf, mqt, oc, (aB rR), cE, cy, cz, cW, d6, cF, cu, si, nm, seval]
   refine ru (w := 1) (enc := eI) (ys := ([lp.1])) (gC := (some 3)) (fun _ => rfl) dW dL Tryz.underlying22 (by first | rfl | assumption | (simp only [ba, bj, bC, oc, nm, seval] <;> rfl) | (simp only [ba, bj, ga, gi, gx, gy, tyf, mqt, oc, (aB rR), cE, cy, cz, cW, d6, cF, cu, si, nm, seval]; done)) (Nat.zero_lt_succ _) si ?_
   simp only [vz, mq, mqm, vsi, tyf, mqt, oc, (aB rR), cE, cy, cz, cW, d6, cF, cu, si, nm, seval]
   exact ⟨List.length p5, Nat.lt_succ_self _, by rw [iI]; refine ⟨p5, cZ + 1, (([] : List Int) ++ [lp.1]), lp.2, .ref (ir + 10) 0 (List.length (([] : List Int) ++ [lp.1])) 1 (List.length (([] : List Int) ++ [lp.1])), rfl, Int.le_trans eG (Int.le_add_one (Int.le_refl _)), cU eG fe, rfl, (show nx + 6 ≤ ir + 14 by omega), ?_, ?_, cE, cy, cz, cW, ?_, ?_, Or.inl ⟨ir + 10, (some 3), rfl, (by first | omega | (simp only [nm, seval]; done) | (simp only [nm, seval]; omega)), (by first | omega | (intro hh; simp only [oc, reduceCtorEq] at hh)), (by first | omega | (intro hh; simp only [oc, reduceCtorEq] at hh)), ?_⟩, (by first | exact h | (simp only [oc]; exact h))⟩ <;> first | (simp only [ua, bW, oc, cE, cy, cz, cW, d6, cF, cu, nm, seval] <;> rfl) | rfl⟩
def sj (rc : GBk → (List Int) → Int → Int → (List (Gbe × Int)) → Option ((Int) × List (Gbe × Int))) (aa : GBk) (ag : List Int) (ai : Int) (aj : Int) (l0 : List (Gbe × Int)) : Option ((Int) × List (Gbe × Int)) := Option.bind (vD rc aa ag ai aj l0) (fun r1 => Option.bind (getI aa.Strokes ai) (fun x2 => Option.bind (vB rc aa ag x2.Needs aj r1.2) (fun r3 => Option.bind (qB r3.1) (fun r4 => Option.bind (qB ([r1.1, r4])) (fun r5 => some (r5, r3.2))))))
theorem HN (rc : GBk → (List Int) → Int → Int → (List (Gbe × Int)) → Option ((Int) × List (Gbe × Int))) (rc_ok : ∀ (aa : GBk) (ag : List Int) (ai : Int) (aj : Int) (l0 : List (Gbe × Int)) (R : (Int) × List (Gbe × Int)), rc aa ag ai aj l0 = some R → VUpd Tryz.prog G0 118 (fun β => [.agg [.lit (.int .i64 aa.Apprentices), .sl (ae eI aa.Boards) (List.length aa.Boards) false, .sl (ae cGBs aa.Strokes) (List.length aa.Strokes) false, .sl (ae eI ag) (List.length ag) false, .mp β], .lit (.int .i64 ai), .lit (.int .i64 aj)]) (encM aM bQ l0) (encM aM bQ R.2) (fun _ => .lit (.int .i64 R.1))) (aa : GBk) (ag : List Int) (ai : Int) (aj : Int) (l0 : List (Gbe × Int)) (R : (Int) × List (Gbe × Int)) (h : sj rc aa ag ai aj l0 = some R) : VUpd Tryz.prog G0 107 (fun β => [.agg [.lit (.int .i64 aa.Apprentices), .sl (ae eI aa.Boards) (List.length aa.Boards) false, .sl (ae cGBs aa.Strokes) (List.length aa.Strokes) false, .sl (ae eI ag) (List.length ag) false, .mp β], .lit (.int .i64 ai), .lit (.int .i64 aj)]) (encM aM bQ l0) (encM aM bQ R.2) (fun _ => .lit (.int .i64 R.1)) := by
 intro bt nx hlt
 have bd := fZ (β := bt) (nx := nx) hlt
 refine au.run mixed Tryz.call107 Tryz.func107 rfl (by simp [Tryz.ntmps107]; kernel_rfl) ?_
 obtain ⟨KF, h, kF, kN⟩ := cI h
 simp only [sj] at h
 simp only [vz, mq, mqm, vsi, tyf, mqt, bd, nm, seval]
 refine rp (fun tm => tm 1 = .lit (.int .i64 ai) ∧ tm 2 = .lit (.int .i64 aj) ∧ tm 3 = .ptr nx 0 ∧ True) (by refine ⟨?_, ?_, ?_, trivial⟩ <;> first | (simp only [ua, bW, bd, nm, seval] <;> rfl) | rfl) ?_
 rintro tm ⟨e6, e7, e8, _⟩
 obtain ⟨r9, hC, h⟩ := optI h kN
 try simp only [hs] at h
 simp only [vz, mq, mqm, vsi, tyf, mqt, bd, e6, e7, e8, nm, seval]
 refine dkupd (VUpd.at (β := bt) (y := (fun _ => .lit (.int .i64 r9.1))) (RY rc rc_ok _ _ _ _ _ _ hC) (by omega) (by first | rfl | assumption | (simp only [ba, bj, bd, nm, seval] <;> rfl)) (by first | rfl | (simp only [nrm, aF, @dH, @gk] <;> rfl)) (gj (fun _ => rfl) _)) ?_
 refine gD (fun tm => tm 1 = .lit (.int .i64 ai) ∧ tm 2 = .lit (.int .i64 aj) ∧ tm 3 = .ptr nx 0 ∧ tm 10 = .lit (.int .i64 r9.1) ∧ True) (by refine ⟨e6, e7, e8, ?_, trivial⟩ <;> first | (simp only [ua, bW, bd, e6, e7, e8, nm, seval] <;> rfl) | rfl) ?_
 rintro tm ⟨bF, cn, bI, bS, _⟩
 obtain ⟨ni, dx, h⟩ := optI h kN
 try simp only [hs] at h
 obtain ⟨kL, tJ, h⟩ := optI h kN
 try simp only [hs] at h
 simp only [vz, mq, mqm, vsi, tyf, mqt, bd, bF, cn, bI, bS, (aT dx), nm, seval]
 refine dkupd (VUpd.at (β := bt) (y := (fun _ => .sl (ae eI kL.1) (List.length kL.1) false)) (RX rc rc_ok _ _ _ _ _ _ tJ) (by omega) (by first | rfl | assumption | (simp only [ba, bj, bd, nm, seval] <;> rfl)) (by first | rfl | (simp only [nrm, aF, @dH, @gk] <;> rfl)) (gj (fun _ => rfl) _)) ?_
 refine gD (fun tm => tm 10 = .lit (.int .i64 r9.1) ∧ tm 20 = .sl (ae eI kL.1) (List.length kL.1) false ∧ True) (by refine ⟨bS, ?_, trivial⟩ <;> first | (simp only [ua, bW, bd, bF, cn, bI, bS, nm, seval] <;> rfl) | rfl) ?_
 rintro tm ⟨cD, dK, _⟩
 obtain ⟨iY, lO, h⟩ := optI h kN
 try simp only [hs] at h
 simp only [vz, mq, mqm, vsi, tyf, mqt, bd, (aT dx), cD, dK, nm, seval]
 refine dktree (args0 := [.sl (ae eI kL.1) (List.length kL.1) false]) (by first | (simp only [nrm, aF, @dH] <;> rfl) | rfl) (by simp only [tre, aI, mqr, Bool.and_self]) (HO _ _ lO) ?_
 refine bN (fun tm => tm 10 = .lit (.int .i64 r9.1) ∧ tm 21 = .lit (.int .i64 iY) ∧ True) (by refine ⟨cD, ?_, trivial⟩ <;> first | (simp only [ua, bW, bd, cD, dK, nm, seval] <;> rfl) | rfl) ?_
 rintro tm ⟨bG, cV, _⟩
 obtain ⟨j2, iE, h⟩ := optI h kN
 try simp only [hs] at h
 simp only [vz, mq, mqm, vsi, tyf, mqt, bd, (aT dx), bG, cV, nm, seval]
 refine dkseen1 (w := 1) (enc := eI) (xs := ([r9.1, iY])) (el := (some 3)) ⟨eI_ok.tree, eI_ok.norm⟩ (fun _ => rfl) (by simp only [List.length_cons, List.length_nil]; decide) (by simp only [ba, bj, bC, bd, nm, seval] <;> rfl) (HO _ _ iE) (by first | rfl | simp only [VV.flat, flatL, Bool.and_self]) ?_
 refine bN (fun tm => tm 23 = .lit (.int .i64 j2) ∧ True) (by refine ⟨?_, trivial⟩ <;> first | (simp only [ua, bW, bd, bG, cV, nm, seval] <;> rfl) | rfl) ?_
 rintro tm ⟨bA, _⟩
 simp only [vz, mq, mqm, vsi, tyf, mqt, bd, (aT dx), bA, nm, seval]
 refine nc ⟨?_, ?_⟩
 ·simp only [iA, i9, dQ, i6, and_true, true_and]
  repeat' (first | exact trivial | refine And.intro ?_ ?_ | rw [dQ] | rw [i7] | exact Or.inl (by decide +kernel) | exact Or.inl (by dsimp only; decide +kernel) | (refine Or.inr ⟨?_, ?_⟩ <;> simp; done) | (refine Or.inr ⟨?_, ?_⟩ <;> simp <;> omega) | (refine Or.inr ⟨?_, ?_⟩ <;> simp [VEff.wr] <;> omega))
 try simp only [vz, mq, mqm, vsi, tyf, mqt, bd, (aT dx), bA, nm, seval]
 refine ct (x := (.lit (.int .i64 j2))) (by first | (simp only [Tryz.results107, resV, resL, aO, bX, bY, uw, cr, tyf, mqt, bd, (aT dx), nm, seval] <;> rfl) | rfl) ?_
 obtain rfl := kF _ h
 refine ⟨(by first | rfl | assumption | (simp only [ba, bj, bd, nm, seval] <;> rfl)), ?_⟩
 exact sq_of (hO (by simp only [tre, aI, mqr, Bool.and_self]) rfl)
def vE (aa : GBk) (ag : List Int) (ai : Int) : Option (Int) := Option.bind (getI aa.Strokes ai) (fun x1 => some x1.Hours.Low)
theorem RZ (aa : GBk) (ag : List Int) (ai : Int) (b : Nat) (R : Int) (h : vE aa ag ai = some R) : ak Tryz.prog G0 139 [.agg [.lit (.int .i64 aa.Apprentices), .sl (ae eI aa.Boards) (List.length aa.Boards) false, .sl (ae cGBs aa.Strokes) (List.length aa.Strokes) false, .sl (ae eI ag) (List.length ag) false, .lit (.map (some b))], .lit (.int .i64 ai)] (.tree (.lit (.int .i64 R))) := by
 refine ak.runR mixed Tryz.call139 Tryz.func139 rfl (by simp [Tryz.ntmps139]; kernel_rfl) ?_
 obtain ⟨KF, h, kF, kN⟩ := cI h
 simp only [vE] at h
 obtain ⟨x2, o3, h⟩ := optI h kN
 try simp only [hs] at h
 try simp only [vz, vsi, tyf, (aT o3), nm, seval]
 refine ct (x := (.lit (.int .i64 x2.Hours.Low))) (by first | (simp only [Tryz.results139, resV, resL, aO, bX, bY, uw, cr, tyf, (aT o3), nm, seval] <;> rfl) | rfl) ?_
 obtain rfl := kF _ h
 refine fB ?_ ?_
 ·simp only [tre, aI, Bool.and_self]
 ·first | (simp only [outV, uw, fp, cr, tyf, nrm, aF, (aT o3), nm, seval] <;> rfl) | rfl
def vF (aa : GBk) (ag : List Int) (ai : Int) : Option (Int) := Option.bind (getI aa.Strokes ai) (fun x1 => some x1.Hours.High)
theorem Sa (aa : GBk) (ag : List Int) (ai : Int) (b : Nat) (R : Int) (h : vF aa ag ai = some R) : ak Tryz.prog G0 140 [.agg [.lit (.int .i64 aa.Apprentices), .sl (ae eI aa.Boards) (List.length aa.Boards) false, .sl (ae cGBs aa.Strokes) (List.length aa.Strokes) false, .sl (ae eI ag) (List.length ag) false, .lit (.map (some b))], .lit (.int .i64 ai)] (.tree (.lit (.int .i64 R))) := by
 refine ak.runR mixed Tryz.call140 Tryz.func140 rfl (by simp [Tryz.ntmps140]; kernel_rfl) ?_
 obtain ⟨KF, h, kF, kN⟩ := cI h
 simp only [vF] at h
 obtain ⟨x2, o3, h⟩ := optI h kN
 try simp only [hs] at h
 try simp only [vz, vsi, tyf, (aT o3), nm, seval]
 refine ct (x := (.lit (.int .i64 x2.Hours.High))) (by first | (simp only [Tryz.results140, resV, resL, aO, bX, bY, uw, cr, tyf, (aT o3), nm, seval] <;> rfl) | rfl) ?_
 obtain rfl := kF _ h
 refine fB ?_ ?_
 ·simp only [tre, aI, Bool.and_self]
 ·first | (simp only [outV, uw, fp, cr, tyf, nrm, aF, (aT o3), nm, seval] <;> rfl) | rfl
def vG (rc : GBk → (List Int) → Int → Int → (List (Gbe × Int)) → Option ((Int) × List (Gbe × Int))) (aa : GBk) (ag : List Int) (ai : Int) (aj : Int) (l0 : List (Gbe × Int)) : Option ((Int) × List (Gbe × Int)) := cond (mapHas dE l0 (Gbe.mk ai aj)) (some (mapGet dE 0 l0 (Gbe.mk ai aj), l0)) (Option.bind (sj rc aa ag ai aj l0) (fun r1 => cond (aj == 0) (Option.bind (vE aa ag ai) (fun r2 => some (i64.wrap (r1.1 + r2), mapSet dE r1.2 (Gbe.mk ai aj) (i64.wrap (r1.1 + r2))))) (cond (aj == 1) (Option.bind (vF aa ag ai) (fun r2 => some (i64.wrap (r1.1 + r2), mapSet dE r1.2 (Gbe.mk ai aj) (i64.wrap (r1.1 + r2))))) none)))
theorem Sb (rc : GBk → (List Int) → Int → Int → (List (Gbe × Int)) → Option ((Int) × List (Gbe × Int))) (rc_ok : ∀ (aa : GBk) (ag : List Int) (ai : Int) (aj : Int) (l0 : List (Gbe × Int)) (R : (Int) × List (Gbe × Int)), rc aa ag ai aj l0 = some R → VUpd Tryz.prog G0 118 (fun β => [.agg [.lit (.int .i64 aa.Apprentices), .sl (ae eI aa.Boards) (List.length aa.Boards) false, .sl (ae cGBs aa.Strokes) (List.length aa.Strokes) false, .sl (ae eI ag) (List.length ag) false, .mp β], .lit (.int .i64 ai), .lit (.int .i64 aj)]) (encM aM bQ l0) (encM aM bQ R.2) (fun _ => .lit (.int .i64 R.1))) (aa : GBk) (ag : List Int) (ai : Int) (aj : Int) (l0 : List (Gbe × Int)) (R : (Int) × List (Gbe × Int)) (h : vG rc aa ag ai aj l0 = some R) : VUpd Tryz.prog G0 118 (fun β => [.agg [.lit (.int .i64 aa.Apprentices), .sl (ae eI aa.Boards) (List.length aa.Boards) false, .sl (ae cGBs aa.Strokes) (List.length aa.Strokes) false, .sl (ae eI ag) (List.length ag) false, .mp β], .lit (.int .i64 ai), .lit (.int .i64 aj)]) (encM aM bQ l0) (encM aM bQ R.2) (fun _ => .lit (.int .i64 R.1)) := by
 intro bt nx hlt
 have bd := fZ (β := bt) (nx := nx) hlt
 refine au.run mixed Tryz.call118 Tryz.func118 rfl (by simp [Tryz.ntmps118]; kernel_rfl) ?_
 obtain ⟨KF, h, kF, kN⟩ := cI h
 simp only [vG] at h
 have w2 := fun H => vH (β := bt) l0 (Gbe.mk ai aj) H
 try simp only [bW] at w2
 cases d3 : (mapHas dE l0 (Gbe.mk ai aj))
 ·simp only [d3, hs] at h
  obtain ⟨r4, o5, h⟩ := optI h kN
  try simp only [hs] at h
  have hk : (aj == 0) = true ∨ ((aj == 0) = false ∧ (aj == 1) = true) := by
   cases c0 : (aj == 0)
   ·cases c1 : (aj == 1)
    ·simp only [c0, c1, hs] at h
     exact absurd h kN
    exact .inr ⟨rfl, rfl⟩
   exact .inl rfl
  rcases hk with c0 | ⟨c0, c1⟩
  ·obtain rfl : aj = 0 := by simpa using c0
   simp only [c0, hs] at h
   simp only [vz, mq, mqm, vsi, tyf, mqt, bd, w2, d3, nm, seval]
   refine rp (fun tm => tm 1 = .lit (.int .i64 ai) ∧ tm 2 = .lit (.int .i64 0) ∧ tm 3 = .ptr nx 0 ∧ tm 7 = .ptr (nx + 5) 0 ∧ tm 10 = .ptr (nx + 19) 0 ∧ True) (by refine ⟨?_, ?_, ?_, ?_, ?_, trivial⟩ <;> first | (simp only [ua, bW, bd, w2, d3, nm, seval] <;> rfl) | rfl) ?_
   rintro tm ⟨e1, e2, e3, e4, bk, _⟩
   simp only [vz, mq, mqm, vsi, tyf, mqt, bd, w2, d3, e1, e2, e3, e4, bk, nm, seval]
   refine dkupd (VUpd.at (β := bt) (y := (fun _ => .lit (.int .i64 r4.1))) (HN rc rc_ok _ _ _ _ _ _ o5) (by omega) (by first | rfl | assumption | (simp only [ba, bj, bd, nm, seval] <;> rfl)) (by first | rfl | (simp only [nrm, aF, @dH, @gk] <;> rfl)) (gj (fun _ => rfl) _)) ?_
   refine gD (fun tm => tm 1 = .lit (.int .i64 ai) ∧ tm 2 = .lit (.int .i64 0) ∧ tm 3 = .ptr nx 0 ∧ tm 7 = .ptr (nx + 5) 0 ∧ tm 10 = .ptr (nx + 19) 0 ∧ tm 27 = .lit (.int .i64 r4.1) ∧ True) (by refine ⟨e1, e2, e3, e4, bk, ?_, trivial⟩ <;> first | (simp only [ua, bW, bd, e1, e2, e3, e4, bk, nm, seval] <;> rfl) | rfl) ?_
   rintro tm ⟨e1, e2, e3, e4, bk, bA, _⟩
   obtain ⟨r8, o9, h⟩ := optI h kN
   try simp only [hs] at h
   simp only [vz, mq, mqm, vsi, tyf, mqt, bd, w2, d3, e1, e2, e3, e4, bk, bA, nm, seval]
   refine dkupd (VUpd.at (β := bt) (y := (fun _ => .lit (.int .i64 r8))) (VUpd.of_lit (A := fun β => [.agg [.lit (.int .i64 aa.Apprentices), .sl (ae eI aa.Boards) (List.length aa.Boards) false, .sl (ae cGBs aa.Strokes) (List.length aa.Strokes) false, .sl (ae eI ag) (List.length ag) false, .mp β], .lit (.int .i64 ai)]) (x := fun _ => .lit (.int .i64 r8)) (es := encM aM bQ r4.2) (A0 := fun _ b => [.agg [.lit (.int .i64 aa.Apprentices), .sl (ae eI aa.Boards) (List.length aa.Boards) false, .sl (ae cGBs aa.Strokes) (List.length aa.Strokes) false, .sl (ae eI ag) (List.length ag) false, .lit (.map (some b))], .lit (.int .i64 ai)]) (fun β b => by simp only [List.map_cons, List.map_nil, vlt, if_true, nrm, aF, @dH, tyf, mqt] <;> rfl) (fun β b => by simp only [List.map_cons, List.map_nil, vlt, if_true, tre, aI, tyf, mqt, Bool.and_self]) (fun β b => rfl) (fun β b => RZ aa ag ai b r8 o9) (fun _ _ _ _ _ => hO (by simp only [tre, aI, mqr, Bool.and_self]) rfl)) (by omega) (by first | rfl | assumption | (simp only [ba, bj, bd, nm, seval] <;> rfl)) (by first | rfl | (simp only [nrm, aF, @dH, @gk] <;> rfl)) (gj (fun _ => rfl) _)) ?_
   refine gD (fun tm => tm 1 = .lit (.int .i64 ai) ∧ tm 2 = .lit (.int .i64 0) ∧ tm 3 = .ptr nx 0 ∧ tm 7 = .ptr (nx + 5) 0 ∧ tm 27 = .lit (.int .i64 r4.1) ∧ tm 33 = .lit (.int .i64 r8) ∧ True) (by refine ⟨e1, e2, e3, e4, bA, ?_, trivial⟩ <;> first | (simp only [ua, bW, bd, e1, e2, e3, e4, bk, bA, nm, seval] <;> rfl) | rfl) ?_
   rintro tm ⟨e1, e2, e3, e4, bA, fx, _⟩
   simp only [vz, mq, mqm, vsi, tyf, mqt, bd, w2, d3, e1, e2, e3, e4, bA, fx, nm, seval]
   refine nc ⟨?_, ?_⟩
   ·simp only [iA, i9, dQ, i6, and_true, true_and]
    repeat' (first | exact trivial | refine And.intro ?_ ?_ | rw [dQ] | rw [i7] | exact Or.inl (by decide +kernel) | exact Or.inl (by dsimp only; decide +kernel) | (refine Or.inr ⟨?_, ?_⟩ <;> simp; done) | (refine Or.inr ⟨?_, ?_⟩ <;> simp <;> omega) | (refine Or.inr ⟨?_, ?_⟩ <;> simp [VEff.wr] <;> omega) | (refine Or.inr ⟨?_, ?_⟩ <;> simp [rdV, rdO, topName, Op.operands, pq, pw, pv, nk, VEff.wr] <;> omega))
   have w9 := fun H => vI (β := bt) r4.2 (Gbe.mk ai 0) (i64.wrap (r4.1 + r8)) H
   try simp only [bW] at w9
   try simp only [vz, mq, mqm, vsi, tyf, mqt, bd, d3, e1, e2, e3, e4, bA, fx, w9, nm, seval]
   refine ct (x := (.lit (.int .i64 (i64.wrap (r4.1 + r8))))) (by first | (simp only [Tryz.results118, resV, resL, aO, bX, bY, uw, cr, tyf, mqt, bd, d3, w9, nm, seval] <;> rfl) | rfl) ?_
   obtain rfl := kF _ h
   refine ⟨(by first | rfl | assumption | (simp only [ba, bj, bd, nm, seval] <;> rfl)), ?_⟩
   exact sq_of (hO (by simp only [tre, aI, mqr, Bool.and_self]) rfl)
  obtain rfl : aj = 1 := by simpa using c1
  simp only [c0, c1, hs] at h
  simp only [vz, mq, mqm, vsi, tyf, mqt, bd, w2, d3, nm, seval]
  refine rp (fun tm => tm 1 = .lit (.int .i64 ai) ∧ tm 2 = .lit (.int .i64 1) ∧ tm 3 = .ptr nx 0 ∧ tm 7 = .ptr (nx + 5) 0 ∧ tm 10 = .ptr (nx + 19) 0 ∧ True) (by refine ⟨?_, ?_, ?_, ?_, ?_, trivial⟩ <;> first | (simp only [ua, bW, bd, w2, d3, nm, seval] <;> rfl) | rfl) ?_
  rintro tm ⟨e1, e2, e3, e4, bk, _⟩
  simp only [vz, mq, mqm, vsi, tyf, mqt, bd, w2, d3, e1, e2, e3, e4, bk, nm, seval]
  refine dkupd (VUpd.at (β := bt) (y := (fun _ => .lit (.int .i64 r4.1))) (HN rc rc_ok _ _ _ _ _ _ o5) (by omega) (by first | rfl | assumption | (simp only [ba, bj, bd, nm, seval] <;> rfl)) (by first | rfl | (simp only [nrm, aF, @dH, @gk] <;> rfl)) (gj (fun _ => rfl) _)) ?_
  refine gD (fun tm => tm 1 = .lit (.int .i64 ai) ∧ tm 2 = .lit (.int .i64 1) ∧ tm 3 = .ptr nx 0 ∧ tm 7 = .ptr (nx + 5) 0 ∧ tm 10 = .ptr (nx + 19) 0 ∧ tm 27 = .lit (.int .i64 r4.1) ∧ True) (by refine ⟨e1, e2, e3, e4, bk, ?_, trivial⟩ <;> first | (simp only [ua, bW, bd, e1, e2, e3, e4, bk, nm, seval] <;> rfl) | rfl) ?_
  rintro tm ⟨e1, e2, e3, e4, bk, bA, _⟩
  obtain ⟨r8, o9, h⟩ := optI h kN
  try simp only [hs] at h
  simp only [vz, mq, mqm, vsi, tyf, mqt, bd, w2, d3, e1, e2, e3, e4, bk, bA, nm, seval]
  refine dkupd (VUpd.at (β := bt) (y := (fun _ => .lit (.int .i64 r8))) (VUpd.of_lit (A := fun β => [.agg [.lit (.int .i64 aa.Apprentices), .sl (ae eI aa.Boards) (List.length aa.Boards) false, .sl (ae cGBs aa.Strokes) (List.length aa.Strokes) false, .sl (ae eI ag) (List.length ag) false, .mp β], .lit (.int .i64 ai)]) (x := fun _ => .lit (.int .i64 r8)) (es := encM aM bQ r4.2) (A0 := fun _ b => [.agg [.lit (.int .i64 aa.Apprentices), .sl (ae eI aa.Boards) (List.length aa.Boards) false, .sl (ae cGBs aa.Strokes) (List.length aa.Strokes) false, .sl (ae eI ag) (List.length ag) false, .lit (.map (some b))], .lit (.int .i64 ai)]) (fun β b => by simp only [List.map_cons, List.map_nil, vlt, if_true, nrm, aF, @dH, tyf, mqt] <;> rfl) (fun β b => by simp only [List.map_cons, List.map_nil, vlt, if_true, tre, aI, tyf, mqt, Bool.and_self]) (fun β b => rfl) (fun β b => Sa aa ag ai b r8 o9) (fun _ _ _ _ _ => hO (by simp only [tre, aI, mqr, Bool.and_self]) rfl)) (by omega) (by first | rfl | assumption | (simp only [ba, bj, bd, nm, seval] <;> rfl)) (by first | rfl | (simp only [nrm, aF, @dH, @gk] <;> rfl)) (gj (fun _ => rfl) _)) ?_
  refine gD (fun tm => tm 1 = .lit (.int .i64 ai) ∧ tm 2 = .lit (.int .i64 1) ∧ tm 3 = .ptr nx 0 ∧ tm 7 = .ptr (nx + 5) 0 ∧ tm 27 = .lit (.int .i64 r4.1) ∧ tm 33 = .lit (.int .i64 r8) ∧ True) (by refine ⟨e1, e2, e3, e4, bA, ?_, trivial⟩ <;> first | (simp only [ua, bW, bd, e1, e2, e3, e4, bk, bA, nm, seval] <;> rfl) | rfl) ?_
  rintro tm ⟨e1, e2, e3, e4, bA, fx, _⟩
  simp only [vz, mq, mqm, vsi, tyf, mqt, bd, w2, d3, e1, e2, e3, e4, bA, fx, nm, seval]
  refine nc ⟨?_, ?_⟩
  ·simp only [iA, i9, dQ, i6, and_true, true_and]
   repeat' (first | exact trivial | refine And.intro ?_ ?_ | rw [dQ] | rw [i7] | exact Or.inl (by decide +kernel) | exact Or.inl (by dsimp only; decide +kernel) | (refine Or.inr ⟨?_, ?_⟩ <;> simp; done) | (refine Or.inr ⟨?_, ?_⟩ <;> simp <;> omega) | (refine Or.inr ⟨?_, ?_⟩ <;> simp [VEff.wr] <;> omega) | (refine Or.inr ⟨?_, ?_⟩ <;> simp [rdV, rdO, topName, Op.operands, pq, pw, pv, nk, VEff.wr] <;> omega))
  have w9 := fun H => vI (β := bt) r4.2 (Gbe.mk ai 1) (i64.wrap (r4.1 + r8)) H
  try simp only [bW] at w9
  try simp only [vz, mq, mqm, vsi, tyf, mqt, bd, d3, e1, e2, e3, e4, bA, fx, w9, nm, seval]
  refine ct (x := (.lit (.int .i64 (i64.wrap (r4.1 + r8))))) (by first | (simp only [Tryz.results118, resV, resL, aO, bX, bY, uw, cr, tyf, mqt, bd, d3, w9, nm, seval] <;> rfl) | rfl) ?_
  obtain rfl := kF _ h
  refine ⟨(by first | rfl | assumption | (simp only [ba, bj, bd, nm, seval] <;> rfl)), ?_⟩
  exact sq_of (hO (by simp only [tre, aI, mqr, Bool.and_self]) rfl)
 simp only [d3, hs] at h
 try simp only [vz, mq, mqm, vsi, tyf, mqt, bd, w2, d3, nm, seval]
 refine ct (x := (.lit (.int .i64 (mapGet dE 0 l0 (Gbe.mk ai aj))))) (by first | (simp only [Tryz.results118, resV, resL, aO, bX, bY, uw, cr, tyf, mqt, bd, w2, d3, nm, seval] <;> rfl) | rfl) ?_
 obtain rfl := kF _ h
 refine ⟨(by first | rfl | assumption | (simp only [ba, bj, bd, nm, seval] <;> rfl)), ?_⟩
 exact sq_of (hO (by simp only [tre, aI, mqr, Bool.and_self]) rfl)
def gEnd : Nat → GBk → (List Int) → Int → Int → (List (Gbe × Int)) → Option ((Int) × List (Gbe × Int))
 | 0 => fun _ _ _ _ _ => none
 | n + 1 => vG (gEnd n)
theorem qC : ∀ (n : Nat) (aa : GBk) (ag : List Int) (ai : Int) (aj : Int) (l0 : List (Gbe × Int)) (R : (Int) × List (Gbe × Int)), gEnd n aa ag ai aj l0 = some R → VUpd Tryz.prog G0 118 (fun β => [.agg [.lit (.int .i64 aa.Apprentices), .sl (ae eI aa.Boards) (List.length aa.Boards) false, .sl (ae cGBs aa.Strokes) (List.length aa.Strokes) false, .sl (ae eI ag) (List.length ag) false, .mp β], .lit (.int .i64 ai), .lit (.int .i64 aj)]) (encM aM bQ l0) (encM aM bQ R.2) (fun _ => .lit (.int .i64 R.1))
 | 0, _, _, _, _, _, _, h => by cases h
 | n + 1, aa, ag, ai, aj, l0, R, h => Sb (gEnd n) (qC n) aa ag ai aj l0 R h
def xV (aa : GBk) (ag : List Int) (ai : Int) (aj : Int) (l0 : List (Gbe × Int)) : Option ((Int) × List (Gbe × Int)) := gEnd 8 aa ag ai aj l0
theorem Fs (aa : GBk) (ag : List Int) (ai : Int) (aj : Int) (l0 : List (Gbe × Int)) (R : (Int) × List (Gbe × Int)) (h : xV aa ag ai aj l0 = some R) : VUpd Tryz.prog G0 118 (fun β => [.agg [.lit (.int .i64 aa.Apprentices), .sl (ae eI aa.Boards) (List.length aa.Boards) false, .sl (ae cGBs aa.Strokes) (List.length aa.Strokes) false, .sl (ae eI ag) (List.length ag) false, .mp β], .lit (.int .i64 ai), .lit (.int .i64 aj)]) (encM aM bQ l0) (encM aM bQ R.2) (fun _ => .lit (.int .i64 R.1)) := qC 8 aa ag ai aj l0 R h
def Fq (aa : GBk) (ag : List Int) (ai : Int) (aj : Int) (l0 : List (Gbe × Int)) : Option ((Int) × List (Gbe × Int)) := sj (gEnd 8) aa ag ai aj l0
theorem QD (aa : GBk) (ag : List Int) (ai : Int) (aj : Int) (l0 : List (Gbe × Int)) (R : (Int) × List (Gbe × Int)) (h : Fq aa ag ai aj l0 = some R) : VUpd Tryz.prog G0 107 (fun β => [.agg [.lit (.int .i64 aa.Apprentices), .sl (ae eI aa.Boards) (List.length aa.Boards) false, .sl (ae cGBs aa.Strokes) (List.length aa.Strokes) false, .sl (ae eI ag) (List.length ag) false, .mp β], .lit (.int .i64 ai), .lit (.int .i64 aj)]) (encM aM bQ l0) (encM aM bQ R.2) (fun _ => .lit (.int .i64 R.1)) := HN (gEnd 8) (qC 8) aa ag ai aj l0 R h
end Go.V
end
section
namespace Go.V
open Go Go.Proofs IntKind
section
variable {K V : Type} {q : K → K → Bool} {z : V}
def setR (q : K → K → Bool) (k : K) (v : V) : List (K × V) → List (K × V)
 | [] => [(k, v)]
 | e :: l => if q k e.1 then (k, v) :: l else e :: setR q k v l
theorem vJ (k : K) : ∀ (es : List K) (i : Nat), kIdx q k es (i + 1) = (kIdx q k es i).map (· + 1)
 | [], _ => rfl
 | e :: es, i => by
  unfold kIdx
  cases q k e with
  | true => rfl
  | false => exact vJ k es (i + 1)
theorem MT (k : K) (v : V) : ∀ l : List (K × V), mapSet q l k v = setR q k v l
 | [] => rfl
 | e :: l => by
  have ih := MT k v l
  unfold mapSet at ih ⊢
  rw [List.map_cons]
  unfold kIdx setR
  cases hq : q k e.1 with
  | true => rfl
  | false =>
   simp only [cond_false, Bool.false_eq_true, if_false]
   rw [vJ]
   cases h : kIdx q k (l.map (·.1)) 0 with
   | none => rw [h] at ih; simpa using ih
   | some i => rw [h] at ih; simpa using ih
end
end Go.V
end
section
namespace Go.V
open Go Go.Proofs IntKind

theorem Frozen.agg3 {H : Nat → Option VObj} {γ n w cp : Nat} {el : Option TypeId} {cs : List VV} {x y : VV} (hx : x.tree = true) (hy : y.tree = true) (hγ : H γ = some (.cells el cs)) (ht : treeL cs = true) (hl : cs.length = n * w) :
  Frozen H (without H γ) (.agg [x, y, .ref γ 0 n w cp]) (.agg [x, y, .sl cs n false]) := by
 refine .inr (.inr ⟨cs.length + 6, ?_⟩)
 have hg : gone H (without H γ) γ = some (.cells el cs) := by simp [gone, without, hγ]
 have h0 : (VV.agg [x, y, .ref γ 0 n w cp]).tree = false := by simp [VV.tree, treeL]
 have h1 : sealV (gone H (without H γ)) (cs.length + 2) (.ref γ 0 n w cp) = some (.sl cs n false) := by
  unfold sealV
  have : (VV.ref γ 0 n w cp).tree = false := rfl
  rw [this]
  simp only [Bool.false_eq_true, if_false, hg, Nat.zero_le, if_true, List.drop_zero]
  rw [List.take_of_length_le (by omega), kE cs _ ht (by omega)]
  rfl
 unfold sealV
 rw [h0]
 simp only [Bool.false_eq_true, if_false]
 show (sealL _ (cs.length + 4 + 1) _).map _ = _
 unfold sealL
 rw [show cs.length + 4 = (cs.length + 3) + 1 from rfl, Lg hx]
 unfold sealL
 rw [show cs.length + 3 = (cs.length + 2) + 1 from rfl, Lg hy]
 unfold sealL
 rw [h1]
 rfl
theorem But.self (W : World) (b : Nat) : But W W b := ⟨fun _ _ _ => rfl, Nat.le_refl _, rfl, rfl, rfl⟩
theorem HP : ∀ cs : List VV, (normL cs).length = cs.length
 | [] => rfl
 | x :: cs => by rw [nK, List.length_cons, List.length_cons, HP cs]
theorem VWp.normO {P : Program} {G : Glob} {n : Nat} {code : Code} {Q : VExit → St → Prop} {tm : Nat → VV} {H : Nat → Option VObj} {nx : Nat} {df : List VDef} {β : Nat} {el : Option TypeId} {cs cs' : List VV} (hβ : H β = some (.cells el cs)) (hn : normL cs = cs')
  (h : VWp P G n code Q ⟨tm, updH H β (.cells el cs'), nx, df⟩) : VWp P G n code Q ⟨tm, H, nx, df⟩ := by
 subst hn
 intro ro c W a hro s hr hsz
 have hc : c.H β = some (.cells el cs) := by rw [hr.H]; exact hβ
 have hl : c.live β := by simp [Ctx.live, hc]
 have he : Ext c W (c.upd β (.cells el (normL cs))) W := Ext.upd hl (But.self W _)
 have ab := he.abides s
 have hs : Sim (c.upd β (.cells el (normL cs))) W := by
  refine Sim.upd s hl (But.self W _) (fun ⟨ds, hd⟩ => by rw [hc] at hd; cases hd) ?_
  obtain ⟨arr, e, a1, a2, a3, a4, a5⟩ := s.obj β _ hc
  exact ⟨arr, e, a1, a2, by rw [HP]; exact a3, by rw [HP]; exact rB _ (RepL.abides ab _ a4), a5⟩
 refine wpIn_mono (h ro _ W a (hro.ext he) hs ⟨?_, fun t => Rep.abides ab _ (hr.tm t), hr.nx, hr.df.abides ab, hr.G.abides ab⟩ hsz) fun _ _ _ hl => hl.of_ext he (fun β hb => .inl hb) (Nat.le_refl _)
 show updH c.H β _ = _
 rw [hr.H]



def qD (aa : GBk) (ag : List Int) : List GBs → Int → Int → (List (Gbe × Int)) → Option (LOut ((Int) × List (Gbe × Int)) (Int × (List (Gbe × Int))))
 | [], je, da, bO => some (.go (da, bO))
 | e0 :: p0, je, da, bO => Option.bind (xV aa ag je 1 bO) (fun r3 => Option.bind (qB ([da, r3.1])) (fun r4 => qD aa ag p0 (je + 1) r4 r3.2))
def pO (aa : GBk) (ag : List Int) (l0 : List (Gbe × Int)) : Option ((Int) × List (Gbe × Int)) := cond (aG aa.Strokes) (lbind (qD aa ag aa.Strokes 0 0 l0) (fun r6 => some r6) (fun c5 => some (c5.1, c5.2)) (fun _ _ => none)) none
theorem uj (aa : GBk) (ag : List Int) (l0 : List (Gbe × Int)) (R : (Int) × List (Gbe × Int)) (h : pO aa ag l0 = some R) : VUpd Tryz.prog G0 87 (fun β => [.agg [.lit (.int .i64 aa.Apprentices), .sl (ae eI aa.Boards) (List.length aa.Boards) false, .sl (ae cGBs aa.Strokes) (List.length aa.Strokes) false, .sl (ae eI ag) (List.length ag) false, .mp β]]) (encM aM bQ l0) (encM aM bQ R.2) (fun _ => .lit (.int .i64 R.1)) := by
 intro bt nx hlt
 have bd := fZ (β := bt) (nx := nx) hlt
 refine au.run mixed Tryz.call87 Tryz.func87 rfl (by simp [Tryz.ntmps87]; kernel_rfl) ?_
 obtain ⟨KF, h, kF, kN⟩ := cI h
 simp only [pO] at h
 cases g8 : (aG aa.Strokes)
 ·simp only [g8, hs] at h
  exact absurd h kN
 simp only [g8, hs] at h
 simp only [vz, mq, mqm, vsi, tyf, mqt, bd, g8, nm, seval]
 obtain ⟨K7, h, T8, Sc, T9, MU⟩ := eR h kN
 obtain ⟨f7, Sd, h⟩ := call4 h
 obtain ⟨I7, HQ⟩ : ∃ I : Nat → St → Prop, I = (fun m st => ∃ (p7 : List GBs) (gA : Int) (jf : Int) (lx : List (Gbe × Int)), m = List.length p7 ∧ 0 ≤ gA ∧ List.drop (Int.toNat gA) aa.Strokes = p7 ∧ st.df = [] ∧ nx + 8 ≤ st.nx ∧ st.H bt = some (.map (encM aM bQ lx)) ∧ st.H nx = some (.cells (some 92) ((cGBk aa) ++ [.sl (ae eI ag) (List.length ag) false] ++ [.mp bt])) ∧ st.tm 1 = .ptr nx 0 ∧ st.tm 8 = .lit (.int .i64 (List.length aa.Strokes : Int)) ∧ st.tm 3 = .lit (.int .i64 jf) ∧ st.tm 9 = .lit (.int .i64 gA) ∧ K7 (f7 p7 gA jf lx)) := ⟨_, rfl⟩
 refine loopK mixed (by kernel_rfl) I7 (List.length aa.Strokes) (by rw [HQ]; refine ⟨aa.Strokes, 0, 0, l0, rfl, Int.le_refl _, rfl, rfl, (show nx + 8 ≤ nx + 8 by omega), ?_, ?_, ?_, ?_, ?_, ?_, h⟩ <;> first | (simp only [ua, bW, bd, nm, seval] <;> rfl) | rfl) ?_
 rintro m ⟨tm, H, HR, df⟩ hinv
 rw [HQ] at hinv
 obtain ⟨p7, gA, jf, lx, rfl, sk, vK, hdf, Se, H9, gV, bF, cn, bI, bS, h⟩ := hinv
 simp only at hdf Se H9 gV bF cn bI bS
 have fG := kH (a := nx) (m := 8) (b := HR) (by omega)
 have fH := fZ (β := bt) (nx := HR) (by omega)
 subst hdf Sd
 cases p7 with
 | nil =>
  have cJ : (decide (gA < (List.length aa.Strokes : Int))) = false := fj sk vK
  simp only [qD, hs, reduceCtorEq] at h
  replace h := Sc _ h
  try dsimp only at h
  try simp only [hs] at h
  try simp only [vz, mq, mqm, vsi, tyf, mqt, bd, g8, fG, fH, bF, cn, bI, bS, H9, gV, cJ, nm, seval]
  refine ct (x := (.lit (.int .i64 jf))) (by first | (simp only [Tryz.results87, resV, resL, aO, bX, bY, uw, cr, tyf, mqt, bd, g8, fG, fH, H9, gV, cJ, nm, seval] <;> rfl) | rfl) ?_
  obtain rfl := kF _ h
  refine ⟨(by first | rfl | assumption | (simp only [ba, bj, bd, fG, fH, H9, gV, nm, seval] <;> rfl)), ?_⟩
  exact sq_of (hO (by first | (simp only [tre, aI, mqr, Bool.and_self]; done) | rfl) rfl)
 | cons e7 p7 =>
  have eh : (decide (gA < (List.length aa.Strokes : Int))) = true := fh sk vK
  have lN := dG sk vK
  have jg := eQ sk vK g8
  simp only [qD, hs, reduceCtorEq] at h
  obtain ⟨iY, lO, h⟩ := optI h MU
  try simp only [hs] at h
  simp only [vz, mq, mqm, vsi, tyf, mqt, bd, g8, fG, fH, bF, cn, bI, bS, H9, gV, eh, (aT lN), jg, nm, seval]
  refine kupd (VUpd.at (β := bt) (y := (fun _ => .lit (.int .i64 iY.1))) (Fs _ _ _ _ _ _ lO) (by omega) (by first | rfl | assumption | (simp only [ba, bj, bd, fG, fH, H9, gV, nm, seval] <;> rfl)) (by first | rfl | (simp only [nrm, aF, @dH, @gk] <;> rfl)) (gj (fun _ => rfl) _)) ?_
  refine gD (fun tm => tm 1 = .ptr nx 0 ∧ tm 8 = .lit (.int .i64 (List.length aa.Strokes : Int)) ∧ tm 9 = .lit (.int .i64 gA) ∧ tm 12 = .lit (.int .i64 jf) ∧ tm 15 = .lit (.int .i64 iY.1) ∧ True) (by refine ⟨bF, cn, bS, ?_, ?_, trivial⟩ <;> first | (simp only [ua, bW, bd, fG, fH, bF, cn, bI, bS, H9, gV, eh, jg, nm, seval] <;> rfl) | rfl) ?_
  rintro tm ⟨bG, cV, cN, du, bA, _⟩
  have iw := And.intro bd (And.intro g8 (And.intro fG (And.intro fH (And.intro H9 (And.intro gV (And.intro eh jg))))))
  obtain ⟨MV, jK, h⟩ := optI h MU
  try simp only [hs] at h
  simp only [vz, mq, mqm, vsi, tyf, mqt, iw, (aT lN), bG, cV, cN, du, bA, nm, seval]
  refine kseen (args0 := [.sl (ae eI ([jf, iY.1])) (List.length ([jf, iY.1])) false]) (by simp only [List.map_cons, List.map_nil, fp, ba, bj, cr, tyf, mqt, nrm, aF, iw, (aT lN), bG, cV, cN, du, bA, nm, seval] <;> rfl) (by simp only [List.map_cons, List.map_nil, fp, ba, bj, cr, tyf, mqt, nrm, aF, iw, (aT lN), bG, cV, cN, du, bA, nm, seval]; simp only [tre, aI, mqr, Bool.and_self]) (HO _ _ jK) (by first | rfl | simp only [VV.flat, flatL, Bool.and_self]) ?_
  refine bN (fun tm => tm 1 = .ptr nx 0 ∧ tm 8 = .lit (.int .i64 (List.length aa.Strokes : Int)) ∧ tm 9 = .lit (.int .i64 gA) ∧ tm 17 = .lit (.int .i64 MV) ∧ True) (by refine ⟨bG, cV, cN, ?_, trivial⟩ <;> first | (simp only [ua, bW, iw, bG, cV, cN, du, bA, nm, seval] <;> rfl) | rfl) ?_
  rintro tm ⟨ck, dV, fx, ed, _⟩
  simp only [vz, mq, mqm, vsi, tyf, mqt, iw, (aT lN), ck, dV, fx, ed, nm, seval]
  exact ⟨List.length p7, Nat.lt_succ_self _, by rw [HQ]; refine ⟨p7, gA + 1, MV, iY.2, rfl, Int.le_trans sk (Int.le_add_one (Int.le_refl _)), cU sk vK, rfl, (show nx + 8 ≤ HR + 12 by omega), ?_, ?_, ck, dV, ?_, ?_, (by first | exact h | (simp only [iw]; exact h))⟩ <;> first | (simp only [ua, bW, iw, ck, dV, fx, ed, nm, seval] <;> rfl) | rfl⟩
end Go.V
end
section
namespace Go.V
open Go Go.Proofs IntKind
theorem Len.of {b : GBk} (h : aG b.Boards = true ∧ aG b.Strokes = true ∧ ∀ y ∈ b.Strokes, aG y.Needs = true) : Len b := ⟨Hh h.1, Hh h.2.1, fun s hs => Hh (h.2.2 s hs)⟩
theorem vL : ∀ (p : List GBs) (c : Int), qE p c = some (.go ()) ∨ qE p c = some (.ret false)
 | [], c => .inl rfl
 | s :: p, c => by
  simp only [qE]
  cases decide (c < 9) with
  | false => exact .inl rfl
  | true =>
   cases decide ((s.Needs.length : Int) > 8) with
   | true => exact .inr rfl
   | false => exact vL p (c + 1)
theorem BOk.len {b : GBk} (h : BOk b) (hl : ∀ s ∈ b.Strokes, s.Needs.length < 9223372036854775808) : Len b := ⟨by have := h.nb; omega, by have := h.ns; omega, hl⟩
structure HOk (n : Int) (s : GBs) : Prop where
 nd : ∀ k ∈ s.Needs, 0 ≤ k ∧ k < n
 ad : adjB s.Needs = true
 hr : 0 ≤ s.Hours.Low ∧ s.Hours.Low ≤ 15 ∧ 0 ≤ s.Hours.High ∧ s.Hours.High ≤ 15
structure BH (b : GBk) : Prop where
 ns : 1 ≤ b.Strokes.length ∧ b.Strokes.length ≤ 6
 s : ∀ {i : Nat} {s : GBs}, b.Strokes[i]? = some s → HOk i s
theorem BOk.h {b : GBk} (h : BOk b) : BH b := ⟨h.ns, fun hs => by have := h.s hs; have h2 := this.hr; exact ⟨this.nd, this.ad, by omega⟩⟩
def nF (b : GBk) (s : Nat) : List Int := match b.Strokes[s]? with | some x => x.Needs | none => []
def dF (b : GBk) (h : Int) (s : Nat) : Int := match b.Strokes[s]? with | some x => if h = 0 then x.Hours.Low else x.Hours.High | none => 0
def hF (pl : List Int) (s : Nat) : Int := (pl[s]?).getD 0
def EE (b : GBk) (pl : List Int) (h : Int) (s : Nat) : Int := Ed (hF pl) (nF b) (dF b h) s
def BB (b : GBk) (pl : List Int) (h : Int) (s : Nat) : Int := Bg (hF pl) (nF b) (dF b h) s
def FF (b : GBk) (pl : List Int) (h : Int) (s : Nat) : Int := frF (hF pl) (EE b pl h) (hF pl s) s
theorem BH.nd {b : GBk} (h : BH b) : NdOk (nF b) := by
 intro s k hk
 unfold nF at hk
 split at hk
 ·rename_i x hx
  have := (h.s hx).nd k hk
  omega
 ·cases hk
theorem BH.d {b : GBk} (h : BH b) (hr : Int) (s : Nat) : 0 ≤ dF b hr s ∧ dF b hr s ≤ 15 := by
 unfold dF
 split
 ·rename_i x hx
  have := (h.s hx).hr
  split <;> omega
 ·omega
theorem EE_b {b : GBk} (h : BH b) (pl : List Int) (hr : Int) {s : Nat} (hs : s < b.Strokes.length) : 0 ≤ EE b pl hr s ∧ EE b pl hr s ≤ 90 := by
 have h1 := Ed_nn (hd := hF pl) h.nd (fun k => (h.d hr k).1) s
 have h2 := Fh (hd := hF pl) h.nd (h.d hr) s
 have := h.ns
 unfold EE
 omega
theorem EE_eq {b : GBk} (h : BH b) (pl : List Int) (hr : Int) (s : Nat) : EE b pl hr s = BB b pl hr s + dF b hr s := Ed_eq h.nd s
theorem BB_b {b : GBk} (h : BH b) (pl : List Int) (hr : Int) {s : Nat} (hs : s < b.Strokes.length) : 0 ≤ BB b pl hr s ∧ BB b pl hr s ≤ 90 := by
 have h1 := EE_b h pl hr hs
 have h2 := h.d hr s
 have h3 := Bg_nn (hd := hF pl) (nd := nF b) (d := dF b hr) s
 rw [EE_eq h] at h1
 have h3 : 0 ≤ BB b pl hr s := h3
 omega
theorem vM {b : GBk} (pl : List Int) (hr : Int) (s : Nat) : BB b pl hr s = max (max 0 (FF b pl hr s)) (mxL ((nF b s).map fun k => EE b pl hr k.toNat)) := rfl
def InvE (b : GBk) (pl : List Int) (l : List (Gbe × Int)) : Prop := ∀ p ∈ l, p.2 = EE b pl p.1.hours p.1.stroke.toNat
theorem InvE.nil {b : GBk} {pl : List Int} : InvE b pl [] := fun _ h => by cases h
theorem InvE.has {b : GBk} {pl : List Int} {l : List (Gbe × Int)} (h : InvE b pl l) {k : Gbe} (hk : mapHas dE l k = true) : mapGet dE 0 l k = EE b pl k.hours k.stroke.toNat := by
 unfold mapHas at hk
 unfold mapGet
 cases hi : kIdx dE k (l.map (·.1)) 0 with
 | none => rw [hi] at hk; cases hk
 | some i =>
  obtain ⟨_, e, he, hq⟩ := xj _ _ _ hi
  rw [Nat.sub_zero, List.getElem?_map] at he
  cases hg : l[i]? with
  | none => rw [hg] at he; cases he
  | some p =>
   rw [hg] at he
   simp only [Option.map_some, Option.some.injEq] at he
   have hpe := ly _ _ hq
   have hv := h p (List.mem_of_getElem? hg)
   rw [he, ← hpe] at hv
   simp only [hg, hv]
theorem vN {K V : Type} {q : K → K → Bool} {k : K} {v : V} : ∀ {l : List (K × V)} {p : K × V}, p ∈ setR q k v l → p ∈ l ∨ p.2 = v ∧ (p.1 = k ∨ q k p.1 = true)
 | [], p, h => by
  simp only [setR, List.mem_singleton] at h
  exact .inr ⟨by rw [h], .inl (by rw [h])⟩
 | a :: l, p, h => by
  unfold setR at h
  split at h
  ·rename_i hq
   rcases List.mem_cons.1 h with rfl | h
   ·exact .inr ⟨rfl, .inl rfl⟩
   ·exact .inl (List.mem_cons_of_mem _ h)
  ·rcases List.mem_cons.1 h with rfl | h
   ·exact .inl (List.mem_cons_self ..)
   ·exact (vN h).imp (List.mem_cons_of_mem _) id
theorem InvE.set {b : GBk} {pl : List Int} {l : List (Gbe × Int)} (h : InvE b pl l) (s hr : Int) : InvE b pl (mapSet dE l ⟨s, hr⟩ (EE b pl hr s.toNat)) := by
 intro p hp
 rw [MT] at hp
 rcases vN hp with hp | ⟨h1, h2⟩
 ·exact h p hp
 ·have e : p.1 = ⟨s, hr⟩ := by
   rcases h2 with h2 | h2
   ·exact h2
   ·exact (ly _ _ h2).symm
  rw [h1, e]
abbrev RC := GBk → List Int → Int → Int → List (Gbe × Int) → Option (Int × List (Gbe × Int))
def RcOk (rc : RC) (b : GBk) (pl : List Int) (h : Int) (n : Nat) : Prop := ∀ (k : Int) l, 0 ≤ k → k.toNat < n → InvE b pl l → ∃ l', rc b pl k h l = some (EE b pl h k.toNat, l') ∧ InvE b pl l'
theorem room8 {n : Nat} (h : n ≤ 1000) : aS 8 n = true := by simp [aS]; omega
theorem MW : ∀ (p : List Int) (i c : Int), sn p i c = some (.go (p.foldl max c))
 | [], _, _ => rfl
 | e :: p, i, c => by
  simp only [sn, MW p, List.foldl_cons]
  have : (if c < e then e else c) = max c e := by split <;> omega
  rw [this]
theorem HS {l : List Int} (h : l.length < 9223372036854775808) : qB l = some (mxL l) := by
 unfold qB
 rw [fE h, cond_true, MW]
 rfl
theorem getP {pl : List Int} {n : Nat} {s : Int} (hl : pl.length = n) (h0 : 0 ≤ s) (h1 : s.toNat < n) : getI pl s = some (hF pl s.toNat) := by
 unfold getI hF
 rw [if_pos h0, List.getElem?_eq_getElem (by omega)]
 rfl
theorem vO {rc : RC} {b : GBk} {pl : List Int} {h : Int} {s : Int} {N : Nat} (hp : pl.length = N) (dv : 0 ≤ s) (hs : s.toNat < N) (hN : N ≤ 6) (hrc : RcOk rc b pl h s.toNat) {l : List (Gbe × Int)} (hl : InvE b pl l) :
  ∀ (k0 k : Nat), k < k0 → k ≤ s.toNat → ∃ l', lbind (qF rc b pl s h l k0 ((k : Int) - 1)) (fun r => some r) (fun _ => some (0, l)) (fun _ _ => none) = some (frF (hF pl) (EE b pl h) (hF pl s.toNat) k, l') ∧ InvE b pl l'
 | 0, _, hk, _ => absurd hk (Nat.not_lt_zero _)
 | k0 + 1, 0, _, _ => by
  simp only [qF]
  rw [decide_eq_false (by omega), cond_false]
  exact ⟨l, rfl, hl⟩
 | k0 + 1, k + 1, hk, hks => by
  simp only [qF]
  rw [decide_eq_true (by omega), cond_true, getP hp (by omega) (by omega), getP hp dv hs]
  have e : (((k + 1 : Nat) : Int) - 1).toNat = k := by omega
  simp only [Option.bind_some, e]
  unfold frF
  by_cases hh : hF pl k = hF pl s.toNat
  ·obtain ⟨l', e1, hl'⟩ := hrc (((k + 1 : Nat) : Int) - 1) l (by omega) (by omega) hl
   rw [show (hF pl k == hF pl s.toNat) = true by simpa using hh, cond_true, e1, if_pos hh, e]
   exact ⟨l', rfl, hl'⟩
  ·rw [show (hF pl k == hF pl s.toNat) = false by simpa using hh, cond_false, if_neg hh, fD (by omega) (by omega), show ((k + 1 : Nat) : Int) - 1 - 1 = (k : Int) - 1 by omega]
   exact vO hp dv hs hN hrc hl k0 k (by omega) (by omega)
theorem HT {rc : RC} {b : GBk} {pl : List Int} {h : Int} {s : Int} {N : Nat} (hp : pl.length = N) (dv : 0 ≤ s) (hs : s.toNat < N) (hN : N ≤ 6) (hrc : RcOk rc b pl h s.toNat) {l : List (Gbe × Int)} (hl : InvE b pl l) :
  ∃ l', vD rc b pl s h l = some (FF b pl h s.toNat, l') ∧ InvE b pl l' := by
 unfold vD FF
 have := vO hp dv hs hN hrc hl 1000000 s.toNat (by omega) (Nat.le_refl _)
 rw [fD (by omega) (by omega)]
 rw [show ((s.toNat : Nat) : Int) - 1 = s - 1 by omega] at this
 exact this
theorem MX {rc : RC} {b : GBk} {pl : List Int} {h : Int} {n : Nat} (hrc : RcOk rc b pl h n) : ∀ (p : List Int) (i : Int) (acc : List Int) (l : List (Gbe × Int)), (∀ k ∈ p, 0 ≤ k ∧ k.toNat < n) → acc.length + p.length ≤ 1000 → InvE b pl l →
  ∃ l', mK rc b pl h p i acc l = some (.go (acc ++ p.map (fun k => EE b pl h k.toNat), l')) ∧ InvE b pl l'
 | [], i, acc, l, _, _, hl => ⟨l, by simp [mK], hl⟩
 | k :: p, i, acc, l, hk, hn, hl => by
  have h1 := hk k (List.mem_cons_self ..)
  obtain ⟨l1, e1, ep⟩ := hrc k l h1.1 h1.2 hl
  simp only [mK, e1, Option.bind_some]
  rw [room8 (by simp at hn ⊢; omega), cond_true]
  obtain ⟨l2, e2, fk⟩ := MX hrc p (i + 1) (acc ++ [EE b pl h k.toNat]) l1 (fun k hk' => hk k (List.mem_cons_of_mem _ hk')) (by simp at hn ⊢; omega) ep
  exact ⟨l2, by rw [e2]; simp, fk⟩
theorem HU {rc : RC} {b : GBk} {pl : List Int} {h : Int} {n : Nat} (hrc : RcOk rc b pl h n) {p : List Int} (hk : ∀ k ∈ p, 0 ≤ k ∧ k.toNat < n) (hn : p.length ≤ 1000) {l : List (Gbe × Int)} (hl : InvE b pl l) :
  ∃ l', vB rc b pl p h l = some (p.map (fun k => EE b pl h k.toNat), l') ∧ InvE b pl l' := by
 obtain ⟨l', e, hl'⟩ := MX hrc p 0 [] l hk (by simpa using hn) hl
 unfold vB
 rw [fE (by omega), cond_true, e]
 exact ⟨l', rfl, hl'⟩
theorem vP : ∀ (l : List Int) (a : Int), adjB (a :: l) = true → ∀ m : Int, (∀ k ∈ a :: l, k < m) → (l.length : Int) < m - a
 | [], a, _, m, h => by have := h a (by simp); simp; omega
 | e :: l, a, h, m, hm => by
  have h' : (decide (a < e) && adjB (e :: l)) = true := h
  simp only [Bool.and_eq_true, decide_eq_true_eq] at h'
  have := vP l e h'.2 m (fun k hk => hm k (List.mem_cons_of_mem _ hk))
  simp only [List.length_cons]
  omega
theorem HOk.few {n : Int} {s : GBs} (h : HOk n s) (hn : n ≤ 6) : s.Needs.length ≤ 6 := by
 cases e : s.Needs with
 | nil => simp
 | cons a l =>
  have h1 := h.ad
  rw [e] at h1
  have := vP l a h1 n (fun k hk => (h.nd k (by rw [e]; exact hk)).2)
  have h2 := h.nd a (by rw [e]; simp)
  simp only [List.length_cons]
  omega
theorem getS {b : GBk} {s : Int} (h0 : 0 ≤ s) (h1 : s.toNat < b.Strokes.length) : ∃ x, getI b.Strokes s = some x ∧ b.Strokes[s.toNat]? = some x := by
 refine ⟨b.Strokes[s.toNat], ?_, List.getElem?_eq_getElem h1⟩
 unfold getI
 rw [if_pos h0, List.getElem?_eq_getElem h1]
theorem vQ {rc : RC} {b : GBk} (hb : BH b) {pl : List Int} (hp : pl.length = b.Strokes.length) {h : Int} {s : Int} (dv : 0 ≤ s) (hs : s.toNat < b.Strokes.length) (hrc : RcOk rc b pl h s.toNat) {l : List (Gbe × Int)} (hl : InvE b pl l) :
  ∃ l', sj rc b pl s h l = some (BB b pl h s.toNat, l') ∧ InvE b pl l' := by
 have hns := hb.ns
 obtain ⟨x, e1, e2⟩ := getS dv hs
 have hx := hb.s e2
 have hfew := hx.few (by omega)
 obtain ⟨l1, f1, ep⟩ := HT hp dv hs (by omega) hrc hl
 obtain ⟨l2, f2, fk⟩ := HU hrc (p := x.Needs) (fun k hk => by have := hx.nd k hk; omega) (by omega) ep
 unfold sj
 simp only [f1, e1, f2, Option.bind_some]
 rw [HS (by simp; omega)]
 simp only [Option.bind_some]
 rw [HS (by simp)]
 refine ⟨l2, ?_, fk⟩
 simp only [Option.bind_some, vM, nF, e2]
 rfl
theorem HV {b : GBk} {pl : List Int} {s : Int} (h0 : 0 ≤ s) (h1 : s.toNat < b.Strokes.length) : vE b pl s = some (dF b 0 s.toNat) := by
 obtain ⟨x, e1, e2⟩ := getS h0 h1
 simp [vE, e1, dF, e2]
theorem Sf {b : GBk} {pl : List Int} {s : Int} (h0 : 0 ≤ s) (h1 : s.toNat < b.Strokes.length) : vF b pl s = some (dF b 1 s.toNat) := by
 obtain ⟨x, e1, e2⟩ := getS h0 h1
 simp [vF, e1, dF, e2]
theorem HW {rc : RC} {b : GBk} (hb : BH b) {pl : List Int} (hp : pl.length = b.Strokes.length) {h : Int} (hh : h = 0 ∨ h = 1) {s : Int} (dv : 0 ≤ s) (hs : s.toNat < b.Strokes.length) (hrc : RcOk rc b pl h s.toNat) {l : List (Gbe × Int)} (hl : InvE b pl l) :
  ∃ l', vG rc b pl s h l = some (EE b pl h s.toNat, l') ∧ InvE b pl l' := by
 unfold vG
 cases hm : mapHas dE l ⟨s, h⟩ with
 | true =>
  rw [cond_true, hl.has hm]
  exact ⟨l, rfl, hl⟩
 | false =>
  obtain ⟨l1, e1, ep⟩ := vQ hb hp dv hs hrc hl
  have h1 := BB_b hb pl h hs
  have h2 := hb.d h s.toNat
  rw [cond_false, e1, Option.bind_some]
  rcases hh with rfl | rfl
  ·rw [HV dv hs]
   simp only [Option.bind_some, beq_self_eq_true, cond_true]
   rw [fD (by omega) (by omega), ← EE_eq hb]
   exact ⟨_, rfl, ep.set s 0⟩
  ·rw [Sf dv hs]
   simp only [Option.bind_some, beq_self_eq_true, cond_true, show ((1 : Int) == 0) = false from rfl, cond_false]
   rw [fD (by omega) (by omega), ← EE_eq hb]
   exact ⟨_, rfl, ep.set s 1⟩
theorem qG {b : GBk} (hb : BH b) {pl : List Int} (hp : pl.length = b.Strokes.length) {h : Int} (hh : h = 0 ∨ h = 1) : ∀ (f n : Nat), n ≤ f → n ≤ b.Strokes.length → RcOk (gEnd f) b pl h n
 | 0, n, hn, _ => fun k l h0 h1 hl => absurd h1 (by omega)
 | f + 1, n, hn, hnl => fun k l h0 h1 hl => HW hb hp hh h0 (by omega) (qG hb hp hh f k.toNat (by omega) (by omega)) hl
section
variable {b : GBk} (hb : BH b) {pl : List Int} (hp : pl.length = b.Strokes.length) {h : Int} (hh : h = 0 ∨ h = 1) {l : List (Gbe × Int)} (hl : InvE b pl l)
include hb hp hh hl
theorem pW {s : Int} (h0 : 0 ≤ s) (h1 : s.toNat < b.Strokes.length) : ∃ l', xV b pl s h l = some (EE b pl h s.toNat, l') ∧ InvE b pl l' :=
 qG hb hp hh 8 b.Strokes.length (by have := hb.ns; omega) (Nat.le_refl _) s l h0 h1 hl
theorem Fu {s : Int} (h0 : 0 ≤ s) (h1 : s.toNat < b.Strokes.length) : ∃ l', Fq b pl s h l = some (BB b pl h s.toNat, l') ∧ InvE b pl l' :=
 vQ hb hp h0 h1 (qG hb hp hh 8 s.toNat (by have := hb.ns; omega) (by omega)) hl
end
section
variable {b : GBk} (hb : BH b) {pl : List Int} (hp : pl.length = b.Strokes.length) {l : List (Gbe × Int)} (hl : InvE b pl l)
include hb hp hl
end
theorem vR {b : GBk} (hb : BH b) {pl : List Int} (hp : pl.length = b.Strokes.length) : ∀ (p : List GBs) (i : Nat) (l : List (Gbe × Int)), i + p.length = b.Strokes.length → InvE b pl l →
  ∃ l', qD b pl p i (tkF (EE b pl 1) i) l = some (.go (tkF (EE b pl 1) b.Strokes.length, l')) ∧ InvE b pl l'
 | [], i, l, hi, hl => ⟨l, by simp at hi; subst hi; rfl, hl⟩
 | s :: p, i, l, hi, hl => by
  simp only [List.length_cons] at hi
  obtain ⟨l1, e1, ep⟩ := pW hb hp (.inr rfl) hl (s := i) (by omega) (by omega)
  simp only [qD, e1, Option.bind_some]
  rw [HS (by simp)]
  obtain ⟨l2, e2, fk⟩ := vR hb hp p (i + 1) l1 (by omega) ep
  refine ⟨l2, ?_, fk⟩
  rw [← e2]
  simp only [Option.bind_some, mxL, List.foldl_cons, List.foldl_nil, Int.toNat_natCast]
  have h1 := vk (EE b pl 1) i
  congr 1
  show max (max 0 (tkF (EE b pl 1) i)) (EE b pl 1 i) = max (tkF (EE b pl 1) i) (EE b pl 1 i)
  rw [Int.max_eq_right h1]
def TK (b : GBk) (pl : List Int) : Int := tkF (EE b pl 1) b.Strokes.length
theorem Fm {b : GBk} (hb : BH b) {pl : List Int} (hp : pl.length = b.Strokes.length) {l : List (Gbe × Int)} (hl : InvE b pl l) : ∃ l', pO b pl l = some (TK b pl, l') ∧ InvE b pl l' := by
 obtain ⟨l', e, hl'⟩ := vR hb hp b.Strokes 0 l (by simp) hl
 unfold pO
 rw [fE (by have := hb.ns; omega), cond_true]
 have e' : qD b pl b.Strokes 0 0 l = _ := e
 rw [e']
 exact ⟨l', rfl, hl'⟩
end Go.V
end
section
namespace Go.V
open Go Go.Proofs IntKind





theorem setAF {α : Type} {enc : α → List VV} {w : Nat} {xs : List α} {x : α} {i : Int} (o m : Nat) (he : ∀ x, (enc x).length = w) (hm : o + m ≤ w) (h : getI xs i = some x) : (i.toNat * w + o + m ≤ (ae enc xs).length) = True := by
 have h1 := of_eq_true (setA (w := w) (enc := enc) he h)
 exact eq_true (by omega)
theorem Sg (A X B : List VV) (o : Nat) (cs : List VV) (h : o + cs.length ≤ X.length) : overwrite (A ++ (X ++ B)) (A.length + o) cs = A ++ (overwrite X o cs ++ B) := by
 unfold overwrite
 rw [List.take_append, List.take_of_length_le (Nat.le_add_right _ _), show A.length + o - A.length = o by omega, List.take_append_of_le_length (by omega),
  List.drop_append, List.drop_of_length_le (by omega), List.nil_append, show A.length + o + cs.length - A.length = o + cs.length by omega, List.drop_append_of_le_length h]
 simp only [List.append_assoc]
theorem setBF {α : Type} {enc : α → List VV} {w : Nat} {xs : List α} {x : α} {i : Int} (o : Nat) (cs : List VV) (v : α) (he : ∀ x, (enc x).length = w) (hc : o + cs.length ≤ w) (h : getI xs i = some x) (hv : enc v = overwrite (enc x) o cs) : overwrite (ae enc xs) (i.toNat * w + o) cs = ae enc (xs.set i.toNat v) := by
 obtain ⟨h0, h1, h2⟩ := mi h
 have hn : i.toNat < xs.length := by omega
 have e1 : xs = xs.take i.toNat ++ (x :: xs.drop (i.toNat + 1)) := by
  rw [← h2, List.take_append_drop]
 have e2 : xs.set i.toNat v = xs.take i.toNat ++ (v :: xs.drop (i.toNat + 1)) := by
  rw [List.set_eq_take_append_cons_drop, if_pos hn]
 have hl : (xs.take i.toNat).length = i.toNat := by rw [List.length_take]; omega
 have e3 : ae enc xs = ae enc (xs.take i.toNat) ++ (enc x ++ ae enc (xs.drop (i.toNat + 1))) := by
  conv => lhs; rw [e1, lD]
  rfl
 have e4 : (ae enc (xs.take i.toNat)).length = i.toNat * w := by rw [ej he, hl]
 rw [e3, ← e4, Sg _ _ _ _ _ (by rw [he]; exact hc), ← hv, e2, lD]
 rfl
def ui (xs : List GBs) : Option (List GBs) := cond (neB xs) (cond (aS 56 xs.length) (some xs) none) none
theorem Mk (xs R : List GBs) (h : ui xs = some R) : ak Tryz.prog G0 136 [.sl (ae cGBs xs) xs.length false] (.own (ae cGBs R) R.length 5) := by
 unfold ui at h
 cases hn : neB xs with
 | false => rw [hn] at h; cases h
 | true =>
 cases hr : aS 56 xs.length with
 | false => rw [hn, hr] at h; cases h
 | true =>
 rw [hn, hr] at h
 simp only [cond_true, Option.some.injEq] at h
 subst h
 have hc : ae cGBs xs ≠ [] := by
  cases xs with
  | nil => cases hn
  | cons a l => intro hh; cases hh
 have hnil : ∀ (H : Nat → Option VObj) (x y : Operand), binV Tryz.prog H .eql 23 x y (.sl (ae cGBs xs) xs.length false) (.lit (.slice none 0 0)) = some (.lit (.bool false)) := fun H x y => Lf Tryz.underlying23 hc
 have hb : aL Tryz.prog 23 0 [] = some ([], 5) := by kernel_rfl
 refine ak.run mixed Tryz.call136 Tryz.func136 rfl (by simp [Tryz.ntmps136]; kernel_rfl) ?_
 simp only [vz, tyf, hnil, hb, List.map_nil, seval]
 refine oS (w := 5) (enc := cGBs) (xs := ([] : List GBs)) (ys := xs) (el := some 49) (fun _ => rfl) Gg Gf Tryz.underlying23 rfl hn (by rw [List.nil_append]; exact hr) ?_
 simp only [vz, tyf, List.nil_append, seval]
 refine ⟨rfl, .ref 5 0 xs.length 5 xs.length, by simp [Tryz.results136, resV, resL, aO, upd], (ae cGBs xs).length + 1, 5, _, ae cGBs xs, ⟨_, rfl⟩, by simp only [ba, bj, seval] <;> rfl, kE _ _ (kX.treeL xs) (Nat.lt_succ_self _)⟩
end Go.V
end
