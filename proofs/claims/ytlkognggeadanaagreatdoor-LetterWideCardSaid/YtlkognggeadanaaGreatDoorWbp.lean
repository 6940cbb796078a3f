/- Part of a proof. -/
import Derived.Test.YtlkognggeadanaaGreatDoorWbo
set_option linter.all false
set_option maxRecDepth 4000
set_option maxHeartbeats 40000000
section
namespace Go.V
open Go Go.Proofs
def rP (ae : GLs) (r7 : (List Int) × Int) : List Int → Int → Bool → Option (LOut (Bool) (Bool))
 | [], oG, rQ => some (.go rQ)
 | e3 :: p3, oG, rQ => cond (decide (e3 < 1)) (some (.ret false)) (Option.bind (getI r7.1 oG) (fun x19 => cond (decide (x19 < e3)) (some (.ret false)) (cond (rQ) (rP ae r7 p3 (oG + 1) (decide (e3 ≤ ae.Wide))) (rP ae r7 p3 (oG + 1) false))))
def qI (ae : GLs) (r7 : (List Int) × Int) : List Int → Int → Bool → Option (LOut (Bool) (Bool))
 | [], oH, rR => some (.go rR)
 | e2 :: p2, oH, rR => cond (decide (e2 < 1)) (some (.ret false)) (Option.bind (getI r7.1 oH) (fun x16 => cond (decide (x16 < e2)) (some (.ret false)) (cond (rR) (qI ae r7 p2 (oH + 1) (decide (e2 ≤ ae.Wide))) (qI ae r7 p2 (oH + 1) false))))
def qJ (ae : GLs) (r7 : (List Int) × Int) : List Int → Int → Bool → Option (LOut (Bool) (Bool))
 | [], oI, rS => some (.go rS)
 | e1 :: p1, oI, rS => cond (decide (e1 < 1)) (some (.ret false)) (Option.bind (getI r7.1 oI) (fun FG => cond (decide (FG < e1)) (some (.ret false)) (cond (rS) (qJ ae r7 p1 (oI + 1) (decide (e1 ≤ ae.Wide))) (qJ ae r7 p1 (oI + 1) false))))
def qK (ae : GLs) (r7 : (List Int) × Int) : List Int → Int → Bool → Option (LOut (Bool) (Bool))
 | [], oJ, rT => some (.go rT)
 | e0 :: p0, oJ, rT => cond (decide (e0 < 1)) (some (.ret false)) (Option.bind (getI r7.1 oJ) (fun x9 => cond (decide (x9 < e0)) (some (.ret false)) (cond (rT) (qK ae r7 p0 (oJ + 1) (decide (e0 ≤ ae.Wide))) (qK ae r7 p0 (oJ + 1) false))))
def Dr (ae : GLs) (av : GLx) (bw : Int) (eX : Int) : Option (Bool) := Option.bind (yX ae av) (fun r1 => cond (r1) (Option.bind (vt bw) (fun r2 => cond (r2) (Option.bind (vt eX) (fun r3 => cond (r3) (cond (decide (eX < bw)) (some true) (Option.bind (B7 ae av bw) (fun r4 => Option.bind (BL ae av) (fun r5 => Option.bind (zj ae av bw) (fun r6 => Option.bind (zj ae av eX) (fun r7 => cond (r4.2 != 0) (some false) (cond (r5.2 != 0) (cond (r5.2 != 5) (some false) (cond (r6.2 != 0) (some false) (cond (r7.2 != 0) (some false) (Option.bind (vt r5.1) (fun r8 => cond (r8) (cond (r5.2 == 0) (cond (r4.1 != (decide (bw ≤ r5.1))) (some false) (cond ((List.length r6.1 : Int) != (List.length av.Ends : Int)) (some false) (cond ((List.length r7.1 : Int) != (List.length av.Ends : Int)) (some false) (cond (lenOk r6.1) (lbind (qK ae r7 r6.1 0 (decide ((List.length av.Ends : Int) ≤ ae.Rows))) (fun qx => some qx) (fun mA => cond (r4.1 == mA) (some true) (some false)) (fun _ _ => none)) none)))) (cond (r4.1 != false) (some false) (cond ((List.length r6.1 : Int) != (List.length av.Ends : Int)) (some false) (cond ((List.length r7.1 : Int) != (List.length av.Ends : Int)) (some false) (cond (lenOk r6.1) (lbind (qJ ae r7 r6.1 0 (decide ((List.length av.Ends : Int) ≤ ae.Rows))) (fun td => some td) (fun n0 => cond (r4.1 == n0) (some true) (some false)) (fun _ _ => none)) none))))) (some false)))))) (cond (r6.2 != 0) (some false) (cond (r7.2 != 0) (some false) (Option.bind (vt r5.1) (fun wy => cond (wy) (cond (r5.2 == 0) (cond (r4.1 != (decide (bw ≤ r5.1))) (some false) (cond ((List.length r6.1 : Int) != (List.length av.Ends : Int)) (some false) (cond ((List.length r7.1 : Int) != (List.length av.Ends : Int)) (some false) (cond (lenOk r6.1) (lbind (qI ae r7 r6.1 0 (decide ((List.length av.Ends : Int) ≤ ae.Rows))) (fun FH => some FH) (fun c17 => cond (r4.1 == c17) (some true) (some false)) (fun _ _ => none)) none)))) (cond (r4.1 != false) (some false) (cond ((List.length r6.1 : Int) != (List.length av.Ends : Int)) (some false) (cond ((List.length r7.1 : Int) != (List.length av.Ends : Int)) (some false) (cond (lenOk r6.1) (lbind (rP ae r7 r6.1 0 (decide ((List.length av.Ends : Int) ≤ ae.Rows))) (fun te => some te) (fun c20 => cond (r4.1 == c20) (some true) (some false)) (fun _ _ => none)) none))))) (some false)))))))))))) (some true))) (some true))) (some true))
theorem Z5 (ae : GLs) (av : GLx) (bw : Int) (eX : Int) (R : Bool) (h : Dr ae av bw eX = some R) : ag Tryz.prog G0 6 [.agg (cGLs ae), .agg (cGLx av), .lit (.int .i64 bw), .lit (.int .i64 eX)] (.tree (.lit (.bool R))) := by
 refine ag.runR mixed Tryz.call6 Tryz.func6 rfl (by simp [Tryz.ntmps6]; kernel_rfl) ?_
 obtain ⟨KF, h, kF, kN⟩ := dZ h
 simp only [Dr] at h
 obtain ⟨vA, lG, h⟩ := optI h kN
 try simp only [hs] at h
 simp only [vz, tyf, nm, seval]
 refine ktA (Zf _ _ _ lG) ?_
 refine bt (fun tm => tm 2 = .lit (.int .i64 bw) ∧ tm 3 = .lit (.int .i64 eX) ∧ tm 4 = .ptr 0 0 ∧ tm 5 = .ptr 1 0 ∧ tm 21 = .lit (.bool vA) ∧ True) (by refine ⟨?_, ?_, ?_, ?_, ?_, trivial⟩ <;> first | (simp only [ua, nm, seval] <;> rfl) | rfl) ?_
 rintro tm ⟨cN, cM, cy, cO, eu, _⟩
 cases dL : (vA)
 ·simp only [dL, hs] at h
  simp only [vz, tyf, cN, cM, cy, cO, eu, dL, nm, seval]
  refine ktree0 vv ?_
  try simp only [vz, tyf, cN, cM, cy, cO, eu, dL, nm, seval]
  obtain rfl := kF _ h
  exact bd Tryz.results6 rfl
 simp only [dL, hs] at h
 obtain ⟨AK, Kt, h⟩ := optI h kN
 try simp only [hs] at h
 simp only [vz, tyf, cN, cM, cy, cO, eu, dL, nm, seval]
 refine ktA (FO _ _ Kt) ?_
 refine bt (fun tm => tm 2 = .lit (.int .i64 bw) ∧ tm 3 = .lit (.int .i64 eX) ∧ tm 4 = .ptr 0 0 ∧ tm 5 = .ptr 1 0 ∧ tm 23 = .lit (.bool false) ∧ tm 25 = .lit (.bool AK) ∧ True) (by refine ⟨cN, cM, cy, cO, ?_, ?_, trivial⟩ <;> first | (simp only [ua, cN, cM, cy, cO, eu, dL, nm, seval] <;> rfl) | rfl) ?_
 rintro tm ⟨lM, fX, fu, iu, dj, cF, _⟩
 cases jy : (AK)
 ·simp only [jy, hs] at h
  simp only [vz, tyf, dL, lM, fX, fu, iu, dj, cF, jy, nm, seval]
  refine ktree0 vv ?_
  try simp only [vz, tyf, dL, lM, fX, fu, iu, dj, cF, jy, nm, seval]
  obtain rfl := kF _ h
  exact bd Tryz.results6 rfl
 simp only [jy, hs] at h
 obtain ⟨oL, Qc, h⟩ := optI h kN
 try simp only [hs] at h
 simp only [vz, tyf, dL, lM, fX, fu, iu, dj, cF, jy, nm, seval]
 refine ktA (FO _ _ Qc) ?_
 refine bt (fun tm => tm 2 = .lit (.int .i64 bw) ∧ tm 3 = .lit (.int .i64 eX) ∧ tm 4 = .ptr 0 0 ∧ tm 5 = .ptr 1 0 ∧ tm 28 = .lit (.bool false) ∧ tm 30 = .lit (.bool oL) ∧ True) (by refine ⟨lM, fX, fu, iu, ?_, ?_, trivial⟩ <;> first | (simp only [ua, dL, lM, fX, fu, iu, dj, cF, jy, nm, seval] <;> rfl) | rfl) ?_
 rintro tm ⟨bR, bC, cn, dc, iq, gT, _⟩
 cases fY : (oL)
 ·simp only [fY, hs] at h
  simp only [vz, tyf, dL, jy, bR, bC, cn, dc, iq, gT, fY, nm, seval]
  refine ktree0 vv ?_
  try simp only [vz, tyf, dL, jy, bR, bC, cn, dc, iq, gT, fY, nm, seval]
  obtain rfl := kF _ h
  exact bd Tryz.results6 rfl
 simp only [fY, hs] at h
 cases gS : (decide (eX < bw))
 ·simp only [gS, hs] at h
  obtain ⟨gx, o50, h⟩ := optI h kN
  try simp only [hs] at h
  simp only [vz, tyf, dL, jy, bR, bC, cn, dc, iq, gT, fY, gS, nm, seval]
  refine ktA (Zv _ _ _ _ o50) ?_
  refine bt (fun tm => tm 2 = .lit (.int .i64 bw) ∧ tm 3 = .lit (.int .i64 eX) ∧ tm 4 = .ptr 0 0 ∧ tm 5 = .ptr 1 0 ∧ tm 43 = .tup [.lit (.bool gx.1), .lit (.int .i64 gx.2)] ∧ True) (by refine ⟨bR, bC, cn, dc, ?_, trivial⟩ <;> first | (simp only [ua, dL, jy, bR, bC, cn, dc, iq, gT, fY, gS, nm, seval] <;> rfl) | rfl) ?_
  rintro tm ⟨jK, m6, qG, iX, lB, _⟩
  obtain ⟨mQ, o57, h⟩ := optI h kN
  try simp only [hs] at h
  simp only [vz, tyf, dL, jy, fY, gS, jK, m6, qG, iX, lB, nm, seval]
  refine ktA (zkz _ _ _ o57) ?_
  refine bt (fun tm => tm 2 = .lit (.int .i64 bw) ∧ tm 3 = .lit (.int .i64 eX) ∧ tm 4 = .ptr 0 0 ∧ tm 5 = .ptr 1 0 ∧ tm 9 = .lit (.bool gx.1) ∧ tm 10 = .lit (.int .i64 gx.2) ∧ tm 49 = .tup [.lit (.int .i64 mQ.1), .lit (.int .i64 mQ.2)] ∧ True) (by refine ⟨jK, m6, qG, iX, ?_, ?_, ?_, trivial⟩ <;> first | (simp only [ua, dL, jy, fY, gS, jK, m6, qG, iX, lB, nm, seval] <;> rfl) | rfl) ?_
  rintro tm ⟨l9, lW, nj, nk, fx, f2, gp, _⟩
  obtain ⟨cA, o66, h⟩ := optI h kN
  try simp only [hs] at h
  simp only [vz, tyf, dL, jy, fY, gS, l9, lW, nj, nk, fx, f2, gp, nm, seval]
  refine ktA (V9 _ _ _ _ o66) ?_
  refine bt (fun tm => tm 2 = .lit (.int .i64 bw) ∧ tm 3 = .lit (.int .i64 eX) ∧ tm 4 = .ptr 0 0 ∧ tm 5 = .ptr 1 0 ∧ tm 9 = .lit (.bool gx.1) ∧ tm 10 = .lit (.int .i64 gx.2) ∧ tm 11 = .lit (.int .i64 mQ.1) ∧ tm 12 = .lit (.int .i64 mQ.2) ∧ tm 56 = .tup [.sl (ad eI cA.1) (List.length cA.1) false, .lit (.int .i64 cA.2)] ∧ True) (by refine ⟨l9, lW, nj, nk, fx, f2, ?_, ?_, ?_, trivial⟩ <;> first | (simp only [ua, dL, jy, fY, gS, l9, lW, nj, nk, fx, f2, gp, nm, seval] <;> rfl) | rfl) ?_
  rintro tm ⟨kn, pL, oz, fc, lA, kL, oA, ia, iw, _⟩
  obtain ⟨fz, o77, h⟩ := optI h kN
  try simp only [hs] at h
  simp only [vz, tyf, dL, jy, fY, gS, kn, pL, oz, fc, lA, kL, oA, ia, iw, nm, seval]
  refine ktA (V9 _ _ _ _ o77) ?_
  refine bt (fun tm => tm 2 = .lit (.int .i64 bw) ∧ tm 4 = .ptr 0 0 ∧ tm 5 = .ptr 1 0 ∧ tm 9 = .lit (.bool gx.1) ∧ tm 10 = .lit (.int .i64 gx.2) ∧ tm 11 = .lit (.int .i64 mQ.1) ∧ tm 12 = .lit (.int .i64 mQ.2) ∧ tm 13 = .sl (ad eI cA.1) (List.length cA.1) false ∧ tm 14 = .lit (.int .i64 cA.2) ∧ tm 63 = .tup [.sl (ad eI fz.1) (List.length fz.1) false, .lit (.int .i64 fz.2)] ∧ True) (by refine ⟨kn, oz, fc, lA, kL, oA, ia, ?_, ?_, ?_, trivial⟩ <;> first | (simp only [ua, dL, jy, fY, gS, kn, pL, oz, fc, lA, kL, oA, ia, iw, nm, seval] <;> rfl) | rfl) ?_
  rintro tm ⟨cK, bE, bN, bK, bL, cz, cG, cj, bW, cl, _⟩
  cases xM : (gx.2 != 0)
  ·simp only [xM, hs] at h
   cases oW : (mQ.2 != 0)
   ·simp only [oW, hs] at h
    cases qU : (cA.2 != 0)
    ·simp only [qU, hs] at h
     have qL := And.intro dL (And.intro jy (And.intro fY (And.intro gS (And.intro xM (And.intro oW qU)))))
     cases iI : (fz.2 != 0)
     ·simp only [iI, hs] at h
      obtain ⟨AQ, vg, h⟩ := optI h kN
      try simp only [hs] at h
      simp only [vz, tyf, qL, cK, bE, bN, bK, bL, cz, cG, cj, bW, cl, iI, nm, seval]
      refine ktA (FO _ _ vg) ?_
      refine bt (fun tm => tm 2 = .lit (.int .i64 bw) ∧ tm 4 = .ptr 0 0 ∧ tm 5 = .ptr 1 0 ∧ tm 9 = .lit (.bool gx.1) ∧ tm 11 = .lit (.int .i64 mQ.1) ∧ tm 12 = .lit (.int .i64 mQ.2) ∧ tm 13 = .sl (ad eI cA.1) (List.length cA.1) false ∧ tm 15 = .sl (ad eI fz.1) (List.length fz.1) false ∧ tm 84 = .lit (.bool false) ∧ tm 86 = .lit (.bool AQ) ∧ True) (by refine ⟨cK, bE, bN, bK, cz, cG, cj, ?_, ?_, ?_, trivial⟩ <;> first | (simp only [ua, qL, cK, bE, bN, bK, bL, cz, cG, cj, bW, cl, iI, nm, seval] <;> rfl) | rfl) ?_
      rintro tm ⟨m8, lP, na, lD, mC, gv, fG, fH, jz, j0, _⟩
      cases gf : (AQ)
      ·simp only [gf, hs] at h
       try simp only [vz, tyf, qL, iI, m8, lP, na, lD, mC, gv, fG, fH, jz, j0, gf, nm, seval]
       obtain rfl := kF _ h
       exact bd Tryz.results6 rfl
      simp only [gf, hs] at h
      cases jV : (mQ.2 == 0)
      ·simp only [jV, hs] at h
       cases pQ : (gx.1 != false)
       ·simp only [pQ, hs] at h
        cases rU : ((List.length cA.1 : Int) != (List.length av.Ends : Int))
        ·simp only [rU, hs] at h
         cases uz : ((List.length fz.1 : Int) != (List.length av.Ends : Int))
         ·simp only [uz, hs] at h
          have lx := And.intro qL (And.intro iI (And.intro gf (And.intro jV (And.intro pQ (And.intro rU uz)))))
          cases jW : (lenOk cA.1)
          ·simp only [jW, hs] at h
           exact absurd h kN
          simp only [jW, hs] at h
          simp only [vz, tyf, lx, m8, lP, na, lD, mC, gv, fG, fH, jz, j0, jW, nm, seval]
          obtain ⟨Qd, h, vG, Ds, Xd, Dt⟩ := fP h kN
          obtain ⟨Qe, Du, h⟩ := call3 h
          obtain ⟨Qf, oM⟩ : ∃ I : Nat → St → Prop, I = (fun m st => ∃ (jX : List Int) (cW : Int) (fj : Bool), m = List.length jX ∧ 0 ≤ cW ∧ List.drop (Int.toNat cW) cA.1 = jX ∧ st.df = [] ∧ 115 ≤ st.nx ∧ st.H 0 = some (.cells (some 28) (cGLs ae)) ∧ st.tm 4 = .ptr 0 0 ∧ st.tm 9 = .lit (.bool gx.1) ∧ st.tm 13 = .sl (ad eI cA.1) (List.length cA.1) false ∧ st.tm 15 = .sl (ad eI fz.1) (List.length fz.1) false ∧ st.tm 17 = .lit (.bool fj) ∧ st.tm 18 = .lit (.int .i64 cW) ∧ Qd (Qe jX cW fj)) := ⟨_, rfl⟩
          refine loopK mixed (by kernel_rfl) Qf (List.length cA.1) (by rw [oM]; refine ⟨cA.1, 0, decide ((List.length av.Ends : Int) ≤ ae.Rows), rfl, Int.le_refl _, rfl, rfl, (show 115 ≤ 115 by omega), ?_, lP, lD, fG, fH, ?_, ?_, h⟩ <;> first | (simp only [ua, lx, m8, lP, na, lD, mC, gv, fG, fH, jz, j0, nm, seval] <;> rfl) | rfl) ?_
          rintro m ⟨tm, H, rV, df⟩ hinv
          rw [oM] at hinv
          obtain ⟨jX, cW, fj, rfl, iC, k9, hdf, Dv, ml, n2, n3, n4, n5, n6, nA, h⟩ := hinv
          simp only at hdf Dv ml n2 n3 n4 n5 n6 nA
          have nB := fO (m := 115) (b := rV) (by omega)
          subst hdf Du
          cases jX with
          | nil =>
           have nq : (decide (cW < (List.length cA.1 : Int))) = false := eZ iC k9
           simp only [qK, qJ, qI, rP, hs, reduceCtorEq] at h
           replace h := Ds _ h
           try dsimp only at h
           try simp only [hs] at h
           cases kQ : (gx.1 == fj)
           ·simp only [kQ, hs] at h
            try simp only [vz, tyf, lx, jW, nB, n2, n3, n4, n5, n6, nA, ml, nq, kQ, nm, seval]
            obtain rfl := kF _ h
            exact bd Tryz.results6 rfl
           simp only [kQ, hs] at h
           simp only [vz, tyf, lx, jW, nB, n2, n3, n4, n5, n6, nA, ml, nq, kQ, nm, seval]
           refine ktree0 vv ?_
           try simp only [vz, tyf, lx, jW, nB, n2, n3, n4, n5, n6, nA, ml, nq, kQ, nm, seval]
           obtain rfl := kF _ h
           exact bd Tryz.results6 rfl
          | cons xN jX =>
           have u3 : (decide (cW < (List.length cA.1 : Int))) = true := eY iC k9
           have pR := dY iC k9
           have u4 := fa iC k9 jW
           simp only [qK, qJ, qI, rP, hs, reduceCtorEq] at h
           simp only [vz, tyf, lx, jW, nB, n2, n3, n4, n5, n6, nA, ml, u3, (au pR), u4, nm, seval]
           refine kl (fun tm => tm 4 = .ptr 0 0 ∧ tm 9 = .lit (.bool gx.1) ∧ tm 13 = .sl (ad eI cA.1) (List.length cA.1) false ∧ tm 15 = .sl (ad eI fz.1) (List.length fz.1) false ∧ tm 17 = .lit (.bool fj) ∧ tm 18 = .lit (.int .i64 cW) ∧ True) (by refine ⟨n2, n3, n4, n5, n6, nA, trivial⟩ <;> first | (simp only [ua, lx, nB, n2, n3, n4, n5, n6, nA, ml, u3, u4, nm, seval] <;> rfl) | rfl) ?_
           rintro tm ⟨rW, iL, iM, iN, iO, iP, _⟩
           cases u5 : (decide (xN < 1))
           ·simp only [u5, hs] at h
            have ly := And.intro lx (And.intro jW (And.intro nB (And.intro ml (And.intro u3 (And.intro u4 u5)))))
            obtain ⟨Qg, u6, h⟩ := optI h Dt
            try simp only [hs] at h
            cases j1 : (decide (Qg < xN))
            ·simp only [j1, hs] at h
             simp only [vz, tyf, ly, (au pR), rW, iL, iM, iN, iO, iP, (au u6), j1, nm, seval]
             refine kl (fun tm => tm 4 = .ptr 0 0 ∧ tm 9 = .lit (.bool gx.1) ∧ tm 13 = .sl (ad eI cA.1) (List.length cA.1) false ∧ tm 15 = .sl (ad eI fz.1) (List.length fz.1) false ∧ tm 17 = .lit (.bool fj) ∧ tm 18 = .lit (.int .i64 cW) ∧ True) (by refine ⟨rW, iL, iM, iN, iO, iP, trivial⟩ <;> first | (simp only [ua, ly, rW, iL, iM, iN, iO, iP, j1, nm, seval] <;> rfl) | rfl) ?_
             rintro tm ⟨pS, dg, pT, pU, u7, u9, _⟩
             cases mm : (fj)
             ·simp only [mm, hs] at h
              simp only [vz, tyf, ly, (au pR), (au u6), j1, pS, dg, pT, pU, u7, u9, mm, nm, seval]
              exact ⟨List.length jX, Nat.lt_succ_self _, by rw [oM]; refine ⟨jX, cW + 1, false, rfl, Int.le_trans iC (Int.le_add_one (Int.le_refl _)), bJ iC k9, rfl, (show 115 ≤ rV + 34 by omega), ?_, pS, dg, pT, pU, ?_, ?_, (by first | exact h | (simp only [ly, j1, mm]; exact h))⟩ <;> first | (simp only [ua, ly, j1, pS, dg, pT, pU, u7, u9, mm, nm, seval] <;> rfl) | rfl⟩
             simp only [mm, hs] at h
             simp only [vz, tyf, ly, (au pR), (au u6), j1, pS, dg, pT, pU, u7, u9, mm, nm, seval]
             exact ⟨List.length jX, Nat.lt_succ_self _, by rw [oM]; refine ⟨jX, cW + 1, decide (xN ≤ ae.Wide), rfl, Int.le_trans iC (Int.le_add_one (Int.le_refl _)), bJ iC k9, rfl, (show 115 ≤ rV + 34 by omega), ?_, pS, dg, pT, pU, ?_, ?_, (by first | exact h | (simp only [ly, j1, mm]; exact h))⟩ <;> first | (simp only [ua, ly, j1, pS, dg, pT, pU, u7, u9, mm, nm, seval] <;> rfl) | rfl⟩
            simp only [j1, hs] at h
            try simp only [vz, tyf, ly, (au pR), rW, iL, iM, iN, iO, iP, (au u6), j1, nm, seval]
            replace h := vG _ h
            try dsimp only at h
            obtain rfl := kF _ h
            exact bd Tryz.results6 rfl
           simp only [u5, hs] at h
           have Qh := And.intro lx (And.intro jW (And.intro nB (And.intro ml (And.intro u3 (And.intro u4 u5)))))
           try simp only [vz, tyf, Qh, (au pR), rW, iL, iM, iN, iO, iP, nm, seval]
           replace h := vG _ h
           try dsimp only at h
           obtain rfl := kF _ h
           exact bd Tryz.results6 rfl
         simp only [uz, hs] at h
         have Qi := And.intro qL (And.intro iI (And.intro gf (And.intro jV (And.intro pQ (And.intro rU uz)))))
         try simp only [vz, tyf, Qi, m8, lP, na, lD, mC, gv, fG, fH, jz, j0, nm, seval]
         obtain rfl := kF _ h
         exact bd Tryz.results6 rfl
        simp only [rU, hs] at h
        try simp only [vz, tyf, qL, iI, m8, lP, na, lD, mC, gv, fG, fH, jz, j0, gf, jV, pQ, rU, nm, seval]
        obtain rfl := kF _ h
        exact bd Tryz.results6 rfl
       simp only [pQ, hs] at h
       try simp only [vz, tyf, qL, iI, m8, lP, na, lD, mC, gv, fG, fH, jz, j0, gf, jV, pQ, nm, seval]
       obtain rfl := kF _ h
       exact bd Tryz.results6 rfl
      simp only [jV, hs] at h
      cases pV : (gx.1 != (decide (bw ≤ mQ.1)))
      ·simp only [pV, hs] at h
       cases rX : ((List.length cA.1 : Int) != (List.length av.Ends : Int))
       ·simp only [rX, hs] at h
        cases uA : ((List.length fz.1 : Int) != (List.length av.Ends : Int))
        ·simp only [uA, hs] at h
         have lz := And.intro qL (And.intro iI (And.intro gf (And.intro jV (And.intro pV (And.intro rX uA)))))
         cases jY : (lenOk cA.1)
         ·simp only [jY, hs] at h
          exact absurd h kN
         simp only [jY, hs] at h
         simp only [vz, tyf, lz, m8, lP, na, lD, mC, gv, fG, fH, jz, j0, jY, nm, seval]
         obtain ⟨Qj, h, vH, Dw, Xe, Dx⟩ := fP h kN
         obtain ⟨Qk, Dy, h⟩ := call3 h
         obtain ⟨Ql, oN⟩ : ∃ I : Nat → St → Prop, I = (fun m st => ∃ (jZ : List Int) (cX : Int) (fk : Bool), m = List.length jZ ∧ 0 ≤ cX ∧ List.drop (Int.toNat cX) cA.1 = jZ ∧ st.df = [] ∧ 115 ≤ st.nx ∧ st.H 0 = some (.cells (some 28) (cGLs ae)) ∧ st.tm 4 = .ptr 0 0 ∧ st.tm 9 = .lit (.bool gx.1) ∧ st.tm 13 = .sl (ad eI cA.1) (List.length cA.1) false ∧ st.tm 15 = .sl (ad eI fz.1) (List.length fz.1) false ∧ st.tm 17 = .lit (.bool fk) ∧ st.tm 18 = .lit (.int .i64 cX) ∧ Qj (Qk jZ cX fk)) := ⟨_, rfl⟩
         refine loopK mixed (by kernel_rfl) Ql (List.length cA.1) (by rw [oN]; refine ⟨cA.1, 0, decide ((List.length av.Ends : Int) ≤ ae.Rows), rfl, Int.le_refl _, rfl, rfl, (show 115 ≤ 115 by omega), ?_, lP, lD, fG, fH, ?_, ?_, h⟩ <;> first | (simp only [ua, lz, m8, lP, na, lD, mC, gv, fG, fH, jz, j0, nm, seval] <;> rfl) | rfl) ?_
         rintro m ⟨tm, H, rY, df⟩ hinv
         rw [oN] at hinv
         obtain ⟨jZ, cX, fk, rfl, iD, kE, hdf, Dz, mn, bX, bY, bZ, cD, nC, nD, h⟩ := hinv
         simp only at hdf Dz mn bX bY bZ cD nC nD
         have eL := fO (m := 115) (b := rY) (by omega)
         subst hdf Dy
         cases jZ with
         | nil =>
          have xO : (decide (cX < (List.length cA.1 : Int))) = false := eZ iD kE
          simp only [qK, qJ, qI, rP, hs, reduceCtorEq] at h
          replace h := Dw _ h
          try dsimp only at h
          try simp only [hs] at h
          cases rZ : (gx.1 == fk)
          ·simp only [rZ, hs] at h
           try simp only [vz, tyf, lz, jY, eL, bX, bY, bZ, cD, nC, nD, mn, xO, rZ, nm, seval]
           obtain rfl := kF _ h
           exact bd Tryz.results6 rfl
          simp only [rZ, hs] at h
          simp only [vz, tyf, lz, jY, eL, bX, bY, bZ, cD, nC, nD, mn, xO, rZ, nm, seval]
          refine ktree0 vv ?_
          try simp only [vz, tyf, lz, jY, eL, bX, bY, bZ, cD, nC, nD, mn, xO, rZ, nm, seval]
          obtain rfl := kF _ h
          exact bd Tryz.results6 rfl
         | cons cC jZ =>
          have uB : (decide (cX < (List.length cA.1 : Int))) = true := eY iD kE
          have pW := dY iD kE
          have uC := fa iD kE jY
          simp only [qK, qJ, qI, rP, hs, reduceCtorEq] at h
          simp only [vz, tyf, lz, jY, eL, bX, bY, bZ, cD, nC, nD, mn, uB, (au pW), uC, nm, seval]
          refine kl (fun tm => tm 4 = .ptr 0 0 ∧ tm 9 = .lit (.bool gx.1) ∧ tm 13 = .sl (ad eI cA.1) (List.length cA.1) false ∧ tm 15 = .sl (ad eI fz.1) (List.length fz.1) false ∧ tm 17 = .lit (.bool fk) ∧ tm 18 = .lit (.int .i64 cX) ∧ True) (by refine ⟨bX, bY, bZ, cD, nC, nD, trivial⟩ <;> first | (simp only [ua, lz, eL, bX, bY, bZ, cD, nC, nD, mn, uB, uC, nm, seval] <;> rfl) | rfl) ?_
          rintro tm ⟨sa, sb, sc, sd, se, sf, _⟩
          cases uD : (decide (cC < 1))
          ·simp only [uD, hs] at h
           have l3 := And.intro lz (And.intro jY (And.intro eL (And.intro mn (And.intro uB (And.intro uC uD)))))
           obtain ⟨Qm, uE, h⟩ := optI h Dx
           try simp only [hs] at h
           cases j2 : (decide (Qm < cC))
           ·simp only [j2, hs] at h
            simp only [vz, tyf, l3, (au pW), sa, sb, sc, sd, se, sf, (au uE), j2, nm, seval]
            refine kl (fun tm => tm 4 = .ptr 0 0 ∧ tm 9 = .lit (.bool gx.1) ∧ tm 13 = .sl (ad eI cA.1) (List.length cA.1) false ∧ tm 15 = .sl (ad eI fz.1) (List.length fz.1) false ∧ tm 17 = .lit (.bool fk) ∧ tm 18 = .lit (.int .i64 cX) ∧ True) (by refine ⟨sa, sb, sc, sd, se, sf, trivial⟩ <;> first | (simp only [ua, l3, sa, sb, sc, sd, se, sf, j2, nm, seval] <;> rfl) | rfl) ?_
            rintro tm ⟨pZ, qa, qb, qc, uF, uG, _⟩
            cases mo : (fk)
            ·simp only [mo, hs] at h
             simp only [vz, tyf, l3, (au pW), (au uE), j2, pZ, qa, qb, qc, uF, uG, mo, nm, seval]
             exact ⟨List.length jZ, Nat.lt_succ_self _, by rw [oN]; refine ⟨jZ, cX + 1, false, rfl, Int.le_trans iD (Int.le_add_one (Int.le_refl _)), bJ iD kE, rfl, (show 115 ≤ rY + 34 by omega), ?_, pZ, qa, qb, qc, ?_, ?_, (by first | exact h | (simp only [l3, j2, mo]; exact h))⟩ <;> first | (simp only [ua, l3, j2, pZ, qa, qb, qc, uF, uG, mo, nm, seval] <;> rfl) | rfl⟩
            simp only [mo, hs] at h
            simp only [vz, tyf, l3, (au pW), (au uE), j2, pZ, qa, qb, qc, uF, uG, mo, nm, seval]
            exact ⟨List.length jZ, Nat.lt_succ_self _, by rw [oN]; refine ⟨jZ, cX + 1, decide (cC ≤ ae.Wide), rfl, Int.le_trans iD (Int.le_add_one (Int.le_refl _)), bJ iD kE, rfl, (show 115 ≤ rY + 34 by omega), ?_, pZ, qa, qb, qc, ?_, ?_, (by first | exact h | (simp only [l3, j2, mo]; exact h))⟩ <;> first | (simp only [ua, l3, j2, pZ, qa, qb, qc, uF, uG, mo, nm, seval] <;> rfl) | rfl⟩
           simp only [j2, hs] at h
           try simp only [vz, tyf, l3, (au pW), sa, sb, sc, sd, se, sf, (au uE), j2, nm, seval]
           replace h := vH _ h
           try dsimp only at h
           obtain rfl := kF _ h
           exact bd Tryz.results6 rfl
          simp only [uD, hs] at h
          have Qn := And.intro lz (And.intro jY (And.intro eL (And.intro mn (And.intro uB (And.intro uC uD)))))
          try simp only [vz, tyf, Qn, (au pW), sa, sb, sc, sd, se, sf, nm, seval]
          replace h := vH _ h
          try dsimp only at h
          obtain rfl := kF _ h
          exact bd Tryz.results6 rfl
        simp only [uA, hs] at h
        have Qo := And.intro qL (And.intro iI (And.intro gf (And.intro jV (And.intro pV (And.intro rX uA)))))
        try simp only [vz, tyf, Qo, m8, lP, na, lD, mC, gv, fG, fH, jz, j0, nm, seval]
        obtain rfl := kF _ h
        exact bd Tryz.results6 rfl
       simp only [rX, hs] at h
       try simp only [vz, tyf, qL, iI, m8, lP, na, lD, mC, gv, fG, fH, jz, j0, gf, jV, pV, rX, nm, seval]
       obtain rfl := kF _ h
       exact bd Tryz.results6 rfl
      simp only [pV, hs] at h
      try simp only [vz, tyf, qL, iI, m8, lP, na, lD, mC, gv, fG, fH, jz, j0, gf, jV, pV, nm, seval]
      obtain rfl := kF _ h
      exact bd Tryz.results6 rfl
     simp only [iI, hs] at h
     try simp only [vz, tyf, qL, cK, bE, bN, bK, bL, cz, cG, cj, bW, cl, iI, nm, seval]
     obtain rfl := kF _ h
     exact bd Tryz.results6 rfl
    simp only [qU, hs] at h
    have hT := And.intro dL (And.intro jy (And.intro fY (And.intro gS (And.intro xM (And.intro oW qU)))))
    try simp only [vz, tyf, hT, cK, bE, bN, bK, bL, cz, cG, cj, bW, cl, nm, seval]
    obtain rfl := kF _ h
    exact bd Tryz.results6 rfl
   simp only [oW, hs] at h
   cases uH : (mQ.2 != 5)
   ·simp only [uH, hs] at h
    have eg := And.intro dL (And.intro jy (And.intro fY (And.intro gS (And.intro xM (And.intro oW uH)))))
    cases ib : (cA.2 != 0)
    ·simp only [ib, hs] at h
     cases gh : (fz.2 != 0)
     ·simp only [gh, hs] at h
      obtain ⟨D0, xq, h⟩ := optI h kN
      try simp only [hs] at h
      simp only [vz, tyf, eg, cK, bE, bN, bK, bL, cz, cG, cj, bW, cl, ib, gh, nm, seval]
      refine ktA (FO _ _ xq) ?_
      refine bt (fun tm => tm 2 = .lit (.int .i64 bw) ∧ tm 4 = .ptr 0 0 ∧ tm 5 = .ptr 1 0 ∧ tm 9 = .lit (.bool gx.1) ∧ tm 11 = .lit (.int .i64 mQ.1) ∧ tm 12 = .lit (.int .i64 mQ.2) ∧ tm 13 = .sl (ad eI cA.1) (List.length cA.1) false ∧ tm 15 = .sl (ad eI fz.1) (List.length fz.1) false ∧ tm 84 = .lit (.bool false) ∧ tm 86 = .lit (.bool D0) ∧ True) (by refine ⟨cK, bE, bN, bK, cz, cG, cj, ?_, ?_, ?_, trivial⟩ <;> first | (simp only [ua, eg, cK, bE, bN, bK, bL, cz, cG, cj, bW, cl, ib, gh, nm, seval] <;> rfl) | rfl) ?_
      rintro tm ⟨j3, ic, j4, ie, j5, j6, ig, ij, j7, j8, _⟩
      cases l5 : (D0)
      ·simp only [l5, hs] at h
       try simp only [vz, tyf, eg, ib, gh, j3, ic, j4, ie, j5, j6, ig, ij, j7, j8, l5, nm, seval]
       obtain rfl := kF _ h
       exact bd Tryz.results6 rfl
      simp only [l5, hs] at h
      cases mr : (mQ.2 == 0)
      ·simp only [mr, hs] at h
       cases si : (gx.1 != false)
       ·simp only [si, hs] at h
        cases uI : ((List.length cA.1 : Int) != (List.length av.Ends : Int))
        ·simp only [uI, hs] at h
         have mu := And.intro eg (And.intro ib (And.intro gh (And.intro l5 (And.intro mr (And.intro si uI)))))
         cases ka : ((List.length fz.1 : Int) != (List.length av.Ends : Int))
         ·simp only [ka, hs] at h
          cases mw : (lenOk cA.1)
          ·simp only [mw, hs] at h
           exact absurd h kN
          simp only [mw, hs] at h
          simp only [vz, tyf, mu, j3, ic, j4, ie, j5, j6, ig, ij, j7, j8, ka, mw, nm, seval]
          obtain ⟨Qq, h, vI, D1, Xf, D2⟩ := fP h kN
          obtain ⟨Qr, D3, h⟩ := call3 h
          obtain ⟨Qs, oO⟩ : ∃ I : Nat → St → Prop, I = (fun m st => ∃ (kc : List Int) (cY : Int) (fm : Bool), m = List.length kc ∧ 0 ≤ cY ∧ List.drop (Int.toNat cY) cA.1 = kc ∧ st.df = [] ∧ 115 ≤ st.nx ∧ st.H 0 = some (.cells (some 28) (cGLs ae)) ∧ st.tm 4 = .ptr 0 0 ∧ st.tm 9 = .lit (.bool gx.1) ∧ st.tm 13 = .sl (ad eI cA.1) (List.length cA.1) false ∧ st.tm 15 = .sl (ad eI fz.1) (List.length fz.1) false ∧ st.tm 17 = .lit (.bool fm) ∧ st.tm 18 = .lit (.int .i64 cY) ∧ Qq (Qr kc cY fm)) := ⟨_, rfl⟩
          refine loopK mixed (by kernel_rfl) Qs (List.length cA.1) (by rw [oO]; refine ⟨cA.1, 0, decide ((List.length av.Ends : Int) ≤ ae.Rows), rfl, Int.le_refl _, rfl, rfl, (show 115 ≤ 115 by omega), ?_, ic, ie, ig, ij, ?_, ?_, h⟩ <;> first | (simp only [ua, mu, j3, ic, j4, ie, j5, j6, ig, ij, j7, j8, ka, nm, seval] <;> rfl) | rfl) ?_
          rintro m ⟨tm, H, sj, df⟩ hinv
          rw [oO] at hinv
          obtain ⟨kc, cY, fm, rfl, iE, kG, hdf, D4, qd, nE, nF, nG, nH, nI, nJ, h⟩ := hinv
          simp only at hdf D4 qd nE nF nG nH nI nJ
          have sk := fO (m := 115) (b := sj) (by omega)
          subst hdf D3
          cases kc with
          | nil =>
           have D5 : (decide (cY < (List.length cA.1 : Int))) = false := eZ iE kG
           simp only [qK, qJ, qI, rP, hs, reduceCtorEq] at h
           replace h := D1 _ h
           try dsimp only at h
           try simp only [hs] at h
           cases uJ : (gx.1 == fm)
           ·simp only [uJ, hs] at h
            have Qt := And.intro mu (And.intro ka (And.intro mw (And.intro sk (And.intro qd (And.intro D5 uJ)))))
            try simp only [vz, tyf, Qt, nE, nF, nG, nH, nI, nJ, nm, seval]
            obtain rfl := kF _ h
            exact bd Tryz.results6 rfl
           simp only [uJ, hs] at h
           have D6 := And.intro mu (And.intro ka (And.intro mw (And.intro sk (And.intro qd (And.intro D5 uJ)))))
           simp only [vz, tyf, D6, nE, nF, nG, nH, nI, nJ, nm, seval]
           refine ktree0 vv ?_
           try simp only [vz, tyf, D6, nE, nF, nG, nH, nI, nJ, nm, seval]
           obtain rfl := kF _ h
           exact bd Tryz.results6 rfl
          | cons xP kc =>
           have xQ : (decide (cY < (List.length cA.1 : Int))) = true := eY iE kG
           have qe := dY iE kG
           have xR := fa iE kG mw
           simp only [qK, qJ, qI, rP, hs, reduceCtorEq] at h
           simp only [vz, tyf, mu, ka, mw, sk, nE, nF, nG, nH, nI, nJ, qd, xQ, (au qe), xR, nm, seval]
           refine kl (fun tm => tm 4 = .ptr 0 0 ∧ tm 9 = .lit (.bool gx.1) ∧ tm 13 = .sl (ad eI cA.1) (List.length cA.1) false ∧ tm 15 = .sl (ad eI fz.1) (List.length fz.1) false ∧ tm 17 = .lit (.bool fm) ∧ tm 18 = .lit (.int .i64 cY) ∧ True) (by refine ⟨nE, nF, nG, nH, nI, nJ, trivial⟩ <;> first | (simp only [ua, mu, ka, sk, nE, nF, nG, nH, nI, nJ, qd, xQ, xR, nm, seval] <;> rfl) | rfl) ?_
           rintro tm ⟨sm, sn, so, sq, ss, su, _⟩
           have ke := And.intro mu (And.intro ka (And.intro mw (And.intro sk (And.intro qd (And.intro xQ xR)))))
           cases iT : (decide (xP < 1))
           ·simp only [iT, hs] at h
            obtain ⟨Qu, uK, h⟩ := optI h D2
            try simp only [hs] at h
            cases j9 : (decide (Qu < xP))
            ·simp only [j9, hs] at h
             simp only [vz, tyf, ke, (au qe), sm, sn, so, sq, ss, su, iT, (au uK), j9, nm, seval]
             refine kl (fun tm => tm 4 = .ptr 0 0 ∧ tm 9 = .lit (.bool gx.1) ∧ tm 13 = .sl (ad eI cA.1) (List.length cA.1) false ∧ tm 15 = .sl (ad eI fz.1) (List.length fz.1) false ∧ tm 17 = .lit (.bool fm) ∧ tm 18 = .lit (.int .i64 cY) ∧ True) (by refine ⟨sm, sn, so, sq, ss, su, trivial⟩ <;> first | (simp only [ua, ke, sm, sn, so, sq, ss, su, iT, j9, nm, seval] <;> rfl) | rfl) ?_
             rintro tm ⟨qf, qg, qh, qi, uL, uM, _⟩
             cases my : (fm)
             ·simp only [my, hs] at h
              simp only [vz, tyf, ke, (au qe), iT, (au uK), j9, qf, qg, qh, qi, uL, uM, my, nm, seval]
              exact ⟨List.length kc, Nat.lt_succ_self _, by rw [oO]; refine ⟨kc, cY + 1, false, rfl, Int.le_trans iE (Int.le_add_one (Int.le_refl _)), bJ iE kG, rfl, (show 115 ≤ sj + 34 by omega), ?_, qf, qg, qh, qi, ?_, ?_, (by first | exact h | (simp only [ke, iT, j9, my]; exact h))⟩ <;> first | (simp only [ua, ke, iT, j9, qf, qg, qh, qi, uL, uM, my, nm, seval] <;> rfl) | rfl⟩
             simp only [my, hs] at h
             simp only [vz, tyf, ke, (au qe), iT, (au uK), j9, qf, qg, qh, qi, uL, uM, my, nm, seval]
             exact ⟨List.length kc, Nat.lt_succ_self _, by rw [oO]; refine ⟨kc, cY + 1, decide (xP ≤ ae.Wide), rfl, Int.le_trans iE (Int.le_add_one (Int.le_refl _)), bJ iE kG, rfl, (show 115 ≤ sj + 34 by omega), ?_, qf, qg, qh, qi, ?_, ?_, (by first | exact h | (simp only [ke, iT, j9, my]; exact h))⟩ <;> first | (simp only [ua, ke, iT, j9, qf, qg, qh, qi, uL, uM, my, nm, seval] <;> rfl) | rfl⟩
            simp only [j9, hs] at h
            try simp only [vz, tyf, ke, (au qe), sm, sn, so, sq, ss, su, iT, (au uK), j9, nm, seval]
            replace h := vI _ h
            try dsimp only at h
            obtain rfl := kF _ h
            exact bd Tryz.results6 rfl
           simp only [iT, hs] at h
           try simp only [vz, tyf, ke, (au qe), sm, sn, so, sq, ss, su, iT, nm, seval]
           replace h := vI _ h
           try dsimp only at h
           obtain rfl := kF _ h
           exact bd Tryz.results6 rfl
         simp only [ka, hs] at h
         try simp only [vz, tyf, mu, j3, ic, j4, ie, j5, j6, ig, ij, j7, j8, ka, nm, seval]
         obtain rfl := kF _ h
         exact bd Tryz.results6 rfl
        simp only [uI, hs] at h
        have Qv := And.intro eg (And.intro ib (And.intro gh (And.intro l5 (And.intro mr (And.intro si uI)))))
        try simp only [vz, tyf, Qv, j3, ic, j4, ie, j5, j6, ig, ij, j7, j8, nm, seval]
        obtain rfl := kF _ h
        exact bd Tryz.results6 rfl
       simp only [si, hs] at h
       try simp only [vz, tyf, eg, ib, gh, j3, ic, j4, ie, j5, j6, ig, ij, j7, j8, l5, mr, si, nm, seval]
       obtain rfl := kF _ h
       exact bd Tryz.results6 rfl
      simp only [mr, hs] at h
      cases sv : (gx.1 != (decide (bw ≤ mQ.1)))
      ·simp only [sv, hs] at h
       cases uN : ((List.length cA.1 : Int) != (List.length av.Ends : Int))
       ·simp only [uN, hs] at h
        have mz := And.intro eg (And.intro ib (And.intro gh (And.intro l5 (And.intro mr (And.intro sv uN)))))
        cases kf : ((List.length fz.1 : Int) != (List.length av.Ends : Int))
        ·simp only [kf, hs] at h
         cases m0 : (lenOk cA.1)
         ·simp only [m0, hs] at h
          exact absurd h kN
         simp only [m0, hs] at h
         simp only [vz, tyf, mz, j3, ic, j4, ie, j5, j6, ig, ij, j7, j8, kf, m0, nm, seval]
         obtain ⟨Qw, h, vJ, D7, Xg, D8⟩ := fP h kN
         obtain ⟨Qx, D9, h⟩ := call3 h
         obtain ⟨Qy, oP⟩ : ∃ I : Nat → St → Prop, I = (fun m st => ∃ (kh : List Int) (cZ : Int) (fp : Bool), m = List.length kh ∧ 0 ≤ cZ ∧ List.drop (Int.toNat cZ) cA.1 = kh ∧ st.df = [] ∧ 115 ≤ st.nx ∧ st.H 0 = some (.cells (some 28) (cGLs ae)) ∧ st.tm 4 = .ptr 0 0 ∧ st.tm 9 = .lit (.bool gx.1) ∧ st.tm 13 = .sl (ad eI cA.1) (List.length cA.1) false ∧ st.tm 15 = .sl (ad eI fz.1) (List.length fz.1) false ∧ st.tm 17 = .lit (.bool fp) ∧ st.tm 18 = .lit (.int .i64 cZ) ∧ Qw (Qx kh cZ fp)) := ⟨_, rfl⟩
         refine loopK mixed (by kernel_rfl) Qy (List.length cA.1) (by rw [oP]; refine ⟨cA.1, 0, decide ((List.length av.Ends : Int) ≤ ae.Rows), rfl, Int.le_refl _, rfl, rfl, (show 115 ≤ 115 by omega), ?_, ic, ie, ig, ij, ?_, ?_, h⟩ <;> first | (simp only [ua, mz, j3, ic, j4, ie, j5, j6, ig, ij, j7, j8, kf, nm, seval] <;> rfl) | rfl) ?_
         rintro m ⟨tm, H, sw, df⟩ hinv
         rw [oP] at hinv
         obtain ⟨kh, cZ, fp, rfl, iF, kH, hdf, DA, qj, nK, nL, nM, nN, nO, nP, h⟩ := hinv
         simp only at hdf DA qj nK nL nM nN nO nP
         have sx := fO (m := 115) (b := sw) (by omega)
         subst hdf D9
         cases kh with
         | nil =>
          have DB : (decide (cZ < (List.length cA.1 : Int))) = false := eZ iF kH
          simp only [qK, qJ, qI, rP, hs, reduceCtorEq] at h
          replace h := D7 _ h
          try dsimp only at h
          try simp only [hs] at h
          cases uO : (gx.1 == fp)
          ·simp only [uO, hs] at h
           have Qz := And.intro mz (And.intro kf (And.intro m0 (And.intro sx (And.intro qj (And.intro DB uO)))))
           try simp only [vz, tyf, Qz, nK, nL, nM, nN, nO, nP, nm, seval]
           obtain rfl := kF _ h
           exact bd Tryz.results6 rfl
          simp only [uO, hs] at h
          have DC := And.intro mz (And.intro kf (And.intro m0 (And.intro sx (And.intro qj (And.intro DB uO)))))
          simp only [vz, tyf, DC, nK, nL, nM, nN, nO, nP, nm, seval]
          refine ktree0 vv ?_
          try simp only [vz, tyf, DC, nK, nL, nM, nN, nO, nP, nm, seval]
          obtain rfl := kF _ h
          exact bd Tryz.results6 rfl
         | cons xS kh =>
          have xT : (decide (cZ < (List.length cA.1 : Int))) = true := eY iF kH
          have qk := dY iF kH
          have xU := fa iF kH m0
          simp only [qK, qJ, qI, rP, hs, reduceCtorEq] at h
          simp only [vz, tyf, mz, kf, m0, sx, nK, nL, nM, nN, nO, nP, qj, xT, (au qk), xU, nm, seval]
          refine kl (fun tm => tm 4 = .ptr 0 0 ∧ tm 9 = .lit (.bool gx.1) ∧ tm 13 = .sl (ad eI cA.1) (List.length cA.1) false ∧ tm 15 = .sl (ad eI fz.1) (List.length fz.1) false ∧ tm 17 = .lit (.bool fp) ∧ tm 18 = .lit (.int .i64 cZ) ∧ True) (by refine ⟨nK, nL, nM, nN, nO, nP, trivial⟩ <;> first | (simp only [ua, mz, kf, sx, nK, nL, nM, nN, nO, nP, qj, xT, xU, nm, seval] <;> rfl) | rfl) ?_
          rintro tm ⟨sy, s5, s6, s7, s8, s9, _⟩
          have ki := And.intro mz (And.intro kf (And.intro m0 (And.intro sx (And.intro qj (And.intro xT xU)))))
          cases iU : (decide (xS < 1))
          ·simp only [iU, hs] at h
           obtain ⟨Q0, uP, h⟩ := optI h D8
           try simp only [hs] at h
           cases jA : (decide (Q0 < xS))
           ·simp only [jA, hs] at h
            simp only [vz, tyf, ki, (au qk), sy, s5, s6, s7, s8, s9, iU, (au uP), jA, nm, seval]
            refine kl (fun tm => tm 4 = .ptr 0 0 ∧ tm 9 = .lit (.bool gx.1) ∧ tm 13 = .sl (ad eI cA.1) (List.length cA.1) false ∧ tm 15 = .sl (ad eI fz.1) (List.length fz.1) false ∧ tm 17 = .lit (.bool fp) ∧ tm 18 = .lit (.int .i64 cZ) ∧ True) (by refine ⟨sy, s5, s6, s7, s8, s9, trivial⟩ <;> first | (simp only [ua, ki, sy, s5, s6, s7, s8, s9, iU, jA, nm, seval] <;> rfl) | rfl) ?_
            rintro tm ⟨ql, qm, qn, qo, uQ, uR, _⟩
            cases m3 : (fp)
            ·simp only [m3, hs] at h
             simp only [vz, tyf, ki, (au qk), iU, (au uP), jA, ql, qm, qn, qo, uQ, uR, m3, nm, seval]
             exact ⟨List.length kh, Nat.lt_succ_self _, by rw [oP]; refine ⟨kh, cZ + 1, false, rfl, Int.le_trans iF (Int.le_add_one (Int.le_refl _)), bJ iF kH, rfl, (show 115 ≤ sw + 34 by omega), ?_, ql, qm, qn, qo, ?_, ?_, (by first | exact h | (simp only [ki, iU, jA, m3]; exact h))⟩ <;> first | (simp only [ua, ki, iU, jA, ql, qm, qn, qo, uQ, uR, m3, nm, seval] <;> rfl) | rfl⟩
            simp only [m3, hs] at h
            simp only [vz, tyf, ki, (au qk), iU, (au uP), jA, ql, qm, qn, qo, uQ, uR, m3, nm, seval]
            exact ⟨List.length kh, Nat.lt_succ_self _, by rw [oP]; refine ⟨kh, cZ + 1, decide (xS ≤ ae.Wide), rfl, Int.le_trans iF (Int.le_add_one (Int.le_refl _)), bJ iF kH, rfl, (show 115 ≤ sw + 34 by omega), ?_, ql, qm, qn, qo, ?_, ?_, (by first | exact h | (simp only [ki, iU, jA, m3]; exact h))⟩ <;> first | (simp only [ua, ki, iU, jA, ql, qm, qn, qo, uQ, uR, m3, nm, seval] <;> rfl) | rfl⟩
           simp only [jA, hs] at h
           try simp only [vz, tyf, ki, (au qk), sy, s5, s6, s7, s8, s9, iU, (au uP), jA, nm, seval]
           replace h := vJ _ h
           try dsimp only at h
           obtain rfl := kF _ h
           exact bd Tryz.results6 rfl
          simp only [iU, hs] at h
          try simp only [vz, tyf, ki, (au qk), sy, s5, s6, s7, s8, s9, iU, nm, seval]
          replace h := vJ _ h
          try dsimp only at h
          obtain rfl := kF _ h
          exact bd Tryz.results6 rfl
        simp only [kf, hs] at h
        try simp only [vz, tyf, mz, j3, ic, j4, ie, j5, j6, ig, ij, j7, j8, kf, nm, seval]
        obtain rfl := kF _ h
        exact bd Tryz.results6 rfl
       simp only [uN, hs] at h
       have Q1 := And.intro eg (And.intro ib (And.intro gh (And.intro l5 (And.intro mr (And.intro sv uN)))))
       try simp only [vz, tyf, Q1, j3, ic, j4, ie, j5, j6, ig, ij, j7, j8, nm, seval]
       obtain rfl := kF _ h
       exact bd Tryz.results6 rfl
      simp only [sv, hs] at h
      try simp only [vz, tyf, eg, ib, gh, j3, ic, j4, ie, j5, j6, ig, ij, j7, j8, l5, mr, sv, nm, seval]
      obtain rfl := kF _ h
      exact bd Tryz.results6 rfl
     simp only [gh, hs] at h
     try simp only [vz, tyf, eg, cK, bE, bN, bK, bL, cz, cG, cj, bW, cl, ib, gh, nm, seval]
     obtain rfl := kF _ h
     exact bd Tryz.results6 rfl
    simp only [ib, hs] at h
    try simp only [vz, tyf, eg, cK, bE, bN, bK, bL, cz, cG, cj, bW, cl, ib, nm, seval]
    obtain rfl := kF _ h
    exact bd Tryz.results6 rfl
   simp only [uH, hs] at h
   have Q2 := And.intro dL (And.intro jy (And.intro fY (And.intro gS (And.intro xM (And.intro oW uH)))))
   try simp only [vz, tyf, Q2, cK, bE, bN, bK, bL, cz, cG, cj, bW, cl, nm, seval]
   obtain rfl := kF _ h
   exact bd Tryz.results6 rfl
  simp only [xM, hs] at h
  try simp only [vz, tyf, dL, jy, fY, gS, cK, bE, bN, bK, bL, cz, cG, cj, bW, cl, xM, nm, seval]
  obtain rfl := kF _ h
  exact bd Tryz.results6 rfl
 simp only [gS, hs] at h
 simp only [vz, tyf, dL, jy, bR, bC, cn, dc, iq, gT, fY, gS, nm, seval]
 refine ktree0 vv ?_
 try simp only [vz, tyf, dL, jy, bR, bC, cn, dc, iq, gT, fY, gS, nm, seval]
 obtain rfl := kF _ h
 exact bd Tryz.results6 rfl
theorem Xh (s : GLs) (k : Int) (ms : List Glm) : ∀ (n : Nat) (r : Int) (j : Nat), j < n → (rowsL s k ms n r)[j]? = some (rowF s k (r + j) ms)
 | 0, _, _, h => by omega
 | n + 1, r, 0, _ => by simp [rowsL]
 | n + 1, r, j + 1, h => by
  simp only [rowsL, List.getElem?_cons_succ]
  rw [Xh s k ms n (r + 1) j (by omega), show r + 1 + (j : Int) = r + ((j + 1 : Nat) : Int) by omega]
theorem Q3 (s : GLs) (k : Int) (ms : List Glm) {n : Nat} {r : Int} (h0 : 0 ≤ r) (h : r < n) : getI (rowsL s k ms n 0) r = some (rowF s k r ms) := by
 obtain ⟨j, rfl⟩ := Int.eq_ofNat_of_zero_le h0
 have := Xh s k ms n 0 j (by omega)
 rw [Int.zero_add] at this
 exact V0 this
theorem Xi {s : GLs} {x : GLx} (g : Good s x) {k k' : Int} (h0 : 0 ≤ k) (hk : k ≤ k') (h1 : k' ≤ 10) (c : Int)
  (f : List Int → Int → Bool → Option (LOut Bool Bool)) (hn : ∀ i b, f [] i b = some (.go b))
  (hc : ∀ e p i b, f (e :: p) i b = cond (decide (e < 1)) (some (.ret false)) (Option.bind (getI (rowsL s k' (marksOf s x) x.Ends.length 0) i) (fun y => cond (decide (y < e)) (some (.ret false)) (cond b (f p (i + 1) (decide (e ≤ s.Wide))) (f p (i + 1) false))))) :
  ∀ (n : Nat) (r : Int) (b : Bool), 0 ≤ r → r + n = x.Ends.length → f (rowsL s k (marksOf s x) n r) r b = some (.go (b && rowsOk s k (marksOf s x) n r))
 | 0, r, b, _, _ => by simp [rowsL, rowsOk, hn]
 | n + 1, r, b, hr, he => by
  have hp := DD g.sh h0 (by omega) (marksOf s x) (L5 g) (L6 g r hr (by omega))
  have hm := Lz g.sh h0 hk h1 r (marksOf s x)
  have ih := fun b => Xi g h0 hk h1 c f hn hc n (r + 1) b (by omega) (by omega)
  rw [rowsL, hc, decide_eq_false (by omega), cond_false, Q3 s k' _ hr (by omega), Option.bind_some, decide_eq_false (by omega), cond_false, ih, ih, rowsOk]
  cases b <;> simp
theorem Z6 (s : GLs) (x : GLx) (k k' : Int) (h : FineS s) (hx : lenOk x.Out = true ∧ lenOk x.Ends = true) : Dr s x k k' = some true := by
 rcases Zy s x h hx with e | ⟨e, g1, g2, g3⟩
 ·simp only [Dr, e]; rfl
 have g : Good s x := ⟨h, g1, g2, g3, hx.1, hx.2⟩
 simp only [Dr, e, Option.bind_some, cond_true, L1]
 cases hk : inB 0 10 k with
 | false => rfl
 | true =>
 cases hk' : inB 0 10 k' with
 | false => rfl
 | true =>
 simp only [inB, Bool.and_eq_true, decide_eq_true_eq] at hk hk'
 simp only [cond_true]
 by_cases hlt : k' < k
 ·rw [decide_eq_true hlt]; rfl
 rw [decide_eq_false hlt, cond_false]
 obtain ⟨o, e2, hm⟩ := L4 g
 rw [L3 g hk.1 hk.2, e2, VG g hk.1 hk.2, VG g hk'.1 hk'.2]
 simp only [Option.bind_some]
 have hlen := L7 g
 have l1 := Lw s k (marksOf s x) x.Ends.length 0
 have l2 := Lw s k' (marksOf s x) x.Ends.length 0
 have z : ((0 : Int) != 0) = false := rfl
 have lp := fun f hn hc => Xi g hk.1 (show k ≤ k' by omega) hk'.2 0 f hn hc x.Ends.length 0 (decide ((x.Ends.length : Int) ≤ s.Rows)) (Int.le_refl _) (by omega)
 have hfit : (decide ((x.Ends.length : Int) ≤ s.Rows) && rowsOk s k (marksOf s x) x.Ends.length 0) = fitS s x k := by
  unfold fitS; rw [Bool.and_comm]
 rw [hfit] at lp
 have Xj := lp (qK s (rowsL s k' (marksOf s x) x.Ends.length 0, 0)) (fun _ _ => rfl) (fun _ _ _ _ => rfl)
 have Xk := lp (qJ s (rowsL s k' (marksOf s x) x.Ends.length 0, 0)) (fun _ _ => rfl) (fun _ _ _ _ => rfl)
 have Xl := lp (qI s (rowsL s k' (marksOf s x) x.Ends.length 0, 0)) (fun _ _ => rfl) (fun _ _ _ _ => rfl)
 have hl : lenOk (rowsL s k (marksOf s x) x.Ends.length 0) = true := pa (by omega)
 cases o with
 | none =>
  have lp1' := Xk
  have hf0 : fitS s x k = false := by
   cases hc : fitS s x k with
   | false => rfl
   | true =>
    obtain ⟨l, e1, e2, e3, e4, e5, e6⟩ := wS g.sh g.lo g.ends hk.1 hk.2
    have := VC e2 (k := 0) (k' := k) (Int.le_refl _) hk.1 hk.2 (by unfold fitB; rw [e3, e4, e6]; exact hc)
    unfold fitB at this
    rw [e3, e4, e6] at this
    have hm' : fitS s x 0 = false := hm
    unfold fitS at hm'
    rw [hm'] at this; cases this
  simp only [strO, z, cond_false, l1, l2, hl, Xj, Xk, Xl, qu, hf0, L1, Option.bind_some]
  simp [inB]
 | some K =>
  obtain ⟨hK, hj⟩ := hm
  have hi : inB 0 10 (K : Int) = true := by unfold inB; rw [decide_eq_true (by omega), decide_eq_true (by omega)]; rfl
  have hv : fitS s x k = decide (k ≤ (K : Int)) := by
   obtain ⟨n, rfl⟩ := Int.eq_ofNat_of_zero_le hk.1
   rw [hj n (by omega)]
   by_cases hnk : n ≤ K
   ·rw [decide_eq_true hnk, decide_eq_true (by omega)]
   ·rw [decide_eq_false hnk, decide_eq_false (by omega)]
  simp only [strO, z, cond_false, cond_true, hi, l1, l2, hl, Xj, Xl, qu, L1, Option.bind_some, hv, bne_self_eq_false, beq_self_eq_true]
  by_cases hkK : k ≤ (K : Int) <;> simp [hkK]
end Go.V
end
