/- Part of a proof. -/
import Derived.Test.YtmhlghgbfmcdaaaGreatDoorD1bl
set_option linter.all false
set_option maxRecDepth 4000
set_option maxHeartbeats 40000000
section
namespace Go.V
open Go Go.Proofs IntKind
def lx (ah : GBk) (aV : Int) (r7 : (List Int) × Int) (r8 : (List GSpan) × Int) : List Int → Int → Int → Int → Option (LOut (Bool) (Int × Int))
 | [], fp, gS, js => some (.go (gS, js))
 | e0 :: p0, fp, gS, js => Option.bind (getI r7.1 fp) (fun Cu => cond (decide (Cu < 0)) (some (.ret false)) (cond (decide (Cu > 60)) (some (.ret false)) (Option.bind (getI r8.1 fp) (fun GL => cond (decide (GL.High > 60)) (some (.ret false)) (cond (e0 == aV) (Option.bind (getI ah.Strokes fp) (fun M0 => lx ah aV r7 r8 p0 (fp + 1) (i64.wrap ((i64.wrap (gS + Cu)) + M0.Hours.High)) GL.High)) (lx ah aV r7 r8 p0 (fp + 1) gS js))))))
def t4 (ah : GBk) (ae : List Int) (aJ : Int) (aV : Int) : Option (Bool) := Option.bind (n2 ah) (fun r1 => cond (r1) (Option.bind (tk ae) (fun r2 => cond (r2) (Option.bind (qS ah ae) (fun r3 => cond (r3) (Option.bind (ru ah aJ) (fun r4 => cond (r4) (cond (decide (aV < 0)) (some true) (cond (decide (aV > ah.Apprentices)) (some true) (Option.bind (rb ah ae) (fun r5 => Option.bind (oV ah ae aJ) (fun r6 => Option.bind (re ah ae) (fun r7 => Option.bind (oM ah ae) (fun r8 => cond (r5.2 != 0) (some false) (cond (r6.2 != 0) (some false) (cond (r7.2 != 0) (some false) (cond (r8.2 != 0) (some false) (cond ((List.length r5.1 : Int) != (List.length ah.Boards : Int)) (some false) (cond ((List.length r7.1 : Int) != (List.length ae : Int)) (some false) (cond ((List.length r8.1 : Int) != (List.length ae : Int)) (some false) (Option.bind (getI ah.Boards aJ) (fun x9 => Option.bind (getI r5.1 aJ) (fun lK => cond ((lK == 3) != (decide (r6.1.Low > x9))) (some false) (cond ((lK == 1) != (decide (r6.1.High ≤ x9))) (some false) (cond (decide (lK < 1)) (some false) (cond (decide (lK > 3)) (some false) (cond (aI ae) (lbind (lx ah aV r7 r8 ae 0 0 0) (fun nW => some nW) (fun GM => cond (GM.1 == GM.2) (some true) (some false)) (fun _ _ => none)) none)))))))))))))))))))) (some true))) (some true))) (some true))) (some true))
theorem Ma (ah : GBk) (ae : List Int) (aJ : Int) (aV : Int) (R : Bool) (h : t4 ah ae aJ aV = some R) : ai Tryz.prog G0 6 [.agg (cGBk ah), .sl (aa eI ae) (List.length ae) false, .lit (.int .i64 aJ), .lit (.int .i64 aV)] (.tree (.lit (.bool R))) := by
 refine ai.runRQ mixed Tryz.call6 Tryz.func6 rfl (by simp [Tryz.ntmps6]; kernel_rfl) ?_
 obtain ⟨KF, h, kF, kN⟩ := cy h
 simp only [t4] at h
 obtain ⟨qB, Az, h⟩ := optI h kN
 try simp only [hs] at h
 simp only [vz, tyf, nm, seval]
 refine ktA (L2 _ _ Az) ?_
 refine bF (fun tm => tm 1 = .sl (aa eI ae) (List.length ae) false ∧ tm 2 = .lit (.int .i64 aJ) ∧ tm 3 = .lit (.int .i64 aV) ∧ tm 4 = .ptr 0 0 ∧ tm 23 = .lit (.bool qB) ∧ True) (by refine ⟨?_, ?_, ?_, ?_, ?_, trivial⟩ <;> first | (simp only [ua, nm, seval] <;> rfl) | rfl) ?_
 rintro tm ⟨bl, bG, cu, f8, cH, _⟩
 cases bE : (qB)
 ·simp only [bE, hs] at h
  simp only [vz, tyf, bl, bG, cu, f8, cH, bE, nm, seval]
  refine ktree0 mO ?_
  try simp only [vz, tyf, bl, bG, cu, f8, cH, bE, nm, seval]
  obtain rfl := kF _ h
  exact bh Tryz.results6 rfl
 simp only [bE, hs] at h
 obtain ⟨iy, j4, h⟩ := optI h kN
 try simp only [hs] at h
 simp only [vz, tyf, bl, bG, cu, f8, cH, bE, nm, seval]
 refine ktA (L3 _ _ j4) ?_
 refine bF (fun tm => tm 1 = .sl (aa eI ae) (List.length ae) false ∧ tm 2 = .lit (.int .i64 aJ) ∧ tm 3 = .lit (.int .i64 aV) ∧ tm 4 = .ptr 0 0 ∧ tm 25 = .lit (.bool false) ∧ tm 27 = .lit (.bool iy) ∧ True) (by refine ⟨bl, bG, cu, f8, ?_, ?_, trivial⟩ <;> first | (simp only [ua, bl, bG, cu, f8, cH, bE, nm, seval] <;> rfl) | rfl) ?_
 rintro tm ⟨bw, aX, ck, bX, db, dc, _⟩
 cases bW : (iy)
 ·simp only [bW, hs] at h
  simp only [vz, tyf, bE, bw, aX, ck, bX, db, dc, bW, nm, seval]
  refine ktree0 mO ?_
  try simp only [vz, tyf, bE, bw, aX, ck, bX, db, dc, bW, nm, seval]
  obtain rfl := kF _ h
  exact bh Tryz.results6 rfl
 simp only [bW, hs] at h
 obtain ⟨GN, M1, h⟩ := optI h kN
 try simp only [hs] at h
 simp only [vz, tyf, bE, bw, aX, ck, bX, db, dc, bW, nm, seval]
 refine ktA (L4 _ _ _ M1) ?_
 refine bF (fun tm => tm 1 = .sl (aa eI ae) (List.length ae) false ∧ tm 2 = .lit (.int .i64 aJ) ∧ tm 3 = .lit (.int .i64 aV) ∧ tm 4 = .ptr 0 0 ∧ tm 30 = .lit (.bool false) ∧ tm 33 = .lit (.bool GN) ∧ True) (by refine ⟨bw, aX, ck, bX, ?_, ?_, trivial⟩ <;> first | (simp only [ua, bE, bw, aX, ck, bX, db, dc, bW, nm, seval] <;> rfl) | rfl) ?_
 rintro tm ⟨jg, jh, jk, gj, cB, cC, _⟩
 cases dW : (GN)
 ·simp only [dW, hs] at h
  simp only [vz, tyf, bE, bW, jg, jh, jk, gj, cB, cC, dW, nm, seval]
  refine ktree0 mO ?_
  try simp only [vz, tyf, bE, bW, jg, jh, jk, gj, cB, cC, dW, nm, seval]
  obtain rfl := kF _ h
  exact bh Tryz.results6 rfl
 simp only [dW, hs] at h
 obtain ⟨GO, M3, h⟩ := optI h kN
 try simp only [hs] at h
 simp only [vz, tyf, bE, bW, jg, jh, jk, gj, cB, cC, dW, nm, seval]
 refine ktA (M4 _ _ _ M3) ?_
 refine bF (fun tm => tm 1 = .sl (aa eI ae) (List.length ae) false ∧ tm 2 = .lit (.int .i64 aJ) ∧ tm 3 = .lit (.int .i64 aV) ∧ tm 4 = .ptr 0 0 ∧ tm 36 = .lit (.bool false) ∧ tm 39 = .lit (.bool GO) ∧ True) (by refine ⟨jg, jh, jk, gj, ?_, ?_, trivial⟩ <;> first | (simp only [ua, bE, bW, jg, jh, jk, gj, cB, cC, dW, nm, seval] <;> rfl) | rfl) ?_
 rintro tm ⟨ez, fC, gT, fD, dH, dG, _⟩
 cases fN : (GO)
 ·simp only [fN, hs] at h
  simp only [vz, tyf, bE, bW, dW, ez, fC, gT, fD, dH, dG, fN, nm, seval]
  refine ktree0 mO ?_
  try simp only [vz, tyf, bE, bW, dW, ez, fC, gT, fD, dH, dG, fN, nm, seval]
  obtain rfl := kF _ h
  exact bh Tryz.results6 rfl
 simp only [fN, hs] at h
 cases eD : (decide (aV < 0))
 ·simp only [eD, hs] at h
  cases cU : (decide (aV > ah.Apprentices))
  ·simp only [cU, hs] at h
   obtain ⟨gk, qR, h⟩ := optI h kN
   try simp only [hs] at h
   simp only [vz, tyf, bE, bW, dW, ez, fC, gT, fD, dH, dG, fN, eD, cU, nm, seval]
   refine ktA (Mu _ _ _ qR) ?_
   refine bF (fun tm => tm 1 = .sl (aa eI ae) (List.length ae) false ∧ tm 2 = .lit (.int .i64 aJ) ∧ tm 3 = .lit (.int .i64 aV) ∧ tm 4 = .ptr 0 0 ∧ tm 56 = .tup [.sl (aa eI gk.1) (List.length gk.1) false, .lit (.int .i64 gk.2)] ∧ True) (by refine ⟨ez, fC, gT, fD, ?_, trivial⟩ <;> first | (simp only [ua, bE, bW, dW, ez, fC, gT, fD, dH, dG, fN, eD, cU, nm, seval] <;> rfl) | rfl) ?_
   rintro tm ⟨fH, fI, ll, mG, od, _⟩
   obtain ⟨mP, M5, h⟩ := optI h kN
   try simp only [hs] at h
   simp only [vz, tyf, bE, bW, dW, fN, eD, cU, fH, fI, ll, mG, od, nm, seval]
   refine ktA (HT _ _ _ _ M5) ?_
   refine bF (fun tm => tm 1 = .sl (aa eI ae) (List.length ae) false ∧ tm 2 = .lit (.int .i64 aJ) ∧ tm 3 = .lit (.int .i64 aV) ∧ tm 4 = .ptr 0 0 ∧ tm 9 = .sl (aa eI gk.1) (List.length gk.1) false ∧ tm 10 = .lit (.int .i64 gk.2) ∧ tm 63 = .tup [.agg (aP mP.1), .lit (.int .i64 mP.2)] ∧ True) (by refine ⟨fH, fI, ll, mG, ?_, ?_, ?_, trivial⟩ <;> first | (simp only [ua, bE, bW, dW, fN, eD, cU, fH, fI, ll, mG, od, nm, seval] <;> rfl) | rfl) ?_
   rintro tm ⟨Cv, Cw, Cx, Cy, Cz, C0, GP, _⟩
   obtain ⟨gU, M6, h⟩ := optI h kN
   try simp only [hs] at h
   simp only [vz, tyf, bE, bW, dW, fN, eD, cU, Cv, Cw, Cx, Cy, Cz, C0, GP, nm, seval]
   refine ktA (Mv _ _ _ M6) ?_
   refine bF (fun tm => tm 1 = .sl (aa eI ae) (List.length ae) false ∧ tm 2 = .lit (.int .i64 aJ) ∧ tm 3 = .lit (.int .i64 aV) ∧ tm 4 = .ptr 0 0 ∧ tm 9 = .sl (aa eI gk.1) (List.length gk.1) false ∧ tm 10 = .lit (.int .i64 gk.2) ∧ tm 11 = .ptr 47 0 ∧ tm 12 = .lit (.int .i64 mP.2) ∧ tm 69 = .tup [.sl (aa eI gU.1) (List.length gU.1) false, .lit (.int .i64 gU.2)] ∧ True) (by refine ⟨Cv, Cw, Cx, Cy, Cz, C0, ?_, ?_, ?_, trivial⟩ <;> first | (simp only [ua, bE, bW, dW, fN, eD, cU, Cv, Cw, Cx, Cy, Cz, C0, GP, nm, seval] <;> rfl) | rfl) ?_
   rintro tm ⟨C1, C2, C3, C4, C5, C6, C7, C8, GQ, _⟩
   obtain ⟨jt, M7, h⟩ := optI h kN
   try simp only [hs] at h
   simp only [vz, tyf, bE, bW, dW, fN, eD, cU, C1, C2, C3, C4, C5, C6, C7, C8, GQ, nm, seval]
   refine ktA (HS _ _ _ M7) ?_
   refine bF (fun tm => tm 1 = .sl (aa eI ae) (List.length ae) false ∧ tm 2 = .lit (.int .i64 aJ) ∧ tm 3 = .lit (.int .i64 aV) ∧ tm 4 = .ptr 0 0 ∧ tm 9 = .sl (aa eI gk.1) (List.length gk.1) false ∧ tm 10 = .lit (.int .i64 gk.2) ∧ tm 11 = .ptr 47 0 ∧ tm 12 = .lit (.int .i64 mP.2) ∧ tm 13 = .sl (aa eI gU.1) (List.length gU.1) false ∧ tm 14 = .lit (.int .i64 gU.2) ∧ tm 75 = .tup [.sl (aa aP jt.1) (List.length jt.1) false, .lit (.int .i64 jt.2)] ∧ True) (by refine ⟨C1, C2, C3, C4, C5, C6, C7, C8, ?_, ?_, ?_, trivial⟩ <;> first | (simp only [ua, bE, bW, dW, fN, eD, cU, C1, C2, C3, C4, C5, C6, C7, C8, GQ, nm, seval] <;> rfl) | rfl) ?_
   rintro tm ⟨jF, jG, jH, jI, jJ, ko, jK, kq, jL, ku, ky, _⟩
   cases t5 : (gk.2 != 0)
   ·simp only [t5, hs] at h
    have mQ := And.intro bE (And.intro bW (And.intro dW (And.intro fN (And.intro eD (And.intro cU t5)))))
    cases kz : (mP.2 != 0)
    ·simp only [kz, hs] at h
     cases ly : (gU.2 != 0)
     ·simp only [ly, hs] at h
      cases mR : (jt.2 != 0)
      ·simp only [mR, hs] at h
       cases ou : ((List.length gk.1 : Int) != (List.length ah.Boards : Int))
       ·simp only [ou, hs] at h
        cases rv : ((List.length gU.1 : Int) != (List.length ae : Int))
        ·simp only [rv, hs] at h
         cases k6 : ((List.length jt.1 : Int) != (List.length ae : Int))
         ·simp only [k6, hs] at h
          have dL := And.intro mQ (And.intro kz (And.intro ly (And.intro mR (And.intro ou (And.intro rv k6)))))
          obtain ⟨mS, cK, h⟩ := optI h kN
          try simp only [hs] at h
          simp only [vz, tyf, dL, jF, jG, jH, jI, jJ, ko, jK, kq, jL, ku, ky, (aE cK), nm, seval]
          refine nI (fun tm => tm 1 = .sl (aa eI ae) (List.length ae) false ∧ tm 2 = .lit (.int .i64 aJ) ∧ tm 3 = .lit (.int .i64 aV) ∧ tm 4 = .ptr 0 0 ∧ tm 9 = .sl (aa eI gk.1) (List.length gk.1) false ∧ tm 11 = .ptr 47 0 ∧ tm 13 = .sl (aa eI gU.1) (List.length gU.1) false ∧ tm 15 = .sl (aa aP jt.1) (List.length jt.1) false ∧ tm 17 = .lit (.int .i64 (List.length ae : Int)) ∧ tm 18 = .lit (.int .i64 mS) ∧ True) (by refine ⟨jF, jG, jH, jI, jJ, jK, jL, ?_, ?_, ?_, trivial⟩ <;> first | (simp only [ua, dL, jF, jG, jH, jI, jJ, ko, jK, kq, jL, ku, ky, nm, seval] <;> rfl) | rfl) ?_
          rintro tm ⟨gF, im, gG, gH, iq, ir, gI, gJ, gL, iu, _⟩
          obtain ⟨k7, cY, h⟩ := optI h kN
          try simp only [hs] at h
          cases dM : ((k7 == 3) != (decide (mP.1.Low > mS)))
          ·simp only [dM, hs] at h
           cases eF : ((k7 == 1) != (decide (mP.1.High ≤ mS)))
           ·simp only [eF, hs] at h
            cases fa : (decide (k7 < 1))
            ·simp only [fa, hs] at h
             cases fE : (decide (k7 > 3))
             ·simp only [fE, hs] at h
              cases fZ : (aI ae)
              ·simp only [fZ, hs] at h
               exact absurd h kN
              simp only [fZ, hs] at h
              simp only [vz, tyf, dL, (aE cK), gF, im, gG, gH, iq, ir, gI, gJ, gL, iu, (cR cY), dM, eF, fa, fE, fZ, nm, seval]
              obtain ⟨C9, h, ju, ry, GR, jv⟩ := fO h kN
              obtain ⟨CA, rz, h⟩ := call4 h
              obtain ⟨CB, gV⟩ : ∃ I : Nat → St → Prop, I = (fun m st => ∃ (fb : List Int) (b9 : Int) (ca : Int) (cZ : Int), m = List.length fb ∧ 0 ≤ b9 ∧ List.drop (Int.toNat b9) ae = fb ∧ st.df = [] ∧ 148 ≤ st.nx ∧ st.H 0 = some (.cells (some 25) (cGBk ah)) ∧ st.tm 1 = .sl (aa eI ae) (List.length ae) false ∧ st.tm 3 = .lit (.int .i64 aV) ∧ st.tm 4 = .ptr 0 0 ∧ st.tm 13 = .sl (aa eI gU.1) (List.length gU.1) false ∧ st.tm 15 = .sl (aa aP jt.1) (List.length jt.1) false ∧ st.tm 17 = .lit (.int .i64 (List.length ae : Int)) ∧ st.tm 19 = .lit (.int .i64 ca) ∧ st.tm 20 = .lit (.int .i64 cZ) ∧ st.tm 21 = .lit (.int .i64 b9) ∧ C9 (CA fb b9 ca cZ)) := ⟨_, rfl⟩
              refine loopK mixed (iV (by kernel_rfl)) CB (List.length ae) (by rw [gV]; refine ⟨ae, 0, 0, 0, rfl, Int.le_refl _, rfl, rfl, (show 148 ≤ 148 by omega), ?_, gF, gG, gH, gI, gJ, gL, ?_, ?_, ?_, h⟩ <;> first | (simp only [ua, dL, gF, im, gG, gH, iq, ir, gI, gJ, gL, iu, dM, eF, fa, fE, nm, seval] <;> rfl) | rfl) ?_
              rintro m ⟨tm, H, jw, df⟩ hinv
              rw [gV] at hinv
              obtain ⟨fb, b9, ca, cZ, rfl, dI, fq, hdf, rA, jx, du, dv, dw, dx, dy, dz, d4, dN, dO, h⟩ := hinv
              simp only at hdf rA jx du dv dw dx dy dz d4 dN dO
              have k8 := gM (m := 148) (b := jw) (by omega)
              subst hdf rz
              cases fb with
              | nil =>
               have rB : (decide (b9 < (List.length ae : Int))) = false := eM dI fq
               simp only [lx, hs, reduceCtorEq] at h
               replace h := ry _ h
               try dsimp only at h
               try simp only [hs] at h
               cases k9 : (ca == cZ)
               ·simp only [k9, hs] at h
                have CD := And.intro dL (And.intro dM (And.intro eF (And.intro fa (And.intro fE (And.intro fZ (And.intro k8 (And.intro jx (And.intro rB k9))))))))
                try simp only [vz, tyf, CD, (aE cK), (cR cY), du, dv, dw, dx, dy, dz, d4, dN, dO, nm, seval]
                obtain rfl := kF _ h
                exact bh Tryz.results6 rfl
               simp only [k9, hs] at h
               have rC := And.intro dL (And.intro dM (And.intro eF (And.intro fa (And.intro fE (And.intro fZ (And.intro k8 (And.intro jx (And.intro rB k9))))))))
               simp only [vz, tyf, rC, (aE cK), (cR cY), du, dv, dw, dx, dy, dz, d4, dN, dO, nm, seval]
               refine ktree0 mO ?_
               try simp only [vz, tyf, rC, (aE cK), (cR cY), du, dv, dw, dx, dy, dz, d4, dN, dO, nm, seval]
               obtain rfl := kF _ h
               exact bh Tryz.results6 rfl
              | cons CE fb =>
               have rD : (decide (b9 < (List.length ae : Int))) = true := eO dI fq
               have iv := cO dI fq
               have rE := eP dI fq fZ
               simp only [lx, hs, reduceCtorEq] at h
               obtain ⟨mT, iw, h⟩ := optI h jv
               try simp only [hs] at h
               cases kA : (decide (mT < 0))
               ·simp only [kA, hs] at h
                have fc := And.intro dL (And.intro dM (And.intro eF (And.intro fa (And.intro fE (And.intro fZ (And.intro k8 (And.intro jx (And.intro rD (And.intro rE kA)))))))))
                cases dP : (decide (mT > 60))
                ·simp only [dP, hs] at h
                 obtain ⟨rF, kC, h⟩ := optI h jv
                 try simp only [hs] at h
                 cases eG : (decide (rF.High > 60))
                 ·simp only [eG, hs] at h
                  cases fe : (CE == aV)
                  ·simp only [fe, hs] at h
                   simp only [vz, tyf, fc, (aE cK), (cR cY), du, dv, dw, dx, dy, dz, d4, dN, dO, (aE iv), (aE iw), dP, (jX kC), eG, fe, nm, seval]
                   exact ⟨List.length fb, Nat.lt_succ_self _, by rw [gV]; refine ⟨fb, b9 + 1, ca, cZ, rfl, Int.le_trans dI (Int.le_add_one (Int.le_refl _)), cA dI fq, rfl, (show 148 ≤ jw + 32 by omega), ?_, du, dv, dw, dx, dy, dz, d4, dN, ?_, (by first | exact h | (simp only [fc, dP, eG, fe]; exact h))⟩ <;> first | (simp only [ua, fc, du, dv, dw, dx, dy, dz, d4, dN, dO, dP, eG, fe, nm, seval] <;> rfl) | rfl⟩
                  simp only [fe, hs] at h
                  simp only [vz, tyf, fc, (aE cK), (cR cY), du, dv, dw, dx, dy, dz, d4, dN, dO, (aE iv), (aE iw), dP, (jX kC), eG, fe, nm, seval]
                  refine nI (fun tm => tm 1 = .sl (aa eI ae) (List.length ae) false ∧ tm 3 = .lit (.int .i64 aV) ∧ tm 4 = .ptr 0 0 ∧ tm 13 = .sl (aa eI gU.1) (List.length gU.1) false ∧ tm 15 = .sl (aa aP jt.1) (List.length jt.1) false ∧ tm 17 = .lit (.int .i64 (List.length ae : Int)) ∧ tm 19 = .lit (.int .i64 ca) ∧ tm 21 = .lit (.int .i64 b9) ∧ True) (by refine ⟨du, dv, dw, dx, dy, dz, d4, dO, trivial⟩ <;> first | (simp only [ua, fc, du, dv, dw, dx, dy, dz, d4, dN, dO, dP, eG, fe, nm, seval] <;> rfl) | rfl) ?_
                  rintro tm ⟨mU, mV, mW, mX, mY, mZ, rG, rH, _⟩
                  obtain ⟨CF, CG, h⟩ := optI h jv
                  try simp only [hs] at h
                  simp only [vz, tyf, fc, (aE cK), (cR cY), (aE iv), (aE iw), dP, (jX kC), eG, fe, mU, mV, mW, mX, mY, mZ, rG, rH, (aM CG), nm, seval]
                  exact ⟨List.length fb, Nat.lt_succ_self _, by rw [gV]; refine ⟨fb, b9 + 1, i64.wrap ((i64.wrap (ca + mT)) + CF.Hours.High), rF.High, rfl, Int.le_trans dI (Int.le_add_one (Int.le_refl _)), cA dI fq, rfl, (show 148 ≤ jw + 53 by omega), ?_, mU, mV, mW, mX, mY, mZ, ?_, ?_, ?_, (by first | exact h | (simp only [fc, dP, eG, fe]; exact h))⟩ <;> first | (simp only [ua, fc, dP, eG, fe, mU, mV, mW, mX, mY, mZ, rG, rH, nm, seval] <;> rfl) | rfl⟩
                 simp only [eG, hs] at h
                 try simp only [vz, tyf, fc, (aE cK), (cR cY), du, dv, dw, dx, dy, dz, d4, dN, dO, (aE iv), (aE iw), dP, (jX kC), eG, nm, seval]
                 replace h := ju _ h
                 try dsimp only at h
                 obtain rfl := kF _ h
                 exact bh Tryz.results6 rfl
                simp only [dP, hs] at h
                try simp only [vz, tyf, fc, (aE cK), (cR cY), du, dv, dw, dx, dy, dz, d4, dN, dO, (aE iv), (aE iw), dP, nm, seval]
                replace h := ju _ h
                try dsimp only at h
                obtain rfl := kF _ h
                exact bh Tryz.results6 rfl
               simp only [kA, hs] at h
               have CH := And.intro dL (And.intro dM (And.intro eF (And.intro fa (And.intro fE (And.intro fZ (And.intro k8 (And.intro jx (And.intro rD (And.intro rE kA)))))))))
               try simp only [vz, tyf, CH, (aE cK), (cR cY), du, dv, dw, dx, dy, dz, d4, dN, dO, (aE iv), (aE iw), nm, seval]
               replace h := ju _ h
               try dsimp only at h
               obtain rfl := kF _ h
               exact bh Tryz.results6 rfl
             simp only [fE, hs] at h
             try simp only [vz, tyf, dL, (aE cK), gF, im, gG, gH, iq, ir, gI, gJ, gL, iu, (cR cY), dM, eF, fa, fE, nm, seval]
             obtain rfl := kF _ h
             exact bh Tryz.results6 rfl
            simp only [fa, hs] at h
            try simp only [vz, tyf, dL, (aE cK), gF, im, gG, gH, iq, ir, gI, gJ, gL, iu, (cR cY), dM, eF, fa, nm, seval]
            obtain rfl := kF _ h
            exact bh Tryz.results6 rfl
           simp only [eF, hs] at h
           try simp only [vz, tyf, dL, (aE cK), gF, im, gG, gH, iq, ir, gI, gJ, gL, iu, (cR cY), dM, eF, nm, seval]
           obtain rfl := kF _ h
           exact bh Tryz.results6 rfl
          simp only [dM, hs] at h
          try simp only [vz, tyf, dL, (aE cK), gF, im, gG, gH, iq, ir, gI, gJ, gL, iu, (cR cY), dM, nm, seval]
          obtain rfl := kF _ h
          exact bh Tryz.results6 rfl
         simp only [k6, hs] at h
         have CI := And.intro mQ (And.intro kz (And.intro ly (And.intro mR (And.intro ou (And.intro rv k6)))))
         try simp only [vz, tyf, CI, jF, jG, jH, jI, jJ, ko, jK, kq, jL, ku, ky, nm, seval]
         obtain rfl := kF _ h
         exact bh Tryz.results6 rfl
        simp only [rv, hs] at h
        try simp only [vz, tyf, mQ, jF, jG, jH, jI, jJ, ko, jK, kq, jL, ku, ky, kz, ly, mR, ou, rv, nm, seval]
        obtain rfl := kF _ h
        exact bh Tryz.results6 rfl
       simp only [ou, hs] at h
       try simp only [vz, tyf, mQ, jF, jG, jH, jI, jJ, ko, jK, kq, jL, ku, ky, kz, ly, mR, ou, nm, seval]
       obtain rfl := kF _ h
       exact bh Tryz.results6 rfl
      simp only [mR, hs] at h
      try simp only [vz, tyf, mQ, jF, jG, jH, jI, jJ, ko, jK, kq, jL, ku, ky, kz, ly, mR, nm, seval]
      obtain rfl := kF _ h
      exact bh Tryz.results6 rfl
     simp only [ly, hs] at h
     try simp only [vz, tyf, mQ, jF, jG, jH, jI, jJ, ko, jK, kq, jL, ku, ky, kz, ly, nm, seval]
     obtain rfl := kF _ h
     exact bh Tryz.results6 rfl
    simp only [kz, hs] at h
    try simp only [vz, tyf, mQ, jF, jG, jH, jI, jJ, ko, jK, kq, jL, ku, ky, kz, nm, seval]
    obtain rfl := kF _ h
    exact bh Tryz.results6 rfl
   simp only [t5, hs] at h
   have CJ := And.intro bE (And.intro bW (And.intro dW (And.intro fN (And.intro eD (And.intro cU t5)))))
   try simp only [vz, tyf, CJ, jF, jG, jH, jI, jJ, ko, jK, kq, jL, ku, ky, nm, seval]
   obtain rfl := kF _ h
   exact bh Tryz.results6 rfl
  simp only [cU, hs] at h
  simp only [vz, tyf, bE, bW, dW, ez, fC, gT, fD, dH, dG, fN, eD, cU, nm, seval]
  refine ktree0 mO ?_
  try simp only [vz, tyf, bE, bW, dW, ez, fC, gT, fD, dH, dG, fN, eD, cU, nm, seval]
  obtain rfl := kF _ h
  exact bh Tryz.results6 rfl
 simp only [eD, hs] at h
 simp only [vz, tyf, bE, bW, dW, ez, fC, gT, fD, dH, dG, fN, eD, nm, seval]
 refine ktree0 mO ?_
 try simp only [vz, tyf, bE, bW, dW, ez, fC, gT, fD, dH, dG, fN, eD, nm, seval]
 obtain rfl := kF _ h
 exact bh Tryz.results6 rfl
theorem FF_b {b : GBk} (hb : BOk b) (pl : List Int) (i : Nat) : 0 ≤ FF b pl 1 i ∧ FF b pl 1 i ≤ BB b pl 1 i := ⟨lH (fun k => Ed_nn hb.h.nd (fun k => (hb.h.d 1 k).1) k) _, oI _⟩
theorem rI {pl : List Int} {i : Nat} {h : Int} (e : pl[i]? = some h) : hF pl i = h := by unfold hF; rw [e]; rfl
theorem rJ {b : GBk} (hb : BOk b) {pl : List Int} (hp : pl.length = b.Strokes.length) (hand : Int) (n m : Int) : ∀ (p : List Int) (i : Nat), i + p.length = pl.length → pl.drop i = p →
  lx b hand (waitsL b pl, n) (endsL b pl, m) p i (frF (hF pl) (EE b pl 1) hand i) (frF (hF pl) (EE b pl 1) hand i) = some (.go (frF (hF pl) (EE b pl 1) hand pl.length, frF (hF pl) (EE b pl 1) hand pl.length))
 | [], i, hi, hd => by
  have e : i = pl.length := by simpa using hi
  subst e
  rfl
 | h :: p, i, hi, hd => by
  simp only [List.length_cons] at hi
  have hns := hb.ns
  have hg : pl[i]? = some h := by
   have : (pl.drop i)[0]? = some h := by rw [hd]; rfl
   simpa using this
  have hlt : i < b.Strokes.length := by omega
  have iC : pl.drop (i + 1) = p := by
   have : (pl.drop i).drop 1 = p := by rw [hd]; rfl
   rw [List.drop_drop] at this
   exact this
  have ih := rJ hb hp hand n m p (i + 1) (by omega) iC
  obtain ⟨x, gx, hx⟩ := getS (b := b) (s := (i : Int)) (by omega) (by omega)
  have w1 := getWaits (b := b) (pl := pl) (i := (i : Int)) (by omega) (by omega)
  have w2 := getEnds (b := b) (pl := pl) (i := (i : Int)) (by omega) (by omega)
  simp only [Int.toNat_natCast] at w1 w2 hx
  have hf := FF_b hb pl i
  have he := EE_36 hb pl 1 hlt
  have heq := EE_eq hb.h pl 1 i
  have hdv := hb.h.d 1 i
  have hxr := (hb.s hx).hr
  have hdx : dF b 1 i = x.Hours.High := by unfold dF; rw [hx]; simp
  simp only [lx, w1, w2, gx, Option.bind_some]
  have ei : ((i : Int) + 1) = ((i + 1 : Nat) : Int) := by omega
  rw [decide_eq_false (show ¬ waitF b pl i < 0 by unfold waitF; omega), decide_eq_false (show ¬ waitF b pl i > 60 by unfold waitF; omega), decide_eq_false (show ¬ (endS b pl i).High > 60 by show ¬ EE b pl 1 i > 60; omega), ei]
  simp only [cond_false]
  have e2 : frF (hF pl) (EE b pl 1) hand (i + 1) = if hF pl i = hand then EE b pl 1 i else frF (hF pl) (EE b pl 1) hand i := rfl
  rw [e2] at ih
  rw [rI hg] at ih
  by_cases hh : h = hand
  ·subst hh
   rw [if_pos rfl] at ih
   rw [beq_self_eq_true, cond_true]
   have e3 : frF (hF pl) (EE b pl 1) h i = FF b pl 1 i := by unfold FF; rw [rI hg]
   rw [e3]
   have e4 : i64.wrap (i64.wrap (FF b pl 1 i + waitF b pl i) + x.Hours.High) = EE b pl 1 i := by
    unfold waitF
    rw [show FF b pl 1 i + (BB b pl 1 i - FF b pl 1 i) = BB b pl 1 i by omega, gu (n := BB b pl 1 i) (by omega) (by omega), gu (by omega) (by omega)]
    omega
   rw [e4]
   exact ih
  ·rw [if_neg hh] at ih
   rw [show (h == hand) = false by simpa using hh, cond_false]
   exact ih
theorem Mb (b : GBk) (pl : List Int) (bd hand : Int) (hb : aI b.Boards = true ∧ aI b.Strokes = true ∧ ∀ y ∈ b.Strokes, aI y.Needs = true) (hp : aI pl = true) : t4 b pl bd hand = some true := by
 have hL := Len.of hb
 unfold t4
 rcases HQ hL with e | ⟨e, hB⟩
 ·rw [e]; rfl
 have hns := hB.ns
 have hBb := n3.2 hB
 simp only [e, Option.bind_some, cond_true, tk, CK hL, CL hL]
 cases (decide ((pl.length : Int) ≤ 9)) with
 | false => rfl
 | true =>
 cases hP : planB b pl with
 | false => rfl
 | true =>
 cases hI : inB 0 ((b.Boards.length : Int) - 1) bd with
 | false => rfl
 | true =>
 have hi := sS.1 hI
 have hpl := (rj.1 hP).len
 simp only [cond_true]
 by_cases b0 : hand < 0
 ·rw [decide_eq_true b0]; rfl
 by_cases b1 : hand > b.Apprentices
 ·rw [decide_eq_false b0, decide_eq_true b1]; rfl
 rw [decide_eq_false b0, decide_eq_false b1]
 simp only [cond_false, Cp hL, Co hL, Cq hL, Cm hL, hBb, hP, hI, Bool.and_self, if_true, Option.bind_some]
 have z0 : ((0 : Int) != 0) = false := rfl
 have hdue : ∃ d, getI b.Boards bd = some d ∧ b.Boards[bd.toNat]? = some d := by
  have h1 : bd.toNat < b.Boards.length := by omega
  refine ⟨b.Boards[bd.toNat], ?_, List.getElem?_eq_getElem h1⟩
  unfold getI
  rw [if_pos hi.1, List.getElem?_eq_getElem h1]
 obtain ⟨d, gd, hd⟩ := hdue
 have gl : getI (lateL b pl 0 b.Boards) bd = some (lateW (DN b pl bd) d) := by
  unfold getI
  rw [if_pos hi.1, GI b.Boards 0 bd.toNat d hd]
  congr 3
  omega
 have l1 : (((lateL b pl 0 b.Boards).length : Int) != (b.Boards.length : Int)) = false := by rw [GH]; simp
 have l2 : (((waitsL b pl).length : Int) != (pl.length : Int)) = false := by simp [waitsL, hpl]
 have l3 : (((endsL b pl).length : Int) != (pl.length : Int)) = false := by rw [Cn, hpl]; simp
 simp only [z0, l1, l2, l3, cond_false, gd, gl, Option.bind_some]
 have hle : (DN b pl bd).Low ≤ (DN b pl bd).High := by
  refine qu.2 ⟨mo _, ?_⟩
  intro v hv
  obtain ⟨k, hk, rfl⟩ := List.mem_map.1 hv
  refine Int.le_trans ?_ (qv (List.mem_map_of_mem (f := fun k : Int => EE b pl 1 k.toNat) hk))
  refine Ed_le hB.h.nd (fun q => ?_) _
  unfold dF
  split
  ·rename_i y hy
   have := (hB.s hy).hr
   simp
   omega
  ·omega
 have c1 : ((lateW (DN b pl bd) d == 3) != decide ((DN b pl bd).Low > d)) = false := by
  unfold lateW
  by_cases q1 : (DN b pl bd).Low > d
  ·simp [q1]
  ·by_cases q2 : (DN b pl bd).High > d <;> simp [q1, q2]
 have c2 : ((lateW (DN b pl bd) d == 1) != decide ((DN b pl bd).High ≤ d)) = false := by
  unfold lateW
  by_cases q1 : (DN b pl bd).Low > d
  ·have q2 : ¬ (DN b pl bd).High ≤ d := by omega
   simp [q1, q2]
  ·by_cases q2 : (DN b pl bd).High > d
   ·have q3 : ¬ (DN b pl bd).High ≤ d := by omega
    simp [q1, q2, q3]
   ·have q3 : (DN b pl bd).High ≤ d := by omega
    simp [q1, q2, q3]
 have c3 : 1 ≤ lateW (DN b pl bd) d ∧ lateW (DN b pl bd) d ≤ 3 := by
  unfold lateW
  split
  ·omega
  ·split <;> omega
 rw [c1, c2, decide_eq_false (show ¬ lateW (DN b pl bd) d < 1 by omega), decide_eq_false (show ¬ lateW (DN b pl bd) d > 3 by omega), hp]
 simp only [cond_false, cond_true]
 have := rJ hB hpl hand 0 0 pl 0 (by simp) rfl
 have e' : lx b hand (waitsL b pl, 0) (endsL b pl, 0) pl 0 0 0 = _ := this
 rw [e']
 simp [lbind]
end Go.V
end
