/- Part of a proof. -/
import Derived.Test.YtlkognggeadanaaGreatDoorEbo
set_option linter.all false
set_option maxRecDepth 4000
set_option maxHeartbeats 40000000
section
namespace Go.V
open Go Go.Proofs
def tN (bD : List GLe) : List GLe → Int → Option (LOut (Bool) (Unit))
 | [], bB => some (.go ())
 | e0 :: p0, bB => cond (decide (bB < (List.length bD : Int))) (Option.bind (getI bD bB) (fun x1 => cond (e0.Word == x1.Word && (e0.Letters == x1.Letters)) (tN bD p0 (bB + 1)) (Option.bind (we e0 x1) (fun r2 => some (.ret r2))))) (some (.go ()))
def yh (bA : List GLe) (bD : List GLe) : Option (Bool) := cond (lenOk bA) (lbind (tN bD bA 0) (fun r4 => some r4) (fun c3 => some (decide ((List.length bA : Int) < (List.length bD : Int)))) (fun _ _ => none)) none
theorem TW (bA : List GLe) (bD : List GLe) (R : Bool) (h : yh bA bD = some R) : ad Tryz.prog G0 42 [.sl (aa cGLe bA) (List.length bA) false, .sl (aa cGLe bD) (List.length bD) false] (.tree (.lit (.bool R))) := by
 refine ad.runR mixed Tryz.call42 Tryz.func42 rfl (by simp [Tryz.ntmps42]; kernel_rfl) ?_
 obtain ⟨KF, h, kF, kN⟩ := dZ h
 simp only [yh] at h
 cases g6 : (lenOk bA)
 ·simp only [g6, hs] at h
  exact absurd h kN
 simp only [g6, hs] at h
 simp only [vz, tyf, g6, nm, seval]
 obtain ⟨K5, h, yi, wg, Qd, tO⟩ := gu h kN
 obtain ⟨f5, yj, h⟩ := call2 h
 obtain ⟨I5, pb⟩ : ∃ I : Nat → St → Prop, I = (fun m st => ∃ (p5 : List GLe) (iO : Int), m = List.length p5 ∧ 0 ≤ iO ∧ List.drop (Int.toNat iO) bA = p5 ∧ st.df = [] ∧ 2 ≤ st.nx ∧ st.tm 0 = .sl (aa cGLe bA) (List.length bA) false ∧ st.tm 1 = .sl (aa cGLe bD) (List.length bD) false ∧ st.tm 5 = .lit (.int .i64 iO) ∧ K5 (f5 p5 iO)) := ⟨_, rfl⟩
 refine loopK mixed (by kernel_rfl) I5 (List.length bA) (by rw [pb]; refine ⟨bA, 0, rfl, Int.le_refl _, rfl, rfl, (show 2 ≤ 2 by omega), ?_, ?_, ?_, h⟩ <;> first | (simp only [ua, nm, seval] <;> rfl) | rfl) ?_
 rintro m ⟨tm, H, sQ, df⟩ hinv
 rw [pb] at hinv
 obtain ⟨p5, iO, rfl, jM, kR, hdf, oH, e7, e8, e9, h⟩ := hinv
 simp only at hdf oH e7 e8 e9
 have jw := gv (m := 2) (b := sQ) (by omega)
 subst hdf yj
 cases p5 with
 | nil =>
  have fg : (decide (iO < (List.length bA : Int))) = false := fj jM kR
  simp only [tN, hs, reduceCtorEq] at h
  replace h := wg _ h
  try dsimp only at h
  try simp only [hs] at h
  try simp only [vz, tyf, g6, jw, e7, e8, e9, fg, nm, seval]
  obtain rfl := kF _ h
  exact bc Tryz.results42 rfl
 | cons e5 p5 =>
  have dt : (decide (iO < (List.length bA : Int))) = true := fk jM kR
  have ka := eg jM kR
  have iP := fm jM kR g6
  simp only [tN, hs, reduceCtorEq] at h
  cases cI : (decide (iO < (List.length bD : Int)))
  ·simp only [cI, hs] at h
   replace h := wg _ h
   try dsimp only at h
   try simp only [hs] at h
   try simp only [vz, tyf, g6, jw, e7, e8, e9, dt, (aG ka), iP, cI, nm, seval]
   obtain rfl := kF _ h
   exact bc Tryz.results42 rfl
  simp only [cI, hs] at h
  simp only [vz, tyf, g6, jw, e7, e8, e9, dt, (aG ka), iP, cI, nm, seval]
  refine mO (fun tm => tm 0 = .sl (aa cGLe bA) (List.length bA) false ∧ tm 1 = .sl (aa cGLe bD) (List.length bD) false ∧ tm 5 = .lit (.int .i64 iO) ∧ True) (by refine ⟨e7, e8, e9, trivial⟩ <;> first | (simp only [ua, jw, e7, e8, e9, dt, iP, cI, nm, seval] <;> rfl) | rfl) ?_
  rintro tm ⟨dK, dV, cl, _⟩
  obtain ⟨Qe, iQ, h⟩ := optI h tO
  try simp only [hs] at h
  cases eF : (e5.Word == Qe.Word && (e5.Letters == Qe.Letters))
  ·simp only [eF, hs] at h
   simp only [vz, tyf, g6, jw, dt, (aG ka), iP, cI, dK, dV, cl, (aG iQ), eF, nm, seval]
   refine mO (fun tm => tm 0 = .sl (aa cGLe bA) (List.length bA) false ∧ tm 1 = .sl (aa cGLe bD) (List.length bD) false ∧ tm 5 = .lit (.int .i64 iO) ∧ True) (by refine ⟨dK, dV, cl, trivial⟩ <;> first | (simp only [ua, jw, dt, iP, cI, dK, dV, cl, eF, nm, seval] <;> rfl) | rfl) ?_
   rintro tm ⟨bX, dz, ej, _⟩
   obtain ⟨wh, j7, h⟩ := optI h tO
   try simp only [hs] at h
   simp only [vz, tyf, g6, jw, dt, (aG ka), iP, cI, (aG iQ), eF, bX, dz, ej, nm, seval]
   refine dktA (Qf _ _ _ j7) ?_
   refine bt (fun tm => tm 35 = .lit (.bool wh) ∧ True) (by refine ⟨?_, trivial⟩ <;> first | (simp only [ua, jw, dt, iP, cI, eF, bX, dz, ej, nm, seval] <;> rfl) | rfl) ?_
   rintro tm ⟨ec, _⟩
   try simp only [vz, tyf, g6, jw, dt, (aG ka), iP, cI, (aG iQ), eF, ec, nm, seval]
   replace h := yi _ h
   try dsimp only at h
   obtain rfl := kF _ h
   exact bc Tryz.results42 rfl
  simp only [eF, hs] at h
  simp only [vz, tyf, g6, jw, dt, (aG ka), iP, cI, dK, dV, cl, (aG iQ), eF, nm, seval]
  exact ⟨List.length p5, Nat.lt_succ_self _, by rw [pb]; refine ⟨p5, iO + 1, rfl, Int.le_trans jM (Int.le_add_one (Int.le_refl _)), bS jM kR, rfl, (show 2 ≤ sQ + 22 by omega), dK, dV, ?_, (by first | exact h | (simp only [dt, cI, eF]; exact h))⟩ <;> first | (simp only [ua, jw, dt, iP, cI, dK, dV, cl, eF, nm, seval] <;> rfl) | rfl⟩
def tP (ag : GLs) : Option (Int × Int) := Option.bind (sR ag) (fun r1 => some ((List.length r1.1.Ends : Int), r1.2.2))
theorem TX (ag : GLs) (R : Int × Int) (h : tP ag = some R) : ad Tryz.prog G0 37 [.agg (cGLs ag)] (.tree (.tup [.lit (.int .i64 R.1), .lit (.int .i64 R.2)])) := by
 refine ad.runR mixed Tryz.call37 Tryz.func37 rfl (by simp [Tryz.ntmps37]; kernel_rfl) ?_
 obtain ⟨KF, h, kF, kN⟩ := dZ h
 simp only [tP] at h
 obtain ⟨r2, o3, h⟩ := optI h kN
 try simp only [hs] at h
 simp only [vz, tyf, nm, seval]
 refine ktA (Qg _ _ o3) ?_
 refine bt (fun tm => tm 9 = .tup [.agg (cGLx r2.1), .lit (.int .i64 r2.2.1), .lit (.int .i64 r2.2.2)] ∧ True) (by refine ⟨?_, trivial⟩ <;> first | (simp only [ua, nm, seval] <;> rfl) | rfl) ?_
 rintro tm ⟨e4, _⟩
 try simp only [vz, tyf, e4, nm, seval]
 refine d4 (x := (.tup [.lit (.int .i64 (List.length r2.1.Ends : Int)), .lit (.int .i64 r2.2.2)])) (by first | (simp only [Tryz.results37, resV, resL, aJ, dU, dT, uw, cr, tyf, nm, seval] <;> rfl) | rfl) ?_
 obtain rfl := kF _ h
 refine dW ?_ ?_
 ·simp only [tre, aw, Bool.and_self]
 ·first | (simp only [outV, uw, fu, cr, tyf, nrm, ar, e4, nm, seval] <;> rfl) | rfl
def yk (ag : GLs) (aA : GLx) : Option (Bool) := Option.bind (wj ag aA) (fun r1 => cond (r1) (cond (decide ((List.length aA.Out : Int) > 0)) (some true) (Option.bind (tP ag) (fun r2 => Option.bind (sR ag) (fun r3 => Option.bind (tQ ag aA) (fun r4 => cond (r2.2 != 0) (cond (r2.2 != 5) (some false) (cond (r3.2.2 != r2.2) (some false) (cond (r4.2 != 0) (cond (r4.2 != 5) (some false) (cond (r4.2 == 0) (some false) (some true))) (cond (r4.2 == 0) (some false) (some true))))) (cond (r3.2.2 != r2.2) (some false) (cond (r4.2 != 0) (cond (r4.2 != 5) (some false) (Option.bind (ri r3.1) (fun r5 => cond (r5) (Option.bind (sS ag r3.1) (fun r6 => cond (r6) (cond (decide ((List.length r3.1.Out : Int) > 0)) (some false) (cond ((List.length r3.1.Ends : Int) != r2.1) (some false) (Option.bind (tQ ag r3.1) (fun r7 => cond (r7.2 != 0) (some false) (cond (r7.1 != r3.2.1) (some false) (some true)))))) (some false))) (some false)))) (Option.bind (ri r3.1) (fun r8 => cond (r8) (Option.bind (sS ag r3.1) (fun r9 => cond (r9) (cond (decide ((List.length r3.1.Out : Int) > 0)) (some false) (cond ((List.length r3.1.Ends : Int) != r2.1) (some false) (Option.bind (tQ ag r3.1) (fun wm => cond (wm.2 != 0) (some false) (cond (wm.1 != r3.2.1) (some false) (cond ((List.length aA.Ends : Int) != r2.1) (cond (decide ((List.length aA.Ends : Int) > r2.1)) (some true) (some false)) (cond (decide (r4.1 ≤ r3.2.1)) (cond (decide (r4.1 < r3.2.1)) (some true) (Option.bind (yh aA.Ends r3.1.Ends) (fun mj => cond (mj) (some false) (some true)))) (some false)))))))) (some false))) (some false)))))))))) (some true))
theorem TY (ag : GLs) (aA : GLx) (R : Bool) (h : yk ag aA = some R) : ad Tryz.prog G0 8 [.agg (cGLs ag), .agg (cGLx aA)] (.tree (.lit (.bool R))) := by
 refine ad.runR mixed Tryz.call8 Tryz.func8 rfl (by simp [Tryz.ntmps8]; kernel_rfl) ?_
 obtain ⟨KF, h, kF, kN⟩ := dZ h
 simp only [yk] at h
 obtain ⟨rj, ml, h⟩ := optI h kN
 try simp only [hs] at h
 simp only [vz, tyf, nm, seval]
 refine ktA (TZ _ _ _ ml) ?_
 refine bt (fun tm => tm 2 = .ptr 0 0 ∧ tm 3 = .ptr 1 0 ∧ tm 16 = .lit (.bool rj) ∧ True) (by refine ⟨?_, ?_, ?_, trivial⟩ <;> first | (simp only [ua, nm, seval] <;> rfl) | rfl) ?_
 rintro tm ⟨ca, eU, dK, _⟩
 cases bY : (rj)
 ·simp only [bY, hs] at h
  simp only [vz, tyf, ca, eU, dK, bY, nm, seval]
  refine ktree0 sT ?_
  try simp only [vz, tyf, ca, eU, dK, bY, nm, seval]
  obtain rfl := kF _ h
  exact bc Tryz.results8 rfl
 simp only [bY, hs] at h
 cases d6 : (decide ((List.length aA.Out : Int) > 0))
 ·simp only [d6, hs] at h
  obtain ⟨iy, iQ, h⟩ := optI h kN
  try simp only [hs] at h
  simp only [vz, tyf, ca, eU, dK, bY, d6, nm, seval]
  refine ktA (TX _ _ iQ) ?_
  refine bt (fun tm => tm 2 = .ptr 0 0 ∧ tm 3 = .ptr 1 0 ∧ tm 27 = .tup [.lit (.int .i64 iy.1), .lit (.int .i64 iy.2)] ∧ True) (by refine ⟨ca, eU, ?_, trivial⟩ <;> first | (simp only [ua, ca, eU, dK, bY, d6, nm, seval] <;> rfl) | rfl) ?_
  rintro tm ⟨dL, bX, dz, _⟩
  obtain ⟨gT, qG, h⟩ := optI h kN
  try simp only [hs] at h
  simp only [vz, tyf, bY, d6, dL, bX, dz, nm, seval]
  refine ktA (Qg _ _ qG) ?_
  refine bt (fun tm => tm 2 = .ptr 0 0 ∧ tm 3 = .ptr 1 0 ∧ tm 5 = .lit (.int .i64 iy.1) ∧ tm 6 = .lit (.int .i64 iy.2) ∧ tm 32 = .tup [.agg (cGLx gT.1), .lit (.int .i64 gT.2.1), .lit (.int .i64 gT.2.2)] ∧ True) (by refine ⟨dL, bX, ?_, ?_, ?_, trivial⟩ <;> first | (simp only [ua, bY, d6, dL, bX, dz, nm, seval] <;> rfl) | rfl) ?_
  rintro tm ⟨dI, ec, eG, gf, bQ, _⟩
  obtain ⟨iz, qH, h⟩ := optI h kN
  try simp only [hs] at h
  simp only [vz, tyf, bY, d6, dI, ec, eG, gf, bQ, nm, seval]
  refine ktA (EJ _ _ _ qH) ?_
  refine bt (fun tm => tm 2 = .ptr 0 0 ∧ tm 3 = .ptr 1 0 ∧ tm 5 = .lit (.int .i64 iy.1) ∧ tm 6 = .lit (.int .i64 iy.2) ∧ tm 7 = .ptr 26 0 ∧ tm 8 = .lit (.int .i64 gT.2.1) ∧ tm 9 = .lit (.int .i64 gT.2.2) ∧ tm 39 = .tup [.lit (.int .i64 iz.1), .lit (.int .i64 iz.2)] ∧ True) (by refine ⟨dI, ec, eG, gf, ?_, ?_, ?_, ?_, trivial⟩ <;> first | (simp only [ua, bY, d6, dI, ec, eG, gf, bQ, nm, seval] <;> rfl) | rfl) ?_
  rintro tm ⟨ed, eX, fK, cq, bT, bC, bG, bE, _⟩
  cases cb : (iy.2 != 0)
  ·simp only [cb, hs] at h
   cases iA : (gT.2.2 != iy.2)
   ·simp only [iA, hs] at h
    cases gU : (iz.2 != 0)
    ·simp only [gU, hs] at h
     obtain ⟨ym, EK, h⟩ := optI h kN
     try simp only [hs] at h
     simp only [vz, tyf, bY, d6, ed, eX, fK, cq, bT, bC, bG, bE, cb, iA, gU, nm, seval]
     refine ktA (EL _ _ EK) ?_
     refine bt (fun tm => tm 2 = .ptr 0 0 ∧ tm 3 = .ptr 1 0 ∧ tm 5 = .lit (.int .i64 iy.1) ∧ tm 7 = .ptr 26 0 ∧ tm 8 = .lit (.int .i64 gT.2.1) ∧ tm 10 = .lit (.int .i64 iz.1) ∧ tm 11 = .lit (.int .i64 iz.2) ∧ tm 73 = .lit (.bool ym) ∧ True) (by refine ⟨ed, eX, fK, bT, bC, ?_, ?_, ?_, trivial⟩ <;> first | (simp only [ua, bY, d6, ed, eX, fK, cq, bT, bC, bG, bE, cb, iA, gU, nm, seval] <;> rfl) | rfl) ?_
     rintro tm ⟨ig, ij, gg, fp, gV, jx, kS, oI, _⟩
     cases kT : (ym)
     ·simp only [kT, hs] at h
      try simp only [vz, tyf, bY, d6, cb, iA, gU, ig, ij, gg, fp, gV, jx, kS, oI, kT, nm, seval]
      obtain rfl := kF _ h
      exact bc Tryz.results8 rfl
     simp only [kT, hs] at h
     obtain ⟨yn, iR, h⟩ := optI h kN
     try simp only [hs] at h
     simp only [vz, tyf, bY, d6, cb, iA, gU, ig, ij, gg, fp, gV, jx, kS, oI, kT, nm, seval]
     refine ktA (EM _ _ _ iR) ?_
     refine bt (fun tm => tm 2 = .ptr 0 0 ∧ tm 3 = .ptr 1 0 ∧ tm 5 = .lit (.int .i64 iy.1) ∧ tm 7 = .ptr 26 0 ∧ tm 8 = .lit (.int .i64 gT.2.1) ∧ tm 10 = .lit (.int .i64 iz.1) ∧ tm 11 = .lit (.int .i64 iz.2) ∧ tm 75 = .lit (.bool false) ∧ tm 78 = .lit (.bool yn) ∧ True) (by refine ⟨ig, ij, gg, fp, gV, jx, kS, ?_, ?_, trivial⟩ <;> first | (simp only [ua, bY, d6, cb, iA, gU, ig, ij, gg, fp, gV, jx, kS, oI, kT, nm, seval] <;> rfl) | rfl) ?_
     rintro tm ⟨j8, j9, jN, kL, kM, eV, eY, fE, iG, _⟩
     cases C3 : (yn)
     ·simp only [C3, hs] at h
      have sU := And.intro bY (And.intro d6 (And.intro cb (And.intro iA (And.intro gU (And.intro kT C3)))))
      try simp only [vz, tyf, sU, j8, j9, jN, kL, kM, eV, eY, fE, iG, nm, seval]
      obtain rfl := kF _ h
      exact bc Tryz.results8 rfl
     simp only [C3, hs] at h
     have eJ := And.intro bY (And.intro d6 (And.intro cb (And.intro iA (And.intro gU (And.intro kT C3)))))
     cases du : (decide ((List.length gT.1.Out : Int) > 0))
     ·simp only [du, hs] at h
      cases pc : ((List.length gT.1.Ends : Int) != iy.1)
      ·simp only [pc, hs] at h
       obtain ⟨C4, Ua, h⟩ := optI h kN
       try simp only [hs] at h
       simp only [vz, tyf, eJ, j8, j9, jN, kL, kM, eV, eY, fE, iG, du, pc, nm, seval]
       refine ktA (EJ _ _ _ Ua) ?_
       refine bt (fun tm => tm 3 = .ptr 1 0 ∧ tm 5 = .lit (.int .i64 iy.1) ∧ tm 7 = .ptr 26 0 ∧ tm 8 = .lit (.int .i64 gT.2.1) ∧ tm 10 = .lit (.int .i64 iz.1) ∧ tm 11 = .lit (.int .i64 iz.2) ∧ tm 97 = .tup [.lit (.int .i64 C4.1), .lit (.int .i64 C4.2)] ∧ True) (by refine ⟨j9, jN, kL, kM, eV, eY, ?_, trivial⟩ <;> first | (simp only [ua, eJ, j8, j9, jN, kL, kM, eV, eY, fE, iG, du, pc, nm, seval] <;> rfl) | rfl) ?_
       rintro tm ⟨jA, fF, fG, dX, cv, cz, bF, _⟩
       cases mm : (C4.2 != 0)
       ·simp only [mm, hs] at h
        cases tR : (C4.1 != gT.2.1)
        ·simp only [tR, hs] at h
         cases wo : ((List.length aA.Ends : Int) != iy.1)
         ·simp only [wo, hs] at h
          cases C5 : (decide (iz.1 ≤ gT.2.1))
          ·simp only [C5, hs] at h
           have Ub := And.intro eJ (And.intro du (And.intro pc (And.intro mm (And.intro tR (And.intro wo C5)))))
           try simp only [vz, tyf, Ub, jA, fF, fG, dX, cv, cz, bF, nm, seval]
           obtain rfl := kF _ h
           exact bc Tryz.results8 rfl
          simp only [C5, hs] at h
          have nD := And.intro eJ (And.intro du (And.intro pc (And.intro mm (And.intro tR (And.intro wo C5)))))
          cases rk : (decide (iz.1 < gT.2.1))
          ·simp only [rk, hs] at h
           obtain ⟨Qh, Uc, h⟩ := optI h kN
           try simp only [hs] at h
           simp only [vz, tyf, nD, jA, fF, fG, dX, cv, cz, bF, rk, nm, seval]
           refine ktA (TW _ _ _ Uc) ?_
           refine bt (fun tm => tm 126 = .lit (.bool true) ∧ tm 130 = .lit (.bool false) ∧ tm 135 = .lit (.bool Qh) ∧ True) (by refine ⟨?_, ?_, ?_, trivial⟩ <;> first | (simp only [ua, nD, jA, fF, fG, dX, cv, cz, bF, rk, nm, seval] <;> rfl) | rfl) ?_
           rintro tm ⟨rl, rn, rp, _⟩
           cases lK : (Qh)
           ·simp only [lK, hs] at h
            simp only [vz, tyf, nD, rk, rl, rn, rp, lK, nm, seval]
            refine ktree0 sT ?_
            try simp only [vz, tyf, nD, rk, rl, rn, rp, lK, nm, seval]
            obtain rfl := kF _ h
            exact bc Tryz.results8 rfl
           simp only [lK, hs] at h
           try simp only [vz, tyf, nD, rk, rl, rn, rp, lK, nm, seval]
           obtain rfl := kF _ h
           exact bc Tryz.results8 rfl
          simp only [rk, hs] at h
          simp only [vz, tyf, nD, jA, fF, fG, dX, cv, cz, bF, rk, nm, seval]
          refine ktree0 sT ?_
          try simp only [vz, tyf, nD, jA, fF, fG, dX, cv, cz, bF, rk, nm, seval]
          obtain rfl := kF _ h
          exact bc Tryz.results8 rfl
         simp only [wo, hs] at h
         cases pd : (decide ((List.length aA.Ends : Int) > iy.1))
         ·simp only [pd, hs] at h
          have Ud := And.intro eJ (And.intro du (And.intro pc (And.intro mm (And.intro tR (And.intro wo pd)))))
          try simp only [vz, tyf, Ud, jA, fF, fG, dX, cv, cz, bF, nm, seval]
          obtain rfl := kF _ h
          exact bc Tryz.results8 rfl
         simp only [pd, hs] at h
         have Qi := And.intro eJ (And.intro du (And.intro pc (And.intro mm (And.intro tR (And.intro wo pd)))))
         simp only [vz, tyf, Qi, jA, fF, fG, dX, cv, cz, bF, nm, seval]
         refine ktree0 sT ?_
         try simp only [vz, tyf, Qi, jA, fF, fG, dX, cv, cz, bF, nm, seval]
         obtain rfl := kF _ h
         exact bc Tryz.results8 rfl
        simp only [tR, hs] at h
        try simp only [vz, tyf, eJ, du, pc, jA, fF, fG, dX, cv, cz, bF, mm, tR, nm, seval]
        obtain rfl := kF _ h
        exact bc Tryz.results8 rfl
       simp only [mm, hs] at h
       try simp only [vz, tyf, eJ, du, pc, jA, fF, fG, dX, cv, cz, bF, mm, nm, seval]
       obtain rfl := kF _ h
       exact bc Tryz.results8 rfl
      simp only [pc, hs] at h
      try simp only [vz, tyf, eJ, j8, j9, jN, kL, kM, eV, eY, fE, iG, du, pc, nm, seval]
      obtain rfl := kF _ h
      exact bc Tryz.results8 rfl
     simp only [du, hs] at h
     try simp only [vz, tyf, eJ, j8, j9, jN, kL, kM, eV, eY, fE, iG, du, nm, seval]
     obtain rfl := kF _ h
     exact bc Tryz.results8 rfl
    simp only [gU, hs] at h
    cases tS : (iz.2 != 5)
    ·simp only [tS, hs] at h
     obtain ⟨Qj, Ue, h⟩ := optI h kN
     try simp only [hs] at h
     simp only [vz, tyf, bY, d6, ed, eX, fK, cq, bT, bC, bG, bE, cb, iA, gU, tS, nm, seval]
     refine ktA (EL _ _ Ue) ?_
     refine bt (fun tm => tm 2 = .ptr 0 0 ∧ tm 3 = .ptr 1 0 ∧ tm 5 = .lit (.int .i64 iy.1) ∧ tm 7 = .ptr 26 0 ∧ tm 8 = .lit (.int .i64 gT.2.1) ∧ tm 10 = .lit (.int .i64 iz.1) ∧ tm 11 = .lit (.int .i64 iz.2) ∧ tm 73 = .lit (.bool Qj) ∧ True) (by refine ⟨ed, eX, fK, bT, bC, ?_, ?_, ?_, trivial⟩ <;> first | (simp only [ua, bY, d6, ed, eX, fK, cq, bT, bC, bG, bE, cb, iA, gU, tS, nm, seval] <;> rfl) | rfl) ?_
     rintro tm ⟨rq, kU, kV, kW, ru, rv, ry, tT, _⟩
     cases rz : (Qj)
     ·simp only [rz, hs] at h
      have gh := And.intro bY (And.intro d6 (And.intro cb (And.intro iA (And.intro gU (And.intro tS rz)))))
      try simp only [vz, tyf, gh, rq, kU, kV, kW, ru, rv, ry, tT, nm, seval]
      obtain rfl := kF _ h
      exact bc Tryz.results8 rfl
     simp only [rz, hs] at h
     have iS := And.intro bY (And.intro d6 (And.intro cb (And.intro iA (And.intro gU (And.intro tS rz)))))
     obtain ⟨yo, EN, h⟩ := optI h kN
     try simp only [hs] at h
     simp only [vz, tyf, iS, rq, kU, kV, kW, ru, rv, ry, tT, nm, seval]
     refine ktA (EM _ _ _ EN) ?_
     refine bt (fun tm => tm 2 = .ptr 0 0 ∧ tm 3 = .ptr 1 0 ∧ tm 5 = .lit (.int .i64 iy.1) ∧ tm 7 = .ptr 26 0 ∧ tm 8 = .lit (.int .i64 gT.2.1) ∧ tm 10 = .lit (.int .i64 iz.1) ∧ tm 11 = .lit (.int .i64 iz.2) ∧ tm 75 = .lit (.bool false) ∧ tm 78 = .lit (.bool yo) ∧ True) (by refine ⟨rq, kU, kV, kW, ru, rv, ry, ?_, ?_, trivial⟩ <;> first | (simp only [ua, iS, rq, kU, kV, kW, ru, rv, ry, tT, nm, seval] <;> rfl) | rfl) ?_
     rintro tm ⟨pf, nE, nF, nG, nH, nI, nJ, pg, ph, _⟩
     cases gi : (yo)
     ·simp only [gi, hs] at h
      try simp only [vz, tyf, iS, pf, nE, nF, nG, nH, nI, nJ, pg, ph, gi, nm, seval]
      obtain rfl := kF _ h
      exact bc Tryz.results8 rfl
     simp only [gi, hs] at h
     cases gy : (decide ((List.length gT.1.Out : Int) > 0))
     ·simp only [gy, hs] at h
      cases kc : ((List.length gT.1.Ends : Int) != iy.1)
      ·simp only [kc, hs] at h
       obtain ⟨rA, EO, h⟩ := optI h kN
       try simp only [hs] at h
       simp only [vz, tyf, iS, pf, nE, nF, nG, nH, nI, nJ, pg, ph, gi, gy, kc, nm, seval]
       refine ktA (EJ _ _ _ EO) ?_
       refine bt (fun tm => tm 3 = .ptr 1 0 ∧ tm 5 = .lit (.int .i64 iy.1) ∧ tm 7 = .ptr 26 0 ∧ tm 8 = .lit (.int .i64 gT.2.1) ∧ tm 10 = .lit (.int .i64 iz.1) ∧ tm 11 = .lit (.int .i64 iz.2) ∧ tm 97 = .tup [.lit (.int .i64 rA.1), .lit (.int .i64 rA.2)] ∧ True) (by refine ⟨nE, nF, nG, nH, nI, nJ, ?_, trivial⟩ <;> first | (simp only [ua, iS, pf, nE, nF, nG, nH, nI, nJ, pg, ph, gi, gy, kc, nm, seval] <;> rfl) | rfl) ?_
       rintro tm ⟨rB, iT, iU, iV, iW, iX, jB, _⟩
       cases nK : (rA.2 != 0)
       ·simp only [nK, hs] at h
        cases pj : (rA.1 != gT.2.1)
        ·simp only [pj, hs] at h
         simp only [vz, tyf, iS, gi, gy, kc, rB, iT, iU, iV, iW, iX, jB, nK, pj, nm, seval]
         refine ktree0 sT ?_
         try simp only [vz, tyf, iS, gi, gy, kc, rB, iT, iU, iV, iW, iX, jB, nK, pj, nm, seval]
         obtain rfl := kF _ h
         exact bc Tryz.results8 rfl
        simp only [pj, hs] at h
        try simp only [vz, tyf, iS, gi, gy, kc, rB, iT, iU, iV, iW, iX, jB, nK, pj, nm, seval]
        obtain rfl := kF _ h
        exact bc Tryz.results8 rfl
       simp only [nK, hs] at h
       try simp only [vz, tyf, iS, gi, gy, kc, rB, iT, iU, iV, iW, iX, jB, nK, nm, seval]
       obtain rfl := kF _ h
       exact bc Tryz.results8 rfl
      simp only [kc, hs] at h
      try simp only [vz, tyf, iS, pf, nE, nF, nG, nH, nI, nJ, pg, ph, gi, gy, kc, nm, seval]
      obtain rfl := kF _ h
      exact bc Tryz.results8 rfl
     simp only [gy, hs] at h
     try simp only [vz, tyf, iS, pf, nE, nF, nG, nH, nI, nJ, pg, ph, gi, gy, nm, seval]
     obtain rfl := kF _ h
     exact bc Tryz.results8 rfl
    simp only [tS, hs] at h
    try simp only [vz, tyf, bY, d6, ed, eX, fK, cq, bT, bC, bG, bE, cb, iA, gU, tS, nm, seval]
    obtain rfl := kF _ h
    exact bc Tryz.results8 rfl
   simp only [iA, hs] at h
   try simp only [vz, tyf, bY, d6, ed, eX, fK, cq, bT, bC, bG, bE, cb, iA, nm, seval]
   obtain rfl := kF _ h
   exact bc Tryz.results8 rfl
  simp only [cb, hs] at h
  cases kZ : (iy.2 != 5)
  ·simp only [kZ, hs] at h
   cases mn : (gT.2.2 != iy.2)
   ·simp only [mn, hs] at h
    cases dD : (iz.2 != 0)
    ·simp only [dD, hs] at h
     cases rC : (iz.2 == 0)
     ·simp only [rC, hs] at h
      have yp := And.intro bY (And.intro d6 (And.intro cb (And.intro kZ (And.intro mn (And.intro dD rC)))))
      simp only [vz, tyf, yp, ed, eX, fK, cq, bT, bC, bG, bE, nm, seval]
      refine ktree0 sT ?_
      try simp only [vz, tyf, yp, ed, eX, fK, cq, bT, bC, bG, bE, nm, seval]
      obtain rfl := kF _ h
      exact bc Tryz.results8 rfl
     simp only [rC, hs] at h
     have EP := And.intro bY (And.intro d6 (And.intro cb (And.intro kZ (And.intro mn (And.intro dD rC)))))
     try simp only [vz, tyf, EP, ed, eX, fK, cq, bT, bC, bG, bE, nm, seval]
     obtain rfl := kF _ h
     exact bc Tryz.results8 rfl
    simp only [dD, hs] at h
    cases rD : (iz.2 != 5)
    ·simp only [rD, hs] at h
     have tU := And.intro bY (And.intro d6 (And.intro cb (And.intro kZ (And.intro mn (And.intro dD rD)))))
     cases pk : (iz.2 == 0)
     ·simp only [pk, hs] at h
      simp only [vz, tyf, tU, ed, eX, fK, cq, bT, bC, bG, bE, pk, nm, seval]
      refine ktree0 sT ?_
      try simp only [vz, tyf, tU, ed, eX, fK, cq, bT, bC, bG, bE, pk, nm, seval]
      obtain rfl := kF _ h
      exact bc Tryz.results8 rfl
     simp only [pk, hs] at h
     try simp only [vz, tyf, tU, ed, eX, fK, cq, bT, bC, bG, bE, pk, nm, seval]
     obtain rfl := kF _ h
     exact bc Tryz.results8 rfl
    simp only [rD, hs] at h
    have ES := And.intro bY (And.intro d6 (And.intro cb (And.intro kZ (And.intro mn (And.intro dD rD)))))
    try simp only [vz, tyf, ES, ed, eX, fK, cq, bT, bC, bG, bE, nm, seval]
    obtain rfl := kF _ h
    exact bc Tryz.results8 rfl
   simp only [mn, hs] at h
   try simp only [vz, tyf, bY, d6, ed, eX, fK, cq, bT, bC, bG, bE, cb, kZ, mn, nm, seval]
   obtain rfl := kF _ h
   exact bc Tryz.results8 rfl
  simp only [kZ, hs] at h
  try simp only [vz, tyf, bY, d6, ed, eX, fK, cq, bT, bC, bG, bE, cb, kZ, nm, seval]
  obtain rfl := kF _ h
  exact bc Tryz.results8 rfl
 simp only [d6, hs] at h
 simp only [vz, tyf, ca, eU, dK, bY, d6, nm, seval]
 refine ktree0 sT ?_
 try simp only [vz, tyf, ca, eU, dK, bY, d6, nm, seval]
 obtain rfl := kF _ h
 exact bc Tryz.results8 rfl
theorem Qk (y : List GLe) : ∀ (p : List GLe) (q : List GLe) (i : Int), 0 ≤ i → y.drop i.toNat = q → p.length = q.length → ¬ lexb p q → tN y p i = some (.go ()) ∨ tN y p i = some (.ret false)
 | [], q, i, _, _, _, _ => .inl rfl
 | e :: p, [], i, _, _, h, _ => by cases h
 | e :: p, f :: q, i, h0, hd, hl, hb => by
  have hg := eg h0 hd
  have hlt := yq hg
  simp only [tN, decide_eq_true hlt.2, cond_true, hg, Option.bind_some]
  rw [wq]
  unfold lexb at hb
  by_cases he : e = f
  ·rw [decide_eq_true he, cond_true]
   exact Qk y p q (i + 1) (by omega) (bS h0 hd) (by simpa using hl) fun h => hb (.inr ⟨he, h⟩)
  ·rw [decide_eq_false he, cond_false, Ql, Option.bind_some, decide_eq_false fun h => hb (.inl h)]
   exact .inr rfl
theorem ET {x y : List GLe} (hx : lenOk x = true) (hl : x.length = y.length) (hb : ¬ lexb x y) : yh x y = some false := by
 unfold yh
 rw [hx, cond_true]
 rcases Qk y x y 0 (Int.le_refl _) rfl hl hb with e | e
 ·rw [e, pn, decide_eq_false (by omega)]
 ·rw [e]; rfl
theorem Uf (s : GLs) (x : GLx) (h : FineS s) (hx : lenOk x.Out = true ∧ lenOk x.Ends = true) : yk s x = some true := by
 rcases EU s x h hx with e | ⟨e, g1, g2, g3⟩
 ·simp only [yk, e]; rfl
 have g : Good s x := ⟨h, g1, g2, g3, hx.1, hx.2⟩
 simp only [yk, e, Option.bind_some, cond_true]
 by_cases hout : (x.Out.length : Int) > 0
 ·rw [decide_eq_true hout]; rfl
 rw [decide_eq_false hout, cond_false]
 have hnil : x.Out = [] := List.length_eq_zero_iff.1 (by omega)
 rw [hnil] at g2 g3
 obtain ⟨L, FL, l1, l2, l3, l4, l5, l6, l7, l8, l9⟩ := EV h g1 g2
 obtain ⟨o, e2, hm⟩ := Qm g
 have hxx : GLx.mk [] x.Ends = x := by rw [← hnil]
 rw [e2]
 have own : ∀ K, o = some K → ∃ l ∈ FL, l.lx.Ends = x.Ends ∧ l.stretch = (K : Int) := by
  rintro K rfl
  have hfit := EW hm
  obtain ⟨l, q1, q2⟩ := l8 x.Ends ((l3 _).2 ⟨g3, EX hfit⟩) (by rw [hxx]; exact hfit)
  obtain ⟨a1, a2, J, a3, a4⟩ := l7 l q1
  refine ⟨l, q1, q2, ?_⟩
  have : l.lx = x := by
   rw [show l.lx = GLx.mk l.lx.Out l.lx.Ends from rfl, a2, q2, hxx]
  rw [this] at a4
  have := Qn hm a4
  rw [a3, Option.some.inj this]
 rcases l9 with ⟨rfl, hS⟩ | ⟨m, A, B, rfl, hS, hA, hB⟩
 ·have hR : tP s = some (0, 5) := by simp only [tP, hS, Option.bind_some]; rfl
  have ho : o = none := by
   cases o with
   | none => rfl
   | some K => obtain ⟨l, hl, _⟩ := own K rfl; cases hl
  rw [hS, hR, ho]
  rfl
 ·have hR : tP s = some ((m.lx.Ends.length : Int), 0) := by simp only [tP, hS, Option.bind_some]
  obtain ⟨a1, a2, J, a3, a4⟩ := l7 m (by simp)
  have hmL : m.lx.Ends ∈ L := l6.subset (List.mem_map_of_mem (by simp))
  obtain ⟨s1, s2⟩ := (l3 _).1 hmL
  have hrows := g.sh.rows
  have hlen : lenOk m.lx.Ends = true := oJ (by omega)
  have gm : Good s m.lx := ⟨h, g1, by rw [a2]; exact g2, by rw [a2]; exact s1, by rw [a2]; rfl, hlen⟩
  obtain ⟨o', e3, hm'⟩ := Qm gm
  have ho' := Qn hm' a4
  subst ho'
  have hslim : ri m.lx = some true := by
   unfold ri
   rw [a2, decide_eq_true (by simp), cond_true, decide_eq_true (by omega)]
  have hset : sS s m.lx = some true := by
   rw [Qo g.sh _ (by rw [a2]; rfl) hlen, gm.out, (wu _ _ (yr g.sh _)).2 gm.ends]
   rfl
  have Ug : decide ((List.length m.lx.Out : Int) > 0) = false := by rw [a2]; rfl
  have z : ((0 : Int) != 0) = false := rfl
  have z1 : ((m.lx.Ends.length : Int) != (m.lx.Ends.length : Int)) = false := by simp
  have z2 : ((J : Int) != (J : Int)) = false := by simp
  rw [hS, hR, a3]
  simp only [Option.bind_some, z, cond_false, hslim, hset, cond_true, Ug, z1, e3, strO, z2]
  cases o with
  | none => rfl
  | some K =>
   simp only [strO, z, cond_false]
   obtain ⟨l, q1, q2, q3⟩ := own K rfl
   have keyL : ¬ fw l m := by
    rcases List.mem_append.1 q1 with hl | hl
    ·have := hA l hl
     unfold fw at this ⊢; omega
    ·rcases List.mem_cons.1 hl with rfl | hl
     ·unfold fw; omega
     ·exact hB l hl
   by_cases hn : (x.Ends.length : Int) = (m.lx.Ends.length : Int)
   ·rw [show ((x.Ends.length : Int) != (m.lx.Ends.length : Int)) = false by simp [hn], cond_false]
    have hKJ : ¬ ((J : Int) < (K : Int)) := fun hh => keyL (.inr ⟨by rw [q2]; omega, by rw [q3, a3]; exact hh⟩)
    rw [decide_eq_true (by omega), cond_true]
    by_cases hlt : (K : Int) < (J : Int)
    ·rw [decide_eq_true hlt]; rfl
    ·rw [decide_eq_false hlt, cond_false]
     have hnb : ¬ lexb x.Ends m.lx.Ends := by
      rcases List.mem_append.1 q1 with hl | hl
      ·have := hA l hl
       unfold fw at this
       rw [q2, q3, a3] at this
       omega
      ·rcases List.mem_cons.1 hl with rfl | hl
       ·rw [← q2]; exact yu
       ·have hpw := l4.sublist l6
        rw [List.map_append, List.map_cons, List.pairwise_append] at hpw
        have := (List.pairwise_cons.1 hpw.2.1).1 l.lx.Ends (List.mem_map_of_mem hl)
        rw [q2] at this
        exact yv (this.2 (by omega))
     rw [ET hx.2 (by omega) hnb]
     rfl
   ·rw [show ((x.Ends.length : Int) != (m.lx.Ends.length : Int)) = true by simp [hn], cond_true]
    have : (x.Ends.length : Int) > (m.lx.Ends.length : Int) := by
     unfold fw at keyL
     rw [q2] at keyL
     omega
    rw [decide_eq_true this]
    rfl
end Go.V
end
