/- Part of a proof. -/
import Derived.Test.YtekhjalgmlflpaaGreatDoorKbm
set_option linter.all false
set_option maxRecDepth 4000
set_option maxHeartbeats 40000000
section
namespace Go.V
open Go Go.Proofs IntKind
def u6 (r4 : Gi × Int) (Ea : Int × Int) : List Gi → Int → Option (LOut (Bool) (Unit))
 | [], u7 => some (.go ())
 | e3 :: p3, u7 => cond (decide ((i64.wrap ((i64.wrap ((i64.wrap ((i64.wrap (r4.1.a0 * e3.a0)) + (i64.wrap (r4.1.a1 * e3.a1)))) + (i64.wrap (r4.1.a2 * e3.a2)))) + Ea.2)) ≥ Ea.1)) (some (.ret false)) (u6 r4 Ea p3 (u7 + 1))
def rS (ae : Gs) (aH : Gu) (r4 : Gi × Int) : Nat → Int → Int → Int → Option (LOut (Bool) (Int × Int))
 | 0, gi, lA, lB => some (.go (lA, lB))
 | k2 + 1, gi, lA, lB => cond (gi == 0) (Option.bind (ld ae gi aH.Years aH.Fade.a0) (fun kQ => rS ae aH r4 k2 (gi + 1) (i64.wrap (lA + (i64.wrap (r4.1.a0 * kQ)))) (i64.wrap (lB + (i64.wrap (ae.Off * (if r4.1.a0 < (i64.wrap (-r4.1.a0)) then (i64.wrap (-r4.1.a0)) else r4.1.a0))))))) (cond (gi == 1) (Option.bind (ld ae gi aH.Years aH.Fade.a1) (fun oU => rS ae aH r4 k2 (gi + 1) (i64.wrap (lA + (i64.wrap (r4.1.a1 * oU)))) (i64.wrap (lB + (i64.wrap (ae.Off * (if r4.1.a1 < (i64.wrap (-r4.1.a1)) then (i64.wrap (-r4.1.a1)) else r4.1.a1))))))) (cond (gi == 2) (Option.bind (ld ae gi aH.Years aH.Fade.a2) (fun oR => rS ae aH r4 k2 (gi + 1) (i64.wrap (lA + (i64.wrap (r4.1.a2 * oR)))) (i64.wrap (lB + (i64.wrap (ae.Off * (if r4.1.a2 < (i64.wrap (-r4.1.a2)) then (i64.wrap (-r4.1.a2)) else r4.1.a2))))))) (none)))
def u9 (r4 : Gi × Int) (Eb : Int × Int) : List Gi → Int → Option (LOut (Bool) (Unit))
 | [], uA => some (.go ())
 | e1 :: p1, uA => cond (decide ((i64.wrap ((i64.wrap ((i64.wrap ((i64.wrap (r4.1.a0 * e1.a0)) + (i64.wrap (r4.1.a1 * e1.a1)))) + (i64.wrap (r4.1.a2 * e1.a2)))) + Eb.2)) ≥ Eb.1)) (some (.ret false)) (u9 r4 Eb p1 (uA + 1))
def rT (ae : Gs) (aH : Gu) (r4 : Gi × Int) : Nat → Int → Int → Int → Option (LOut (Bool) (Int × Int))
 | 0, gj, lC, lE => some (.go (lC, lE))
 | k0 + 1, gj, lC, lE => cond (gj == 0) (Option.bind (ld ae gj aH.Years aH.Fade.a0) (fun dW => rT ae aH r4 k0 (gj + 1) (i64.wrap (lC + (i64.wrap (r4.1.a0 * dW)))) (i64.wrap (lE + (i64.wrap (ae.Off * (if r4.1.a0 < (i64.wrap (-r4.1.a0)) then (i64.wrap (-r4.1.a0)) else r4.1.a0))))))) (cond (gj == 1) (Option.bind (ld ae gj aH.Years aH.Fade.a1) (fun iJ => rT ae aH r4 k0 (gj + 1) (i64.wrap (lC + (i64.wrap (r4.1.a1 * iJ)))) (i64.wrap (lE + (i64.wrap (ae.Off * (if r4.1.a1 < (i64.wrap (-r4.1.a1)) then (i64.wrap (-r4.1.a1)) else r4.1.a1))))))) (cond (gj == 2) (Option.bind (ld ae gj aH.Years aH.Fade.a2) (fun p8 => rT ae aH r4 k0 (gj + 1) (i64.wrap (lC + (i64.wrap (r4.1.a2 * p8)))) (i64.wrap (lE + (i64.wrap (ae.Off * (if r4.1.a2 < (i64.wrap (-r4.1.a2)) then (i64.wrap (-r4.1.a2)) else r4.1.a2))))))) (none)))
def Hh (ae : Gs) (ai : List Int) (aH : Gu) (cb : Gi) : Option (Bool) := Option.bind (D8 ae ai) (fun r1 => cond (r1) (cond (decide ((List.length aH.Tins : Int) > 6)) (some true) (Option.bind (BY ae aH) (fun r2 => cond (r2) (Option.bind (uz cb) (fun r3 => cond (r3) (Option.bind (Am ae) (fun r4 => Option.bind (DX ae ai aH) (fun r5 => Option.bind (D7 ae ai) (fun r6 => cond (r6.2) (cond (r4.2 != 0) (cond (r4.2 != 5) (some false) (cond (r5.2 != 0) (some false) (Option.bind (Aj ae cb) (fun r7 => cond (r7) (some false) (some true))))) (cond (r5.2 != 0) (some false) (Option.bind (Aj ae cb) (fun r8 => Option.bind (uz r4.1) (fun r9 => cond (r9) (cond (r5.1) (some false) (cond (r6.1 != 1) (some false) (cond (r8) (Option.bind (Ag ([cb.a0, cb.a1, cb.a2]) ([r4.1.a0, r4.1.a1, r4.1.a2])) (fun dA => cond (dA) (some false) (cond (boundOk 3) (aK (rT ae aH r4 (Int.toNat (3 - 0)) 0 0 0) (fun zU => some zU) (fun Eb => cond (lenOk aH.Tins) (aK (u9 r4 Eb aH.Tins 0) (fun jO => some jO) (fun c15 => some true) (fun _ _ => none)) none) (fun _ _ => none)) none))) (cond (boundOk 3) (aK (rS ae aH r4 (Int.toNat (3 - 0)) 0 0 0) (fun pn => some pn) (fun Ea => cond (lenOk aH.Tins) (aK (u6 r4 Ea aH.Tins 0) (fun wK => some wK) (fun c22 => some true) (fun _ _ => none)) none) (fun _ _ => none)) none)))) (some false)))))) (some false))))) (some true))) (some true)))) (some true))
theorem Y0 (ae : Gs) (ai : List Int) (aH : Gu) (cb : Gi) (R : Bool) (h : Hh ae ai aH cb = some R) : ad Tryz.prog G0 10 [.agg (cGs ae), .sl (aa eI ai) (List.length ai) false, .agg (cGu aH), .agg (cGi cb)] (.tree (.lit (.bool R))) := by
 refine ad.runRQ mixed Tryz.call10 Tryz.func10 rfl (by simp [Tryz.ntmps10]; kernel_rfl) ?_
 obtain ⟨KF, h, kF, kN⟩ := cQ h
 simp only [Hh] at h
 obtain ⟨XN, o26, h⟩ := optI h kN
 try simp only [hs] at h
 simp only [vz, qr, tyf, nm, seval]
 refine ktA (zpk _ _ _ o26) ?_
 refine aV (fun tm => tm 1 = .sl (aa eI ai) (List.length ai) false ∧ tm 4 = .ptr 0 0 ∧ tm 6 = .ptr 1 0 ∧ tm 7 = .ptr 2 0 ∧ tm 22 = .lit (.bool XN) ∧ True) (by refine ⟨?_, ?_, ?_, ?_, ?_, trivial⟩ <;> first | (simp only [ua, nm, seval] <;> rfl) | rfl) ?_
 rintro tm ⟨cn, bA, bW, cC, cE, _⟩
 cases gp : (XN)
 ·simp only [gp, hs] at h
  simp only [vz, qr, tyf, cn, bA, bW, cC, cE, gp, nm, seval]
  refine ktree0 xo ?_
  try simp only [vz, qr, tyf, cn, bA, bW, cC, cE, gp, nm, seval]
  obtain rfl := kF _ h
  exact bl Tryz.results10 rfl
 simp only [gp, hs] at h
 cases de : (decide ((List.length aH.Tins : Int) > 6))
 ·simp only [de, hs] at h
  obtain ⟨tY, CD, h⟩ := optI h kN
  try simp only [hs] at h
  simp only [vz, qr, tyf, cn, bA, bW, cC, cE, gp, de, nm, seval]
  refine ktA (zom _ _ _ CD) ?_
  refine aV (fun tm => tm 1 = .sl (aa eI ai) (List.length ai) false ∧ tm 4 = .ptr 0 0 ∧ tm 6 = .ptr 1 0 ∧ tm 7 = .ptr 2 0 ∧ tm 30 = .lit (.bool false) ∧ tm 33 = .lit (.bool tY) ∧ True) (by refine ⟨cn, bA, bW, cC, ?_, ?_, trivial⟩ <;> first | (simp only [ua, cn, bA, bW, cC, cE, gp, de, nm, seval] <;> rfl) | rfl) ?_
  rintro tm ⟨eh, fy, cY, di, dp, dZ, _⟩
  cases bY : (tY)
  ·simp only [bY, hs] at h
   simp only [vz, qr, tyf, gp, de, eh, fy, cY, di, dp, dZ, bY, nm, seval]
   refine ktree0 xo ?_
   try simp only [vz, qr, tyf, gp, de, eh, fy, cY, di, dp, dZ, bY, nm, seval]
   obtain rfl := kF _ h
   exact bl Tryz.results10 rfl
  simp only [bY, hs] at h
  obtain ⟨Dh, P8, h⟩ := optI h kN
  try simp only [hs] at h
  simp only [vz, qr, tyf, gp, de, eh, fy, cY, di, dp, dZ, bY, nm, seval]
  refine ktA (Xl _ _ P8) ?_
  refine aV (fun tm => tm 1 = .sl (aa eI ai) (List.length ai) false ∧ tm 4 = .ptr 0 0 ∧ tm 6 = .ptr 1 0 ∧ tm 7 = .ptr 2 0 ∧ tm 36 = .lit (.bool false) ∧ tm 38 = .lit (.bool Dh) ∧ True) (by refine ⟨eh, fy, cY, di, ?_, ?_, trivial⟩ <;> first | (simp only [ua, gp, de, eh, fy, cY, di, dp, dZ, bY, nm, seval] <;> rfl) | rfl) ?_
  rintro tm ⟨lr, fY, fV, fL, ed, dj, _⟩
  cases iK : (Dh)
  ·simp only [iK, hs] at h
   simp only [vz, qr, tyf, gp, de, bY, lr, fY, fV, fL, ed, dj, iK, nm, seval]
   refine ktree0 xo ?_
   try simp only [vz, qr, tyf, gp, de, bY, lr, fY, fV, fL, ed, dj, iK, nm, seval]
   obtain rfl := kF _ h
   exact bl Tryz.results10 rfl
  simp only [iK, hs] at h
  obtain ⟨cu, o53, h⟩ := optI h kN
  try simp only [hs] at h
  simp only [vz, qr, tyf, gp, de, bY, lr, fY, fV, fL, ed, dj, iK, nm, seval]
  refine ktA (XM _ _ o53) ?_
  refine aV (fun tm => tm 1 = .sl (aa eI ai) (List.length ai) false ∧ tm 4 = .ptr 0 0 ∧ tm 6 = .ptr 1 0 ∧ tm 7 = .ptr 2 0 ∧ tm 44 = .tup [.agg (cGi cu.1), .lit (.int .i64 cu.2)] ∧ True) (by refine ⟨lr, fY, fV, fL, ?_, trivial⟩ <;> first | (simp only [ua, gp, de, bY, lr, fY, fV, fL, ed, dj, iK, nm, seval] <;> rfl) | rfl) ?_
  rintro tm ⟨ff, gO, iL, fD, ie, _⟩
  obtain ⟨qF, o60, h⟩ := optI h kN
  try simp only [hs] at h
  simp only [vz, qr, tyf, gp, de, bY, iK, ff, gO, iL, fD, ie, nm, seval]
  refine ktA (zsv _ _ _ _ o60) ?_
  refine aV (fun tm => tm 1 = .sl (aa eI ai) (List.length ai) false ∧ tm 4 = .ptr 0 0 ∧ tm 6 = .ptr 1 0 ∧ tm 7 = .ptr 2 0 ∧ tm 9 = .ptr 30 0 ∧ tm 10 = .lit (.int .i64 cu.2) ∧ tm 51 = .tup [.lit (.bool qF.1), .lit (.int .i64 qF.2)] ∧ True) (by refine ⟨ff, gO, iL, fD, ?_, ?_, ?_, trivial⟩ <;> first | (simp only [ua, gp, de, bY, iK, ff, gO, iL, fD, ie, nm, seval] <;> rfl) | rfl) ?_
  rintro tm ⟨fU, eV, i7, gE, gI, gY, gD, _⟩
  obtain ⟨mD, Sj, h⟩ := optI h kN
  try simp only [hs] at h
  simp only [vz, qr, tyf, gp, de, bY, iK, fU, eV, i7, gE, gI, gY, gD, nm, seval]
  refine ktA (zqf _ _ _ Sj) ?_
  refine aV (fun tm => tm 4 = .ptr 0 0 ∧ tm 6 = .ptr 1 0 ∧ tm 7 = .ptr 2 0 ∧ tm 9 = .ptr 30 0 ∧ tm 10 = .lit (.int .i64 cu.2) ∧ tm 11 = .lit (.bool qF.1) ∧ tm 12 = .lit (.int .i64 qF.2) ∧ tm 57 = .tup [.lit (.int .i64 mD.1), .lit (.bool mD.2)] ∧ True) (by refine ⟨eV, i7, gE, gI, gY, ?_, ?_, ?_, trivial⟩ <;> first | (simp only [ua, gp, de, bY, iK, fU, eV, i7, gE, gI, gY, gD, nm, seval] <;> rfl) | rfl) ?_
  rintro tm ⟨eQ, fj, eG, fN, fx, eJ, eY, gH, _⟩
  cases xq : (mD.2)
  ·simp only [xq, hs] at h
   try simp only [vz, qr, tyf, gp, de, bY, iK, eQ, fj, eG, fN, fx, eJ, eY, gH, xq, nm, seval]
   obtain rfl := kF _ h
   exact bl Tryz.results10 rfl
  simp only [xq, hs] at h
  cases At : (cu.2 != 0)
  ·simp only [At, hs] at h
   cases Hi : (qF.2 != 0)
   ·simp only [Hi, hs] at h
    have dV := And.intro gp (And.intro de (And.intro bY (And.intro iK (And.intro xq (And.intro At Hi)))))
    obtain ⟨pU, Ci, h⟩ := optI h kN
    try simp only [hs] at h
    simp only [vz, qr, tyf, dV, eQ, fj, eG, fN, fx, eJ, eY, gH, nm, seval]
    refine ktA (Xo _ _ _ Ci) ?_
    refine aV (fun tm => tm 4 = .ptr 0 0 ∧ tm 6 = .ptr 1 0 ∧ tm 7 = .ptr 2 0 ∧ tm 9 = .ptr 30 0 ∧ tm 10 = .lit (.int .i64 cu.2) ∧ tm 11 = .lit (.bool qF.1) ∧ tm 13 = .lit (.int .i64 mD.1) ∧ tm 76 = .lit (.bool pU) ∧ True) (by refine ⟨eQ, fj, eG, fN, fx, eJ, ?_, ?_, trivial⟩ <;> first | (simp only [ua, dV, eQ, fj, eG, fN, fx, eJ, eY, gH, nm, seval] <;> rfl) | rfl) ?_
    rintro tm ⟨il, jl, fH, hY, kj, mi, nf, lj, _⟩
    simp only [vz, qr, tyf, dV, il, jl, fH, hY, kj, mi, nf, lj, nm, seval]
    refine fu (fun tm => tm 4 = .ptr 0 0 ∧ tm 6 = .ptr 1 0 ∧ tm 7 = .ptr 2 0 ∧ tm 9 = .ptr 30 0 ∧ tm 11 = .lit (.bool qF.1) ∧ tm 13 = .lit (.int .i64 mD.1) ∧ tm 15 = .lit (.bool pU) ∧ True) (by refine ⟨il, jl, fH, hY, mi, nf, ?_, trivial⟩ <;> first | (simp only [ua, dV, il, jl, fH, hY, kj, mi, nf, lj, nm, seval] <;> rfl) | rfl) ?_
    rintro tm ⟨kR, iP, kl, kS, mT, tQ, Aa, _⟩
    obtain ⟨XO, Sk, h⟩ := optI h kN
    try simp only [hs] at h
    simp only [vz, qr, tyf, dV, kR, iP, kl, kS, mT, tQ, Aa, nm, seval]
    refine dktA (Xl _ _ Sk) ?_
    refine aV (fun tm => tm 4 = .ptr 0 0 ∧ tm 6 = .ptr 1 0 ∧ tm 7 = .ptr 2 0 ∧ tm 9 = .ptr 30 0 ∧ tm 11 = .lit (.bool qF.1) ∧ tm 13 = .lit (.int .i64 mD.1) ∧ tm 15 = .lit (.bool pU) ∧ tm 85 = .lit (.bool XO) ∧ True) (by refine ⟨kR, iP, kl, kS, mT, tQ, Aa, ?_, trivial⟩ <;> first | (simp only [ua, dV, kR, iP, kl, kS, mT, tQ, Aa, nm, seval] <;> rfl) | rfl) ?_
    rintro tm ⟨ei, ej, jv, iD, gq, gu, gv, gw, _⟩
    cases ck : (XO)
    ·simp only [ck, hs] at h
     try simp only [vz, qr, tyf, dV, ei, ej, jv, iD, gq, gu, gv, gw, ck, nm, seval]
     obtain rfl := kF _ h
     exact bl Tryz.results10 rfl
    simp only [ck, hs] at h
    cases cm : (qF.1)
    ·simp only [cm, hs] at h
     cases ct : (mD.1 != 1)
     ·simp only [ct, hs] at h
      cases cz : (pU)
      ·simp only [cz, hs] at h
       cases jw : (boundOk 3)
       ·simp only [jw, hs] at h
        exact absurd h kN
       simp only [jw, hs] at h
       simp only [vz, qr, tyf, dV, ei, ej, jv, iD, gq, gu, gv, gw, ck, cm, ct, cz, jw, nm, seval]
       obtain ⟨Sl, h, XP, Ec, XQ, nk⟩ := eO h kN
       obtain ⟨Sm, Ed, h⟩ := call4 h
       obtain ⟨Sn, lF⟩ : ∃ I : Nat → St → Prop, I = (fun m st => ∃ (iU : Nat) (bm : Int) (bC : Int) (bD : Int), iU = m ∧ loOk bm = true ∧ Int.toNat (3 - bm) = iU ∧ st.df = [] ∧ 91 ≤ st.nx ∧ st.H 0 = some (.cells (some 28) (cGs ae)) ∧ st.H 1 = some (.cells (some 42) (cGu aH)) ∧ st.H 30 = some (.cells (some 22) (cGi cu.1)) ∧ st.tm 4 = .ptr 0 0 ∧ st.tm 6 = .ptr 1 0 ∧ st.tm 9 = .ptr 30 0 ∧ st.tm 16 = .lit (.int .i64 bC) ∧ st.tm 17 = .lit (.int .i64 bD) ∧ st.tm 18 = .lit (.int .i64 bm) ∧ Sl (Sm iU bm bC bD)) := ⟨_, rfl⟩
       refine loopK mixed (by kernel_rfl) Sn (Int.toNat (3 - 0)) (by rw [lF]; refine ⟨Int.toNat (3 - 0), 0, 0, 0, rfl, (by rfl), rfl, rfl, (show 91 ≤ 91 by omega), ?_, ?_, ?_, ei, ej, iD, ?_, ?_, ?_, h⟩ <;> first | (simp only [ua, dV, ei, ej, jv, iD, gq, gu, gv, gw, ck, cm, ct, cz, nm, seval] <;> rfl) | rfl) ?_
       rintro m ⟨tm, H, hC, df⟩ hinv
       rw [lF] at hinv
       obtain ⟨iU, bm, bC, bD, rfl, nn, jZ, hdf, Ee, oa, oc, od, oe, mF, iQ, fq, fI, jm, h⟩ := hinv
       simp only at hdf Ee oa oc od oe mF iQ fq fI jm
       have jH := eN (m := 91) (b := hC) (by omega)
       subst hdf Ed
       cases iU with
       | zero =>
        have eZ : (decide (bm < 3)) = false := tK jZ
        simp only [rT, rS, hs, reduceCtorEq] at h
        replace h := Ec _ h
        try dsimp only at h
        try simp only [hs] at h
        cases fM : (lenOk aH.Tins)
        ·simp only [fM, hs] at h
         exact absurd h kN
        simp only [fM, hs] at h
        simp only [vz, qr, tyf, dV, ck, cm, ct, cz, jw, jH, oe, mF, iQ, fq, fI, jm, oa, oc, od, eZ, fM, nm, seval]
        obtain ⟨vK, h, pZ, qa, Cp, qb⟩ := eO h kN
        obtain ⟨vL, qc, h⟩ := call2 h
        obtain ⟨vM, jn⟩ : ∃ I : Nat → St → Prop, I = (fun m st => ∃ (fv : List Gi) (dm : Int), m = List.length fv ∧ 0 ≤ dm ∧ List.drop (Int.toNat dm) aH.Tins = fv ∧ st.df = [] ∧ hC + 3 ≤ st.nx ∧ st.H 1 = some (.cells (some 42) (cGu aH)) ∧ st.H 30 = some (.cells (some 22) (cGi cu.1)) ∧ st.tm 6 = .ptr 1 0 ∧ st.tm 9 = .ptr 30 0 ∧ st.tm 16 = .lit (.int .i64 bC) ∧ st.tm 17 = .lit (.int .i64 bD) ∧ st.tm 19 = .lit (.int .i64 dm) ∧ vK (vL fv dm)) := ⟨_, rfl⟩
        refine loopK mixed (by kernel_rfl) vM (List.length aH.Tins) (by rw [jn]; refine ⟨aH.Tins, 0, rfl, Int.le_refl _, rfl, rfl, (show hC + 3 ≤ hC + 3 by omega), ?_, ?_, mF, iQ, fq, fI, ?_, h⟩ <;> first | (simp only [ua, dV, ck, cm, ct, cz, jH, oe, mF, iQ, fq, fI, jm, oa, oc, od, eZ, nm, seval] <;> rfl) | rfl) ?_
        rintro m ⟨tm, H, gT, df⟩ hinv
        rw [jn] at hinv
        obtain ⟨fv, dm, rfl, ep, fw, hdf, qd, im, iq, gU, gn, ir, iu, gR, h⟩ := hinv
        simp only at hdf qd im iq gU gn ir iu gR
        have jo := eN (m := 91) (b := gT) (by omega)
        have qG := oM (a := hC) (m := 3) (b := gT) (by omega)
        subst hdf qc
        cases fv with
        | nil =>
         have nL : (decide (dm < (List.length aH.Tins : Int))) = false := iG ep fw
         simp only [u9, u6, hs, reduceCtorEq] at h
         replace h := qa _ h
         try dsimp only at h
         try simp only [hs] at h
         simp only [vz, qr, tyf, dV, ck, cm, ct, cz, jw, jH, eZ, fM, jo, qG, gU, gn, ir, iu, gR, im, iq, nL, nm, seval]
         refine ktree0 xo ?_
         try simp only [vz, qr, tyf, dV, ck, cm, ct, cz, jw, jH, eZ, fM, jo, qG, gU, gn, ir, iu, gR, im, iq, nL, nm, seval]
         obtain rfl := kF _ h
         exact bl Tryz.results10 rfl
        | cons km fv =>
         have xr : (decide (dm < (List.length aH.Tins : Int))) = true := iH ep fw
         have xt := fp ep fw
         have xu := iI ep fw fM
         simp only [u9, u6, hs, reduceCtorEq] at h
         simp only [vz, qr, tyf, dV, ck, cm, ct, cz, jw, jH, eZ, fM, jo, qG, gU, gn, ir, iu, gR, im, iq, xr, (cl xt), xu, nm, seval]
         refine fu (fun tm => tm 6 = .ptr 1 0 ∧ tm 9 = .ptr 30 0 ∧ tm 16 = .lit (.int .i64 bC) ∧ tm 17 = .lit (.int .i64 bD) ∧ tm 19 = .lit (.int .i64 dm) ∧ True) (by refine ⟨gU, gn, ir, iu, gR, trivial⟩ <;> first | (simp only [ua, dV, ck, cm, ct, cz, jH, eZ, jo, qG, gU, gn, ir, iu, gR, im, iq, xr, xu, nm, seval] <;> rfl) | rfl) ?_
         rintro tm ⟨tv, kX, kY, kZ, iR, _⟩
         have xv := And.intro dV (And.intro ck (And.intro cm (And.intro ct (And.intro cz (And.intro jw (And.intro jH (And.intro eZ (And.intro fM (And.intro jo (And.intro qG (And.intro im (And.intro iq (And.intro xr xu)))))))))))))
         cases qH : (decide ((i64.wrap ((i64.wrap ((i64.wrap ((i64.wrap (cu.1.a0 * km.a0)) + (i64.wrap (cu.1.a1 * km.a1)))) + (i64.wrap (cu.1.a2 * km.a2)))) + bD)) ≥ bC))
         ·simp only [qH, hs] at h
          simp only [vz, qr, tyf, xv, (cl xt), tv, kX, kY, kZ, iR, qH, nm, seval]
          exact ⟨List.length fv, Nat.lt_succ_self _, by rw [jn]; refine ⟨fv, dm + 1, rfl, Int.le_trans ep (Int.le_add_one (Int.le_refl _)), eE ep fw, rfl, (show hC + 3 ≤ gT + 41 by omega), ?_, ?_, tv, kX, kY, kZ, ?_, h⟩ <;> first | (simp only [ua, xv, tv, kX, kY, kZ, iR, qH, nm, seval] <;> rfl) | rfl⟩
         simp only [qH, hs] at h
         try simp only [vz, qr, tyf, xv, (cl xt), tv, kX, kY, kZ, iR, qH, nm, seval]
         replace h := pZ _ h
         try dsimp only at h
         obtain rfl := kF _ h
         exact bl Tryz.results10 rfl
       | succ iU =>
        have xw : (decide (bm < 3)) = true := tM jZ
        have xx := tN nn jZ jw
        simp only [rT, rS, hs, reduceCtorEq] at h
        simp only [vz, qr, tyf, dV, ck, cm, ct, cz, jw, jH, oe, mF, iQ, fq, fI, jm, oa, oc, od, xw, xx, nm, seval]
        refine fu (fun tm => tm 4 = .ptr 0 0 ∧ tm 6 = .ptr 1 0 ∧ tm 9 = .ptr 30 0 ∧ tm 16 = .lit (.int .i64 bC) ∧ tm 17 = .lit (.int .i64 bD) ∧ tm 18 = .lit (.int .i64 bm) ∧ True) (by refine ⟨oe, mF, iQ, fq, fI, jm, trivial⟩ <;> first | (simp only [ua, dV, ck, cm, ct, cz, jH, oe, mF, iQ, fq, fI, jm, oa, oc, od, xw, xx, nm, seval] <;> rfl) | rfl) ?_
        rintro tm ⟨gV, gW, gX, jE, iv, kz, _⟩
        have fb := And.intro dV (And.intro ck (And.intro cm (And.intro ct (And.intro cz (And.intro jw (And.intro jH (And.intro oa (And.intro oc (And.intro od (And.intro xw xx))))))))))
        cases du : (bm == 0)
        ·simp only [du, hs] at h
         cases f8 : (bm == 1)
         ·simp only [f8, hs] at h
          cases jx : (bm == 2)
          ·simp only [jx, hs] at h
           exact absurd h nk
          simp only [jx, hs] at h
          obtain ⟨xy, So, h⟩ := optI h nk
          try simp only [hs] at h
          simp only [vz, qr, tyf, fb, gV, gW, gX, jE, iv, kz, du, f8, jx, (fe jx), nm, seval]
          refine dktA (oW _ _ _ _ _ So) ?_
          refine aV (fun tm => tm 4 = .ptr 0 0 ∧ tm 6 = .ptr 1 0 ∧ tm 9 = .ptr 30 0 ∧ tm 17 = .lit (.int .i64 bD) ∧ tm 18 = .lit (.int .i64 bm) ∧ tm 106 = .lit (.int .i64 bC) ∧ tm 109 = .lit (.int .i64 cu.1.a2) ∧ tm 118 = .lit (.int .i64 xy) ∧ True) (by refine ⟨gV, gW, gX, iv, kz, ?_, ?_, ?_, trivial⟩ <;> first | (simp only [ua, fb, gV, gW, gX, jE, iv, kz, du, f8, jx, nm, seval] <;> rfl) | rfl) ?_
          rintro tm ⟨xz, x5, x6, x7, x9, Ef, Eg, Eh, _⟩
          simp only [vz, qr, tyf, fb, du, f8, jx, (fe jx), xz, x5, x6, x7, x9, Ef, Eg, Eh, nm, seval]
          refine fu (fun tm => tm 4 = .ptr 0 0 ∧ tm 6 = .ptr 1 0 ∧ tm 9 = .ptr 30 0 ∧ tm 16 = .lit (.int .i64 (i64.wrap (bC + (i64.wrap (cu.1.a2 * xy))))) ∧ tm 17 = .lit (.int .i64 bD) ∧ tm 18 = .lit (.int .i64 bm) ∧ True) (by refine ⟨xz, x5, x6, ?_, x7, x9, trivial⟩ <;> first | (simp only [ua, fb, du, f8, jx, xz, x5, x6, x7, x9, Ef, Eg, Eh, nm, seval] <;> rfl) | rfl) ?_
          rintro tm ⟨xA, xB, xC, xD, Ei, Ej, _⟩
          simp only [vz, qr, tyf, fb, du, f8, jx, (fe jx), xA, xB, xC, xD, Ei, Ej, nm, seval]
          exact ⟨iU, Nat.lt_succ_self _, by rw [lF]; refine ⟨iU, bm + 1, i64.wrap (bC + (i64.wrap (cu.1.a2 * xy))), i64.wrap (bD + (i64.wrap (ae.Off * (if cu.1.a2 < (i64.wrap (-cu.1.a2)) then (i64.wrap (-cu.1.a2)) else cu.1.a2)))), rfl, iZ nn, ja jZ, rfl, (show 91 ≤ hC + 35 by omega), ?_, ?_, ?_, xA, xB, xC, xD, ?_, ?_, h⟩ <;> first | (simp only [ua, fb, du, f8, jx, xA, xB, xC, xD, Ei, Ej, nm, seval] <;> rfl) | rfl⟩
         simp only [f8, hs] at h
         obtain ⟨xE, Sp, h⟩ := optI h nk
         try simp only [hs] at h
         simp only [vz, qr, tyf, fb, gV, gW, gX, jE, iv, kz, du, f8, (fg f8), nm, seval]
         refine dktA (oW _ _ _ _ _ Sp) ?_
         refine aV (fun tm => tm 4 = .ptr 0 0 ∧ tm 6 = .ptr 1 0 ∧ tm 9 = .ptr 30 0 ∧ tm 17 = .lit (.int .i64 bD) ∧ tm 18 = .lit (.int .i64 bm) ∧ tm 106 = .lit (.int .i64 bC) ∧ tm 109 = .lit (.int .i64 cu.1.a1) ∧ tm 118 = .lit (.int .i64 xE) ∧ True) (by refine ⟨gV, gW, gX, iv, kz, ?_, ?_, ?_, trivial⟩ <;> first | (simp only [ua, fb, gV, gW, gX, jE, iv, kz, du, f8, nm, seval] <;> rfl) | rfl) ?_
         rintro tm ⟨xF, xG, xH, xI, xJ, Ek, El, Em, _⟩
         simp only [vz, qr, tyf, fb, du, f8, (fg f8), xF, xG, xH, xI, xJ, Ek, El, Em, nm, seval]
         refine fu (fun tm => tm 4 = .ptr 0 0 ∧ tm 6 = .ptr 1 0 ∧ tm 9 = .ptr 30 0 ∧ tm 16 = .lit (.int .i64 (i64.wrap (bC + (i64.wrap (cu.1.a1 * xE))))) ∧ tm 17 = .lit (.int .i64 bD) ∧ tm 18 = .lit (.int .i64 bm) ∧ True) (by refine ⟨xF, xG, xH, ?_, xI, xJ, trivial⟩ <;> first | (simp only [ua, fb, du, f8, xF, xG, xH, xI, xJ, Ek, El, Em, nm, seval] <;> rfl) | rfl) ?_
         rintro tm ⟨xK, xL, xM, xN, En, Eo, _⟩
         simp only [vz, qr, tyf, fb, du, f8, (fg f8), xK, xL, xM, xN, En, Eo, nm, seval]
         exact ⟨iU, Nat.lt_succ_self _, by rw [lF]; refine ⟨iU, bm + 1, i64.wrap (bC + (i64.wrap (cu.1.a1 * xE))), i64.wrap (bD + (i64.wrap (ae.Off * (if cu.1.a1 < (i64.wrap (-cu.1.a1)) then (i64.wrap (-cu.1.a1)) else cu.1.a1)))), rfl, iZ nn, ja jZ, rfl, (show 91 ≤ hC + 35 by omega), ?_, ?_, ?_, xK, xL, xM, xN, ?_, ?_, h⟩ <;> first | (simp only [ua, fb, du, f8, xK, xL, xM, xN, En, Eo, nm, seval] <;> rfl) | rfl⟩
        simp only [du, hs] at h
        obtain ⟨xO, Sq, h⟩ := optI h nk
        try simp only [hs] at h
        simp only [vz, qr, tyf, fb, gV, gW, gX, jE, iv, kz, du, (fh du), nm, seval]
        refine dktA (oW _ _ _ _ _ Sq) ?_
        refine aV (fun tm => tm 4 = .ptr 0 0 ∧ tm 6 = .ptr 1 0 ∧ tm 9 = .ptr 30 0 ∧ tm 17 = .lit (.int .i64 bD) ∧ tm 18 = .lit (.int .i64 bm) ∧ tm 106 = .lit (.int .i64 bC) ∧ tm 109 = .lit (.int .i64 cu.1.a0) ∧ tm 118 = .lit (.int .i64 xO) ∧ True) (by refine ⟨gV, gW, gX, iv, kz, ?_, ?_, ?_, trivial⟩ <;> first | (simp only [ua, fb, gV, gW, gX, jE, iv, kz, du, nm, seval] <;> rfl) | rfl) ?_
        rintro tm ⟨xP, xQ, xR, xS, xT, Ep, Er, Es, _⟩
        simp only [vz, qr, tyf, fb, du, (fh du), xP, xQ, xR, xS, xT, Ep, Er, Es, nm, seval]
        refine fu (fun tm => tm 4 = .ptr 0 0 ∧ tm 6 = .ptr 1 0 ∧ tm 9 = .ptr 30 0 ∧ tm 16 = .lit (.int .i64 (i64.wrap (bC + (i64.wrap (cu.1.a0 * xO))))) ∧ tm 17 = .lit (.int .i64 bD) ∧ tm 18 = .lit (.int .i64 bm) ∧ True) (by refine ⟨xP, xQ, xR, ?_, xS, xT, trivial⟩ <;> first | (simp only [ua, fb, du, xP, xQ, xR, xS, xT, Ep, Er, Es, nm, seval] <;> rfl) | rfl) ?_
        rintro tm ⟨xU, xV, xW, xX, Et, Eu, _⟩
        simp only [vz, qr, tyf, fb, du, (fh du), xU, xV, xW, xX, Et, Eu, nm, seval]
        exact ⟨iU, Nat.lt_succ_self _, by rw [lF]; refine ⟨iU, bm + 1, i64.wrap (bC + (i64.wrap (cu.1.a0 * xO))), i64.wrap (bD + (i64.wrap (ae.Off * (if cu.1.a0 < (i64.wrap (-cu.1.a0)) then (i64.wrap (-cu.1.a0)) else cu.1.a0)))), rfl, iZ nn, ja jZ, rfl, (show 91 ≤ hC + 35 by omega), ?_, ?_, ?_, xU, xV, xW, xX, ?_, ?_, h⟩ <;> first | (simp only [ua, fb, du, xU, xV, xW, xX, Et, Eu, nm, seval] <;> rfl) | rfl⟩
      simp only [cz, hs] at h
      try simp only [vz, qr, tyf, dV, ei, ej, jv, iD, gq, gu, gv, gw, ck, cm, ct, cz, nm, seval]
      refine k_slA (n := 3) (w := 1) (off := 0) (cs := cGi cb) (el := some 22) Tryz.underlying22 (by kernel_rfl) (by first | (simp only [nu, nw, nv, mQ, dV, ei, ej, jv, iD, gq, gu, gv, gw, ck, cm, ct, cz, nm, seval] <;> rfl) | rfl) (by first | rfl | assumption | (simp only [bG, fm, dV, nm, seval] <;> rfl)) (by decide) (Nat.le_of_ble_eq_true rfl) ?_
      try simp only [vz, qr, tyf, dV, ei, ej, jv, iD, gq, gu, gv, gw, ck, cm, ct, cz, nm, seval]
      refine k_slA (n := 3) (w := 1) (off := 0) (cs := cGi cu.1) (el := some 22) Tryz.underlying22 (by kernel_rfl) (by first | (simp only [nu, nw, nv, mQ, dV, ei, ej, jv, iD, gq, gu, gv, gw, ck, cm, ct, cz, nm, seval] <;> rfl) | rfl) (by first | rfl | assumption | (simp only [bG, fm, dV, nm, seval] <;> rfl)) (by decide) (Nat.le_of_ble_eq_true rfl) ?_
      obtain ⟨Ev, Sr, h⟩ := optI h kN
      try simp only [hs] at h
      simp only [vz, qr, tyf, dV, ei, ej, jv, iD, gq, gu, gv, gw, ck, cm, ct, cz, nm, seval]
      refine dkseenW2 (args0 := [.sl (aa eI ([cb.a0, cb.a1, cb.a2])) (List.length ([cb.a0, cb.a1, cb.a2])) false, .sl (aa eI ([cu.1.a0, cu.1.a1, cu.1.a2])) (List.length ([cu.1.a0, cu.1.a1, cu.1.a2])) false]) (cs := cGi cb) (el := some 22) (cs' := cGi cu.1) (el' := some 22) (by first | rfl | assumption | (simp only [bG, fm, dV, nm, seval] <;> rfl)) (Nat.le_of_ble_eq_true rfl) (by first | rfl | (simp only [List.cons_append, List.nil_append, List.drop_succ_cons, List.drop_zero, List.take_succ_cons, List.take_zero, tyf, nrm, av, nm, seval]; rfl)) (by decide) (by first | rfl | assumption | (simp only [bG, fm, dV, nm, seval] <;> rfl)) (Nat.le_of_ble_eq_true rfl) (by first | rfl | (simp only [List.cons_append, List.nil_append, List.drop_succ_cons, List.drop_zero, List.take_succ_cons, List.take_zero, tyf, nrm, av, nm, seval]; rfl)) (by decide) rfl (by first | rfl | (simp only [List.cons_append, List.nil_append, List.drop_succ_cons, List.drop_zero, List.take_succ_cons, List.take_zero, tyf, nrm, av, nm, seval] <;> rfl)) (znr _ _ _ Sr) (by first | rfl | simp only [VV.flat, flatL, Bool.and_self]) ?_
      refine aV (fun tm => tm 4 = .ptr 0 0 ∧ tm 6 = .ptr 1 0 ∧ tm 9 = .ptr 30 0 ∧ tm 94 = .lit (.bool false) ∧ tm 96 = .lit (.bool true) ∧ tm 99 = .lit (.bool Ev) ∧ True) (by refine ⟨ei, ej, iD, ?_, ?_, ?_, trivial⟩ <;> first | (simp only [ua, dV, ei, ej, jv, iD, gq, gu, gv, gw, ck, cm, ct, cz, nm, seval] <;> rfl) | rfl) ?_
      rintro tm ⟨tw, tx, tz, xY, xZ, ya, _⟩
      cases gC : (Ev)
      ·simp only [gC, hs] at h
       cases jy : (boundOk 3)
       ·simp only [jy, hs] at h
        exact absurd h kN
       simp only [jy, hs] at h
       simp only [vz, qr, tyf, dV, ck, cm, ct, cz, tw, tx, tz, xY, xZ, ya, gC, jy, nm, seval]
       obtain ⟨Ss, h, XR, Ew, XS, np⟩ := eO h kN
       obtain ⟨Su, Ex, h⟩ := call4 h
       obtain ⟨Sv, lG⟩ : ∃ I : Nat → St → Prop, I = (fun m st => ∃ (iV : Nat) (bn : Int) (bE : Int) (bF : Int), iV = m ∧ loOk bn = true ∧ Int.toNat (3 - bn) = iV ∧ st.df = [] ∧ 91 ≤ st.nx ∧ st.H 0 = some (.cells (some 28) (cGs ae)) ∧ st.H 1 = some (.cells (some 42) (cGu aH)) ∧ st.H 30 = some (.cells (some 22) (cGi cu.1)) ∧ st.tm 4 = .ptr 0 0 ∧ st.tm 6 = .ptr 1 0 ∧ st.tm 9 = .ptr 30 0 ∧ st.tm 16 = .lit (.int .i64 bE) ∧ st.tm 17 = .lit (.int .i64 bF) ∧ st.tm 18 = .lit (.int .i64 bn) ∧ Ss (Su iV bn bE bF)) := ⟨_, rfl⟩
       refine loopK mixed (by kernel_rfl) Sv (Int.toNat (3 - 0)) (by rw [lG]; refine ⟨Int.toNat (3 - 0), 0, 0, 0, rfl, (by rfl), rfl, rfl, (show 91 ≤ 91 by omega), ?_, ?_, ?_, tw, tx, tz, ?_, ?_, ?_, h⟩ <;> first | (simp only [ua, dV, ck, cm, ct, cz, tw, tx, tz, xY, xZ, ya, gC, nm, seval] <;> rfl) | rfl) ?_
       rintro m ⟨tm, H, hU, df⟩ hinv
       rw [lG] at hinv
       obtain ⟨iV, bn, bE, bF, rfl, nq, ka, hdf, Ey, og, oh, om, oo, mG, mH, mI, mJ, oq, h⟩ := hinv
       simp only at hdf Ey og oh om oo mG mH mI mJ oq
       have jI := eN (m := 91) (b := hU) (by omega)
       subst hdf Ex
       cases iV with
       | zero =>
        have mK : (decide (bn < 3)) = false := tK ka
        simp only [rT, rS, hs, reduceCtorEq] at h
        replace h := Ew _ h
        try dsimp only at h
        try simp only [hs] at h
        cases lH : (lenOk aH.Tins)
        ·simp only [lH, hs] at h
         exact absurd h kN
        simp only [lH, hs] at h
        simp only [vz, qr, tyf, dV, ck, cm, ct, cz, gC, jy, jI, oo, mG, mH, mI, mJ, oq, og, oh, om, mK, lH, nm, seval]
        obtain ⟨Sw, h, Ez, E0, XT, XU⟩ := eO h kN
        obtain ⟨Sx, E1, h⟩ := call2 h
        obtain ⟨Sy, qI⟩ : ∃ I : Nat → St → Prop, I = (fun m st => ∃ (lI : List Gi) (dn : Int), m = List.length lI ∧ 0 ≤ dn ∧ List.drop (Int.toNat dn) aH.Tins = lI ∧ st.df = [] ∧ hU + 3 ≤ st.nx ∧ st.H 1 = some (.cells (some 42) (cGu aH)) ∧ st.H 30 = some (.cells (some 22) (cGi cu.1)) ∧ st.tm 6 = .ptr 1 0 ∧ st.tm 9 = .ptr 30 0 ∧ st.tm 16 = .lit (.int .i64 bE) ∧ st.tm 17 = .lit (.int .i64 bF) ∧ st.tm 19 = .lit (.int .i64 dn) ∧ Sw (Sx lI dn)) := ⟨_, rfl⟩
        refine loopK mixed (by kernel_rfl) Sy (List.length aH.Tins) (by rw [qI]; refine ⟨aH.Tins, 0, rfl, Int.le_refl _, rfl, rfl, (show hU + 3 ≤ hU + 3 by omega), ?_, ?_, mG, mH, mI, mJ, ?_, h⟩ <;> first | (simp only [ua, dV, ck, cm, ct, cz, gC, jI, oo, mG, mH, mI, mJ, oq, og, oh, om, mK, nm, seval] <;> rfl) | rfl) ?_
        rintro m ⟨tm, H, qJ, df⟩ hinv
        rw [qI] at hinv
        obtain ⟨lI, dn, rfl, kc, lJ, hdf, E2, ot, ou, oy, oA, oB, oC, oD, h⟩ := hinv
        simp only at hdf E2 ot ou oy oA oB oC oD
        have qK := eN (m := 91) (b := qJ) (by omega)
        have qL := oM (a := hU) (m := 3) (b := qJ) (by omega)
        subst hdf E1
        cases lI with
        | nil =>
         have E3 : (decide (dn < (List.length aH.Tins : Int))) = false := iG kc lJ
         simp only [u9, u6, hs, reduceCtorEq] at h
         replace h := E0 _ h
         try dsimp only at h
         try simp only [hs] at h
         simp only [vz, qr, tyf, dV, ck, cm, ct, cz, gC, jy, jI, mK, lH, qK, qL, oy, oA, oB, oC, oD, ot, ou, E3, nm, seval]
         refine ktree0 xo ?_
         try simp only [vz, qr, tyf, dV, ck, cm, ct, cz, gC, jy, jI, mK, lH, qK, qL, oy, oA, oB, oC, oD, ot, ou, E3, nm, seval]
         obtain rfl := kF _ h
         exact bl Tryz.results10 rfl
        | cons yb lI =>
         have yc : (decide (dn < (List.length aH.Tins : Int))) = true := iH kc lJ
         have yd := fp kc lJ
         have ye := iI kc lJ lH
         simp only [u9, u6, hs, reduceCtorEq] at h
         simp only [vz, qr, tyf, dV, ck, cm, ct, cz, gC, jy, jI, mK, lH, qK, qL, oy, oA, oB, oC, oD, ot, ou, yc, (cl yd), ye, nm, seval]
         refine fu (fun tm => tm 6 = .ptr 1 0 ∧ tm 9 = .ptr 30 0 ∧ tm 16 = .lit (.int .i64 bE) ∧ tm 17 = .lit (.int .i64 bF) ∧ tm 19 = .lit (.int .i64 dn) ∧ True) (by refine ⟨oy, oA, oB, oC, oD, trivial⟩ <;> first | (simp only [ua, dV, ck, cm, ct, cz, gC, jI, mK, qK, qL, oy, oA, oB, oC, oD, ot, ou, yc, ye, nm, seval] <;> rfl) | rfl) ?_
         rintro tm ⟨t0, t4, t5, t6, yf, _⟩
         have yg := And.intro dV (And.intro ck (And.intro cm (And.intro ct (And.intro cz (And.intro gC (And.intro jy (And.intro jI (And.intro mK (And.intro lH (And.intro qK (And.intro qL (And.intro ot (And.intro ou (And.intro yc ye))))))))))))))
         cases qM : (decide ((i64.wrap ((i64.wrap ((i64.wrap ((i64.wrap (cu.1.a0 * yb.a0)) + (i64.wrap (cu.1.a1 * yb.a1)))) + (i64.wrap (cu.1.a2 * yb.a2)))) + bF)) ≥ bE))
         ·simp only [qM, hs] at h
          simp only [vz, qr, tyf, yg, (cl yd), t0, t4, t5, t6, yf, qM, nm, seval]
          exact ⟨List.length lI, Nat.lt_succ_self _, by rw [qI]; refine ⟨lI, dn + 1, rfl, Int.le_trans kc (Int.le_add_one (Int.le_refl _)), eE kc lJ, rfl, (show hU + 3 ≤ qJ + 41 by omega), ?_, ?_, t0, t4, t5, t6, ?_, h⟩ <;> first | (simp only [ua, yg, t0, t4, t5, t6, yf, qM, nm, seval] <;> rfl) | rfl⟩
         simp only [qM, hs] at h
         try simp only [vz, qr, tyf, yg, (cl yd), t0, t4, t5, t6, yf, qM, nm, seval]
         replace h := Ez _ h
         try dsimp only at h
         obtain rfl := kF _ h
         exact bl Tryz.results10 rfl
       | succ iV =>
        have yh : (decide (bn < 3)) = true := tM ka
        have yi := tN nq ka jy
        simp only [rT, rS, hs, reduceCtorEq] at h
        simp only [vz, qr, tyf, dV, ck, cm, ct, cz, gC, jy, jI, oo, mG, mH, mI, mJ, oq, og, oh, om, yh, yi, nm, seval]
        refine fu (fun tm => tm 4 = .ptr 0 0 ∧ tm 6 = .ptr 1 0 ∧ tm 9 = .ptr 30 0 ∧ tm 16 = .lit (.int .i64 bE) ∧ tm 17 = .lit (.int .i64 bF) ∧ tm 18 = .lit (.int .i64 bn) ∧ True) (by refine ⟨oo, mG, mH, mI, mJ, oq, trivial⟩ <;> first | (simp only [ua, dV, ck, cm, ct, cz, gC, jI, oo, mG, mH, mI, mJ, oq, og, oh, om, yh, yi, nm, seval] <;> rfl) | rfl) ?_
        rintro tm ⟨k6, k7, k8, oE, k9, kC, _⟩
        have fc := And.intro dV (And.intro ck (And.intro cm (And.intro ct (And.intro cz (And.intro gC (And.intro jy (And.intro jI (And.intro og (And.intro oh (And.intro om (And.intro yh yi)))))))))))
        cases dv : (bn == 0)
        ·simp only [dv, hs] at h
         cases fA : (bn == 1)
         ·simp only [fA, hs] at h
          cases jz : (bn == 2)
          ·simp only [jz, hs] at h
           exact absurd h np
          simp only [jz, hs] at h
          obtain ⟨yj, Sz, h⟩ := optI h np
          try simp only [hs] at h
          simp only [vz, qr, tyf, fc, k6, k7, k8, oE, k9, kC, dv, fA, jz, (fe jz), nm, seval]
          refine dktA (oW _ _ _ _ _ Sz) ?_
          refine aV (fun tm => tm 4 = .ptr 0 0 ∧ tm 6 = .ptr 1 0 ∧ tm 9 = .ptr 30 0 ∧ tm 17 = .lit (.int .i64 bF) ∧ tm 18 = .lit (.int .i64 bn) ∧ tm 106 = .lit (.int .i64 bE) ∧ tm 109 = .lit (.int .i64 cu.1.a2) ∧ tm 118 = .lit (.int .i64 yj) ∧ True) (by refine ⟨k6, k7, k8, k9, kC, ?_, ?_, ?_, trivial⟩ <;> first | (simp only [ua, fc, k6, k7, k8, oE, k9, kC, dv, fA, jz, nm, seval] <;> rfl) | rfl) ?_
          rintro tm ⟨yk, ym, yn, yo, yp, E4, E5, E6, _⟩
          simp only [vz, qr, tyf, fc, dv, fA, jz, (fe jz), yk, ym, yn, yo, yp, E4, E5, E6, nm, seval]
          refine fu (fun tm => tm 4 = .ptr 0 0 ∧ tm 6 = .ptr 1 0 ∧ tm 9 = .ptr 30 0 ∧ tm 16 = .lit (.int .i64 (i64.wrap (bE + (i64.wrap (cu.1.a2 * yj))))) ∧ tm 17 = .lit (.int .i64 bF) ∧ tm 18 = .lit (.int .i64 bn) ∧ True) (by refine ⟨yk, ym, yn, ?_, yo, yp, trivial⟩ <;> first | (simp only [ua, fc, dv, fA, jz, yk, ym, yn, yo, yp, E4, E5, E6, nm, seval] <;> rfl) | rfl) ?_
          rintro tm ⟨yq, yr, yu, yv, E7, E8, _⟩
          simp only [vz, qr, tyf, fc, dv, fA, jz, (fe jz), yq, yr, yu, yv, E7, E8, nm, seval]
          exact ⟨iV, Nat.lt_succ_self _, by rw [lG]; refine ⟨iV, bn + 1, i64.wrap (bE + (i64.wrap (cu.1.a2 * yj))), i64.wrap (bF + (i64.wrap (ae.Off * (if cu.1.a2 < (i64.wrap (-cu.1.a2)) then (i64.wrap (-cu.1.a2)) else cu.1.a2)))), rfl, iZ nq, ja ka, rfl, (show 91 ≤ hU + 35 by omega), ?_, ?_, ?_, yq, yr, yu, yv, ?_, ?_, h⟩ <;> first | (simp only [ua, fc, dv, fA, jz, yq, yr, yu, yv, E7, E8, nm, seval] <;> rfl) | rfl⟩
         simp only [fA, hs] at h
         obtain ⟨yw, S0, h⟩ := optI h np
         try simp only [hs] at h
         simp only [vz, qr, tyf, fc, k6, k7, k8, oE, k9, kC, dv, fA, (fg fA), nm, seval]
         refine dktA (oW _ _ _ _ _ S0) ?_
         refine aV (fun tm => tm 4 = .ptr 0 0 ∧ tm 6 = .ptr 1 0 ∧ tm 9 = .ptr 30 0 ∧ tm 17 = .lit (.int .i64 bF) ∧ tm 18 = .lit (.int .i64 bn) ∧ tm 106 = .lit (.int .i64 bE) ∧ tm 109 = .lit (.int .i64 cu.1.a1) ∧ tm 118 = .lit (.int .i64 yw) ∧ True) (by refine ⟨k6, k7, k8, k9, kC, ?_, ?_, ?_, trivial⟩ <;> first | (simp only [ua, fc, k6, k7, k8, oE, k9, kC, dv, fA, nm, seval] <;> rfl) | rfl) ?_
         rintro tm ⟨yx, yy, yz, y6, y7, E9, EA, EB, _⟩
         simp only [vz, qr, tyf, fc, dv, fA, (fg fA), yx, yy, yz, y6, y7, E9, EA, EB, nm, seval]
         refine fu (fun tm => tm 4 = .ptr 0 0 ∧ tm 6 = .ptr 1 0 ∧ tm 9 = .ptr 30 0 ∧ tm 16 = .lit (.int .i64 (i64.wrap (bE + (i64.wrap (cu.1.a1 * yw))))) ∧ tm 17 = .lit (.int .i64 bF) ∧ tm 18 = .lit (.int .i64 bn) ∧ True) (by refine ⟨yx, yy, yz, ?_, y6, y7, trivial⟩ <;> first | (simp only [ua, fc, dv, fA, yx, yy, yz, y6, y7, E9, EA, EB, nm, seval] <;> rfl) | rfl) ?_
         rintro tm ⟨y8, y9, yA, yB, EC, ED, _⟩
         simp only [vz, qr, tyf, fc, dv, fA, (fg fA), y8, y9, yA, yB, EC, ED, nm, seval]
         exact ⟨iV, Nat.lt_succ_self _, by rw [lG]; refine ⟨iV, bn + 1, i64.wrap (bE + (i64.wrap (cu.1.a1 * yw))), i64.wrap (bF + (i64.wrap (ae.Off * (if cu.1.a1 < (i64.wrap (-cu.1.a1)) then (i64.wrap (-cu.1.a1)) else cu.1.a1)))), rfl, iZ nq, ja ka, rfl, (show 91 ≤ hU + 35 by omega), ?_, ?_, ?_, y8, y9, yA, yB, ?_, ?_, h⟩ <;> first | (simp only [ua, fc, dv, fA, y8, y9, yA, yB, EC, ED, nm, seval] <;> rfl) | rfl⟩
        simp only [dv, hs] at h
        obtain ⟨yC, S1, h⟩ := optI h np
        try simp only [hs] at h
        simp only [vz, qr, tyf, fc, k6, k7, k8, oE, k9, kC, dv, (fh dv), nm, seval]
        refine dktA (oW _ _ _ _ _ S1) ?_
        refine aV (fun tm => tm 4 = .ptr 0 0 ∧ tm 6 = .ptr 1 0 ∧ tm 9 = .ptr 30 0 ∧ tm 17 = .lit (.int .i64 bF) ∧ tm 18 = .lit (.int .i64 bn) ∧ tm 106 = .lit (.int .i64 bE) ∧ tm 109 = .lit (.int .i64 cu.1.a0) ∧ tm 118 = .lit (.int .i64 yC) ∧ True) (by refine ⟨k6, k7, k8, k9, kC, ?_, ?_, ?_, trivial⟩ <;> first | (simp only [ua, fc, k6, k7, k8, oE, k9, kC, dv, nm, seval] <;> rfl) | rfl) ?_
        rintro tm ⟨yD, yE, yF, yG, yH, EE, EF, EG, _⟩
        simp only [vz, qr, tyf, fc, dv, (fh dv), yD, yE, yF, yG, yH, EE, EF, EG, nm, seval]
        refine fu (fun tm => tm 4 = .ptr 0 0 ∧ tm 6 = .ptr 1 0 ∧ tm 9 = .ptr 30 0 ∧ tm 16 = .lit (.int .i64 (i64.wrap (bE + (i64.wrap (cu.1.a0 * yC))))) ∧ tm 17 = .lit (.int .i64 bF) ∧ tm 18 = .lit (.int .i64 bn) ∧ True) (by refine ⟨yD, yE, yF, ?_, yG, yH, trivial⟩ <;> first | (simp only [ua, fc, dv, yD, yE, yF, yG, yH, EE, EF, EG, nm, seval] <;> rfl) | rfl) ?_
        rintro tm ⟨yI, yJ, yK, yM, EH, EI, _⟩
        simp only [vz, qr, tyf, fc, dv, (fh dv), yI, yJ, yK, yM, EH, EI, nm, seval]
        exact ⟨iV, Nat.lt_succ_self _, by rw [lG]; refine ⟨iV, bn + 1, i64.wrap (bE + (i64.wrap (cu.1.a0 * yC))), i64.wrap (bF + (i64.wrap (ae.Off * (if cu.1.a0 < (i64.wrap (-cu.1.a0)) then (i64.wrap (-cu.1.a0)) else cu.1.a0)))), rfl, iZ nq, ja ka, rfl, (show 91 ≤ hU + 35 by omega), ?_, ?_, ?_, yI, yJ, yK, yM, ?_, ?_, h⟩ <;> first | (simp only [ua, fc, dv, yI, yJ, yK, yM, EH, EI, nm, seval] <;> rfl) | rfl⟩
      simp only [gC, hs] at h
      try simp only [vz, qr, tyf, dV, ck, cm, ct, cz, tw, tx, tz, xY, xZ, ya, gC, nm, seval]
      obtain rfl := kF _ h
      exact bl Tryz.results10 rfl
     simp only [ct, hs] at h
     try simp only [vz, qr, tyf, dV, ei, ej, jv, iD, gq, gu, gv, gw, ck, cm, ct, nm, seval]
     obtain rfl := kF _ h
     exact bl Tryz.results10 rfl
    simp only [cm, hs] at h
    try simp only [vz, qr, tyf, dV, ei, ej, jv, iD, gq, gu, gv, gw, ck, cm, nm, seval]
    obtain rfl := kF _ h
    exact bl Tryz.results10 rfl
   simp only [Hi, hs] at h
   have S2 := And.intro gp (And.intro de (And.intro bY (And.intro iK (And.intro xq (And.intro At Hi)))))
   try simp only [vz, qr, tyf, S2, eQ, fj, eG, fN, fx, eJ, eY, gH, nm, seval]
   obtain rfl := kF _ h
   exact bl Tryz.results10 rfl
  simp only [At, hs] at h
  cases t7 : (cu.2 != 5)
  ·simp only [t7, hs] at h
   have oF := And.intro gp (And.intro de (And.intro bY (And.intro iK (And.intro xq (And.intro At t7)))))
   cases lK : (qF.2 != 0)
   ·simp only [lK, hs] at h
    obtain ⟨EJ, S3, h⟩ := optI h kN
    try simp only [hs] at h
    simp only [vz, qr, tyf, oF, eQ, fj, eG, fN, fx, eJ, eY, gH, lK, nm, seval]
    refine ktA (Xo _ _ _ S3) ?_
    refine aV (fun tm => tm 4 = .ptr 0 0 ∧ tm 6 = .ptr 1 0 ∧ tm 7 = .ptr 2 0 ∧ tm 9 = .ptr 30 0 ∧ tm 10 = .lit (.int .i64 cu.2) ∧ tm 11 = .lit (.bool qF.1) ∧ tm 13 = .lit (.int .i64 mD.1) ∧ tm 76 = .lit (.bool EJ) ∧ True) (by refine ⟨eQ, fj, eG, fN, fx, eJ, ?_, ?_, trivial⟩ <;> first | (simp only [ua, oF, eQ, fj, eG, fN, fx, eJ, eY, gH, lK, nm, seval] <;> rfl) | rfl) ?_
    rintro tm ⟨yN, yO, yP, yQ, yR, yS, yT, yU, _⟩
    cases qN : (EJ)
    ·simp only [qN, hs] at h
     simp only [vz, qr, tyf, oF, lK, yN, yO, yP, yQ, yR, yS, yT, yU, qN, nm, seval]
     refine ktree0 xo ?_
     try simp only [vz, qr, tyf, oF, lK, yN, yO, yP, yQ, yR, yS, yT, yU, qN, nm, seval]
     obtain rfl := kF _ h
     exact bl Tryz.results10 rfl
    simp only [qN, hs] at h
    try simp only [vz, qr, tyf, oF, lK, yN, yO, yP, yQ, yR, yS, yT, yU, qN, nm, seval]
    obtain rfl := kF _ h
    exact bl Tryz.results10 rfl
   simp only [lK, hs] at h
   try simp only [vz, qr, tyf, oF, eQ, fj, eG, fN, fx, eJ, eY, gH, lK, nm, seval]
   obtain rfl := kF _ h
   exact bl Tryz.results10 rfl
  simp only [t7, hs] at h
  have S4 := And.intro gp (And.intro de (And.intro bY (And.intro iK (And.intro xq (And.intro At t7)))))
  try simp only [vz, qr, tyf, S4, eQ, fj, eG, fN, fx, eJ, eY, gH, nm, seval]
  obtain rfl := kF _ h
  exact bl Tryz.results10 rfl
 simp only [de, hs] at h
 simp only [vz, qr, tyf, cn, bA, bW, cC, cE, gp, de, nm, seval]
 refine ktree0 xo ?_
 try simp only [vz, qr, tyf, cn, bA, bW, cC, cE, gp, de, nm, seval]
 obtain rfl := kF _ h
 exact bl Tryz.results10 rfl
def lD (d : Gi) : List Int := [d.a0, d.a1, d.a2]
def pwB : List Gi → Bool
 | [] => true
 | d :: L => L.all (fun e => ltL (lD d) (lD e)) && pwB L
theorem EK : ∀ {L : List Gi}, pwB L = true → L.Pairwise fun d e => ltL (lD d) (lD e) = true
 | [], _ => List.Pairwise.nil
 | d :: L, h => by
  rw [pwB, Bool.and_eq_true, List.all_eq_true] at h
  exact List.pairwise_cons.2 ⟨h.1, EK h.2⟩
theorem pw_dx : pwB (dx 5 (-2)) = true := by kernel_rfl
theorem S5 : ((dx 5 (-2)).all fun d => inB (-2) 2 d.a0 && (inB (-2) 2 d.a1 && inB (-2) 2 d.a2)) = true := by kernel_rfl
theorem S6 {d : Gi} (h : d ∈ dx 5 (-2)) : DiOk d := by
 have := List.all_eq_true.1 S5 d h
 simp only [Bool.and_eq_true, mr] at this
 intro p
 cases p
 ·exact this.1
 ·exact this.2.1
 ·exact this.2.2
theorem EL {x y z : Int} : ∀ (k : Nat) (c : Int), c ≤ z → z < c + k → (⟨x, y, z⟩ : Gi) ∈ dz x y k c
 | 0, c, h1, h2 => by omega
 | k + 1, c, h1, h2 => by
  rw [dz, List.mem_cons]
  by_cases e : z = c
  ·subst e; exact .inl rfl
  ·exact .inr (EL k (c + 1) (by omega) (by omega))
theorem EM {x y z : Int} (hz : -2 ≤ z ∧ z ≤ 2) : ∀ (k : Nat) (c : Int), c ≤ y → y < c + k → (⟨x, y, z⟩ : Gi) ∈ dy x k c
 | 0, c, h1, h2 => by omega
 | k + 1, c, h1, h2 => by
  rw [dy, List.mem_append]
  by_cases e : y = c
  ·subst e; exact .inl (EL 5 (-2) hz.1 (by omega))
  ·exact .inr (EM hz k (c + 1) (by omega) (by omega))
theorem EN {x y z : Int} (hz : -2 ≤ z ∧ z ≤ 2) (hy : -2 ≤ y ∧ y ≤ 2) : ∀ (k : Nat) (c : Int), c ≤ x → x < c + k → (⟨x, y, z⟩ : Gi) ∈ dx k c
 | 0, c, h1, h2 => by omega
 | k + 1, c, h1, h2 => by
  rw [dx, List.mem_append]
  by_cases e : x = c
  ·subst e; exact .inl (EM hz 5 (-2) hy.1 (by omega))
  ·exact .inr (EN hz hy k (c + 1) (by omega) (by omega))
theorem XV {d : Gi} (h : DiOk d) : d ∈ dx 5 (-2) := by
 have h0 := h .p0
 have h1 := h .p1
 have h2 := h .p2
 obtain ⟨x, y, z⟩ := d
 simp only [selI] at h0 h1 h2
 exact EN h2 h1 5 (-2) h0.1 (by omega)
theorem S7 (o : Gi) : ∃ b, uz o = some b ∧ (b = true → DiOk o ∧ zB o = false) := by
 unfold uz
 rw [show Int.toNat (3 - 0) = 3 from rfl, show boundOk 3 = true from rfl]
 simp only [uy, ru, Option.bind_some, cond_true, cond_false, Int.reduceAdd, Int.reduceBEq]
 cases h0 : inB (-2) 2 o.a0 with
 | false => exact ⟨false, rfl, fun h => by cases h⟩
 | true =>
 cases h1 : inB (-2) 2 o.a1 with
 | false => exact ⟨false, rfl, fun h => by cases h⟩
 | true =>
 cases h2 : inB (-2) 2 o.a2 with
 | false => exact ⟨false, rfl, fun h => by cases h⟩
 | true =>
  refine ⟨_, rfl, fun h => ⟨fun p => ?_, ?_⟩⟩
  ·cases p
   ·exact mr.1 h0
   ·exact mr.1 h1
   ·exact mr.1 h2
  ·have h : (!zB o) = true := h
   rw [Bool.not_eq_true'] at h
   exact h
def boardI (s : Gs) (t : Gu) (d : Gi) : Int := i64.wrap (i64.wrap (i64.wrap (0 + i64.wrap (d.a0 * fadT s t .p0)) + i64.wrap (d.a1 * fadT s t .p1)) + i64.wrap (d.a2 * fadT s t .p2))
theorem oG {w v : Int} (hw : -2 ≤ w ∧ w ≤ 2) (hv : 0 ≤ v ∧ v ≤ 99) : -198 ≤ w * v ∧ w * v ≤ 198 := by
 rcases five hw with rfl | rfl | rfl | rfl | rfl <;> omega
theorem S8 {s : Gs} (hs : ShOk s) {t : Gu} (ht : TrOk s t) {d : Gi} (hd : DiOk d) : boardI s t d = d.a0 * fadT s t .p0 + d.a1 * fadT s t .p1 + d.a2 * fadT s t .p2 := by
 have b0 := oG (hd .p0) (we hs ht .p0)
 have b1 := oG (hd .p1) (we hs ht .p1)
 have b2 := oG (hd .p2) (we hs ht .p2)
 simp only [selI] at b0 b1 b2
 unfold boardI
 rw [cF (n := d.a0 * _) (by omega) (by omega), cF (n := d.a1 * _) (by omega) (by omega), cF (n := d.a2 * _) (by omega) (by omega), tn (by omega) (by omega) (by omega)]
theorem pv_l0 {s : Gs} (hs : ShOk s) {t : Gu} (ht : TrOk s t) (d : Gi) (e : Int) : rT s t (d, e) 3 0 0 0 = some (.go (boardI s t d, offS s d)) := by
 have f0 := As hs ht .p0
 have f1 := As hs ht .p1
 have f2 := As hs ht .p2
 simp only [P3.i, selI] at f0 f1 f2
 simp only [rT, Int.reduceAdd, Int.reduceBEq, cond_true, cond_false, f0, f1, f2, Option.bind_some]
 rfl
theorem pv_l2 {s : Gs} (hs : ShOk s) {t : Gu} (ht : TrOk s t) (d : Gi) (e : Int) : rS s t (d, e) 3 0 0 0 = some (.go (boardI s t d, offS s d)) := by
 have f0 := As hs ht .p0
 have f1 := As hs ht .p1
 have f2 := As hs ht .p2
 simp only [P3.i, selI] at f0 f1 f2
 simp only [rS, Int.reduceAdd, Int.reduceBEq, cond_true, cond_false, f0, f1, f2, Option.bind_some]
 rfl
def tinI (d a : Gi) (off : Int) : Int := i64.wrap (i64.wrap (i64.wrap (i64.wrap (d.a0 * a.a0) + i64.wrap (d.a1 * a.a1)) + i64.wrap (d.a2 * a.a2)) + off)
theorem pv_l1 {d : Gi} {e b off : Int} : ∀ (p : List Gi) (c : Int), (∀ a ∈ p, tinI d a off < b) → u9 (d, e) (b, off) p c = some (.go ())
 | [], c, _ => rfl
 | a :: p, c, h => by
  have h1 := h a (List.mem_cons_self ..)
  have ih := pv_l1 (d := d) (e := e) (b := b) (off := off) p (c + 1) fun x hx => h x (List.mem_cons_of_mem _ hx)
  unfold u9
  rw [ih]
  show cond (decide (tinI d a off ≥ b)) _ _ = _
  rw [decide_eq_false (by show ¬ b ≤ tinI d a off; omega)]
  rfl
theorem pv_l3 {d : Gi} {e b off : Int} : ∀ (p : List Gi) (c : Int), (∀ a ∈ p, tinI d a off < b) → u6 (d, e) (b, off) p c = some (.go ())
 | [], c, _ => rfl
 | a :: p, c, h => by
  have h1 := h a (List.mem_cons_self ..)
  have ih := pv_l3 (d := d) (e := e) (b := b) (off := off) p (c + 1) fun x hx => h x (List.mem_cons_of_mem _ hx)
  unfold u6
  rw [ih]
  show cond (decide (tinI d a off ≥ b)) _ _ = _
  rw [decide_eq_false (by show ¬ b ≤ tinI d a off; omega)]
  rfl
theorem S9 {s : Gs} (hs : ShOk s) {t : Gu} (ht : TrOk s t) {d : Gi} (hd : DiOk d) (hp : partB s d s.Tins = true) : ∀ a ∈ t.Tins, tinI d a (offS s d) < boardI s t d := by
 intro a ha
 obtain ⟨i, hi, rfl⟩ := List.getElem_of_mem ha
 have hl := ht.n
 have hc : s.Tins[i]? = some (s.Tins[i]'(by omega)) := List.getElem?_eq_getElem (by omega)
 have hb := ht.tin i _ _ (List.getElem?_eq_getElem hi) hc
 have hm := List.mem_of_getElem? hc
 have h1 := (DM hs hd).1 hp _ hm
 have hx := hs.tin _ hm
 generalize s.Tins[i]'(by omega) = c at hb h1 hx
 generalize t.Tins[i] = a at hb
 have g0 := hi_ge (hd .p0) (hb .p0).1 (hb .p0).2
 have g1 := hi_ge (hd .p1) (hb .p1).1 (hb .p1).2
 have g2 := hi_ge (hd .p2) (hb .p2).1 (hb .p2).2
 have q0 := lo_le (hd .p0) (nZ hs ht .p0).1 (nZ hs ht .p0).2
 have q1 := lo_le (hd .p1) (nZ hs ht .p1).1 (nZ hs ht .p1).2
 have q2 := lo_le (hd .p2) (nZ hs ht .p2).1 (nZ hs ht .p2).2
 have u : ∀ p, 0 ≤ selI a p ∧ selI a p ≤ 99 := fun p => by
  have := hb p
  have := hx p
  simp only [lowT, highT] at *
  omega
 have p0 := oG (hd .p0) (u .p0)
 have p1 := oG (hd .p1) (u .p1)
 have p2 := oG (hd .p2) (u .p2)
 have hz : ∀ w : Int, -2 ≤ w ∧ w ≤ 2 → 0 ≤ absW w ∧ absW w ≤ 2 := fun w h => by unfold absW; split <;> omega
 have z0 := hz _ (hd .p0)
 have z1 := hz _ (hd .p1)
 have z2 := hz _ (hd .p2)
 simp only [selI, selS] at g0 g1 g2 q0 q1 q2 p0 p1 p2 z0 z1 z2
 have ho := hs.off
 have hO := mulR (a := s.Off) (b := absW d.a0 + absW d.a1 + absW d.a2) (A := 20) (B := 6) (by omega) (by omega) (by omega) (by omega)
 have e1 : offS s d = s.Off * (absW d.a0 + absW d.a1 + absW d.a2) := by
  rw [DK hs (hd .p0) (hd .p1) (hd .p2), DL hd, cF (by omega) (by omega)]
 rw [S8 hs ht hd, e1]
 unfold tinI
 rw [cF (n := d.a0 * _) (by omega) (by omega), cF (n := d.a1 * _) (by omega) (by omega), cF (n := d.a2 * _) (by omega) (by omega), cF (n := d.a0 * _ + _) (by omega) (by omega), cF (n := d.a0 * _ + _ + _) (by omega) (by omega), cF (by omega) (by omega)]
 omega
theorem Y1 (s : Gs) (mix : List Int) (t : Gu) (o : Gi) (h : lenOk s.Tins = true) (hm : lenOk mix = true) (ht : lenOk t.Tins = true) : Hh s mix t o = some true := by
 unfold Hh
 obtain ⟨b, hb, hbo⟩ := QH h hm
 rw [hb]
 cases b with
 | false => rfl
 | true =>
 obtain ⟨hs, hmx⟩ := hbo rfl
 cases decide ((List.length t.Tins : Int) > 6) with
 | true => rfl
 | false =>
 simp only [Option.bind_some, cond_true, cond_false, Od s ht]
 cases hy : truthB s t with
 | false => rfl
 | true =>
 have hT := TrOk.of hy
 obtain ⟨b, hb, hbo⟩ := S7 o
 rw [hb]
 cases b with
 | false => rfl
 | true =>
 obtain ⟨ho, hoz⟩ := hbo rfl
 rw [Rd h, Se h mix ht, QG hs h hmx, hs.ok, hmx.ok, hy, QZ hs h (ho .p0) (ho .p1) (ho .p2)]
 simp only [Option.bind_some, cond_true, Bool.and_self]
 unfold foundP
 cases hf : (dx 5 (-2)).find? fun d => partB s d s.Tins with
 | none =>
  have := List.find?_eq_none.1 hf o (XV ho)
  rw [Bool.not_eq_true] at this
  rw [this]
  rfl
 | some d =>
  obtain ⟨hpd, as', bs, hl, hne⟩ := List.find?_eq_some_iff_append.1 hf
  have hmd : d ∈ dx 5 (-2) := by rw [hl]; simp
  have hd := S6 hmd
  have hz : zB d = false := by
   cases hz : zB d with
   | false => rfl
   | true => rw [Rc hs hz] at hpd; cases hpd
  obtain ⟨hw, htr⟩ := Rk hs hd hpd hmx
  have hbf : partB s o s.Tins = true → Ag [o.a0, o.a1, o.a2] [d.a0, d.a1, d.a2] = some false := by
   intro hpo
   rw [QE (a := [o.a0, o.a1, o.a2]) (b := [d.a0, d.a1, d.a2]) (by simp [lenOk]) rfl]
   congr 1
   rw [Bool.eq_false_iff]
   intro hc
   have hpw := EK pw_dx
   rw [hl] at hpw
   have hmo : o ∈ as' ++ d :: bs := hl ▸ XV ho
   rcases List.mem_append.1 hmo with hx | hx
   ·have := hne o hx
    rw [hpo] at this
    cases this
   ·have hc := (xd (x := lD o) (y := lD d) rfl).1 hc
    rcases List.mem_cons.1 hx with rfl | hx
    ·exact O5 hc
    ·have := (List.pairwise_cons.1 (List.pairwise_append.1 hpw).2.1).1 o hx
     have := (xd (x := lD d) (y := lD o) rfl).1 this
     exact O5 (VZ hc this)
  have hlast := S9 hs hT hd hpd
  simp only [hw, htr t hT, Rb (hd .p0) (hd .p1) (hd .p2), hz, Option.bind_some, cond_true, cond_false, Bool.not_false, show Int.toNat (3 - 0) = 3 from rfl, show boundOk 3 = true from rfl, pv_l0 hs hT, pv_l2 hs hT, aK, ht, pv_l1 _ _ hlast, pv_l3 _ _ hlast]
  cases hpo : partB s o s.Tins with
  | false => rfl
  | true => rw [hbf hpo]; rfl
end Go.V
end
