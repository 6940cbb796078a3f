/- Part of a proof. -/
import Derived.Test.YtekhjalgmlflpaaGreatDoorKbf
set_option linter.all false
set_option maxRecDepth 4000
set_option maxHeartbeats 40000000
section
namespace Go.V
open Go Go.Proofs IntKind
def tI (ah : Gm) : Option (Int) := Option.bind (uZ ah.mix) (fun r1 => some r1)
theorem FO (ah : Gm) (R : Int) (h : tI ah = some R) : ad Tryz.prog G0 128 [.agg (cGm ah)] (.tree (.lit (.int .i64 R))) := by
 refine ad.runR mixed Tryz.call128 Tryz.func128 rfl (by simp [Tryz.ntmps128]; kernel_rfl) ?_
 obtain ⟨KF, h, kF, kN⟩ := cQ h
 simp only [tI] at h
 obtain ⟨r2, o3, h⟩ := optI h kN
 try simp only [hs] at h
 simp only [vz, tyf, nm, seval]
 refine ktA (Ng _ _ o3) ?_
 refine aV (fun tm => tm 5 = .lit (.int .i64 r2) ∧ True) (by refine ⟨?_, trivial⟩ <;> first | (simp only [ua, nm, seval] <;> rfl) | rfl) ?_
 rintro tm ⟨e4, _⟩
 try simp only [vz, tyf, e4, nm, seval]
 refine bP (x := (.lit (.int .i64 r2))) (by first | (simp only [Tryz.results128, resV, resL, ar, bV, bU, uw, cr, tyf, nm, seval] <;> rfl) | rfl) ?_
 obtain rfl := kF _ h
 refine bZ ?_ ?_
 ·simp only [tre, au, Bool.and_self]
 ·first | (simp only [outV, uw, cA, cr, tyf, nrm, av, e4, nm, seval] <;> rfl) | rfl
def j6 (eD : Int) (ji : Int) (iX : Int) : Option (Bool) := cond (decide (eD ≥ ji)) (some (decide (eD ≤ iX))) (some false)
theorem kh (eD : Int) (ji : Int) (iX : Int) (R : Bool) (h : j6 eD ji iX = some R) : ad Tryz.prog G0 65 [.lit (.int .i64 eD), .lit (.int .i64 ji), .lit (.int .i64 iX)] (.tree (.lit (.bool R))) := by
 refine ad.runR mixed Tryz.call65 Tryz.func65 rfl (by simp [Tryz.ntmps65]; kernel_rfl) ?_
 obtain ⟨KF, h, kF, kN⟩ := cQ h
 simp only [j6] at h
 cases d1 : (decide (eD ≥ ji))
 ·simp only [d1, hs] at h
  try simp only [vz, tyf, d1, nm, seval]
  obtain rfl := kF _ h
  exact bl Tryz.results65 rfl
 simp only [d1, hs] at h
 try simp only [vz, tyf, d1, nm, seval]
 obtain rfl := kF _ h
 exact bl Tryz.results65 rfl
def p7 (ae : GSpan) (fB : Int) : Option (Bool) := Option.bind (j6 ae.Low 0 fB) (fun r1 => cond (r1) (Option.bind (j6 ae.High ae.Low fB) (fun r2 => some r2)) (some false))
theorem va (ae : GSpan) (fB : Int) (R : Bool) (h : p7 ae fB = some R) : ad Tryz.prog G0 64 [.agg (aF ae), .lit (.int .i64 fB)] (.tree (.lit (.bool R))) := by
 refine ad.runR mixed Tryz.call64 Tryz.func64 rfl (by simp [Tryz.ntmps64]; kernel_rfl) ?_
 obtain ⟨KF, h, kF, kN⟩ := cQ h
 simp only [p7] at h
 obtain ⟨r3, o4, h⟩ := optI h kN
 try simp only [hs] at h
 simp only [vz, tyf, nm, seval]
 refine ktA (kh _ _ _ _ o4) ?_
 refine aV (fun tm => tm 1 = .lit (.int .i64 fB) ∧ tm 2 = .ptr 0 0 ∧ tm 8 = .lit (.bool r3) ∧ True) (by refine ⟨?_, ?_, ?_, trivial⟩ <;> first | (simp only [ua, nm, seval] <;> rfl) | rfl) ?_
 rintro tm ⟨e5, e6, e7, _⟩
 cases d8 : (r3)
 ·simp only [d8, hs] at h
  try simp only [vz, tyf, e5, e6, e7, d8, nm, seval]
  obtain rfl := kF _ h
  exact bl Tryz.results64 rfl
 simp only [d8, hs] at h
 obtain ⟨r9, vb, h⟩ := optI h kN
 try simp only [hs] at h
 simp only [vz, tyf, e5, e6, e7, d8, nm, seval]
 refine ktA (kh _ _ _ _ vb) ?_
 refine aV (fun tm => tm 9 = .lit (.bool true) ∧ tm 15 = .lit (.bool r9) ∧ True) (by refine ⟨?_, ?_, trivial⟩ <;> first | (simp only [ua, e5, e6, e7, d8, nm, seval] <;> rfl) | rfl) ?_
 rintro tm ⟨aX, aY, _⟩
 try simp only [vz, tyf, d8, aX, aY, nm, seval]
 obtain rfl := kF _ h
 exact bl Tryz.results64 rfl
def FP (eD : Int) : Option (Bool) := Option.bind (j6 eD 1 20) (fun r1 => some r1)
theorem ZO (eD : Int) (R : Bool) (h : FP eD = some R) : ad Tryz.prog G0 52 [.lit (.int .i64 eD)] (.tree (.lit (.bool R))) := by
 refine ad.runR mixed Tryz.call52 Tryz.func52 rfl (by simp [Tryz.ntmps52]; kernel_rfl) ?_
 obtain ⟨KF, h, kF, kN⟩ := cQ h
 simp only [FP] at h
 obtain ⟨r2, o3, h⟩ := optI h kN
 try simp only [hs] at h
 simp only [vz, tyf, nm, seval]
 refine ktA (kh _ _ _ _ o3) ?_
 refine aV (fun tm => tm 4 = .lit (.bool r2) ∧ True) (by refine ⟨?_, trivial⟩ <;> first | (simp only [ua, nm, seval] <;> rfl) | rfl) ?_
 rintro tm ⟨e4, _⟩
 try simp only [vz, tyf, e4, nm, seval]
 obtain rfl := kF _ h
 exact bl Tryz.results52 rfl
def rh  : List Gt → Int → Option (LOut (Bool) (Unit))
 | [], jj => some (.go ())
 | e3 :: p3, jj => Option.bind (p7 e3.pg.a2 99) (fun jO => cond (jO) (rh p3 (jj + 1)) (some (.ret false)))
def ri  : List Gt → Int → Option (LOut (Bool) (Unit))
 | [], B8 => some (.go ())
 | e2 :: p2, B8 => Option.bind (p7 e2.pg.a1 99) (fun dW => cond (dW) (ri p2 (B8 + 1)) (some (.ret false)))
def rj  : List Gt → Int → Option (LOut (Bool) (Unit))
 | [], B9 => some (.go ())
 | e1 :: p1, B9 => Option.bind (p7 e1.pg.a0 99) (fun r6 => cond (r6) (rj p1 (B9 + 1)) (some (.ret false)))
def vc (ae : Gs) : Nat → Int → Option (LOut (Bool) (Unit))
 | 0, cj => some (.go ())
 | k0 + 1, cj => cond (cj == 0) (Option.bind (j6 ae.Old.a0 0 99) (fun r4 => cond (r4) (Option.bind (p7 ae.Fade.a0 9) (fun r5 => cond (r5) (cond (lenOk ae.Tins) (aK (rj ae.Tins 0) (fun r8 => some (.ret r8)) (fun c7 => vc ae k0 (cj + 1)) (fun _ _ => none)) none) (some (.ret false)))) (some (.ret false)))) (cond (cj == 1) (Option.bind (j6 ae.Old.a1 0 99) (fun r9 => cond (r9) (Option.bind (p7 ae.Fade.a1 9) (fun dA => cond (dA) (cond (lenOk ae.Tins) (aK (ri ae.Tins 0) (fun p8 => some (.ret p8)) (fun zp => vc ae k0 (cj + 1)) (fun _ _ => none)) none) (some (.ret false)))) (some (.ret false)))) (cond (cj == 2) (Option.bind (j6 ae.Old.a2 0 99) (fun BA => cond (BA) (Option.bind (p7 ae.Fade.a2 9) (fun oQ => cond (oQ) (cond (lenOk ae.Tins) (aK (rh ae.Tins 0) (fun kQ => some (.ret kQ)) (fun ZP => vc ae k0 (cj + 1)) (fun _ _ => none)) none) (some (.ret false)))) (some (.ret false)))) (none)))
def BB (ae : Gs) : Option (Bool) := Option.bind (p7 ae.Years 20) (fun r1 => cond (r1) (Option.bind (FP ae.Off) (fun r2 => cond (r2) (Option.bind (j6 (List.length ae.Tins : Int) 1 4) (fun r3 => cond (r3) (cond (boundOk 3) (aK (vc ae (Int.toNat (3 - 0)) 0) (fun oR => some oR) (fun c19 => some true) (fun _ _ => none)) none) (some false))) (some false))) (some false))
theorem ZQ (ae : Gs) (R : Bool) (h : BB ae = some R) : ad Tryz.prog G0 20 [.agg (cGs ae)] (.tree (.lit (.bool R))) := by
 refine ad.runR mixed Tryz.call20 Tryz.func20 rfl (by simp [Tryz.ntmps20]; kernel_rfl) ?_
 obtain ⟨KF, h, kF, kN⟩ := cQ h
 simp only [BB] at h
 obtain ⟨ma, se, h⟩ := optI h kN
 try simp only [hs] at h
 simp only [vz, tyf, nm, seval]
 refine ktA (va _ _ _ se) ?_
 refine aV (fun tm => tm 1 = .ptr 0 0 ∧ tm 7 = .lit (.bool ma) ∧ True) (by refine ⟨?_, ?_, trivial⟩ <;> first | (simp only [ua, nm, seval] <;> rfl) | rfl) ?_
 rintro tm ⟨bz, cS, _⟩
 cases kJ : (ma)
 ·simp only [kJ, hs] at h
  try simp only [vz, tyf, bz, cS, kJ, nm, seval]
  obtain rfl := kF _ h
  exact bl Tryz.results20 rfl
 simp only [kJ, hs] at h
 obtain ⟨pC, vd, h⟩ := optI h kN
 try simp only [hs] at h
 simp only [vz, tyf, bz, cS, kJ, nm, seval]
 refine ktA (ZO _ _ vd) ?_
 refine aV (fun tm => tm 1 = .ptr 0 0 ∧ tm 9 = .lit (.bool false) ∧ tm 12 = .lit (.bool pC) ∧ True) (by refine ⟨bz, ?_, ?_, trivial⟩ <;> first | (simp only [ua, bz, cS, kJ, nm, seval] <;> rfl) | rfl) ?_
 rintro tm ⟨bA, bW, cC, _⟩
 cases iE : (pC)
 ·simp only [iE, hs] at h
  try simp only [vz, tyf, kJ, bA, bW, cC, iE, nm, seval]
  obtain rfl := kF _ h
  exact bl Tryz.results20 rfl
 simp only [iE, hs] at h
 obtain ⟨BC, tJ, h⟩ := optI h kN
 try simp only [hs] at h
 simp only [vz, tyf, kJ, bA, bW, cC, iE, nm, seval]
 refine ktA (kh _ _ _ _ tJ) ?_
 refine aV (fun tm => tm 1 = .ptr 0 0 ∧ tm 15 = .lit (.bool false) ∧ tm 19 = .lit (.bool BC) ∧ True) (by refine ⟨bA, ?_, ?_, trivial⟩ <;> first | (simp only [ua, kJ, bA, bW, cC, iE, nm, seval] <;> rfl) | rfl) ?_
 rintro tm ⟨fF, gk, eh, _⟩
 cases j9 : (BC)
 ·simp only [j9, hs] at h
  try simp only [vz, tyf, kJ, iE, fF, gk, eh, j9, nm, seval]
  obtain rfl := kF _ h
  exact bl Tryz.results20 rfl
 simp only [j9, hs] at h
 cases vf : (boundOk 3)
 ·simp only [vf, hs] at h
  exact absurd h kN
 simp only [vf, hs] at h
 simp only [vz, tyf, kJ, iE, fF, gk, eh, j9, vf, nm, seval]
 obtain ⟨ZR, h, ki, Nh, ZS, ig⟩ := eO h kN
 obtain ⟨ZT, Ni, h⟩ := call2 h
 obtain ⟨ZU, pE⟩ : ∃ I : Nat → St → Prop, I = (fun m st => ∃ (oS : Nat) (bQ : Int), oS = m ∧ loOk bQ = true ∧ Int.toNat (3 - bQ) = oS ∧ st.df = [] ∧ 20 ≤ st.nx ∧ st.H 0 = some (.cells (some 28) (cGs ae)) ∧ st.tm 1 = .ptr 0 0 ∧ st.tm 3 = .lit (.int .i64 bQ) ∧ ZR (ZT oS bQ)) := ⟨_, rfl⟩
 refine loopK mixed (by kernel_rfl) ZU (Int.toNat (3 - 0)) (by rw [pE]; refine ⟨Int.toNat (3 - 0), 0, rfl, (by rfl), rfl, rfl, (show 20 ≤ 20 by omega), ?_, fF, ?_, h⟩ <;> first | (simp only [ua, kJ, iE, fF, gk, eh, j9, nm, seval] <;> rfl) | rfl) ?_
 rintro m ⟨tm, H, fG, df⟩ hinv
 rw [pE] at hinv
 obtain ⟨oS, bQ, rfl, sf, nz, hdf, Nj, FQ, dZ, eT, h⟩ := hinv
 simp only at hdf Nj FQ dZ eT
 have Nk := eN (m := 20) (b := fG) (by omega)
 subst hdf Ni
 cases oS with
 | zero =>
  have dB : (decide (bQ < 3)) = false := tK nz
  simp only [vc, hs, reduceCtorEq] at h
  replace h := Nh _ h
  try dsimp only at h
  try simp only [hs] at h
  try simp only [vz, tyf, kJ, iE, j9, vf, Nk, dZ, eT, FQ, dB, nm, seval]
  obtain rfl := kF _ h
  exact bl Tryz.results20 rfl
 | succ oS =>
  have tL : (decide (bQ < 3)) = true := tM nz
  have V2 := tN sf nz vf
  simp only [vc, hs, reduceCtorEq] at h
  cases jk : (bQ == 0)
  ·simp only [jk, hs] at h
   have iF := And.intro kJ (And.intro iE (And.intro j9 (And.intro vf (And.intro Nk (And.intro FQ (And.intro tL (And.intro V2 jk)))))))
   cases dq : (bQ == 1)
   ·simp only [dq, hs] at h
    cases ez : (bQ == 2)
    ·simp only [ez, hs] at h
     exact absurd h ig
    simp only [ez, hs] at h
    obtain ⟨V3, ZV, h⟩ := optI h ig
    try simp only [hs] at h
    simp only [vz, tyf, iF, dZ, eT, dq, ez, (fe ez), nm, seval]
    refine ktA (kh _ _ _ _ ZV) ?_
    refine aV (fun tm => tm 1 = .ptr 0 0 ∧ tm 3 = .lit (.int .i64 bQ) ∧ tm 30 = .lit (.bool V3) ∧ True) (by refine ⟨dZ, eT, ?_, trivial⟩ <;> first | (simp only [ua, iF, dZ, eT, dq, ez, nm, seval] <;> rfl) | rfl) ?_
    rintro tm ⟨eU, ff, gO, _⟩
    cases jA : (V3)
    ·simp only [jA, hs] at h
     try simp only [vz, tyf, iF, dq, ez, (fe ez), eU, ff, gO, jA, nm, seval]
     replace h := ki _ h
     try dsimp only at h
     obtain rfl := kF _ h
     exact bl Tryz.results20 rfl
    simp only [jA, hs] at h
    obtain ⟨zq, Nl, h⟩ := optI h ig
    try simp only [hs] at h
    simp only [vz, tyf, iF, dq, ez, (fe ez), eU, ff, gO, jA, (hX ez), nm, seval]
    refine ktA (va _ _ _ Nl) ?_
    refine aV (fun tm => tm 1 = .ptr 0 0 ∧ tm 3 = .lit (.int .i64 bQ) ∧ tm 32 = .lit (.bool false) ∧ tm 37 = .lit (.bool zq) ∧ True) (by refine ⟨eU, ff, ?_, ?_, trivial⟩ <;> first | (simp only [ua, iF, dq, ez, eU, ff, gO, jA, nm, seval] <;> rfl) | rfl) ?_
    rintro tm ⟨eP, fT, fU, eV, _⟩
    cases mR : (zq)
    ·simp only [mR, hs] at h
     try simp only [vz, tyf, iF, dq, ez, (fe ez), jA, (hX ez), eP, fT, fU, eV, mR, nm, seval]
     replace h := ki _ h
     try dsimp only at h
     obtain rfl := kF _ h
     exact bl Tryz.results20 rfl
    simp only [mR, hs] at h
    cases vg : (lenOk ae.Tins)
    ·simp only [vg, hs] at h
     exact absurd h ig
    simp only [vg, hs] at h
    simp only [vz, tyf, iF, dq, ez, (fe ez), jA, (hX ez), eP, fT, fU, eV, mR, vg, nm, seval]
    obtain ⟨ZW, h, Nm, Nn, ZX, No⟩ := eO h ig
    obtain ⟨ZY, Np, h⟩ := call2 h
    obtain ⟨ZZ, vh⟩ : ∃ I : Nat → St → Prop, I = (fun m st => ∃ (tO : List Gt) (gP : Int), m = List.length tO ∧ 0 ≤ gP ∧ List.drop (Int.toNat gP) ae.Tins = tO ∧ st.df = [] ∧ fG + 17 ≤ st.nx ∧ st.H 0 = some (.cells (some 28) (cGs ae)) ∧ st.tm 1 = .ptr 0 0 ∧ st.tm 3 = .lit (.int .i64 bQ) ∧ st.tm 4 = .lit (.int .i64 gP) ∧ ZW (ZY tO gP)) := ⟨_, rfl⟩
    refine loopK mixed (by kernel_rfl) ZZ (List.length ae.Tins) (by rw [vh]; refine ⟨ae.Tins, 0, rfl, Int.le_refl _, rfl, rfl, (show fG + 17 ≤ fG + 17 by omega), ?_, eP, fT, ?_, h⟩ <;> first | (simp only [ua, iF, dq, ez, jA, eP, fT, fU, eV, mR, nm, seval] <;> rfl) | rfl) ?_
    rintro m ⟨tm, H, sg, df⟩ hinv
    rw [vh] at hinv
    obtain ⟨tO, gP, rfl, nA, pF, hdf, Nq, zr, gD, iY, gm, h⟩ := hinv
    simp only at hdf Nq zr gD iY gm
    have BD := eN (m := 20) (b := sg) (by omega)
    have BE := oM (a := fG) (m := 17) (b := sg) (by omega)
    subst hdf Np
    cases tO with
    | nil =>
     have V4 : (decide (gP < (List.length ae.Tins : Int))) = false := iG nA pF
     simp only [rj, ri, rh, hs, reduceCtorEq] at h
     replace h := Nn _ h
     try dsimp only at h
     try simp only [hs] at h
     simp only [vz, tyf, iF, dq, ez, (fe ez), jA, (hX ez), mR, vg, BD, BE, gD, iY, gm, zr, V4, nm, seval]
     exact ⟨oS, Nat.lt_succ_self _, by rw [pE]; refine ⟨oS, bQ + 1, rfl, iZ sf, ja nz, rfl, (show 20 ≤ sg + 8 by omega), ?_, gD, ?_, h⟩ <;> first | (simp only [ua, iF, dq, ez, jA, mR, BD, BE, gD, iY, gm, zr, V4, nm, seval] <;> rfl) | rfl⟩
    | cons gE tO =>
     have Nr : (decide (gP < (List.length ae.Tins : Int))) = true := iH nA pF
     have BF := fp nA pF
     have vi := iI nA pF vg
     simp only [rj, ri, rh, hs, reduceCtorEq] at h
     obtain ⟨zt, Ns, h⟩ := optI h No
     try simp only [hs] at h
     simp only [vz, tyf, iF, dq, ez, (fe ez), jA, (hX ez), mR, vg, BD, BE, gD, iY, gm, zr, Nr, (bB BF), vi, (si ez), nm, seval]
     refine ktA (va _ _ _ Ns) ?_
     refine aV (fun tm => tm 1 = .ptr 0 0 ∧ tm 3 = .lit (.int .i64 bQ) ∧ tm 4 = .lit (.int .i64 gP) ∧ tm 55 = .lit (.bool zt) ∧ True) (by refine ⟨gD, iY, gm, ?_, trivial⟩ <;> first | (simp only [ua, iF, dq, ez, jA, mR, BD, BE, gD, iY, gm, zr, Nr, vi, nm, seval] <;> rfl) | rfl) ?_
     rintro tm ⟨iN, iO, jb, jP, _⟩
     have Nt := And.intro iF (And.intro dq (And.intro ez (And.intro jA (And.intro mR (And.intro vg (And.intro BD (And.intro BE (And.intro zr (And.intro Nr vi)))))))))
     cases BG : (zt)
     ·simp only [BG, hs] at h
      try simp only [vz, tyf, Nt, (fe ez), (hX ez), (bB BF), (si ez), iN, iO, jb, jP, BG, nm, seval]
      replace h := Nm _ h
      try dsimp only at h
      replace h := ki _ h
      try dsimp only at h
      obtain rfl := kF _ h
      exact bl Tryz.results20 rfl
     simp only [BG, hs] at h
     simp only [vz, tyf, Nt, (fe ez), (hX ez), (bB BF), (si ez), iN, iO, jb, jP, BG, nm, seval]
     exact ⟨List.length tO, Nat.lt_succ_self _, by rw [vh]; refine ⟨tO, gP + 1, rfl, Int.le_trans nA (Int.le_add_one (Int.le_refl _)), eE nA pF, rfl, (show fG + 17 ≤ sg + 18 by omega), ?_, iN, iO, ?_, h⟩ <;> first | (simp only [ua, Nt, iN, iO, jb, jP, BG, nm, seval] <;> rfl) | rfl⟩
   simp only [dq, hs] at h
   obtain ⟨BH, Nu, h⟩ := optI h ig
   try simp only [hs] at h
   simp only [vz, tyf, iF, dZ, eT, dq, (fg dq), nm, seval]
   refine ktA (kh _ _ _ _ Nu) ?_
   refine aV (fun tm => tm 1 = .ptr 0 0 ∧ tm 3 = .lit (.int .i64 bQ) ∧ tm 30 = .lit (.bool BH) ∧ True) (by refine ⟨dZ, eT, ?_, trivial⟩ <;> first | (simp only [ua, iF, dZ, eT, dq, nm, seval] <;> rfl) | rfl) ?_
   rintro tm ⟨fH, hY, kj, _⟩
   cases nB : (BH)
   ·simp only [nB, hs] at h
    try simp only [vz, tyf, iF, dq, (fg dq), fH, hY, kj, nB, nm, seval]
    replace h := ki _ h
    try dsimp only at h
    obtain rfl := kF _ h
    exact bl Tryz.results20 rfl
   simp only [nB, hs] at h
   obtain ⟨V5, o91, h⟩ := optI h ig
   try simp only [hs] at h
   simp only [vz, tyf, iF, dq, (fg dq), fH, hY, kj, nB, (ia dq), nm, seval]
   refine ktA (va _ _ _ o91) ?_
   refine aV (fun tm => tm 1 = .ptr 0 0 ∧ tm 3 = .lit (.int .i64 bQ) ∧ tm 32 = .lit (.bool false) ∧ tm 37 = .lit (.bool V5) ∧ True) (by refine ⟨fH, hY, ?_, ?_, trivial⟩ <;> first | (simp only [ua, iF, dq, fH, hY, kj, nB, nm, seval] <;> rfl) | rfl) ?_
   rintro tm ⟨kR, iP, kl, kS, _⟩
   cases rk : (V5)
   ·simp only [rk, hs] at h
    try simp only [vz, tyf, iF, dq, (fg dq), nB, (ia dq), kR, iP, kl, kS, rk, nm, seval]
    replace h := ki _ h
    try dsimp only at h
    obtain rfl := kF _ h
    exact bl Tryz.results20 rfl
   simp only [rk, hs] at h
   cases vj : (lenOk ae.Tins)
   ·simp only [vj, hs] at h
    exact absurd h ig
   simp only [vj, hs] at h
   simp only [vz, tyf, iF, dq, (fg dq), nB, (ia dq), kR, iP, kl, kS, rk, vj, nm, seval]
   obtain ⟨K97, h, Nv, Nw, kB97, Nx⟩ := eO h ig
   obtain ⟨f97, Ny, h⟩ := call2 h
   obtain ⟨I97, vk⟩ : ∃ I : Nat → St → Prop, I = (fun m st => ∃ (tP : List Gt) (gQ : Int), m = List.length tP ∧ 0 ≤ gQ ∧ List.drop (Int.toNat gQ) ae.Tins = tP ∧ st.df = [] ∧ fG + 17 ≤ st.nx ∧ st.H 0 = some (.cells (some 28) (cGs ae)) ∧ st.tm 1 = .ptr 0 0 ∧ st.tm 3 = .lit (.int .i64 bQ) ∧ st.tm 4 = .lit (.int .i64 gQ) ∧ K97 (f97 tP gQ)) := ⟨_, rfl⟩
   refine loopK mixed (by kernel_rfl) I97 (List.length ae.Tins) (by rw [vk]; refine ⟨ae.Tins, 0, rfl, Int.le_refl _, rfl, rfl, (show fG + 17 ≤ fG + 17 by omega), ?_, kR, iP, ?_, h⟩ <;> first | (simp only [ua, iF, dq, nB, kR, iP, kl, kS, rk, nm, seval] <;> rfl) | rfl) ?_
   rintro m ⟨tm, H, sj, df⟩ hinv
   rw [vk] at hinv
   obtain ⟨tP, gQ, rfl, nC, pG, hdf, Nz, zu, jB, ei, ej, h⟩ := hinv
   simp only at hdf Nz zu jB ei ej
   have pH := eN (m := 20) (b := sj) (by omega)
   have pI := oM (a := fG) (m := 17) (b := sj) (by omega)
   subst hdf Ny
   cases tP with
   | nil =>
    have BI : (decide (gQ < (List.length ae.Tins : Int))) = false := iG nC pG
    simp only [rj, ri, rh, hs, reduceCtorEq] at h
    replace h := Nw _ h
    try dsimp only at h
    try simp only [hs] at h
    simp only [vz, tyf, iF, dq, (fg dq), nB, (ia dq), rk, vj, pH, pI, jB, ei, ej, zu, BI, nm, seval]
    exact ⟨oS, Nat.lt_succ_self _, by rw [pE]; refine ⟨oS, bQ + 1, rfl, iZ sf, ja nz, rfl, (show 20 ≤ sj + 8 by omega), ?_, jB, ?_, h⟩ <;> first | (simp only [ua, iF, dq, nB, rk, pH, pI, jB, ei, ej, zu, BI, nm, seval] <;> rfl) | rfl⟩
   | cons tQ tP =>
    have vl : (decide (gQ < (List.length ae.Tins : Int))) = true := iH nC pG
    have vm := fp nC pG
    have vn := iI nC pG vj
    simp only [rj, ri, rh, hs, reduceCtorEq] at h
    obtain ⟨BJ, N0, h⟩ := optI h Nx
    try simp only [hs] at h
    simp only [vz, tyf, iF, dq, (fg dq), nB, (ia dq), rk, vj, pH, pI, jB, ei, ej, zu, vl, (bB vm), vn, (sk dq), nm, seval]
    refine ktA (va _ _ _ N0) ?_
    refine aV (fun tm => tm 1 = .ptr 0 0 ∧ tm 3 = .lit (.int .i64 bQ) ∧ tm 4 = .lit (.int .i64 gQ) ∧ tm 55 = .lit (.bool BJ) ∧ True) (by refine ⟨jB, ei, ej, ?_, trivial⟩ <;> first | (simp only [ua, iF, dq, nB, rk, pH, pI, jB, ei, ej, zu, vl, vn, nm, seval] <;> rfl) | rfl) ?_
    rintro tm ⟨sm, sn, kT, kU, _⟩
    have vo := And.intro iF (And.intro dq (And.intro nB (And.intro rk (And.intro vj (And.intro pH (And.intro pI (And.intro zu (And.intro vl vn))))))))
    cases pJ : (BJ)
    ·simp only [pJ, hs] at h
     try simp only [vz, tyf, vo, (fg dq), (ia dq), (bB vm), (sk dq), sm, sn, kT, kU, pJ, nm, seval]
     replace h := Nv _ h
     try dsimp only at h
     replace h := ki _ h
     try dsimp only at h
     obtain rfl := kF _ h
     exact bl Tryz.results20 rfl
    simp only [pJ, hs] at h
    simp only [vz, tyf, vo, (fg dq), (ia dq), (bB vm), (sk dq), sm, sn, kT, kU, pJ, nm, seval]
    exact ⟨List.length tP, Nat.lt_succ_self _, by rw [vk]; refine ⟨tP, gQ + 1, rfl, Int.le_trans nC (Int.le_add_one (Int.le_refl _)), eE nC pG, rfl, (show fG + 17 ≤ sj + 18 by omega), ?_, sm, sn, ?_, h⟩ <;> first | (simp only [ua, vo, sm, sn, kT, kU, pJ, nm, seval] <;> rfl) | rfl⟩
  simp only [jk, hs] at h
  have ij := And.intro kJ (And.intro iE (And.intro j9 (And.intro vf (And.intro Nk (And.intro FQ (And.intro tL (And.intro V2 jk)))))))
  obtain ⟨BK, N1, h⟩ := optI h ig
  try simp only [hs] at h
  simp only [vz, tyf, ij, dZ, eT, (fh jk), nm, seval]
  refine ktA (kh _ _ _ _ N1) ?_
  refine aV (fun tm => tm 1 = .ptr 0 0 ∧ tm 3 = .lit (.int .i64 bQ) ∧ tm 30 = .lit (.bool BK) ∧ True) (by refine ⟨dZ, eT, ?_, trivial⟩ <;> first | (simp only [ua, ij, dZ, eT, nm, seval] <;> rfl) | rfl) ?_
  rintro tm ⟨iQ, fq, fI, _⟩
  cases ik : (BK)
  ·simp only [ik, hs] at h
   try simp only [vz, tyf, ij, (fh jk), iQ, fq, fI, ik, nm, seval]
   replace h := ki _ h
   try dsimp only at h
   obtain rfl := kF _ h
   exact bl Tryz.results20 rfl
  simp only [ik, hs] at h
  obtain ⟨BL, N2, h⟩ := optI h ig
  try simp only [hs] at h
  simp only [vz, tyf, ij, (fh jk), iQ, fq, fI, ik, (ib jk), nm, seval]
  refine ktA (va _ _ _ N2) ?_
  refine aV (fun tm => tm 1 = .ptr 0 0 ∧ tm 3 = .lit (.int .i64 bQ) ∧ tm 32 = .lit (.bool false) ∧ tm 37 = .lit (.bool BL) ∧ True) (by refine ⟨iQ, fq, ?_, ?_, trivial⟩ <;> first | (simp only [ua, ij, iQ, fq, fI, ik, nm, seval] <;> rfl) | rfl) ?_
  rintro tm ⟨km, so, vp, vq, _⟩
  cases jC : (BL)
  ·simp only [jC, hs] at h
   try simp only [vz, tyf, ij, (fh jk), ik, (ib jk), km, so, vp, vq, jC, nm, seval]
   replace h := ki _ h
   try dsimp only at h
   obtain rfl := kF _ h
   exact bl Tryz.results20 rfl
  simp only [jC, hs] at h
  cases md : (lenOk ae.Tins)
  ·simp only [md, hs] at h
   exact absurd h ig
  simp only [md, hs] at h
  simp only [vz, tyf, ij, (fh jk), ik, (ib jk), km, so, vp, vq, jC, md, nm, seval]
  obtain ⟨N3, h, BM, BN, V6, BO⟩ := eO h ig
  obtain ⟨N4, BP, h⟩ := call2 h
  obtain ⟨N5, pK⟩ : ∃ I : Nat → St → Prop, I = (fun m st => ∃ (kV : List Gt) (eF : Int), m = List.length kV ∧ 0 ≤ eF ∧ List.drop (Int.toNat eF) ae.Tins = kV ∧ st.df = [] ∧ fG + 17 ≤ st.nx ∧ st.H 0 = some (.cells (some 28) (cGs ae)) ∧ st.tm 1 = .ptr 0 0 ∧ st.tm 3 = .lit (.int .i64 bQ) ∧ st.tm 4 = .lit (.int .i64 eF) ∧ N3 (N4 kV eF)) := ⟨_, rfl⟩
  refine loopK mixed (by kernel_rfl) N5 (List.length ae.Tins) (by rw [pK]; refine ⟨ae.Tins, 0, rfl, Int.le_refl _, rfl, rfl, (show fG + 17 ≤ fG + 17 by omega), ?_, km, so, ?_, h⟩ <;> first | (simp only [ua, ij, ik, km, so, vp, vq, jC, nm, seval] <;> rfl) | rfl) ?_
  rintro m ⟨tm, H, mS, df⟩ hinv
  rw [pK] at hinv
  obtain ⟨kV, eF, rfl, jQ, kW, hdf, BQ, nD, gR, nE, nF, h⟩ := hinv
  simp only at hdf BQ nD gR nE nF
  have pL := eN (m := 20) (b := mS) (by omega)
  have pM := oM (a := fG) (m := 17) (b := mS) (by omega)
  subst hdf BP
  cases kV with
  | nil =>
   have BR : (decide (eF < (List.length ae.Tins : Int))) = false := iG jQ kW
   simp only [rj, ri, rh, hs, reduceCtorEq] at h
   replace h := BN _ h
   try dsimp only at h
   try simp only [hs] at h
   simp only [vz, tyf, ij, (fh jk), ik, (ib jk), jC, md, pL, pM, gR, nE, nF, nD, BR, nm, seval]
   exact ⟨oS, Nat.lt_succ_self _, by rw [pE]; refine ⟨oS, bQ + 1, rfl, iZ sf, ja nz, rfl, (show 20 ≤ mS + 8 by omega), ?_, gR, ?_, h⟩ <;> first | (simp only [ua, ij, ik, jC, pL, pM, gR, nE, nF, nD, BR, nm, seval] <;> rfl) | rfl⟩
  | cons gn kV =>
   have vr : (decide (eF < (List.length ae.Tins : Int))) = true := iH jQ kW
   have vt := fp jQ kW
   have vu := iI jQ kW md
   simp only [rj, ri, rh, hs, reduceCtorEq] at h
   obtain ⟨BS, N6, h⟩ := optI h BO
   try simp only [hs] at h
   simp only [vz, tyf, ij, (fh jk), ik, (ib jk), jC, md, pL, pM, gR, nE, nF, nD, vr, (bB vt), vu, (sq jk), nm, seval]
   refine ktA (va _ _ _ N6) ?_
   refine aV (fun tm => tm 1 = .ptr 0 0 ∧ tm 3 = .lit (.int .i64 bQ) ∧ tm 4 = .lit (.int .i64 eF) ∧ tm 55 = .lit (.bool BS) ∧ True) (by refine ⟨gR, nE, nF, ?_, trivial⟩ <;> first | (simp only [ua, ij, ik, jC, pL, pM, gR, nE, nF, nD, vr, vu, nm, seval] <;> rfl) | rfl) ?_
   rintro tm ⟨iR, me, vv, vw, _⟩
   have vy := And.intro ij (And.intro ik (And.intro jC (And.intro md (And.intro pL (And.intro pM (And.intro nD (And.intro vr vu)))))))
   cases pN : (BS)
   ·simp only [pN, hs] at h
    try simp only [vz, tyf, vy, (fh jk), (ib jk), (bB vt), (sq jk), iR, me, vv, vw, pN, nm, seval]
    replace h := BM _ h
    try dsimp only at h
    replace h := ki _ h
    try dsimp only at h
    obtain rfl := kF _ h
    exact bl Tryz.results20 rfl
   simp only [pN, hs] at h
   simp only [vz, tyf, vy, (fh jk), (ib jk), (bB vt), (sq jk), iR, me, vv, vw, pN, nm, seval]
   exact ⟨List.length kV, Nat.lt_succ_self _, by rw [pK]; refine ⟨kV, eF + 1, rfl, Int.le_trans jQ (Int.le_add_one (Int.le_refl _)), eE jQ kW, rfl, (show fG + 17 ≤ mS + 18 by omega), ?_, iR, me, ?_, h⟩ <;> first | (simp only [ua, vy, iR, me, vv, vw, pN, nm, seval] <;> rfl) | rfl⟩
def v3  : List Int → Int → Int → Option (LOut (Int) (Int))
 | [], fJ, cj => some (.go cj)
 | e0 :: p0, fJ, cj => v3 p0 (fJ + 1) (i64.wrap (cj + e0))
def BT (cM : List Int) : Option (Int) := cond (lenOk cM) (aK (v3 cM 0 0) (fun r2 => some r2) (fun c1 => some c1) (fun _ _ => none)) none
theorem zoi (cM : List Int) (R : Int) (h : BT cM = some R) : ad Tryz.prog G0 35 [.sl (aa eI cM) (List.length cM) false] (.tree (.lit (.int .i64 R))) := by
 refine ad.runR mixed Tryz.call35 Tryz.func35 rfl (by simp [Tryz.ntmps35]; kernel_rfl) ?_
 obtain ⟨KF, h, kF, kN⟩ := cQ h
 simp only [BT] at h
 cases g4 : (lenOk cM)
 ·simp only [g4, hs] at h
  exact absurd h kN
 simp only [g4, hs] at h
 simp only [vz, tyf, g4, nm, seval]
 obtain ⟨K3, h, BU, rl, FR, v5⟩ := eO h kN
 obtain ⟨f3, ss, h⟩ := call3 h
 obtain ⟨I3, jc⟩ : ∃ I : Nat → St → Prop, I = (fun m st => ∃ (p3 : List Int) (jj : Int) (cR : Int), m = List.length p3 ∧ 0 ≤ jj ∧ List.drop (Int.toNat jj) cM = p3 ∧ st.df = [] ∧ 3 ≤ st.nx ∧ st.tm 0 = .sl (aa eI cM) (List.length cM) false ∧ st.tm 3 = .lit (.int .i64 cR) ∧ st.tm 4 = .lit (.int .i64 jj) ∧ K3 (f3 p3 jj cR)) := ⟨_, rfl⟩
 refine loopK mixed (by kernel_rfl) I3 (List.length cM) (by rw [jc]; refine ⟨cM, 0, 0, rfl, Int.le_refl _, rfl, rfl, (show 3 ≤ 3 by omega), ?_, ?_, ?_, h⟩ <;> first | (simp only [ua, nm, seval] <;> rfl) | rfl) ?_
 rintro m ⟨tm, H, gF, df⟩ hinv
 rw [jc] at hinv
 obtain ⟨p3, jj, cR, rfl, ec, eW, hdf, su, e5, e6, e7, h⟩ := hinv
 simp only at hdf su e5 e6 e7
 have n8 := eN (m := 3) (b := gF) (by omega)
 subst hdf ss
 cases p3 with
 | nil =>
  have d9 : (decide (jj < (List.length cM : Int))) = false := iG ec eW
  simp only [v3, hs, reduceCtorEq] at h
  replace h := rl _ h
  try dsimp only at h
  try simp only [hs] at h
  try simp only [vz, tyf, g4, n8, e5, e6, e7, d9, nm, seval]
  refine bP (x := (.lit (.int .i64 cR))) (by first | (simp only [Tryz.results35, resV, resL, ar, bV, bU, uw, cr, tyf, g4, n8, d9, nm, seval] <;> rfl) | rfl) ?_
  obtain rfl := kF _ h
  refine bZ ?_ ?_
  ·simp only [tre, au, Bool.and_self]
  ·first | (simp only [outV, uw, cA, cr, tyf, nrm, av, g4, n8, e5, e6, e7, d9, nm, seval] <;> rfl) | rfl
 | cons e3 p3 =>
  have bX : (decide (jj < (List.length cM : Int))) = true := iH ec eW
  have pO := fp ec eW
  have V7 := iI ec eW g4
  simp only [v3, hs, reduceCtorEq] at h
  simp only [vz, tyf, g4, n8, e5, e6, e7, bX, (bp pO), V7, nm, seval]
  exact ⟨List.length p3, Nat.lt_succ_self _, by rw [jc]; refine ⟨p3, jj + 1, i64.wrap (cR + e3), rfl, Int.le_trans ec (Int.le_add_one (Int.le_refl _)), eE ec eW, rfl, (show 3 ≤ gF + 14 by omega), e5, ?_, ?_, h⟩ <;> first | (simp only [ua, n8, e5, e6, e7, bX, V7, nm, seval] <;> rfl) | rfl⟩
def zw  : List Int → Int → Option (LOut (Bool) (Unit))
 | [], bx => some (.go ())
 | e0 :: p0, bx => Option.bind (j6 e0 0 8) (fun r1 => cond (r1) (zw p0 (bx + 1)) (some (.ret false)))
def BV (ae : Gs) (an : List Int) : Option (Bool) := cond (lenOk an) (aK (zw an 0) (fun r5 => some r5) (fun c2 => cond ((List.length an : Int) == (List.length ae.Tins : Int)) (Option.bind (BT an) (fun r3 => Option.bind (j6 r3 1 8) (fun r4 => some r4))) (some false)) (fun _ _ => none)) none
theorem ztm (ae : Gs) (an : List Int) (R : Bool) (h : BV ae an = some R) : ad Tryz.prog G0 22 [.agg (cGs ae), .sl (aa eI an) (List.length an) false] (.tree (.lit (.bool R))) := by
 refine ad.runR mixed Tryz.call22 Tryz.func22 rfl (by simp [Tryz.ntmps22]; kernel_rfl) ?_
 obtain ⟨KF, h, kF, kN⟩ := cQ h
 simp only [BV] at h
 cases g7 : (lenOk an)
 ·simp only [g7, hs] at h
  exact absurd h kN
 simp only [g7, hs] at h
 simp only [vz, tyf, g7, nm, seval]
 obtain ⟨K6, h, BW, N7, kB6, zx⟩ := eO h kN
 obtain ⟨f6, N8, h⟩ := call2 h
 obtain ⟨I6, sv⟩ : ∃ I : Nat → St → Prop, I = (fun m st => ∃ (p6 : List Int) (kn : Int), m = List.length p6 ∧ 0 ≤ kn ∧ List.drop (Int.toNat kn) an = p6 ∧ st.df = [] ∧ 3 ≤ st.nx ∧ st.H 0 = some (.cells (some 28) (cGs ae)) ∧ st.tm 1 = .sl (aa eI an) (List.length an) false ∧ st.tm 2 = .ptr 0 0 ∧ st.tm 5 = .lit (.int .i64 kn) ∧ K6 (f6 p6 kn)) := ⟨_, rfl⟩
 refine loopK mixed (by kernel_rfl) I6 (List.length an) (by rw [sv]; refine ⟨an, 0, rfl, Int.le_refl _, rfl, rfl, (show 3 ≤ 3 by omega), ?_, ?_, ?_, ?_, h⟩ <;> first | (simp only [ua, nm, seval] <;> rfl) | rfl) ?_
 rintro m ⟨tm, H, v7, df⟩ hinv
 rw [sv] at hinv
 obtain ⟨p6, kn, rfl, pP, oT, hdf, N9, H8, e9, aW, aX, h⟩ := hinv
 simp only at hdf N9 H8 e9 aW aX
 have ic := eN (m := 3) (b := v7) (by omega)
 subst hdf N8
 cases p6 with
 | nil =>
  have cV : (decide (kn < (List.length an : Int))) = false := iG pP oT
  simp only [zw, hs, reduceCtorEq] at h
  replace h := N7 _ h
  try dsimp only at h
  try simp only [hs] at h
  cases bH : ((List.length an : Int) == (List.length ae.Tins : Int))
  ·simp only [bH, hs] at h
   try simp only [vz, tyf, g7, ic, e9, aW, aX, H8, cV, bH, nm, seval]
   obtain rfl := kF _ h
   exact bl Tryz.results22 rfl
  simp only [bH, hs] at h
  obtain ⟨oQ, v8, h⟩ := optI h kN
  try simp only [hs] at h
  simp only [vz, tyf, g7, ic, e9, aW, aX, H8, cV, bH, nm, seval]
  refine ktA (zoi _ _ v8) ?_
  refine aV (fun tm => tm 24 = .lit (.bool true) ∧ tm 26 = .lit (.int .i64 oQ) ∧ True) (by refine ⟨?_, ?_, trivial⟩ <;> first | (simp only [ua, ic, e9, aW, aX, H8, cV, bH, nm, seval] <;> rfl) | rfl) ?_
  rintro tm ⟨bI, cv, _⟩
  obtain ⟨oU, pQ, h⟩ := optI h kN
  try simp only [hs] at h
  simp only [vz, tyf, g7, ic, H8, cV, bH, bI, cv, nm, seval]
  refine ktA (kh _ _ _ _ pQ) ?_
  refine aV (fun tm => tm 24 = .lit (.bool true) ∧ tm 27 = .lit (.bool oU) ∧ True) (by refine ⟨bI, ?_, trivial⟩ <;> first | (simp only [ua, ic, H8, cV, bH, bI, cv, nm, seval] <;> rfl) | rfl) ?_
  rintro tm ⟨bJ, bR, _⟩
  try simp only [vz, tyf, g7, ic, H8, cV, bH, bJ, bR, nm, seval]
  obtain rfl := kF _ h
  exact bl Tryz.results22 rfl
 | cons e6 p6 =>
  have gS : (decide (kn < (List.length an : Int))) = true := iH pP oT
  have tR := fp pP oT
  have BX := iI pP oT g7
  simp only [zw, hs, reduceCtorEq] at h
  obtain ⟨pC, vd, h⟩ := optI h zx
  try simp only [hs] at h
  simp only [vz, tyf, g7, ic, e9, aW, aX, H8, gS, (bp tR), BX, nm, seval]
  refine ktA (kh _ _ _ _ vd) ?_
  refine aV (fun tm => tm 1 = .sl (aa eI an) (List.length an) false ∧ tm 2 = .ptr 0 0 ∧ tm 5 = .lit (.int .i64 kn) ∧ tm 16 = .lit (.bool pC) ∧ True) (by refine ⟨e9, aW, aX, ?_, trivial⟩ <;> first | (simp only [ua, ic, e9, aW, aX, H8, gS, BX, nm, seval] <;> rfl) | rfl) ?_
  rintro tm ⟨bA, bW, cC, cE, _⟩
  cases gp : (pC)
  ·simp only [gp, hs] at h
   try simp only [vz, tyf, g7, ic, H8, gS, (bp tR), BX, bA, bW, cC, cE, gp, nm, seval]
   replace h := BW _ h
   try dsimp only at h
   obtain rfl := kF _ h
   exact bl Tryz.results22 rfl
  simp only [gp, hs] at h
  simp only [vz, tyf, g7, ic, H8, gS, (bp tR), BX, bA, bW, cC, cE, gp, nm, seval]
  exact ⟨List.length p6, Nat.lt_succ_self _, by rw [sv]; refine ⟨p6, kn + 1, rfl, Int.le_trans pP (Int.le_add_one (Int.le_refl _)), eE pP oT, rfl, (show 3 ≤ v7 + 13 by omega), ?_, bA, bW, ?_, h⟩ <;> first | (simp only [ua, ic, H8, gS, BX, bA, bW, cC, cE, gp, nm, seval] <;> rfl) | rfl⟩
def rn (ae : Gs) : List Gi → Int → Option (LOut (Bool) (Unit))
 | [], eX => some (.go ())
 | e3 :: p3, eX => Option.bind (getI ae.Tins eX) (fun V8 => Option.bind (j6 e3.a2 V8.pg.a2.Low V8.pg.a2.High) (fun BA => cond (BA) (rn ae p3 (eX + 1)) (some (.ret false))))
def rp (ae : Gs) : List Gi → Int → Option (LOut (Bool) (Unit))
 | [], ko => some (.go ())
 | e2 :: p2, ko => Option.bind (getI ae.Tins ko) (fun x8 => Option.bind (j6 e2.a1 x8.pg.a1.Low x8.pg.a1.High) (fun r9 => cond (r9) (rp ae p2 (ko + 1)) (some (.ret false))))
def rq (ae : Gs) : List Gi → Int → Option (LOut (Bool) (Unit))
 | [], kq => some (.go ())
 | e1 :: p1, kq => Option.bind (getI ae.Tins kq) (fun x3 => Option.bind (j6 e1.a0 x3.pg.a0.Low x3.pg.a0.High) (fun r4 => cond (r4) (rq ae p1 (kq + 1)) (some (.ret false))))
def v9 (ae : Gs) (ai : Gu) : Nat → Int → Option (LOut (Bool) (Unit))
 | 0, bx => some (.go ())
 | k0 + 1, bx => cond (bx == 0) (Option.bind (j6 ai.Fade.a0 ae.Fade.a0.Low ae.Fade.a0.High) (fun r2 => cond (r2) (cond (lenOk ai.Tins) (aK (rq ae ai.Tins 0) (fun r6 => some (.ret r6)) (fun c5 => v9 ae ai k0 (bx + 1)) (fun _ _ => none)) none) (some (.ret false)))) (cond (bx == 1) (Option.bind (j6 ai.Fade.a1 ae.Fade.a1.Low ae.Fade.a1.High) (fun r7 => cond (r7) (cond (lenOk ai.Tins) (aK (rp ae ai.Tins 0) (fun dW => some (.ret dW)) (fun zy => v9 ae ai k0 (bx + 1)) (fun _ _ => none)) none) (some (.ret false)))) (cond (bx == 2) (Option.bind (j6 ai.Fade.a2 ae.Fade.a2.Low ae.Fade.a2.High) (fun iJ => cond (iJ) (cond (lenOk ai.Tins) (aK (rn ae ai.Tins 0) (fun jO => some (.ret jO)) (fun c15 => v9 ae ai k0 (bx + 1)) (fun _ _ => none)) none) (some (.ret false)))) (none)))
def BY (ae : Gs) (ai : Gu) : Option (Bool) := cond ((List.length ai.Tins : Int) != (List.length ae.Tins : Int)) (some false) (Option.bind (j6 ai.Years ae.Years.Low ae.Years.High) (fun r1 => cond (r1) (cond (boundOk 3) (aK (v9 ae ai (Int.toNat (3 - 0)) 0) (fun kQ => some kQ) (fun ZP => some true) (fun _ _ => none)) none) (some false)))
theorem zom (ae : Gs) (ai : Gu) (R : Bool) (h : BY ae ai = some R) : ad Tryz.prog G0 25 [.agg (cGs ae), .agg (cGu ai)] (.tree (.lit (.bool R))) := by
 refine ad.runR mixed Tryz.call25 Tryz.func25 rfl (by simp [Tryz.ntmps25]; kernel_rfl) ?_
 obtain ⟨KF, h, kF, kN⟩ := cQ h
 simp only [BY] at h
 cases dc : ((List.length ai.Tins : Int) != (List.length ae.Tins : Int))
 ·simp only [dc, hs] at h
  obtain ⟨oR, BZ, h⟩ := optI h kN
  try simp only [hs] at h
  simp only [vz, tyf, dc, nm, seval]
  refine ktA (kh _ _ _ _ BZ) ?_
  refine aV (fun tm => tm 2 = .ptr 0 0 ∧ tm 3 = .ptr 1 0 ∧ tm 15 = .lit (.bool false) ∧ tm 24 = .lit (.bool oR) ∧ True) (by refine ⟨?_, ?_, ?_, ?_, trivial⟩ <;> first | (simp only [ua, dc, nm, seval] <;> rfl) | rfl) ?_
  rintro tm ⟨bR, bz, cS, cq, _⟩
  cases dC : (oR)
  ·simp only [dC, hs] at h
   try simp only [vz, tyf, dc, bR, bz, cS, cq, dC, nm, seval]
   obtain rfl := kF _ h
   exact bl Tryz.results25 rfl
  simp only [dC, hs] at h
  cases vA : (boundOk 3)
  ·simp only [vA, hs] at h
   exact absurd h kN
  simp only [vA, hs] at h
  simp only [vz, tyf, dc, bR, bz, cS, cq, dC, vA, nm, seval]
  obtain ⟨K27, h, nG, NA, kB27, jD⟩ := eO h kN
  obtain ⟨Ca, NB, h⟩ := call2 h
  obtain ⟨I27, pR⟩ : ∃ I : Nat → St → Prop, I = (fun m st => ∃ (oV : Nat) (bL : Int), oV = m ∧ loOk bL = true ∧ Int.toNat (3 - bL) = oV ∧ st.df = [] ∧ 23 ≤ st.nx ∧ st.H 0 = some (.cells (some 28) (cGs ae)) ∧ st.H 1 = some (.cells (some 42) (cGu ai)) ∧ st.tm 2 = .ptr 0 0 ∧ st.tm 3 = .ptr 1 0 ∧ st.tm 5 = .lit (.int .i64 bL) ∧ K27 (Ca oV bL)) := ⟨_, rfl⟩
  refine loopK mixed (by kernel_rfl) I27 (Int.toNat (3 - 0)) (by rw [pR]; refine ⟨Int.toNat (3 - 0), 0, rfl, (by rfl), rfl, rfl, (show 23 ≤ 23 by omega), ?_, ?_, bR, bz, ?_, h⟩ <;> first | (simp only [ua, dc, bR, bz, cS, cq, dC, nm, seval] <;> rfl) | rfl) ?_
  rintro m ⟨tm, H, fK, df⟩ hinv
  rw [pR] at hinv
  obtain ⟨oV, bL, rfl, sw, nH, hdf, NC, Cb, Cc, cE, fC, iS, h⟩ := hinv
  simp only at hdf NC Cb Cc cE fC iS
  have sx := eN (m := 23) (b := fK) (by omega)
  subst hdf NB
  cases oV with
  | zero =>
   have mg : (decide (bL < 3)) = false := tK nH
   simp only [v9, hs, reduceCtorEq] at h
   replace h := NA _ h
   try dsimp only at h
   try simp only [hs] at h
   try simp only [vz, tyf, dc, dC, vA, sx, cE, fC, iS, Cb, Cc, mg, nm, seval]
   obtain rfl := kF _ h
   exact bl Tryz.results25 rfl
  | succ oV =>
   have Cd : (decide (bL < 3)) = true := tM nH
   have ND := tN sw nH vA
   simp only [v9, hs, reduceCtorEq] at h
   simp only [vz, tyf, dc, dC, vA, sx, cE, fC, iS, Cb, Cc, Cd, ND, nm, seval]
   refine fu (fun tm => tm 2 = .ptr 0 0 ∧ tm 3 = .ptr 1 0 ∧ tm 5 = .lit (.int .i64 bL) ∧ True) (by refine ⟨cE, fC, iS, trivial⟩ <;> first | (simp only [ua, dc, dC, sx, cE, fC, iS, Cb, Cc, Cd, ND, nm, seval] <;> rfl) | rfl) ?_
   rintro tm ⟨cY, di, dp, _⟩
   have gG := And.intro dc (And.intro dC (And.intro vA (And.intro sx (And.intro Cb (And.intro Cc (And.intro Cd ND))))))
   cases bY : (bL == 0)
   ·simp only [bY, hs] at h
    cases dg : (bL == 1)
    ·simp only [dg, hs] at h
     cases dB : (bL == 2)
     ·simp only [dB, hs] at h
      exact absurd h jD
     simp only [dB, hs] at h
     obtain ⟨V9, o46, h⟩ := optI h jD
     try simp only [hs] at h
     simp only [vz, tyf, gG, cY, di, dp, bY, dg, dB, (fe dB), (hX dB), nm, seval]
     refine dktA (kh _ _ _ _ o46) ?_
     refine aV (fun tm => tm 2 = .ptr 0 0 ∧ tm 3 = .ptr 1 0 ∧ tm 5 = .lit (.int .i64 bL) ∧ tm 45 = .lit (.bool V9) ∧ True) (by refine ⟨cY, di, dp, ?_, trivial⟩ <;> first | (simp only [ua, gG, cY, di, dp, bY, dg, dB, nm, seval] <;> rfl) | rfl) ?_
     rintro tm ⟨fV, fL, ed, dj, _⟩
     cases iK : (V9)
     ·simp only [iK, hs] at h
      try simp only [vz, tyf, gG, bY, dg, dB, (fe dB), (hX dB), fV, fL, ed, dj, iK, nm, seval]
      replace h := nG _ h
      try dsimp only at h
      obtain rfl := kF _ h
      exact bl Tryz.results25 rfl
     simp only [iK, hs] at h
     cases nI : (lenOk ai.Tins)
     ·simp only [nI, hs] at h
      exact absurd h jD
     simp only [nI, hs] at h
     simp only [vz, tyf, gG, bY, dg, dB, (fe dB), (hX dB), fV, fL, ed, dj, iK, nI, nm, seval]
     obtain ⟨K52, h, NF, NG, kB52, Ce⟩ := eO h jD
     obtain ⟨f52, NH, h⟩ := call2 h
     obtain ⟨I52, vB⟩ : ∃ I : Nat → St → Prop, I = (fun m st => ∃ (tS : List Gi) (fW : Int), m = List.length tS ∧ 0 ≤ fW ∧ List.drop (Int.toNat fW) ai.Tins = tS ∧ st.df = [] ∧ fK + 19 ≤ st.nx ∧ st.H 0 = some (.cells (some 28) (cGs ae)) ∧ st.H 1 = some (.cells (some 42) (cGu ai)) ∧ st.tm 2 = .ptr 0 0 ∧ st.tm 3 = .ptr 1 0 ∧ st.tm 5 = .lit (.int .i64 bL) ∧ st.tm 6 = .lit (.int .i64 fW) ∧ K52 (f52 tS fW)) := ⟨_, rfl⟩
     refine loopK mixed (by kernel_rfl) I52 (List.length ai.Tins) (by rw [vB]; refine ⟨ai.Tins, 0, rfl, Int.le_refl _, rfl, rfl, (show fK + 19 ≤ fK + 19 by omega), ?_, ?_, fV, fL, ed, ?_, h⟩ <;> first | (simp only [ua, gG, bY, dg, dB, fV, fL, ed, dj, iK, nm, seval] <;> rfl) | rfl) ?_
     rintro m ⟨tm, H, pS, df⟩ hinv
     rw [vB] at hinv
     obtain ⟨tS, fW, rfl, nJ, pT, hdf, NI, zz, z4, iL, fD, ie, eP, h⟩ := hinv
     simp only at hdf NI zz z4 iL fD ie eP
     have Cf := eN (m := 23) (b := pS) (by omega)
     have Cg := oM (a := fK) (m := 19) (b := pS) (by omega)
     subst hdf NH
     cases tS with
     | nil =>
      have VA : (decide (fW < (List.length ai.Tins : Int))) = false := iG nJ pT
      simp only [rq, rp, rn, hs, reduceCtorEq] at h
      replace h := NG _ h
      try dsimp only at h
      try simp only [hs] at h
      simp only [vz, tyf, gG, bY, dg, dB, (fe dB), (hX dB), iK, nI, Cf, Cg, iL, fD, ie, eP, zz, z4, VA, nm, seval]
      exact ⟨oV, Nat.lt_succ_self _, by rw [pR]; refine ⟨oV, bL + 1, rfl, iZ sw, ja nH, rfl, (show 23 ≤ pS + 8 by omega), ?_, ?_, iL, fD, ?_, h⟩ <;> first | (simp only [ua, gG, bY, dg, dB, iK, Cf, Cg, iL, fD, ie, eP, zz, z4, VA, nm, seval] <;> rfl) | rfl⟩
     | cons en tS =>
      have mR : (decide (fW < (List.length ai.Tins : Int))) = true := iH nJ pT
      have FT := fp nJ pT
      have NJ := iI nJ pT nI
      simp only [rq, rp, rn, hs, reduceCtorEq] at h
      obtain ⟨x66, FU, h⟩ := optI h Ce
      try simp only [hs] at h
      simp only [vz, tyf, gG, bY, dg, dB, (fe dB), (hX dB), iK, nI, Cf, Cg, iL, fD, ie, eP, zz, z4, mR, (cl FT), NJ, (bB FU), (si dB), nm, seval]
      refine fu (fun tm => tm 2 = .ptr 0 0 ∧ tm 3 = .ptr 1 0 ∧ tm 5 = .lit (.int .i64 bL) ∧ tm 6 = .lit (.int .i64 fW) ∧ tm 7 = .ptr (pS + 13) 0 ∧ True) (by refine ⟨iL, fD, ie, eP, ?_, trivial⟩ <;> first | (simp only [ua, gG, bY, dg, dB, iK, Cf, Cg, iL, fD, ie, eP, zz, z4, mR, NJ, nm, seval] <;> rfl) | rfl) ?_
      rintro tm ⟨iY, gm, eQ, fj, eG, _⟩
      have Ch := And.intro gG (And.intro bY (And.intro dg (And.intro dB (And.intro iK (And.intro nI (And.intro Cf (And.intro Cg (And.intro zz (And.intro z4 (And.intro mR NJ))))))))))
      obtain ⟨VB, BF, h⟩ := optI h Ce
      try simp only [hs] at h
      simp only [vz, tyf, Ch, (fe dB), (hX dB), (cl FT), (bB FU), (si dB), iY, gm, eQ, fj, eG, (vC dB), nm, seval]
      refine dktA (kh _ _ _ _ BF) ?_
      refine aV (fun tm => tm 2 = .ptr 0 0 ∧ tm 3 = .ptr 1 0 ∧ tm 5 = .lit (.int .i64 bL) ∧ tm 6 = .lit (.int .i64 fW) ∧ tm 73 = .lit (.bool VB) ∧ True) (by refine ⟨iY, gm, eQ, fj, ?_, trivial⟩ <;> first | (simp only [ua, Ch, iY, gm, eQ, fj, eG, nm, seval] <;> rfl) | rfl) ?_
      rintro tm ⟨eY, gH, iN, iO, jb, _⟩
      cases mh : (VB)
      ·simp only [mh, hs] at h
       try simp only [vz, tyf, Ch, (fe dB), (hX dB), (cl FT), (bB FU), (si dB), (vC dB), eY, gH, iN, iO, jb, mh, nm, seval]
       replace h := NF _ h
       try dsimp only at h
       replace h := nG _ h
       try dsimp only at h
       obtain rfl := kF _ h
       exact bl Tryz.results25 rfl
      simp only [mh, hs] at h
      simp only [vz, tyf, Ch, (fe dB), (hX dB), (cl FT), (bB FU), (si dB), (vC dB), eY, gH, iN, iO, jb, mh, nm, seval]
      exact ⟨List.length tS, Nat.lt_succ_self _, by rw [vB]; refine ⟨tS, fW + 1, rfl, Int.le_trans nJ (Int.le_add_one (Int.le_refl _)), eE nJ pT, rfl, (show fK + 19 ≤ pS + 31 by omega), ?_, ?_, eY, gH, iN, ?_, h⟩ <;> first | (simp only [ua, Ch, eY, gH, iN, iO, jb, mh, nm, seval] <;> rfl) | rfl⟩
    simp only [dg, hs] at h
    obtain ⟨pU, Ci, h⟩ := optI h jD
    try simp only [hs] at h
    simp only [vz, tyf, gG, cY, di, dp, bY, dg, (fg dg), (ia dg), nm, seval]
    refine dktA (kh _ _ _ _ Ci) ?_
    refine aV (fun tm => tm 2 = .ptr 0 0 ∧ tm 3 = .ptr 1 0 ∧ tm 5 = .lit (.int .i64 bL) ∧ tm 45 = .lit (.bool pU) ∧ True) (by refine ⟨cY, di, dp, ?_, trivial⟩ <;> first | (simp only [ua, gG, cY, di, dp, bY, dg, nm, seval] <;> rfl) | rfl) ?_
    rintro tm ⟨il, jl, fH, hY, _⟩
    cases rr : (pU)
    ·simp only [rr, hs] at h
     try simp only [vz, tyf, gG, bY, dg, (fg dg), (ia dg), il, jl, fH, hY, rr, nm, seval]
     replace h := nG _ h
     try dsimp only at h
     obtain rfl := kF _ h
     exact bl Tryz.results25 rfl
    simp only [rr, hs] at h
    cases vD : (lenOk ai.Tins)
    ·simp only [vD, hs] at h
     exact absurd h jD
    simp only [vD, hs] at h
    simp only [vz, tyf, gG, bY, dg, (fg dg), (ia dg), il, jl, fH, hY, rr, vD, nm, seval]
    obtain ⟨K89, h, NK, NL, kB89, Cj⟩ := eO h jD
    obtain ⟨f89, NM, h⟩ := call2 h
    obtain ⟨I89, vE⟩ : ∃ I : Nat → St → Prop, I = (fun m st => ∃ (tT : List Gi) (fX : Int), m = List.length tT ∧ 0 ≤ fX ∧ List.drop (Int.toNat fX) ai.Tins = tT ∧ st.df = [] ∧ fK + 19 ≤ st.nx ∧ st.H 0 = some (.cells (some 28) (cGs ae)) ∧ st.H 1 = some (.cells (some 42) (cGu ai)) ∧ st.tm 2 = .ptr 0 0 ∧ st.tm 3 = .ptr 1 0 ∧ st.tm 5 = .lit (.int .i64 bL) ∧ st.tm 6 = .lit (.int .i64 fX) ∧ K89 (f89 tT fX)) := ⟨_, rfl⟩
    refine loopK mixed (by kernel_rfl) I89 (List.length ai.Tins) (by rw [vE]; refine ⟨ai.Tins, 0, rfl, Int.le_refl _, rfl, rfl, (show fK + 19 ≤ fK + 19 by omega), ?_, ?_, il, jl, fH, ?_, h⟩ <;> first | (simp only [ua, gG, bY, dg, il, jl, fH, hY, rr, nm, seval] <;> rfl) | rfl) ?_
    rintro m ⟨tm, H, pV, df⟩ hinv
    rw [vE] at hinv
    obtain ⟨tT, fX, rfl, nK, pW, hdf, NN, z5, z6, iP, kl, kS, mT, h⟩ := hinv
    simp only at hdf NN z5 z6 iP kl kS mT
    have Ck := eN (m := 23) (b := pV) (by omega)
    have Cl := oM (a := fK) (m := 19) (b := pV) (by omega)
    subst hdf NM
    cases tT with
    | nil =>
     have VC : (decide (fX < (List.length ai.Tins : Int))) = false := iG nK pW
     simp only [rq, rp, rn, hs, reduceCtorEq] at h
     replace h := NL _ h
     try dsimp only at h
     try simp only [hs] at h
     simp only [vz, tyf, gG, bY, dg, (fg dg), (ia dg), rr, vD, Ck, Cl, iP, kl, kS, mT, z5, z6, VC, nm, seval]
     exact ⟨oV, Nat.lt_succ_self _, by rw [pR]; refine ⟨oV, bL + 1, rfl, iZ sw, ja nH, rfl, (show 23 ≤ pV + 8 by omega), ?_, ?_, iP, kl, ?_, h⟩ <;> first | (simp only [ua, gG, bY, dg, rr, Ck, Cl, iP, kl, kS, mT, z5, z6, VC, nm, seval] <;> rfl) | rfl⟩
    | cons mi tT =>
     have vF : (decide (fX < (List.length ai.Tins : Int))) = true := iH nK pW
     have sy := fp nK pW
     have mj := iI nK pW vD
     simp only [rq, rp, rn, hs, reduceCtorEq] at h
     obtain ⟨x103, s5, h⟩ := optI h Cj
     try simp only [hs] at h
     simp only [vz, tyf, gG, bY, dg, (fg dg), (ia dg), rr, vD, Ck, Cl, iP, kl, kS, mT, z5, z6, vF, (cl sy), mj, (bB s5), (sk dg), nm, seval]
     refine fu (fun tm => tm 2 = .ptr 0 0 ∧ tm 3 = .ptr 1 0 ∧ tm 5 = .lit (.int .i64 bL) ∧ tm 6 = .lit (.int .i64 fX) ∧ tm 7 = .ptr (pV + 13) 0 ∧ True) (by refine ⟨iP, kl, kS, mT, ?_, trivial⟩ <;> first | (simp only [ua, gG, bY, dg, rr, Ck, Cl, iP, kl, kS, mT, z5, z6, vF, mj, nm, seval] <;> rfl) | rfl) ?_
     rintro tm ⟨gq, gu, gv, gw, Cm, _⟩
     have pX := And.intro gG (And.intro bY (And.intro dg (And.intro rr (And.intro vD (And.intro Ck (And.intro Cl (And.intro z5 (And.intro z6 (And.intro vF mj)))))))))
     obtain ⟨Cn, NO, h⟩ := optI h Cj
     try simp only [hs] at h
     simp only [vz, tyf, pX, (fg dg), (ia dg), (cl sy), (bB s5), (sk dg), gq, gu, gv, gw, Cm, (vG dg), nm, seval]
     refine dktA (kh _ _ _ _ NO) ?_
     refine aV (fun tm => tm 2 = .ptr 0 0 ∧ tm 3 = .ptr 1 0 ∧ tm 5 = .lit (.int .i64 bL) ∧ tm 6 = .lit (.int .i64 fX) ∧ tm 73 = .lit (.bool Cn) ∧ True) (by refine ⟨gq, gu, gv, gw, ?_, trivial⟩ <;> first | (simp only [ua, pX, gq, gu, gv, gw, Cm, nm, seval] <;> rfl) | rfl) ?_
     rintro tm ⟨kT, kU, s6, vH, vI, _⟩
     cases pY : (Cn)
     ·simp only [pY, hs] at h
      try simp only [vz, tyf, pX, (fg dg), (ia dg), (cl sy), (bB s5), (sk dg), (vG dg), kT, kU, s6, vH, vI, pY, nm, seval]
      replace h := NK _ h
      try dsimp only at h
      replace h := nG _ h
      try dsimp only at h
      obtain rfl := kF _ h
      exact bl Tryz.results25 rfl
     simp only [pY, hs] at h
     simp only [vz, tyf, pX, (fg dg), (ia dg), (cl sy), (bB s5), (sk dg), (vG dg), kT, kU, s6, vH, vI, pY, nm, seval]
     exact ⟨List.length tT, Nat.lt_succ_self _, by rw [vE]; refine ⟨tT, fX + 1, rfl, Int.le_trans nK (Int.le_add_one (Int.le_refl _)), eE nK pW, rfl, (show fK + 19 ≤ pV + 31 by omega), ?_, ?_, kT, kU, s6, ?_, h⟩ <;> first | (simp only [ua, pX, kT, kU, s6, vH, vI, pY, nm, seval] <;> rfl) | rfl⟩
   simp only [bY, hs] at h
   obtain ⟨Co, NP, h⟩ := optI h jD
   try simp only [hs] at h
   simp only [vz, tyf, gG, cY, di, dp, bY, (fh bY), (ib bY), nm, seval]
   refine dktA (kh _ _ _ _ NP) ?_
   refine aV (fun tm => tm 2 = .ptr 0 0 ∧ tm 3 = .ptr 1 0 ∧ tm 5 = .lit (.int .i64 bL) ∧ tm 45 = .lit (.bool Co) ∧ True) (by refine ⟨cY, di, dp, ?_, trivial⟩ <;> first | (simp only [ua, gG, cY, di, dp, bY, nm, seval] <;> rfl) | rfl) ?_
   rintro tm ⟨fq, fI, jm, vJ, _⟩
   cases eZ : (Co)
   ·simp only [eZ, hs] at h
    try simp only [vz, tyf, gG, bY, (fh bY), (ib bY), fq, fI, jm, vJ, eZ, nm, seval]
    replace h := nG _ h
    try dsimp only at h
    obtain rfl := kF _ h
    exact bl Tryz.results25 rfl
   simp only [eZ, hs] at h
   cases fM : (lenOk ai.Tins)
   ·simp only [fM, hs] at h
    exact absurd h jD
   simp only [fM, hs] at h
   simp only [vz, tyf, gG, bY, (fh bY), (ib bY), fq, fI, jm, vJ, eZ, fM, nm, seval]
   obtain ⟨vK, h, pZ, qa, Cp, qb⟩ := eO h jD
   obtain ⟨vL, qc, h⟩ := call2 h
   obtain ⟨vM, jn⟩ : ∃ I : Nat → St → Prop, I = (fun m st => ∃ (fv : List Gi) (dX : Int), m = List.length fv ∧ 0 ≤ dX ∧ List.drop (Int.toNat dX) ai.Tins = fv ∧ st.df = [] ∧ fK + 19 ≤ st.nx ∧ st.H 0 = some (.cells (some 28) (cGs ae)) ∧ st.H 1 = some (.cells (some 42) (cGu ai)) ∧ st.tm 2 = .ptr 0 0 ∧ st.tm 3 = .ptr 1 0 ∧ st.tm 5 = .lit (.int .i64 bL) ∧ st.tm 6 = .lit (.int .i64 dX) ∧ vK (vL fv dX)) := ⟨_, rfl⟩
   refine loopK mixed (by kernel_rfl) vM (List.length ai.Tins) (by rw [jn]; refine ⟨ai.Tins, 0, rfl, Int.le_refl _, rfl, rfl, (show fK + 19 ≤ fK + 19 by omega), ?_, ?_, fq, fI, jm, ?_, h⟩ <;> first | (simp only [ua, gG, bY, fq, fI, jm, vJ, eZ, nm, seval] <;> rfl) | rfl) ?_
   rintro m ⟨tm, H, gT, df⟩ hinv
   rw [jn] at hinv
   obtain ⟨fv, dX, rfl, ep, fw, hdf, qd, im, iq, gU, gn, ir, iu, h⟩ := hinv
   simp only at hdf qd im iq gU gn ir iu
   have qe := eN (m := 23) (b := gT) (by omega)
   have jo := oM (a := fK) (m := 19) (b := gT) (by omega)
   subst hdf qc
   cases fv with
   | nil =>
    have Cq : (decide (dX < (List.length ai.Tins : Int))) = false := iG ep fw
    simp only [rq, rp, rn, hs, reduceCtorEq] at h
    replace h := qa _ h
    try dsimp only at h
    try simp only [hs] at h
    simp only [vz, tyf, gG, bY, (fh bY), (ib bY), eZ, fM, qe, jo, gU, gn, ir, iu, im, iq, Cq, nm, seval]
    exact ⟨oV, Nat.lt_succ_self _, by rw [pR]; refine ⟨oV, bL + 1, rfl, iZ sw, ja nH, rfl, (show 23 ≤ gT + 8 by omega), ?_, ?_, gU, gn, ?_, h⟩ <;> first | (simp only [ua, gG, bY, eZ, qe, jo, gU, gn, ir, iu, im, iq, Cq, nm, seval] <;> rfl) | rfl⟩
   | cons km fv =>
    have nL : (decide (dX < (List.length ai.Tins : Int))) = true := iH ep fw
    have s7 := fp ep fw
    have vN := iI ep fw fM
    simp only [rq, rp, rn, hs, reduceCtorEq] at h
    obtain ⟨x140, s8, h⟩ := optI h qb
    try simp only [hs] at h
    simp only [vz, tyf, gG, bY, (fh bY), (ib bY), eZ, fM, qe, jo, gU, gn, ir, iu, im, iq, nL, (cl s7), vN, (bB s8), (sq bY), nm, seval]
    refine fu (fun tm => tm 2 = .ptr 0 0 ∧ tm 3 = .ptr 1 0 ∧ tm 5 = .lit (.int .i64 bL) ∧ tm 6 = .lit (.int .i64 dX) ∧ tm 7 = .ptr (gT + 13) 0 ∧ True) (by refine ⟨gU, gn, ir, iu, ?_, trivial⟩ <;> first | (simp only [ua, gG, bY, eZ, qe, jo, gU, gn, ir, iu, im, iq, nL, vN, nm, seval] <;> rfl) | rfl) ?_
    rintro tm ⟨kX, kY, kZ, iR, me, _⟩
    have qf := And.intro gG (And.intro bY (And.intro eZ (And.intro fM (And.intro qe (And.intro jo (And.intro im (And.intro iq (And.intro nL vN))))))))
    obtain ⟨Cr, NQ, h⟩ := optI h qb
    try simp only [hs] at h
    simp only [vz, tyf, qf, (fh bY), (ib bY), (cl s7), (bB s8), (sq bY), kX, kY, kZ, iR, me, (vO bY), nm, seval]
    refine dktA (kh _ _ _ _ NQ) ?_
    refine aV (fun tm => tm 2 = .ptr 0 0 ∧ tm 3 = .ptr 1 0 ∧ tm 5 = .lit (.int .i64 bL) ∧ tm 6 = .lit (.int .i64 dX) ∧ tm 73 = .lit (.bool Cr) ∧ True) (by refine ⟨kX, kY, kZ, iR, ?_, trivial⟩ <;> first | (simp only [ua, qf, kX, kY, kZ, iR, me, nm, seval] <;> rfl) | rfl) ?_
    rintro tm ⟨gV, gW, gX, jE, iv, _⟩
    cases qg : (Cr)
    ·simp only [qg, hs] at h
     try simp only [vz, tyf, qf, (fh bY), (ib bY), (cl s7), (bB s8), (sq bY), (vO bY), gV, gW, gX, jE, iv, qg, nm, seval]
     replace h := pZ _ h
     try dsimp only at h
     replace h := nG _ h
     try dsimp only at h
     obtain rfl := kF _ h
     exact bl Tryz.results25 rfl
    simp only [qg, hs] at h
    simp only [vz, tyf, qf, (fh bY), (ib bY), (cl s7), (bB s8), (sq bY), (vO bY), gV, gW, gX, jE, iv, qg, nm, seval]
    exact ⟨List.length fv, Nat.lt_succ_self _, by rw [jn]; refine ⟨fv, dX + 1, rfl, Int.le_trans ep (Int.le_add_one (Int.le_refl _)), eE ep fw, rfl, (show fK + 19 ≤ gT + 31 by omega), ?_, ?_, gV, gW, gX, ?_, h⟩ <;> first | (simp only [ua, qf, gV, gW, gX, jE, iv, qg, nm, seval] <;> rfl) | rfl⟩
 simp only [dc, hs] at h
 try simp only [vz, tyf, dc, nm, seval]
 obtain rfl := kF _ h
 exact bl Tryz.results25 rfl
theorem ad.runRQ {P : Program} {G : Glob} (hm : P.follows .mixedOrders = true) {f : FuncId} {fn : Func} {code : Code} {args : List VV} {r : PRes} (hc : Callable P f) (hf : P.funcs[f]? = some fn) (hb : fn.body = some code)
  (hst : (decide (args.length ≤ fn.ntmps) && codeQ fn.ntmps code) = true) (h : CWp P (G.at (some none)) fn.ntmps code (OpenPostD P G fn (RR r) (RPn r)) { tm := aO args, H := fun _ => none, nx := 0, df := [] }) : ad P G f args r := by
 rw [Bool.and_eq_true] at hst
 exact ad.runR hm hc hf hb (by rw [Bool.and_eq_true]; exact ⟨hst.1, ra hst.2⟩) h


def ld (ae : Gs) (ku : Int) (bt : Int) (bN : Int) : Option (Int) := cond (ku == 0) (some (if 0 < (i64.wrap (ae.Old.a0 - (i64.wrap (bt * bN)))) then (i64.wrap (ae.Old.a0 - (i64.wrap (bt * bN)))) else 0)) (cond (ku == 1) (some (if 0 < (i64.wrap (ae.Old.a1 - (i64.wrap (bt * bN)))) then (i64.wrap (ae.Old.a1 - (i64.wrap (bt * bN)))) else 0)) (cond (ku == 2) (some (if 0 < (i64.wrap (ae.Old.a2 - (i64.wrap (bt * bN)))) then (i64.wrap (ae.Old.a2 - (i64.wrap (bt * bN)))) else 0)) (none)))
theorem oW (ae : Gs) (ku : Int) (bt : Int) (bN : Int) (R : Int) (h : ld ae ku bt bN = some R) : ad Tryz.prog G0 32 [.agg (cGs ae), .lit (.int .i64 ku), .lit (.int .i64 bt), .lit (.int .i64 bN)] (.tree (.lit (.int .i64 R))) := by
 refine ad.runR mixed Tryz.call32 Tryz.func32 rfl (by simp [Tryz.ntmps32]; kernel_rfl) ?_
 obtain ⟨KF, h, kF, kN⟩ := cQ h
 simp only [ld] at h
 cases d1 : (ku == 0)
 ·simp only [d1, hs] at h
  cases d2 : (ku == 1)
  ·simp only [d2, hs] at h
   cases d3 : (ku == 2)
   ·simp only [d3, hs] at h
    exact absurd h kN
   simp only [d3, hs] at h
   try simp only [vz, tyf, d1, d2, d3, (fe d3), nm, seval]
   refine bP (x := (.lit (.int .i64 (if 0 < (i64.wrap (ae.Old.a2 - (i64.wrap (bt * bN)))) then (i64.wrap (ae.Old.a2 - (i64.wrap (bt * bN)))) else 0)))) (by first | (simp only [Tryz.results32, resV, resL, ar, bV, bU, uw, cr, tyf, d1, d2, d3, (fe d3), nm, seval] <;> rfl) | rfl) ?_
   obtain rfl := kF _ h
   refine bZ ?_ ?_
   ·simp only [tre, au, Bool.and_self]
   ·first | (simp only [outV, uw, cA, cr, tyf, nrm, av, d1, d2, d3, (fe d3), nm, seval] <;> rfl) | rfl
  simp only [d2, hs] at h
  try simp only [vz, tyf, d1, d2, (fg d2), nm, seval]
  refine bP (x := (.lit (.int .i64 (if 0 < (i64.wrap (ae.Old.a1 - (i64.wrap (bt * bN)))) then (i64.wrap (ae.Old.a1 - (i64.wrap (bt * bN)))) else 0)))) (by first | (simp only [Tryz.results32, resV, resL, ar, bV, bU, uw, cr, tyf, d1, d2, (fg d2), nm, seval] <;> rfl) | rfl) ?_
  obtain rfl := kF _ h
  refine bZ ?_ ?_
  ·simp only [tre, au, Bool.and_self]
  ·first | (simp only [outV, uw, cA, cr, tyf, nrm, av, d1, d2, (fg d2), nm, seval] <;> rfl) | rfl
 simp only [d1, hs] at h
 try simp only [vz, tyf, d1, (fh d1), nm, seval]
 refine bP (x := (.lit (.int .i64 (if 0 < (i64.wrap (ae.Old.a0 - (i64.wrap (bt * bN)))) then (i64.wrap (ae.Old.a0 - (i64.wrap (bt * bN)))) else 0)))) (by first | (simp only [Tryz.results32, resV, resL, ar, bV, bU, uw, cr, tyf, d1, (fh d1), nm, seval] <;> rfl) | rfl) ?_
 obtain rfl := kF _ h
 refine bZ ?_ ?_
 ·simp only [tre, au, Bool.and_self]
 ·first | (simp only [outV, uw, cA, cr, tyf, nrm, av, d1, (fh d1), nm, seval] <;> rfl) | rfl
def vP (ae : Gs) : Nat → Int → Int → Int → Int → Int → Int → Int → Option (LOut (Ga) (Int × Int × Int × Int × Int × Int))
 | 0, fJ, eR, mU, mV, mW, mX, mY => some (.go (eR, mU, mV, mW, mX, mY))
 | k0 + 1, fJ, eR, mU, mV, mW, mX, mY => cond (fJ == 0) (Option.bind (ld ae fJ ae.Years.High ae.Fade.a0.High) (fun r7 => Option.bind (ld ae fJ ae.Years.Low ae.Fade.a0.Low) (fun r8 => vP ae k0 (fJ + 1) r7 r8 mV mW mX mY))) (cond (fJ == 1) (Option.bind (ld ae fJ ae.Years.High ae.Fade.a1.High) (fun r9 => Option.bind (ld ae fJ ae.Years.Low ae.Fade.a1.Low) (fun dA => vP ae k0 (fJ + 1) eR mU r9 dA mX mY))) (cond (fJ == 2) (Option.bind (ld ae fJ ae.Years.High ae.Fade.a2.High) (fun dW => Option.bind (ld ae fJ ae.Years.Low ae.Fade.a2.Low) (fun iJ => vP ae k0 (fJ + 1) eR mU mV mW dW iJ))) (none)))
def Cs (ae : Gs) : Option (Ga) := cond (boundOk 3) (aK (vP ae (Int.toNat (3 - 0)) 0 0 0 0 0 0 0) (fun BA => some BA) (fun s9 => some (Ga.mk (GSpan.mk s9.1 s9.2.1) (GSpan.mk s9.2.2.1 s9.2.2.2.1) (GSpan.mk s9.2.2.2.2.1 s9.2.2.2.2.2))) (fun _ _ => none)) none
theorem zsl (ae : Gs) (R : Ga) (h : Cs ae = some R) : ad Tryz.prog G0 21 [.agg (cGs ae)] (.tree (.agg (cGa R))) := by
 refine ad.runR mixed Tryz.call21 Tryz.func21 rfl (by simp [Tryz.ntmps21]; kernel_rfl) ?_
 obtain ⟨KF, h, kF, kN⟩ := cQ h
 simp only [Cs] at h
 cases sC : (boundOk 3)
 ·simp only [sC, hs] at h
  exact absurd h kN
 simp only [sC, hs] at h
 simp only [vz, tyf, sC, nm, seval]
 obtain ⟨K15, h, kR15, NR, kB15, ml⟩ := eO h kN
 obtain ⟨kK, NS, h⟩ := call8 h
 obtain ⟨I15, qh⟩ : ∃ I : Nat → St → Prop, I = (fun m st => ∃ (oX : Nat) (bM : Int) (iw : Int) (ix : Int) (iy : Int) (iz : Int) (i5 : Int) (i6 : Int), oX = m ∧ loOk bM = true ∧ Int.toNat (3 - bM) = oX ∧ st.df = [] ∧ 4 ≤ st.nx ∧ st.H 0 = some (.cells (some 28) (cGs ae)) ∧ st.H 1 = some (.cells (some 25) ([.lit (.int .i64 0)] ++ [.lit (.int .i64 0)] ++ [.lit (.int .i64 0)] ++ [.lit (.int .i64 0)] ++ [.lit (.int .i64 0)] ++ [.lit (.int .i64 0)])) ∧ st.H 2 = some (.cells (some 25) ([.lit (.int .i64 iw)] ++ [.lit (.int .i64 ix)] ++ [.lit (.int .i64 iy)] ++ [.lit (.int .i64 iz)] ++ [.lit (.int .i64 i5)] ++ [.lit (.int .i64 i6)])) ∧ st.tm 1 = .ptr 0 0 ∧ st.tm 2 = .ptr 1 0 ∧ st.tm 3 = .ptr 2 0 ∧ st.tm 4 = .lit (.int .i64 bM) ∧ K15 (kK oX bM iw ix iy iz i5 i6)) := ⟨_, rfl⟩
 refine loopK mixed (by kernel_rfl) I15 (Int.toNat (3 - 0)) (by rw [qh]; refine ⟨Int.toNat (3 - 0), 0, 0, 0, 0, 0, 0, 0, rfl, (by rfl), rfl, rfl, (show 4 ≤ 4 by omega), ?_, ?_, ?_, ?_, ?_, ?_, ?_, h⟩ <;> first | (simp only [ua, nm, seval] <;> rfl) | rfl) ?_
 rintro m ⟨tm, H, sE, df⟩ hinv
 rw [qh] at hinv
 obtain ⟨oX, bM, iw, ix, iy, iz, i5, i6, rfl, sF, nM, hdf, NT, vQ, mm, mn, cB, bJ, bR, bz, h⟩ := hinv
 simp only at hdf NT vQ mm mn cB bJ bR bz
 have z7 := eN (m := 4) (b := sE) (by omega)
 subst hdf NS
 cases oX with
 | zero =>
  have kJ : (decide (bM < 3)) = false := tK nM
  simp only [vP, hs, reduceCtorEq] at h
  replace h := NR _ h
  try dsimp only at h
  try simp only [hs] at h
  try simp only [vz, tyf, sC, z7, cB, bJ, bR, bz, vQ, mm, mn, kJ, nm, seval]
  refine bP (x := (.agg ([.lit (.int .i64 iw)] ++ [.lit (.int .i64 ix)] ++ [.lit (.int .i64 iy)] ++ [.lit (.int .i64 iz)] ++ [.lit (.int .i64 i5)] ++ [.lit (.int .i64 i6)]))) (by first | (simp only [Tryz.results21, resV, resL, ar, bV, bU, uw, cr, tyf, sC, z7, cB, bJ, bR, bz, vQ, mm, mn, kJ, nm, seval] <;> rfl) | rfl) ?_
  obtain rfl := kF _ h
  refine bZ ?_ ?_
  ·simp only [tre, au, Bool.and_self]
  ·first | (simp only [outV, uw, cA, cr, tyf, nrm, av, sC, z7, cB, bJ, bR, bz, vQ, mm, mn, kJ, nm, seval] <;> rfl) | rfl
 | succ oX =>
  have dC : (decide (bM < 3)) = true := tM nM
  have FV := tN sF nM sC
  simp only [vP, hs, reduceCtorEq] at h
  simp only [vz, tyf, sC, z7, cB, bJ, bR, bz, vQ, mm, mn, dC, FV, nm, seval]
  refine mZ (fun tm => tm 1 = .ptr 0 0 ∧ tm 2 = .ptr 1 0 ∧ tm 3 = .ptr 2 0 ∧ tm 4 = .lit (.int .i64 bM) ∧ True) (by refine ⟨cB, bJ, bR, bz, trivial⟩ <;> first | (simp only [ua, z7, cB, bJ, bR, bz, vQ, mm, mn, dC, FV, nm, seval] <;> rfl) | rfl) ?_
  rintro tm ⟨bA, bW, cC, cE, _⟩
  have jq := And.intro sC (And.intro z7 (And.intro vQ (And.intro mm (And.intro mn (And.intro dC FV)))))
  cases de : (bM == 0)
  ·simp only [de, hs] at h
   cases jR : (bM == 1)
   ·simp only [jR, hs] at h
    cases mg : (bM == 2)
    ·simp only [mg, hs] at h
     exact absurd h ml
    simp only [mg, hs] at h
    obtain ⟨oY, NU, h⟩ := optI h ml
    try simp only [hs] at h
    simp only [vz, tyf, jq, bA, bW, cC, cE, de, jR, mg, (hX mg), nm, seval]
    refine dktA (oW _ _ _ _ _ NU) ?_
    refine aV (fun tm => tm 1 = .ptr 0 0 ∧ tm 2 = .ptr 1 0 ∧ tm 3 = .ptr 2 0 ∧ tm 4 = .lit (.int .i64 bM) ∧ tm 9 = .lit (.int .i64 bM) ∧ tm 20 = .lit (.int .i64 oY) ∧ True) (by refine ⟨bA, bW, cC, cE, ?_, ?_, trivial⟩ <;> first | (simp only [ua, jq, bA, bW, cC, cE, de, jR, mg, nm, seval] <;> rfl) | rfl) ?_
    rintro tm ⟨cY, di, dp, dZ, eT, jd, _⟩
    obtain ⟨sG, Ct, h⟩ := optI h ml
    try simp only [hs] at h
    simp only [vz, tyf, jq, de, jR, mg, (hX mg), cY, di, dp, dZ, eT, jd, nm, seval]
    refine dktA (oW _ _ _ _ _ Ct) ?_
    refine aV (fun tm => tm 1 = .ptr 0 0 ∧ tm 2 = .ptr 1 0 ∧ tm 3 = .ptr 2 0 ∧ tm 4 = .lit (.int .i64 bM) ∧ tm 9 = .lit (.int .i64 bM) ∧ tm 20 = .lit (.int .i64 oY) ∧ tm 31 = .lit (.int .i64 sG) ∧ True) (by refine ⟨cY, di, dp, dZ, eT, jd, ?_, trivial⟩ <;> first | (simp only [ua, jq, de, jR, mg, cY, di, dp, dZ, eT, jd, nm, seval] <;> rfl) | rfl) ?_
    rintro tm ⟨fY, fV, fL, ed, dj, eu, en, _⟩
    simp only [vz, tyf, jq, de, jR, mg, (hX mg), fY, fV, fL, ed, dj, eu, en, nm, seval]
    refine jS ⟨?_, ?_⟩
    ·simp only [jT, jU, eA, jV, and_true, true_and]
     repeat' (first | exact trivial | refine And.intro ?_ ?_ | rw [eA] | rw [jW] | exact Or.inl (by decide +kernel) | exact Or.inl (by dsimp only; decide +kernel) | (refine Or.inr ⟨?_, ?_⟩ <;> simp; done) | (refine Or.inr ⟨?_, ?_⟩ <;> simp <;> omega) | (refine Or.inr ⟨?_, ?_⟩ <;> simp [VEff.wr] <;> omega))
    simp only [vz, tyf, jq, de, jR, mg, (hX mg), fY, fV, fL, ed, dj, eu, en, nm, seval]
    exact ⟨oX, Nat.lt_succ_self _, by rw [qh]; refine ⟨oX, bM + 1, iw, ix, iy, iz, oY, sG, rfl, iZ sF, ja nM, rfl, (show 4 ≤ sE + 31 by omega), ?_, ?_, ?_, fY, fV, fL, ?_, h⟩ <;> first | (simp only [ua, jq, de, jR, mg, fY, fV, fL, ed, dj, eu, en, nm, seval] <;> rfl) | rfl⟩
   simp only [jR, hs] at h
   obtain ⟨NV, o54, h⟩ := optI h ml
   try simp only [hs] at h
   simp only [vz, tyf, jq, bA, bW, cC, cE, de, jR, (ia jR), nm, seval]
   refine dktA (oW _ _ _ _ _ o54) ?_
   refine aV (fun tm => tm 1 = .ptr 0 0 ∧ tm 2 = .ptr 1 0 ∧ tm 3 = .ptr 2 0 ∧ tm 4 = .lit (.int .i64 bM) ∧ tm 9 = .lit (.int .i64 bM) ∧ tm 20 = .lit (.int .i64 NV) ∧ True) (by refine ⟨bA, bW, cC, cE, ?_, ?_, trivial⟩ <;> first | (simp only [ua, jq, bA, bW, cC, cE, de, jR, nm, seval] <;> rfl) | rfl) ?_
   rintro tm ⟨gO, iL, fD, ie, eP, fT, _⟩
   obtain ⟨VD, o62, h⟩ := optI h ml
   try simp only [hs] at h
   simp only [vz, tyf, jq, de, jR, (ia jR), gO, iL, fD, ie, eP, fT, nm, seval]
   refine dktA (oW _ _ _ _ _ o62) ?_
   refine aV (fun tm => tm 1 = .ptr 0 0 ∧ tm 2 = .ptr 1 0 ∧ tm 3 = .ptr 2 0 ∧ tm 4 = .lit (.int .i64 bM) ∧ tm 9 = .lit (.int .i64 bM) ∧ tm 20 = .lit (.int .i64 NV) ∧ tm 31 = .lit (.int .i64 VD) ∧ True) (by refine ⟨gO, iL, fD, ie, eP, fT, ?_, trivial⟩ <;> first | (simp only [ua, jq, de, jR, gO, iL, fD, ie, eP, fT, nm, seval] <;> rfl) | rfl) ?_
   rintro tm ⟨i7, gE, gI, gY, gD, iY, gm, _⟩
   simp only [vz, tyf, jq, de, jR, (ia jR), i7, gE, gI, gY, gD, iY, gm, nm, seval]
   refine jS ⟨?_, ?_⟩
   ·simp only [jT, jU, eA, jV, and_true, true_and]
    repeat' (first | exact trivial | refine And.intro ?_ ?_ | rw [eA] | rw [jW] | exact Or.inl (by decide +kernel) | exact Or.inl (by dsimp only; decide +kernel) | (refine Or.inr ⟨?_, ?_⟩ <;> simp; done) | (refine Or.inr ⟨?_, ?_⟩ <;> simp <;> omega) | (refine Or.inr ⟨?_, ?_⟩ <;> simp [VEff.wr] <;> omega))
   simp only [vz, tyf, jq, de, jR, (ia jR), i7, gE, gI, gY, gD, iY, gm, nm, seval]
   exact ⟨oX, Nat.lt_succ_self _, by rw [qh]; refine ⟨oX, bM + 1, iw, ix, NV, VD, i5, i6, rfl, iZ sF, ja nM, rfl, (show 4 ≤ sE + 31 by omega), ?_, ?_, ?_, i7, gE, gI, ?_, h⟩ <;> first | (simp only [ua, jq, de, jR, i7, gE, gI, gY, gD, iY, gm, nm, seval] <;> rfl) | rfl⟩
  simp only [de, hs] at h
  obtain ⟨NW, o71, h⟩ := optI h ml
  try simp only [hs] at h
  simp only [vz, tyf, jq, bA, bW, cC, cE, de, (ib de), nm, seval]
  refine dktA (oW _ _ _ _ _ o71) ?_
  refine aV (fun tm => tm 1 = .ptr 0 0 ∧ tm 2 = .ptr 1 0 ∧ tm 3 = .ptr 2 0 ∧ tm 4 = .lit (.int .i64 bM) ∧ tm 9 = .lit (.int .i64 bM) ∧ tm 20 = .lit (.int .i64 NW) ∧ True) (by refine ⟨bA, bW, cC, cE, ?_, ?_, trivial⟩ <;> first | (simp only [ua, jq, bA, bW, cC, cE, de, nm, seval] <;> rfl) | rfl) ?_
  rintro tm ⟨eG, fN, fx, eJ, eY, gH, _⟩
  obtain ⟨VE, o79, h⟩ := optI h ml
  try simp only [hs] at h
  simp only [vz, tyf, jq, de, (ib de), eG, fN, fx, eJ, eY, gH, nm, seval]
  refine dktA (oW _ _ _ _ _ o79) ?_
  refine aV (fun tm => tm 1 = .ptr 0 0 ∧ tm 2 = .ptr 1 0 ∧ tm 3 = .ptr 2 0 ∧ tm 4 = .lit (.int .i64 bM) ∧ tm 9 = .lit (.int .i64 bM) ∧ tm 20 = .lit (.int .i64 NW) ∧ tm 31 = .lit (.int .i64 VE) ∧ True) (by refine ⟨eG, fN, fx, eJ, eY, gH, ?_, trivial⟩ <;> first | (simp only [ua, jq, de, eG, fN, fx, eJ, eY, gH, nm, seval] <;> rfl) | rfl) ?_
  rintro tm ⟨jb, jP, mo, nd, il, jl, fH, _⟩
  simp only [vz, tyf, jq, de, (ib de), jb, jP, mo, nd, il, jl, fH, nm, seval]
  refine jS ⟨?_, ?_⟩
  ·simp only [jT, jU, eA, jV, and_true, true_and]
   repeat' (first | exact trivial | refine And.intro ?_ ?_ | rw [eA] | rw [jW] | exact Or.inl (by decide +kernel) | exact Or.inl (by dsimp only; decide +kernel) | (refine Or.inr ⟨?_, ?_⟩ <;> simp; done) | (refine Or.inr ⟨?_, ?_⟩ <;> simp <;> omega) | (refine Or.inr ⟨?_, ?_⟩ <;> simp [VEff.wr] <;> omega))
  simp only [vz, tyf, jq, de, (ib de), jb, jP, mo, nd, il, jl, fH, nm, seval]
  exact ⟨oX, Nat.lt_succ_self _, by rw [qh]; refine ⟨oX, bM + 1, NW, VE, iy, iz, i5, i6, rfl, iZ sF, ja nM, rfl, (show 4 ≤ sE + 31 by omega), ?_, ?_, ?_, jb, jP, mo, ?_, h⟩ <;> first | (simp only [ua, jq, de, jb, jP, mo, nd, il, jl, fH, nm, seval] <;> rfl) | rfl⟩
def FW (ae : Gs) : Option (Bool) := some (decide ((List.length ae.Tins : Int) ≤ 6))
theorem zpu (ae : Gs) (R : Bool) (h : FW ae = some R) : ad Tryz.prog G0 15 [.agg (cGs ae)] (.tree (.lit (.bool R))) := by
 refine ad.runR mixed Tryz.call15 Tryz.func15 rfl (by simp [Tryz.ntmps15]; kernel_rfl) ?_
 obtain ⟨KF, h, kF, kN⟩ := cQ h
 simp only [FW] at h
 try simp only [vz, tyf, nm, seval]
 obtain rfl := kF _ h
 exact bl Tryz.results15 rfl
end Go.V
end
