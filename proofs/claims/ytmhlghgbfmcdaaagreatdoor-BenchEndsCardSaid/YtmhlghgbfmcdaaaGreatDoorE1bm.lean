/- Part of a proof. -/
import Derived.Test.YtmhlghgbfmcdaaaGreatDoorE1bl
set_option linter.all false
set_option maxRecDepth 4000
set_option maxHeartbeats 40000000
section
namespace Go.V
open Go Go.Proofs IntKind
def eV (x : VV) : List VV := [x]
theorem eV_eq {x : VV} : eV x = [x] := rfl
theorem uv : ∀ xs : List VV, aa eV xs = xs
  | [] => rfl
  | x :: xs => by rw [dp, uv xs]; rfl
theorem Fg : appOk Tryz.prog 71 = some (22, 1, 24) := by kernel_rfl
theorem ixoV {xs : List VV} {x : VV} {i : Int} (h : getI xs i = some x) : (∀ (H : Nat → Option VObj) (β c : Nat) (k : IntKind), an Tryz.prog H 71 (.ref β 0 xs.length 1 c) (.lit (.int k i)) = if (H β).isSome = true then some (.ptr β (i.toNat * 1)) else none) ∧ (aa eV xs).drop (i.toNat * 1) = eV x ++ aa eV (xs.drop (i.toNat + 1)) ∧ (i.toNat * 1 ≤ (aa eV xs).length) = True := ixO Tryz.underlying71 (by kernel_rfl : szT Tryz.prog 22 = some 1) (fun _ => rfl) h
theorem cq {xs : List (List Int)} {x : List Int} {i : Int} (h : getI xs i = some x) : (∀ (H : Nat → Option VObj) (β c : Nat) (k : IntKind), an Tryz.prog H 71 (.ref β 0 xs.length 1 c) (.lit (.int k i)) = if (H β).isSome = true then some (.ptr β (i.toNat * 1)) else none) ∧ (aa (eSl eI) xs).drop (i.toNat * 1) = (eSl eI) x ++ aa (eSl eI) (xs.drop (i.toNat + 1)) ∧ (i.toNat * 1 ≤ (aa (eSl eI) xs).length) = True := ixO Tryz.underlying71 (by kernel_rfl : szT Tryz.prog 22 = some 1) (fun _ => rfl) h
def ka (b : GBk) (plan : List Int) (i : Int) : Nat → Int → List Int → Option (List Int)
 | 0, _, w => some w
 | m + 1, k, w => Option.bind (qd b plan k i) (fun r => cond r (cond (roomOk 8 (w ++ [k]).length) (ka b plan i m (k + 1) (w ++ [k])) none) (ka b plan i m (k + 1) w))
def kP (b : GBk) (plan : List Int) : Nat → Int → List (List Int) → List Int → Option (List (List Int) × List Int)
 | 0, _, pre, bg => some (pre, bg)
 | m + 1, i, pre, bg => Option.bind (ka b plan i i.toNat 0 []) (fun w => kP b plan m (i + 1) (pre ++ [w]) (List.set bg i.toNat (-1)))
def mH (xh : List Int) (b6 : Int) (cU : List Int) : List Int → Int → Option (LOut (Bool) (Unit))
 | [], ux => some (.go ())
 | e2 :: p2, ux => Option.bind (getI cU e2) (fun Kk => cond (decide (Kk < 0)) (some (.ret false)) (Option.bind (getI xh e2) (fun vL => cond (decide ((i64.wrap (Kk + vL)) > b6)) (some (.ret false)) (mH xh b6 cU p2 (ux + 1)))))
def kQ (bf : List (List Int)) (ae : List Int) (xh : List Int) (b6 : Int) : List Int → Int → Int → (List Int) → Option (LOut (List Int) (Int × (List Int)))
 | [], dI, fW, cU => some (.go (fW, cU))
 | e1 :: p1, dI, fW, cU => Option.bind (getI cU dI) (fun wI => cond (decide (wI < 0)) (Option.bind (getI bf dI) (fun Kl => cond (aC Kl) (lbind (mH xh b6 cU Kl 0) (fun j8 => cond (j8) (kQ bf ae xh b6 p1 (dI + 1) (i64.wrap (fW - 1)) (List.set cU (Int.toNat dI) b6)) (kQ bf ae xh b6 p1 (dI + 1) fW cU)) (fun QL => kQ bf ae xh b6 p1 (dI + 1) (i64.wrap (fW - 1)) (List.set cU (Int.toNat dI) b6)) (fun _ _ => none)) none)) (kQ bf ae xh b6 p1 (dI + 1) fW cU))
def lB (bf : List (List Int)) (ae : List Int) (xh : List Int) : Nat → Int → Int → (List Int) → Option (LOut (List Int) (Int × Int × (List Int)))
 | 0, _, _, _ => none
 | k0 + 1, c9, b6, bw => cond (decide (c9 > 0)) (cond (aC ae) (lbind (kQ bf ae xh b6 ae 0 c9 bw) (fun nI => some (.ret nI)) (fun Km => lB bf ae xh k0 Km.1 (i64.wrap (b6 + 1)) Km.2) (fun _ _ => none)) none) (some (.go (c9, b6, bw)))
def tL (ai : GBk) (ae : List Int) (xh : List Int) : Option (List Int) := cond (mkOk 8 (List.length ae : Int)) (cond (mkOk 24 (List.length ae : Int)) (cond (aC ae) (Option.bind (kP ai ae ae.length 0 [] (List.replicate (Int.toNat (List.length ae : Int)) 0)) (fun rw => lbind (lB rw.1 ae xh 1000000 (List.length ae : Int) 0 rw.2) (fun j9 => some j9) (fun Pd => some Pd.2.2) (fun _ _ => none))) none) none) none
theorem Pe (ai : GBk) (ae : List Int) (xh : List Int) (R : List Int) (h : tL ai ae xh = some R) : ah Tryz.prog G0 78 [.agg (cGBk ai), .sl (aa eI ae) (List.length ae) false, .sl (aa eI xh) (List.length xh) false] (.own (aa eI R) R.length 1) := by
 refine ah.run mixed Tryz.call78 Tryz.func78 rfl (by simp [Tryz.ntmps78]; kernel_rfl) ?_
 obtain ⟨KF, h, kF, kN⟩ := cA h
 simp only [tL] at h
 cases cO : (mkOk 8 (List.length ae : Int))
 ·simp only [cO, hs] at h
  exact absurd h kN
 simp only [cO, hs] at h
 try simp only [vz, tyf, cO, nm, seval]
 refine k_mkS (enc := eI) (z := (0 : Int)) eP (by kernel_rfl) rfl (by first | (simp only [np, nr, nq, md, cO, nm, seval] <;> rfl) | rfl) (by first | (simp only [np, nr, nq, md, cO, nm, seval] <;> rfl) | rfl) cO ?_
 cases dc : (mkOk 24 (List.length ae : Int))
 ·simp only [dc, hs] at h
  exact absurd h kN
 simp only [dc, hs] at h
 try simp only [vz, tyf, cO, dc, nm, seval]
 refine k_mkS (enc := eV) (z := .lit (.slice none 0 0)) Fg (by kernel_rfl) rfl (by first | (simp only [np, nr, nq, md, cO, dc, nm, seval] <;> rfl) | rfl) (by first | (simp only [np, nr, nq, md, cO, dc, nm, seval] <;> rfl) | rfl) dc ?_
 simp only [vz, tyf, cO, dc, nm, seval]
 cases gl : aC ae
 ·simp only [gl, hs] at h
  exact absurd h kN
 simp only [gl, hs] at h
 rcases ob : kP ai ae ae.length 0 [] (List.replicate (Int.toNat (List.length ae : Int)) 0) with _ | ⟨bf, bg⟩
 ·simp only [ob, hs] at h
  exact absurd h kN
 simp only [ob, hs] at h
 obtain ⟨IA, hIA⟩ : ∃ I : Nat → St → Prop, I = (fun m st => ∃ (p : List Int) (i : Int) (pre : List (List Int)) (iM : List Int) (xs : List VV), m = List.length p ∧ 0 ≤ i ∧ List.drop (Int.toNat i) ae = p ∧ pre.length = i.toNat ∧ iM.length = ae.length ∧ xs = aa (eSl eI) pre ++ List.replicate m (.lit (.slice none 0 0)) ∧ i.toNat + m = ae.length ∧ kP ai ae m i pre iM = some (bf, bg) ∧ st.df = [] ∧ 12 ≤ st.nx ∧ st.H 0 = some (.cells (some 25) (cGBk ai)) ∧ st.H 6 = some (.cells (some 3) (aa eI iM)) ∧ st.H 9 = some (.cells (some 22) (aa eV xs)) ∧ st.tm 1 = .sl (aa eI ae) (List.length ae) false ∧ st.tm 2 = .sl (aa eI xh) (List.length xh) false ∧ st.tm 3 = .ptr 0 0 ∧ st.tm 7 = .lit (.int .i64 (List.length ae : Int)) ∧ st.tm 8 = .ref 6 0 (List.length iM) 1 (List.length iM) ∧ st.tm 9 = .ref 9 0 (List.length xs) 1 (List.length xs) ∧ st.tm 10 = .lit (.int .i64 i)) := ⟨_, rfl⟩
 refine loopKL mixed (by kernel_rfl) IA (List.length ae) (by rw [hIA]; refine ⟨ae, 0, [], List.replicate (Int.toNat (List.length ae : Int)) 0, List.replicate (Int.toNat (List.length ae : Int)) (.lit (.slice none 0 0)), rfl, Int.le_refl _, rfl, rfl, (by simp), (by simp [dL]), (by simp), ob, rfl, (show 12 ≤ 12 by omega), ?_, ?_, ?_, ?_, ?_, ?_, ?_, ?_, ?_, ?_⟩ <;> first | (simp only [ua, nm, seval] <;> rfl) | rfl) ?_
 rintro m ⟨tm, H, nxA, df⟩ hinv
 rw [hIA] at hinv
 obtain ⟨p, i, pre, iM, xs, rfl, hi, hp, hpre, hbg, hxs, hil, hrw, hdf, hnA, A0, A6, A9, a1, a2, a3, a7, a8, a9, pv⟩ := hinv
 simp only at hdf hnA A0 A6 A9 a1 a2 a3 a7 a8 a9 pv
 have nA := fj (m := 12) (b := nxA) (by omega)
 subst hdf
 have hxl : xs.length = ae.length := by
  rw [hxs, List.length_append, ff (w := 1) (enc := eSl eI) (fun _ => rfl), List.length_replicate]
  omega
 cases p with
 | nil =>
  have dA : (decide (i < (List.length ae : Int))) = false := eg hi hp
  simp only [List.length_nil, kP, Option.some.injEq, Prod.mk.injEq] at hrw
  obtain ⟨rfl, rfl⟩ := hrw
  simp only [List.length_nil, List.replicate_zero, List.append_nil] at hxs
  have Pf : xs.length = pre.length := by rw [hxs, ff (w := 1) (enc := eSl eI) (fun _ => rfl)]; omega
  rw [Pf] at a9
  rw [uv, hxs] at A9
  simp only [vz, tyf, cO, dc, nA, a1, a2, a3, a7, a8, a9, pv, A0, A6, A9, dA, nm, seval]
  obtain ⟨C2, h, tl, oJ, C3, jV⟩ := eN h kN
  obtain ⟨C4, oL, h⟩ := call4 h
  obtain ⟨C5, iu⟩ : ∃ I : Nat → St → Prop, I = (fun m st => ∃ (hT : Nat) (fe : Int) (bS : Int) (bZ : List Int), hT = m ∧ st.df = [] ∧ 14 ≤ st.nx ∧ st.H 6 = some (.cells ((some 3)) (aa eI bZ)) ∧ st.H 9 = some (.cells ((some 22)) (aa (eSl eI) pre)) ∧ st.tm 2 = .sl (aa eI xh) (List.length xh) false ∧ st.tm 7 = .lit (.int .i64 (List.length ae : Int)) ∧ st.tm 8 = .ref 6 0 (List.length bZ) 1 (List.length bZ) ∧ st.tm 9 = .ref 9 0 (List.length pre) 1 (List.length pre) ∧ st.tm 12 = .lit (.int .i64 fe) ∧ st.tm 13 = .lit (.int .i64 bS) ∧ C2 (C4 hT fe bS bZ)) := ⟨_, rfl⟩
  refine loopK mixed (by kernel_rfl) C5 1000000 (by rw [iu]; refine ⟨1000000, (List.length ae : Int), 0, iM, rfl, rfl, (show 14 ≤ nxA + 6 by omega), ?_, ?_, ?_, ?_, ?_, ?_, ?_, ?_, h⟩ <;> first | (simp only [ua, nA, a1, a2, a3, a7, a8, a9, pv, A0, A6, A9, dA, nm, seval] <;> rfl) | rfl) ?_
  rintro m ⟨tm, H, cI, df⟩ hinv
  rw [iu] at hinv
  obtain ⟨hT, fe, bS, bZ, rfl, hdf, oM, qK, eJ, ck, cu, dm, fw, dM, dY, h⟩ := hinv
  simp only at hdf oM qK eJ ck cu dm fw dM dY
  have mP := fj (m := 14) (b := cI) (by omega)
  subst hdf oL
  cases hT with
  | zero =>
   simp only [lB, hs, reduceCtorEq] at h
   exact absurd h jV
  | succ hT =>
   simp only [lB, hs, reduceCtorEq] at h
   cases hZ : (decide (fe > 0))
   ·simp only [hZ, hs] at h
    replace h := oJ _ h
    try dsimp only at h
    try simp only [hs] at h
    try simp only [vz, tyf, cO, dc, mP, ck, cu, dm, fw, dM, dY, qK, eJ, hZ, nm, seval]
    obtain rfl := kF _ h
    exact ⟨rfl, .ref 6 0 (List.length bZ) 1 (List.length bZ), (by first | (simp only [Tryz.results78, resV, resL, resV1, cD, cE, uw, cr, tyf, cO, dc, mP, qK, eJ, hZ, nm, seval] <;> rfl) | rfl), (aa eI bZ).length + 1, 6, _, aa eI bZ, ⟨_, rfl⟩, qK, pW _ _ (eI_ok.treeL _) (Nat.lt_succ_self _)⟩
   simp only [hZ, hs] at h
   cases py : (aC ae)
   ·simp only [py, hs] at h
    exact absurd h jV
   simp only [py, hs] at h
   simp only [vz, tyf, cO, dc, mP, ck, cu, dm, fw, dM, dY, qK, eJ, hZ, py, nm, seval]
   obtain ⟨Pg, h, Ph, Fh, Pj, lK⟩ := eN h jV
   obtain ⟨Pk, Fi, h⟩ := call4 h
   obtain ⟨Pl, jn⟩ : ∃ I : Nat → St → Prop, I = (fun m st => ∃ (iN : List Int) (bD : Int) (cV : Int) (bu : List Int), m = List.length iN ∧ 0 ≤ bD ∧ List.drop (Int.toNat bD) ae = iN ∧ st.df = [] ∧ cI + 3 ≤ st.nx ∧ st.H 6 = some (.cells ((some 3)) (aa eI bu)) ∧ st.H 9 = some (.cells ((some 22)) (aa (eSl eI) pre)) ∧ st.tm 2 = .sl (aa eI xh) (List.length xh) false ∧ st.tm 7 = .lit (.int .i64 (List.length ae : Int)) ∧ st.tm 8 = .ref 6 0 (List.length bu) 1 (List.length bu) ∧ st.tm 9 = .ref 9 0 (List.length pre) 1 (List.length pre) ∧ st.tm 13 = .lit (.int .i64 bS) ∧ st.tm 12 = .lit (.int .i64 cV) ∧ st.tm 14 = .lit (.int .i64 bD) ∧ Pg (Pk iN bD cV bu)) := ⟨_, rfl⟩
   refine loopK mixed (by kernel_rfl) Pl (List.length ae) (by rw [jn]; refine ⟨ae, 0, fe, bZ, rfl, Int.le_refl _, rfl, rfl, (show cI + 3 ≤ cI + 3 by omega), ?_, ?_, ck, cu, dm, fw, dY, dM, ?_, h⟩ <;> first | (simp only [ua, mP, ck, cu, dm, fw, dM, dY, qK, eJ, hZ, nm, seval] <;> rfl) | rfl) ?_
   rintro m ⟨tm, H, gn, df⟩ hinv
   rw [jn] at hinv
   obtain ⟨iN, bD, cV, bu, rfl, eC, gT, hdf, Fj, uy, uz, cb, cg, cY, cy, cZ, cF, cv, h⟩ := hinv
   simp only at hdf Fj uy uz cb cg cY cy cZ cF cv
   have we := fj (m := 14) (b := gn) (by omega)
   have wg := ng (a := cI) (m := 3) (b := gn) (by omega)
   subst hdf Fi
   cases iN with
   | nil =>
    have kK : (decide (bD < (List.length ae : Int))) = false := eg eC gT
    simp only [kQ, hs, reduceCtorEq] at h
    replace h := Fh _ h
    try dsimp only at h
    try simp only [hs] at h
    simp only [vz, tyf, cO, dc, mP, hZ, py, we, wg, cb, cg, cY, cy, cZ, cF, cv, uy, uz, kK, nm, seval]
    exact ⟨hT, Nat.lt_succ_self _, by rw [iu]; refine ⟨hT, cV, i64.wrap (bS + 1), bu, rfl, rfl, (show 14 ≤ gn + 6 by omega), ?_, ?_, cb, cg, cY, cy, cF, ?_, (by first | exact h | (simp only [hZ, kK]; exact h))⟩ <;> first | (simp only [ua, mP, hZ, we, wg, cb, cg, cY, cy, cZ, cF, cv, uy, uz, kK, nm, seval] <;> rfl) | rfl⟩
   | cons im iN =>
    have fF : (decide (bD < (List.length ae : Int))) = true := eh eC gT
    have g0 := cX eC gT
    have qx := dO eC gT py
    simp only [kQ, hs, reduceCtorEq] at h
    obtain ⟨Pm, g9, h⟩ := optI h lK
    try simp only [hs] at h
    cases wh : (decide (Pm < 0))
    ·simp only [wh, hs] at h
     have Fk := And.intro cO (And.intro dc (And.intro mP (And.intro hZ (And.intro py (And.intro we (And.intro wg (And.intro uy (And.intro uz (And.intro fF (And.intro qx wh))))))))))
     simp only [vz, tyf, Fk, cb, cg, cY, cy, cZ, cF, cv, (aB g0), (bp g9), nm, seval]
     exact ⟨List.length iN, Nat.lt_succ_self _, by rw [jn]; refine ⟨iN, bD + 1, cV, bu, rfl, Int.le_trans eC (Int.le_add_one (Int.le_refl _)), bV eC gT, rfl, (show cI + 3 ≤ gn + 21 by omega), ?_, ?_, cb, cg, cY, cy, cZ, cF, ?_, (by first | exact h | (simp only [Fk]; exact h))⟩ <;> first | (simp only [ua, Fk, cb, cg, cY, cy, cZ, cF, cv, nm, seval] <;> rfl) | rfl⟩
    simp only [wh, hs] at h
    have kh := And.intro cO (And.intro dc (And.intro mP (And.intro hZ (And.intro py (And.intro we (And.intro wg (And.intro uy (And.intro uz (And.intro fF (And.intro qx wh))))))))))
    obtain ⟨hX, gB, h⟩ := optI h lK
    try simp only [hs] at h
    try simp only [vz, tyf, kh, cb, cg, cY, cy, cZ, cF, cv, (aB g0), (bp g9), (cq gB), nm, seval]
    refine kopen ?_
    rw [zo]
    refine ar.run mixed Tryz.call109 Tryz.func109 rfl (by simp [Tryz.ntmps109]; kernel_rfl) ?_
    cases lL : (aC hX)
    ·simp only [lL, hs] at h
     exact absurd h lK
    simp only [lL, hs] at h
    simp only [vz, tyf, kh, (aB g0), (bp g9), (cq gB), lL, nm, seval]
    obtain ⟨Pn, h, u3, Fl, Po, u4⟩ := eN h lK
    obtain ⟨Pp, Fm, h⟩ := call2 h
    obtain ⟨Pq, pz⟩ : ∃ I : Nat → St → Prop, I = (fun m st => ∃ (mQ : List Int) (dJ : Int), m = List.length mQ ∧ 0 ≤ dJ ∧ List.drop (Int.toNat dJ) hX = mQ ∧ st.df = [] ∧ gn + 20 ≤ st.nx ∧ st.H 6 = some (.cells ((some 3)) (aa eI bu)) ∧ st.H 9 = some (.cells ((some 22)) (aa (eSl eI) pre)) ∧ st.tm 0 = .sl (aa eI hX) (List.length hX) false ∧ st.tm 1 = .ref 6 0 (List.length bu) 1 (List.length bu) ∧ st.tm 2 = .sl (aa eI xh) (List.length xh) false ∧ st.tm 3 = .lit (.int .i64 bS) ∧ st.tm 9 = .lit (.int .i64 dJ) ∧ Pn (Pp mQ dJ)) := ⟨_, rfl⟩
    refine loopK mixed (by kernel_rfl) Pq (List.length hX) (by rw [pz]; refine ⟨hX, 0, rfl, Int.le_refl _, rfl, rfl, (show gn + 20 ≤ gn + 20 by omega), ?_, ?_, ?_, ?_, ?_, ?_, ?_, h⟩ <;> first | (simp only [ua, kh, nm, seval] <;> rfl) | rfl) ?_
    rintro m ⟨tm, H, iB, df⟩ hinv
    rw [pz] at hinv
    obtain ⟨mQ, dJ, rfl, jo, ki, hdf, Fo, mR, mS, u5, u6, u7, u9, i0, h⟩ := hinv
    simp only at hdf Fo mR mS u5 u6 u7 u9 i0
    have p7 := fj (m := 14) (b := iB) (by omega)
    have p8 := ng (a := cI) (m := 3) (b := iB) (by omega)
    have pA := ng (a := gn) (m := 20) (b := iB) (by omega)
    subst hdf Fm
    cases mQ with
    | nil =>
     have uA : (decide (dJ < (List.length hX : Int))) = false := eg jo ki
     simp only [mH, hs, reduceCtorEq] at h
     replace h := Fl _ h
     try dsimp only at h
     try simp only [hs] at h
     try simp only [vz, tyf, kh, (aB g0), (bp g9), (cq gB), lL, p7, p8, pA, u5, u6, u7, u9, i0, mR, mS, uA, nm, seval]
     refine cL (x := (.lit (.bool true))) (by first | (simp only [Tryz.results109, resV, resL, resV1, cD, cE, uw, cr, tyf, kh, (aB g0), (bp g9), (cq gB), lL, p7, p8, pA, mR, mS, uA, nm, seval] <;> rfl) | rfl) ?_
     have uB := setA (w := 1) (enc := eI) (fun _ => rfl) g9
     have pC := setB (w := 1) (enc := eI) bS (fun _ => rfl) g9
     simp only [vz, tyf, nm, seval] at pC
     have uC := setC (w := 1) (enc := eI) bu (Int.toNat bD) bS (fun _ => rfl)
     simp only [vz, tyf, kh, (aB g0), (bp g9), (cq gB), lL, p7, p8, pA, mR, mS, uA, cb, cg, cY, cy, cZ, cF, cv, uB, pC, uC, nm, seval]
     exact ⟨List.length iN, Nat.lt_succ_self _, by rw [jn]; refine ⟨iN, bD + 1, i64.wrap (cV - 1), (List.set bu (Int.toNat bD) bS), rfl, Int.le_trans eC (Int.le_add_one (Int.le_refl _)), bV eC gT, rfl, (show cI + 3 ≤ iB + 16 by omega), ?_, ?_, cb, cg, ?_, cy, cZ, ?_, ?_, (by first | exact h | (simp only [kh, uA]; exact h))⟩ <;> first | (simp only [ua, kh, p7, p8, pA, mR, mS, uA, cb, cg, cY, cy, cZ, cF, cv, uB, pC, uC, nm, seval] <;> rfl) | rfl⟩
    | cons QM mQ =>
     have Fp : (decide (dJ < (List.length hX : Int))) = true := eh jo ki
     have mT := cX jo ki
     have Fq := dO jo ki lL
     simp only [mH, hs, reduceCtorEq] at h
     simp only [vz, tyf, kh, (aB g0), (bp g9), (cq gB), lL, p7, p8, pA, u5, u6, u7, u9, i0, mR, mS, Fp, (aB mT), Fq, nm, seval]
     refine lp (fun tm => tm 0 = .sl (aa eI hX) (List.length hX) false ∧ tm 1 = .ref 6 0 (List.length bu) 1 (List.length bu) ∧ tm 2 = .sl (aa eI xh) (List.length xh) false ∧ tm 3 = .lit (.int .i64 bS) ∧ tm 9 = .lit (.int .i64 dJ) ∧ True) (by refine ⟨u5, u6, u7, u9, i0, trivial⟩ <;> first | (simp only [ua, kh, p7, p8, pA, u5, u6, u7, u9, i0, mR, mS, Fp, Fq, nm, seval] <;> rfl) | rfl) ?_
     rintro tm ⟨uD, uE, uF, uG, wi, _⟩
     have jq := And.intro kh (And.intro lL (And.intro p7 (And.intro p8 (And.intro pA (And.intro mR (And.intro mS (And.intro Fp Fq)))))))
     obtain ⟨Kn, lD, h⟩ := optI h u4
     try simp only [hs] at h
     cases iC : (decide (Kn < 0))
     ·simp only [iC, hs] at h
      obtain ⟨Pr, wj, h⟩ := optI h u4
      try simp only [hs] at h
      cases kZ : (decide ((i64.wrap (Kn + Pr)) > bS))
      ·simp only [kZ, hs] at h
       simp only [vz, tyf, jq, (aB g0), (bp g9), (cq gB), (aB mT), uD, uE, uF, uG, wi, (bp lD), iC, (aB wj), kZ, nm, seval]
       exact ⟨List.length mQ, Nat.lt_succ_self _, by rw [pz]; refine ⟨mQ, dJ + 1, rfl, Int.le_trans jo (Int.le_add_one (Int.le_refl _)), bV jo ki, rfl, (show gn + 20 ≤ iB + 34 by omega), ?_, ?_, uD, uE, uF, uG, ?_, (by first | exact h | (simp only [jq, iC, kZ]; exact h))⟩ <;> first | (simp only [ua, jq, uD, uE, uF, uG, wi, iC, kZ, nm, seval] <;> rfl) | rfl⟩
      simp only [kZ, hs] at h
      try simp only [vz, tyf, jq, (aB g0), (bp g9), (cq gB), (aB mT), uD, uE, uF, uG, wi, (bp lD), iC, (aB wj), kZ, nm, seval]
      refine cL (x := (.lit (.bool false))) (by first | (simp only [Tryz.results109, resV, resL, resV1, cD, cE, uw, cr, tyf, jq, (aB g0), (bp g9), (cq gB), (aB mT), (bp lD), iC, (aB wj), kZ, nm, seval] <;> rfl) | rfl) ?_
      replace h := u3 _ h
      try dsimp only at h
      simp only [vz, tyf, jq, (aB g0), (bp g9), (cq gB), (aB mT), (bp lD), iC, (aB wj), kZ, cb, cg, cY, cy, cZ, cF, cv, nm, seval]
      exact ⟨List.length iN, Nat.lt_succ_self _, by rw [jn]; refine ⟨iN, bD + 1, cV, bu, rfl, Int.le_trans eC (Int.le_add_one (Int.le_refl _)), bV eC gT, rfl, (show cI + 3 ≤ iB + 35 by omega), ?_, ?_, cb, cg, cY, cy, cZ, cF, ?_, (by first | exact h | (simp only [jq, iC, kZ]; exact h))⟩ <;> first | (simp only [ua, jq, iC, kZ, cb, cg, cY, cy, cZ, cF, cv, nm, seval] <;> rfl) | rfl⟩
     simp only [iC, hs] at h
     try simp only [vz, tyf, jq, (aB g0), (bp g9), (cq gB), (aB mT), uD, uE, uF, uG, wi, (bp lD), iC, nm, seval]
     refine cL (x := (.lit (.bool false))) (by first | (simp only [Tryz.results109, resV, resL, resV1, cD, cE, uw, cr, tyf, jq, (aB g0), (bp g9), (cq gB), (aB mT), (bp lD), iC, nm, seval] <;> rfl) | rfl) ?_
     replace h := u3 _ h
     try dsimp only at h
     simp only [vz, tyf, jq, (aB g0), (bp g9), (cq gB), (aB mT), (bp lD), iC, cb, cg, cY, cy, cZ, cF, cv, nm, seval]
     exact ⟨List.length iN, Nat.lt_succ_self _, by rw [jn]; refine ⟨iN, bD + 1, cV, bu, rfl, Int.le_trans eC (Int.le_add_one (Int.le_refl _)), bV eC gT, rfl, (show cI + 3 ≤ iB + 35 by omega), ?_, ?_, cb, cg, cY, cy, cZ, cF, ?_, (by first | exact h | (simp only [jq, iC]; exact h))⟩ <;> first | (simp only [ua, jq, iC, cb, cg, cY, cy, cZ, cF, cv, nm, seval] <;> rfl) | rfl⟩
 | cons e p =>
  have dA : (decide (i < (List.length ae : Int))) = true := eh hi hp
  have wA := dO hi hp gl
  have hin : i.toNat < ae.length := by
   have := of_decide_eq_true dA
   omega
  rcases oA : getI iM i with _ | xA
  ·exfalso
   unfold getI at oA
   rw [if_pos hi] at oA
   have := List.getElem?_eq_none_iff.1 oA
   omega
  rw [List.length_cons] at hrw hxs
  simp only [kP] at hrw
  rcases hws : ka ai ae i i.toNat 0 [] with _ | ws
  ·rw [hws] at hrw
   cases hrw
  rw [hws] at hrw
  simp only [Option.bind_some] at hrw
  have uB := setA (w := 1) (enc := eI) (fun _ => rfl) oA
  have pC := setB (w := 1) (enc := eI) (-1 : Int) (fun _ => rfl) oA
  simp only [vz, tyf, nm, seval] at pC
  have uC := setC (w := 1) (enc := eI) iM (Int.toNat i) (-1 : Int) (fun _ => rfl)
  simp only [vz, tyf, cO, dc, nA, a1, a2, a3, a7, a8, a9, pv, A0, A6, A9, dA, (bp oA), uB, pC, uC, nm, seval]
  rw [List.replicate_succ] at hxs
  obtain ⟨IB, hIB⟩ : ∃ I : Nat → St → Prop, I = (fun m st => ∃ (k : Int) (w : List Int) (hd : VV) (ys : List VV), 0 ≤ k ∧ k.toNat + m = i.toNat ∧ ys = aa (eSl eI) pre ++ hd :: List.replicate p.length (.lit (.slice none 0 0)) ∧ ka ai ae i m k w = some ws ∧ st.df = [] ∧ nxA ≤ st.nx ∧ st.H 0 = some (.cells (some 25) (cGBk ai)) ∧ st.H 6 = some (.cells (some 3) (aa eI (List.set iM (Int.toNat i) (-1)))) ∧ st.H 9 = some (.cells (some 22) (aa eV ys)) ∧ st.tm 1 = .sl (aa eI ae) (List.length ae) false ∧ st.tm 2 = .sl (aa eI xh) (List.length xh) false ∧ st.tm 3 = .ptr 0 0 ∧ st.tm 7 = .lit (.int .i64 (List.length ae : Int)) ∧ st.tm 8 = .ref 6 0 (List.length iM) 1 (List.length iM) ∧ st.tm 9 = .ref 9 0 (List.length ys) 1 (List.length ys) ∧ st.tm 10 = .lit (.int .i64 i) ∧ st.tm 11 = .lit (.int .i64 k) ∧ ((∃ (β : Nat) (el : Option TypeId), hd = .ref β 0 (List.length w) 1 (List.length w) ∧ β < st.nx ∧ β ≠ 0 ∧ β ≠ 6 ∧ β ≠ 9 ∧ st.H β = some (.cells el (aa eI w))) ∨ (hd = .lit (.slice none 0 0) ∧ w = []))) := ⟨_, rfl⟩
  refine loopK mixed (by kernel_rfl) IB i.toNat (by rw [hIB]; refine ⟨0, [], .lit (.slice none 0 0), xs, Int.le_refl _, (by simp), hxs, hws, rfl, Nat.le_add_right _ _, ?_, ?_, ?_, ?_, ?_, ?_, ?_, ?_, ?_, ?_, ?_, Or.inr ⟨rfl, rfl⟩⟩ <;> first | (simp only [ua, nA, a1, a2, a3, a7, a8, a9, pv, A0, A6, A9, dA, uB, pC, uC, nm, seval] <;> rfl) | rfl) ?_
  rintro m ⟨tm, H, nxB, df⟩ hinv
  rw [hIB] at hinv
  obtain ⟨k, w, hd, ys, hk, hkm, hys, hrow, hdf, hnB, B0, B6, B9, b1, b2, b3, b7, b8, b9, de, dg, ow⟩ := hinv
  simp only at hdf hnB B0 B6 B9 b1 b2 b3 b7 b8 b9 de dg ow
  have nB := fj (m := 12) (b := nxB) (by omega)
  subst hdf
  cases m with
  | zero =>
   have dB : decide (k < i) = false := decide_eq_false (by clear ow; omega)
   simp only [ka, Option.some.injEq] at hrow
   subst hrow
   have hki : k = i := by clear ow; omega
   have hzl : (aa (eSl eI) pre).length = i.toNat := by rw [ff (w := 1) (enc := eSl eI) (fun _ => rfl)]; clear ow; omega
   simp only [vz, tyf, cO, dc, nA, nB, b1, b2, b3, b7, b8, b9, de, dg, B0, B6, B9, dA, dB, wA, nm, seval]
   rw [uv] at B9
   have hcl : aa (eSl eI) (pre ++ [w]) = aa (eSl eI) pre ++ [.sl (aa eI w) w.length false] := by rw [pU]; rfl
   rcases ow with ⟨β, el, rfl, l3, Ko, Kp, oy, hβ⟩ | ⟨rfl, rfl⟩
   · refine ⟨p.length, Nat.lt_succ_self _, ⟨_, updH (without H β) 9 (.cells (some 22) (aa (eSl eI) pre ++ .sl (aa eI w) w.length false :: List.replicate p.length (.lit (.slice none 0 0)))), _, []⟩, Look.ghost (Ghost.mid hβ (by rw [B9, hys]) (Ne.symm oy) (eI_ok.treeL _) (ff (w := 1) (enc := eI) (fun _ => rfl) _)), ?_⟩
     rw [hIA]
     refine ⟨p, i + 1, pre ++ [w], List.set iM i.toNat (-1), aa (eSl eI) pre ++ .sl (aa eI w) w.length false :: List.replicate p.length (.lit (.slice none 0 0)), rfl, Int.le_trans hi (Int.le_add_one (Int.le_refl _)), bV hi hp, ?_, ?_, ?_, ?_, hrw, rfl, ?_, ?_, ?_, ?_, ?_, ?_, ?_, ?_, ?_, ?_, ?_⟩
     · rw [List.length_append, List.length_singleton]; omega
     · rw [List.length_set]; exact hbg
     · rw [hcl, List.append_assoc]; rfl
     · rw [List.length_cons] at hil; omega
     · dsimp only; omega
     · dsimp only
       rw [aV, if_neg (by decide), aX, if_neg (by omega)]; exact B0
     · dsimp only
       rw [aV, if_neg (by decide), aX, if_neg (by omega)]; exact B6
     · dsimp only
       rw [aV, if_pos rfl, uv]
     · simp only [ua, nB, b1, b2, b3, b7, b8, b9, de, dg, nm, seval]
     · simp only [ua, nB, b1, b2, b3, b7, b8, b9, de, dg, nm, seval]
     · simp only [ua, nB, b1, b2, b3, b7, b8, b9, de, dg, nm, seval]
     · simp only [ua, nB, b1, b2, b3, b7, b8, b9, de, dg, nm, seval]
     · simp only [ua, nB, b1, b2, b3, b7, b8, b9, de, dg, List.length_set, nm, seval]
     · simp only [ua, nB, b1, b2, b3, b7, b8, b9, de, dg, nm, seval]; rw [hys]; simp only [List.length_append, List.length_cons]
     · simp only [ua, nB, b1, b2, b3, b7, b8, b9, de, dg, wA, nm, seval]
   · refine ⟨p.length, Nat.lt_succ_self _, ⟨_, updH H 9 (.cells (some 22) (aa (eSl eI) pre ++ .sl [] 0 false :: List.replicate p.length (.lit (.slice none 0 0)))), _, []⟩, Look.nil (by rw [B9, hys]), ?_⟩
     rw [hIA]
     refine ⟨p, i + 1, pre ++ [[]], List.set iM i.toNat (-1), aa (eSl eI) pre ++ .sl [] 0 false :: List.replicate p.length (.lit (.slice none 0 0)), rfl, Int.le_trans hi (Int.le_add_one (Int.le_refl _)), bV hi hp, ?_, ?_, ?_, ?_, hrw, rfl, ?_, ?_, ?_, ?_, ?_, ?_, ?_, ?_, ?_, ?_, ?_⟩
     · rw [List.length_append, List.length_singleton]; omega
     · rw [List.length_set]; exact hbg
     · rw [hcl, List.append_assoc]; rfl
     · rw [List.length_cons] at hil; omega
     · dsimp only; omega
     · dsimp only
       rw [aV, if_neg (by decide)]; exact B0
     · dsimp only
       rw [aV, if_neg (by decide)]; exact B6
     · dsimp only
       rw [aV, if_pos rfl, uv]
     · simp only [ua, nB, b1, b2, b3, b7, b8, b9, de, dg, nm, seval]
     · simp only [ua, nB, b1, b2, b3, b7, b8, b9, de, dg, nm, seval]
     · simp only [ua, nB, b1, b2, b3, b7, b8, b9, de, dg, nm, seval]
     · simp only [ua, nB, b1, b2, b3, b7, b8, b9, de, dg, nm, seval]
     · simp only [ua, nB, b1, b2, b3, b7, b8, b9, de, dg, List.length_set, nm, seval]
     · simp only [ua, nB, b1, b2, b3, b7, b8, b9, de, dg, nm, seval]; rw [hys]; simp only [List.length_append, List.length_cons]
     · simp only [ua, nB, b1, b2, b3, b7, b8, b9, de, dg, wA, nm, seval]
  | succ m =>
   have dB : decide (k < i) = true := decide_eq_true (by clear ow; omega)
   have hkp : k.toNat < ae.length := by clear ow; omega
   have wB := dO hk (List.drop_eq_getElem_cons hkp) gl
   have oY : getI ys i = some hd := by
    have hzl : (aa (eSl eI) pre).length = i.toNat := by rw [ff (w := 1) (enc := eSl eI) (fun _ => rfl)]; clear ow; omega
    unfold getI
    rw [if_pos hi, hys, ← hzl, List.getElem?_append_right (Nat.le_refl _), Nat.sub_self]
    rfl
   have hset : ∀ v, List.set ys (Int.toNat i) v = aa (eSl eI) pre ++ v :: List.replicate p.length (.lit (.slice none 0 0)) := by
    intro v
    have hzl : (aa (eSl eI) pre).length = i.toNat := by rw [ff (w := 1) (enc := eSl eI) (fun _ => rfl)]; clear ow; omega
    rw [hys, ← hzl, List.set_append_right _ _ (Nat.le_refl _), Nat.sub_self]
    rfl
   simp only [ka] at hrow
   rcases of : qd ai ae k i with _ | r
   ·rw [of] at hrow
    cases hrow
   rw [of] at hrow
   simp only [Option.bind_some] at hrow
   simp only [vz, tyf, cO, dc, nA, nB, b1, b2, b3, b7, b8, b9, de, dg, B0, B6, B9, dA, dB, wA, nm, seval]
   refine ktA (Md _ _ _ _ _ of) ?_
   have mU := setA (w := 1) (enc := eV) (fun _ => rfl) oY
   have lM := fun v => setB (w := 1) (enc := eV) v (fun _ => rfl) oY
   simp only [vz, tyf, eV_eq, nm, seval] at lM
   have mV := fun v => setC (w := 1) (enc := eV) ys (Int.toNat i) v (fun _ => rfl)
   rcases r with _ | _
   · simp only [cond_false] at hrow
     simp only [vz, tyf, cO, dc, nA, nB, b1, b2, b3, b7, b8, b9, de, dg, B0, B6, B9, dA, dB, wA, wB, nm, seval]
     exact ⟨m, Nat.lt_succ_self _, by
      rw [hIB]
      refine ⟨k + 1, w, hd, ys, (by clear ow; omega), (by clear ow; omega), hys, hrow, rfl, (by dsimp only; clear ow; omega), ?_, ?_, ?_, ?_, ?_, ?_, ?_, ?_, ?_, ?_, ?_, ?_⟩
      rotate_right
      · rcases ow with ⟨β, el, h1, h2, h3, h4, h5, h6⟩ | h1
        · exact Or.inl ⟨β, el, h1, (by dsimp only; omega), h3, h4, h5, h6⟩
        · exact Or.inr h1
      all_goals first | (simp only [ua, cO, dc, nA, nB, b1, b2, b3, b7, b8, b9, de, dg, B0, B6, B9, dA, dB, wA, wB, nm, seval] <;> rfl) | rfl⟩
   · simp only [cond_true] at hrow
     cases gr : (roomOk 8 (List.length (w ++ [k])))
     · rw [gr] at hrow
       cases hrow
     rw [gr] at hrow
     simp only [cond_true] at hrow
     rcases ow with ⟨β, el, rfl, l3, Ko, Kp, oy, hβ⟩ | ⟨rfl, rfl⟩
     · have q1 := hY l3
       have q2 := ne_f Ko
       have q3 := ne_f Kp
       have q4 := ne_f oy
       simp only [vz, tyf, cO, dc, nA, nB, b1, b2, b3, b7, b8, b9, de, dg, B0, B6, B9, dA, dB, wA, wB, (ixoV oY), eV_eq, mU, lM, mV, q1, q2, q3, q4, hβ, nm, seval]
       refine k_app (w := 1) (enc := eI) (xs := w) (ys := [k]) (el := el) (gq := (some 3)) (fun _ => rfl) fx eP Tryz.underlying22 (by first | rfl | assumption | (simp only [aV, aX, bP, cO, dc, nA, nB, b1, b2, b3, b7, b8, b9, de, dg, B0, B6, B9, dA, dB, wA, wB, q1, q2, q3, q4, hβ, nm, seval] <;> rfl) | (simp only [aV, aX, dp, dL, dv, dw, tyf, cO, dc, nA, nB, b1, b2, b3, b7, b8, b9, de, dg, B0, B6, B9, dA, dB, wA, wB, q1, q2, q3, q4, hβ, nm, seval]; done)) (by first | rfl | assumption | (simp only [aV, aX, bP, cO, dc, nA, nB, b1, b2, b3, b7, b8, b9, de, dg, B0, B6, B9, dA, dB, wA, wB, q1, q2, q3, q4, hβ, nm, seval] <;> rfl) | (simp only [aV, aX, dp, dL, dv, dw, tyf, cO, dc, nA, nB, b1, b2, b3, b7, b8, b9, de, dg, B0, B6, B9, dA, dB, wA, wB, q1, q2, q3, q4, hβ, nm, seval]; done)) (Nat.zero_lt_succ _) gr ?_
       simp only [vz, tyf, cO, dc, nA, nB, b1, b2, b3, b7, b8, b9, de, dg, B0, B6, B9, dA, dB, wA, wB, (ixoV oY), eV_eq, mU, lM, mV, q1, q2, q3, q4, hβ, gr, nm, seval]
       exact ⟨m, Nat.lt_succ_self _, by
        rw [hIB]
        refine ⟨k + 1, w ++ [k], .ref (nxB + 16) 0 (List.length (w ++ [k])) 1 (List.length (w ++ [k])), List.set ys (Int.toNat i) (.ref (nxB + 16) 0 (List.length (w ++ [k])) 1 (List.length (w ++ [k]))), (by omega), (by omega), hset _, hrow, rfl, (by dsimp only; omega), ?_, ?_, ?_, ?_, ?_, ?_, ?_, ?_, ?_, ?_, ?_, Or.inl ⟨nxB + 16, sameEl el 3, rfl, (by dsimp only; omega), (by omega), (by omega), (by omega), ?_⟩⟩
        all_goals first | (simp only [ua, cO, dc, nA, nB, b1, b2, b3, b7, b8, b9, de, dg, B0, B6, B9, dA, dB, wA, wB, (ixoV oY), eV_eq, mU, lM, mV, q1, q2, q3, q4, hβ, nm, seval] <;> rfl) | (simp only [ua, cO, dc, nA, nB, b1, b2, b3, b7, b8, b9, de, dg, B0, B6, B9, dA, dB, wA, wB, (ixoV oY), eV_eq, mU, lM, mV, q1, q2, q3, q4, hβ, List.length_set, nm, seval] <;> rfl) | rfl⟩
     · simp only [vz, tyf, cO, dc, nA, nB, b1, b2, b3, b7, b8, b9, de, dg, B0, B6, B9, dA, dB, wA, wB, (ixoV oY), eV_eq, mU, lM, mV, nm, seval]
       refine nk (w := 1) (enc := eI) (ys := [k]) (gq := (some 3)) (fun _ => rfl) fx eP Tryz.underlying22 (by first | rfl | assumption | (simp only [aV, aX, bP, cO, dc, nA, nB, b1, b2, b3, b7, b8, b9, de, dg, B0, B6, B9, dA, dB, wA, wB, nm, seval] <;> rfl) | (simp only [aV, aX, dp, dL, dv, dw, tyf, cO, dc, nA, nB, b1, b2, b3, b7, b8, b9, de, dg, B0, B6, B9, dA, dB, wA, wB, nm, seval]; done)) (Nat.zero_lt_succ _) gr ?_
       simp only [vz, tyf, cO, dc, nA, nB, b1, b2, b3, b7, b8, b9, de, dg, B0, B6, B9, dA, dB, wA, wB, (ixoV oY), eV_eq, mU, lM, mV, gr, nm, seval]
       exact ⟨m, Nat.lt_succ_self _, by
        rw [hIB]
        refine ⟨k + 1, [k], .ref (nxB + 16) 0 (List.length ([k])) 1 (List.length ([k])), List.set ys (Int.toNat i) (.ref (nxB + 16) 0 (List.length ([k])) 1 (List.length ([k]))), (by omega), (by omega), hset _, hrow, rfl, (by dsimp only; omega), ?_, ?_, ?_, ?_, ?_, ?_, ?_, ?_, ?_, ?_, ?_, Or.inl ⟨nxB + 16, some 3, rfl, (by dsimp only; omega), (by omega), (by omega), (by omega), ?_⟩⟩
        all_goals first | (simp only [ua, cO, dc, nA, nB, b1, b2, b3, b7, b8, b9, de, dg, B0, B6, B9, dA, dB, wA, wB, (ixoV oY), eV_eq, mU, lM, mV, nm, seval] <;> rfl) | (simp only [ua, cO, dc, nA, nB, b1, b2, b3, b7, b8, b9, de, dg, B0, B6, B9, dA, dB, wA, wB, (ixoV oY), eV_eq, mU, lM, mV, List.length_set, nm, seval] <;> rfl) | rfl⟩
def oX (xh : List Int) : Nat → Int → (List Int) → Option (LOut (List Int) (Int × (List Int)))
 | 0, _, _ => none
 | k0 + 1, cJ, bw => cond (decide (cJ < (List.length bw : Int))) (Option.bind (getI bw cJ) (fun x3 => Option.bind (getI xh cJ) (fun x4 => oX xh k0 (i64.wrap (cJ + 1)) (List.set bw (Int.toNat cJ) (i64.wrap (x3 + x4)))))) (some (.go (cJ, bw)))
def qF (ai : GBk) (ae : List Int) (xh : List Int) : Option (List Int) := Option.bind (tL ai ae xh) (fun r1 => cond (aC r1) (lbind (oX xh 1000000 0 r1) (fun r6 => some r6) (fun c5 => some c5.2) (fun _ _ => none)) none)
theorem Kq (ai : GBk) (ae : List Int) (xh : List Int) (R : List Int) (h : qF ai ae xh = some R) : ah Tryz.prog G0 75 [.agg (cGBk ai), .sl (aa eI ae) (List.length ae) false, .sl (aa eI xh) (List.length xh) false] (.tree (.sl (aa eI R) (List.length R) false)) := by
 refine ah.runR mixed Tryz.call75 Tryz.func75 rfl (by simp [Tryz.ntmps75]; kernel_rfl) ?_
 obtain ⟨KF, h, kF, kN⟩ := cA h
 simp only [qF] at h
 obtain ⟨r7, o8, h⟩ := optI h kN
 try simp only [hs] at h
 simp only [vz, tyf, nm, seval]
 refine kown (args0 := [.agg (cGBk ai), .sl (aa eI ae) (List.length ae) false, .sl (aa eI xh) (List.length xh) false]) (by first | (simp only [nrm, aL] <;> rfl) | rfl) (by simp only [tre, tytre, Bool.and_self]) (Pe _ _ _ _ o8) ?_
 simp only [vz, tyf, nm, seval]
 cases gE : (aC r7)
 ·simp only [gE, hs] at h
  exact absurd h kN
 simp only [gE, hs] at h
 obtain ⟨K9, h, QN, Ps, QO, Fs⟩ := eN h kN
 obtain ⟨f9, Pt, h⟩ := call3 h
 obtain ⟨I9, Ft⟩ : ∃ I : Nat → St → Prop, I = (fun m st => ∃ (p9 : Nat) (gU : Int) (cC : List Int), p9 = m ∧ st.df = [] ∧ 8 ≤ st.nx ∧ st.H 5 = some (.cells (none) (aa eI cC)) ∧ st.tm 2 = .sl (aa eI xh) (List.length xh) false ∧ st.tm 7 = .ref 5 0 (List.length cC) 1 (List.length cC) ∧ st.tm 8 = .lit (.int .i64 gU) ∧ K9 (f9 p9 gU cC)) := ⟨_, rfl⟩
 refine loopK mixed (by kernel_rfl) I9 1000000 (by rw [Ft]; refine ⟨1000000, 0, r7, rfl, rfl, (show 8 ≤ 8 by omega), ?_, ?_, ?_, ?_, h⟩ <;> first | (simp only [ua, nm, seval] <;> rfl) | rfl) ?_
 rintro m ⟨tm, H, Ks, df⟩ hinv
 rw [Ft] at hinv
 obtain ⟨p9, gU, cC, rfl, hdf, Pu, lN, aT, bj, ba, h⟩ := hinv
 simp only at hdf Pu lN aT bj ba
 have hU := fj (m := 8) (b := Ks) (by omega)
 subst hdf Pt
 cases p9 with
 | zero =>
  simp only [oX, hs, reduceCtorEq] at h
  exact absurd h Fs
 | succ p9 =>
  simp only [oX, hs, reduceCtorEq] at h
  cases dN : (decide (gU < (List.length cC : Int)))
  ·simp only [dN, hs] at h
   replace h := Ps _ h
   try dsimp only at h
   try simp only [hs] at h
   try simp only [vz, tyf, hU, aT, bj, ba, lN, dN, nm, seval]
   refine cL (x := (.ref 5 0 (List.length cC) 1 (List.length cC))) (by first | (simp only [Tryz.results75, resV, resL, resV1, cD, cE, uw, cr, tyf, hU, lN, dN, nm, seval] <;> rfl) | rfl) ?_
   obtain rfl := kF _ h
   refine fN ?_ ?_
   ·simp only [tre, tytre, Bool.and_self]
   ·first | (simp only [outV, uw, fY, cr, tyf, nrm, aL, hU, aT, bj, ba, lN, dN, nm, seval] <;> rfl) | rfl
  simp only [dN, hs] at h
  simp only [vz, tyf, hU, aT, bj, ba, lN, dN, nm, seval]
  refine lX (fun tm => tm 2 = .sl (aa eI xh) (List.length xh) false ∧ tm 7 = .ref 5 0 (List.length cC) 1 (List.length cC) ∧ tm 8 = .lit (.int .i64 gU) ∧ True) (by refine ⟨aT, bj, ba, trivial⟩ <;> first | (simp only [ua, hU, aT, bj, ba, lN, dN, nm, seval] <;> rfl) | rfl) ?_
  rintro tm ⟨bE, b5, bF, _⟩
  obtain ⟨Fu, kc, h⟩ := optI h Fs
  try simp only [hs] at h
  obtain ⟨tQ, j6, h⟩ := optI h Fs
  try simp only [hs] at h
  have j5 := setA (w := 1) (enc := eI) (fun _ => rfl) kc
  have wm := setB (w := 1) (enc := eI) (i64.wrap (Fu + tQ)) (fun _ => rfl) kc
  simp only [vz, tyf, nm, seval] at wm
  have j1 := setC (w := 1) (enc := eI) cC (Int.toNat gU) (i64.wrap (Fu + tQ)) (fun _ => rfl)
  simp only [vz, tyf, hU, lN, dN, bE, b5, bF, (bp kc), (aB j6), j5, wm, j1, nm, seval]
  refine lY ⟨?_, ?_⟩
  ·simp only [lZ, ma, gX, mb, and_true, true_and]
   repeat' (first | exact trivial | refine And.intro ?_ ?_ | rw [gX] | rw [mc] | exact Or.inl (by decide +kernel) | exact Or.inl (by dsimp only; decide +kernel) | (refine Or.inr ⟨?_, ?_⟩ <;> simp; done) | (refine Or.inr ⟨?_, ?_⟩ <;> simp <;> omega) | (refine Or.inr ⟨?_, ?_⟩ <;> simp [VEff.wr] <;> omega))
  simp only [vz, tyf, hU, lN, dN, bE, b5, bF, (bp kc), (aB j6), j5, wm, j1, nm, seval]
  exact ⟨p9, Nat.lt_succ_self _, by rw [Ft]; refine ⟨p9, i64.wrap (gU + 1), (List.set cC (Int.toNat gU) (i64.wrap (Fu + tQ))), rfl, rfl, (show 8 ≤ Ks + 20 by omega), ?_, bE, ?_, ?_, (by first | exact h | (simp only [dN]; exact h))⟩ <;> first | (simp only [ua, hU, lN, dN, bE, b5, bF, j5, wm, j1, nm, seval] <;> rfl) | rfl⟩
def kO (aS : Bool) : List GBs → Int → (List Int) → Option (LOut (List Int) ((List Int)))
 | [], gj, bM => some (.go bM)
 | e0 :: p0, gj, bM => cond (aS) (cond (roomOk 8 (List.length (bM ++ [e0.Hours.High]))) (kO aS p0 (gj + 1) (bM ++ [e0.Hours.High])) none) (cond (roomOk 8 (List.length (bM ++ [e0.Hours.Low]))) (kO aS p0 (gj + 1) (bM ++ [e0.Hours.Low])) none)
def qE (ai : GBk) (aS : Bool) : Option (List Int) := cond (aC ai.Strokes) (lbind (kO aS ai.Strokes 0 ([] : List Int)) (fun r2 => some r2) (fun c1 => some c1) (fun _ _ => none)) none
theorem Kt (ai : GBk) (aS : Bool) (R : List Int) (h : qE ai aS = some R) : ah Tryz.prog G0 33 [.agg (cGBk ai), .lit (.bool aS)] (.tree (.sl (aa eI R) (List.length R) false)) := by
 refine ah.runR mixed Tryz.call33 Tryz.func33 rfl (by simp [Tryz.ntmps33]; kernel_rfl) ?_
 obtain ⟨KF, h, kF, kN⟩ := cA h
 simp only [qE] at h
 cases g4 : (aC ai.Strokes)
 ·simp only [g4, hs] at h
  exact absurd h kN
 simp only [g4, hs] at h
 simp only [vz, tyf, g4, nm, seval]
 obtain ⟨K3, h, rZ, lx, z5, nJ⟩ := eN h kN
 obtain ⟨f3, nK, h⟩ := call3 h
 obtain ⟨I3, gx⟩ : ∃ I : Nat → St → Prop, I = (fun m st => ∃ (p3 : List GBs) (ed : Int) (bB : List Int) (lO : VV), m = List.length p3 ∧ 0 ≤ ed ∧ List.drop (Int.toNat ed) ai.Strokes = p3 ∧ st.df = [] ∧ 4 ≤ st.nx ∧ st.H 0 = some (.cells (some 25) (cGBk ai)) ∧ st.tm 1 = .lit (.bool aS) ∧ st.tm 2 = .ptr 0 0 ∧ st.tm 5 = lO ∧ st.tm 6 = .lit (.int .i64 ed) ∧ ((∃ (β : Nat) (el : Option TypeId), lO = .ref β 0 (List.length bB) 1 (List.length bB) ∧ β < st.nx ∧ β ≠ 0 ∧ st.H β = some (.cells el (aa eI bB))) ∨ (lO = .lit (.slice none 0 0) ∧ bB = [])) ∧ K3 (f3 p3 ed bB)) := ⟨_, rfl⟩
 refine loopK mixed (by kernel_rfl) I3 (List.length ai.Strokes) (by rw [gx]; refine ⟨ai.Strokes, 0, ([] : List Int), .lit (.slice none 0 0), rfl, Int.le_refl _, rfl, rfl, (show 4 ≤ 4 by omega), ?_, ?_, ?_, ?_, ?_, Or.inr ⟨rfl, rfl⟩, h⟩ <;> first | (simp only [ua, nm, seval] <;> rfl) | rfl) ?_
 rintro m ⟨tm, H, fm, df⟩ hinv
 rw [gx] at hinv
 obtain ⟨p3, ed, bB, lO, rfl, cH, dt, hdf, nL, H5, e6, e7, e8, e9, mW, h⟩ := hinv
 simp only at hdf nL H5 e6 e7 e8 e9 mW
 have dZ := fj (m := 4) (b := fm) (by omega)
 subst hdf nK
 rcases mW with ⟨Fv, iO, rfl, Fx, Fy, uH⟩ | ⟨rfl, rfl⟩
 ·have uI := hY Fx
  have uJ := ne_f Fy
  cases p3 with
  | nil =>
   have bH : (decide (ed < (List.length ai.Strokes : Int))) = false := eg cH dt
   simp only [kO, hs, reduceCtorEq] at h
   replace h := lx _ h
   try dsimp only at h
   try simp only [hs] at h
   try simp only [vz, tyf, g4, dZ, e6, e7, e8, e9, H5, uI, uH, uJ, bH, nm, seval]
   refine cL (x := (.ref Fv 0 (List.length bB) 1 (List.length bB))) (by first | (simp only [Tryz.results33, resV, resL, resV1, cD, cE, uw, cr, tyf, g4, dZ, H5, uI, uH, uJ, bH, nm, seval] <;> rfl) | rfl) ?_
   obtain rfl := kF _ h
   refine fN ?_ ?_
   ·simp only [tre, tytre, Bool.and_self]
   ·first | (simp only [outV, uw, fY, cr, tyf, nrm, aL, g4, dZ, e6, e7, e8, e9, H5, uI, uH, uJ, bH, nm, seval] <;> rfl) | rfl
  | cons e3 p3 =>
   have dN : (decide (ed < (List.length ai.Strokes : Int))) = true := eh cH dt
   have kC := cX cH dt
   have Ku := dO cH dt g4
   simp only [kO, hs, reduceCtorEq] at h
   cases bN : (aS)
   ·simp only [bN, hs] at h
    have jc := And.intro g4 (And.intro dZ (And.intro H5 (And.intro uI (And.intro uH (And.intro uJ (And.intro dN (And.intro Ku bN)))))))
    cases pD : (roomOk 8 (List.length (bB ++ [e3.Hours.Low])))
    ·simp only [pD, hs] at h
     exact absurd h nJ
    simp only [pD, hs] at h
    simp only [vz, tyf, jc, e6, e7, e8, e9, (aH kC), pD, nm, seval]
    refine k_app (w := 1) (enc := eI) (xs := bB) (ys := ([e3.Hours.Low])) (el := iO) (gq := (some 3)) (fun _ => rfl) fx eP Tryz.underlying22 (by first | rfl | assumption | (simp only [aV, aX, bP, jc, nm, seval] <;> rfl) | (simp only [aV, aX, dp, dL, dv, dw, tyf, jc, e6, e7, e8, e9, (aH kC), pD, nm, seval]; done)) (by first | rfl | assumption | (simp only [aV, aX, bP, jc, nm, seval] <;> rfl) | (simp only [aV, aX, dp, dL, dv, dw, tyf, jc, e6, e7, e8, e9, (aH kC), pD, nm, seval]; done)) (Nat.zero_lt_succ _) pD ?_
    simp only [vz, tyf, jc, e6, e7, e8, e9, (aH kC), pD, nm, seval]
    exact ⟨List.length p3, Nat.lt_succ_self _, by rw [gx]; refine ⟨p3, ed + 1, (bB ++ [e3.Hours.Low]), .ref (fm + 15) 0 (List.length (bB ++ [e3.Hours.Low])) 1 (List.length (bB ++ [e3.Hours.Low])), rfl, Int.le_trans cH (Int.le_add_one (Int.le_refl _)), bV cH dt, rfl, (show 4 ≤ fm + 20 by omega), ?_, ?_, e7, ?_, ?_, Or.inl ⟨fm + 15, (sameEl iO 3), rfl, (by first | omega | (simp only [nm, seval]; done) | (simp only [nm, seval]; omega)), (by first | omega | (intro hh; simp only [jc, reduceCtorEq] at hh)), ?_⟩, (by first | exact h | (simp only [jc]; exact h))⟩ <;> first | (simp only [ua, jc, e6, e7, e8, e9, nm, seval] <;> rfl) | rfl⟩
   simp only [bN, hs] at h
   have lP := And.intro g4 (And.intro dZ (And.intro H5 (And.intro uI (And.intro uH (And.intro uJ (And.intro dN (And.intro Ku bN)))))))
   cases pE : (roomOk 8 (List.length (bB ++ [e3.Hours.High])))
   ·simp only [pE, hs] at h
    exact absurd h nJ
   simp only [pE, hs] at h
   simp only [vz, tyf, lP, e6, e7, e8, e9, (aH kC), pE, nm, seval]
   refine k_app (w := 1) (enc := eI) (xs := bB) (ys := ([e3.Hours.High])) (el := iO) (gq := (some 3)) (fun _ => rfl) fx eP Tryz.underlying22 (by first | rfl | assumption | (simp only [aV, aX, bP, lP, nm, seval] <;> rfl) | (simp only [aV, aX, dp, dL, dv, dw, tyf, lP, e6, e7, e8, e9, (aH kC), pE, nm, seval]; done)) (by first | rfl | assumption | (simp only [aV, aX, bP, lP, nm, seval] <;> rfl) | (simp only [aV, aX, dp, dL, dv, dw, tyf, lP, e6, e7, e8, e9, (aH kC), pE, nm, seval]; done)) (Nat.zero_lt_succ _) pE ?_
   simp only [vz, tyf, lP, e6, e7, e8, e9, (aH kC), pE, nm, seval]
   exact ⟨List.length p3, Nat.lt_succ_self _, by rw [gx]; refine ⟨p3, ed + 1, (bB ++ [e3.Hours.High]), .ref (fm + 15) 0 (List.length (bB ++ [e3.Hours.High])) 1 (List.length (bB ++ [e3.Hours.High])), rfl, Int.le_trans cH (Int.le_add_one (Int.le_refl _)), bV cH dt, rfl, (show 4 ≤ fm + 20 by omega), ?_, ?_, e7, ?_, ?_, Or.inl ⟨fm + 15, (sameEl iO 3), rfl, (by first | omega | (simp only [nm, seval]; done) | (simp only [nm, seval]; omega)), (by first | omega | (intro hh; simp only [lP, reduceCtorEq] at hh)), ?_⟩, (by first | exact h | (simp only [lP]; exact h))⟩ <;> first | (simp only [ua, lP, e6, e7, e8, e9, nm, seval] <;> rfl) | rfl⟩
 ·cases p3 with
  | nil =>
   have dP : (decide (ed < (List.length ai.Strokes : Int))) = false := eg cH dt
   simp only [kO, hs, reduceCtorEq] at h
   replace h := lx _ h
   try dsimp only at h
   try simp only [hs] at h
   try simp only [vz, tyf, g4, dZ, e6, e7, e8, e9, H5, dP, nm, seval]
   refine cL (x := (.lit (.slice none 0 0))) (by first | (simp only [Tryz.results33, resV, resL, resV1, cD, cE, uw, cr, tyf, g4, dZ, H5, dP, nm, seval] <;> rfl) | rfl) ?_
   obtain rfl := kF _ h
   refine fN ?_ ?_
   ·simp only [tre, tytre, Bool.and_self]
   ·first | (simp only [outV, uw, fY, cr, tyf, nrm, aL, g4, dZ, e6, e7, e8, e9, H5, dP, nm, seval] <;> rfl) | rfl
  | cons e3 p3 =>
   have fp : (decide (ed < (List.length ai.Strokes : Int))) = true := eh cH dt
   have iE := cX cH dt
   have j1 := dO cH dt g4
   simp only [kO, hs, reduceCtorEq] at h
   cases j2 : (aS)
   ·simp only [j2, hs] at h
    cases gP : (roomOk 8 (List.length (([] : List Int) ++ [e3.Hours.Low])))
    ·simp only [gP, hs] at h
     exact absurd h nJ
    simp only [gP, hs] at h
    simp only [vz, tyf, g4, dZ, e6, e7, e8, e9, H5, fp, (aH iE), j1, j2, gP, nm, seval]
    refine nk (w := 1) (enc := eI) (ys := ([e3.Hours.Low])) (gq := (some 3)) (fun _ => rfl) fx eP Tryz.underlying22 (by first | rfl | assumption | (simp only [aV, aX, bP, dZ, H5, nm, seval] <;> rfl) | (simp only [aV, aX, dp, dL, dv, dw, tyf, g4, dZ, e6, e7, e8, e9, H5, fp, (aH iE), j1, j2, gP, nm, seval]; done)) (Nat.zero_lt_succ _) gP ?_
    simp only [vz, tyf, g4, dZ, e6, e7, e8, e9, H5, fp, (aH iE), j1, j2, gP, nm, seval]
    exact ⟨List.length p3, Nat.lt_succ_self _, by rw [gx]; refine ⟨p3, ed + 1, (([] : List Int) ++ [e3.Hours.Low]), .ref (fm + 15) 0 (List.length (([] : List Int) ++ [e3.Hours.Low])) 1 (List.length (([] : List Int) ++ [e3.Hours.Low])), rfl, Int.le_trans cH (Int.le_add_one (Int.le_refl _)), bV cH dt, rfl, (show 4 ≤ fm + 20 by omega), ?_, ?_, e7, ?_, ?_, Or.inl ⟨fm + 15, (some 3), rfl, (by first | omega | (simp only [nm, seval]; done) | (simp only [nm, seval]; omega)), (by first | omega | (intro hh; simp only [dZ, reduceCtorEq] at hh)), ?_⟩, (by first | exact h | (simp only [fp, j2]; exact h))⟩ <;> first | (simp only [ua, dZ, e6, e7, e8, e9, H5, fp, j1, j2, nm, seval] <;> rfl) | rfl⟩
   simp only [j2, hs] at h
   cases qL : (roomOk 8 (List.length (([] : List Int) ++ [e3.Hours.High])))
   ·simp only [qL, hs] at h
    exact absurd h nJ
   simp only [qL, hs] at h
   simp only [vz, tyf, g4, dZ, e6, e7, e8, e9, H5, fp, (aH iE), j1, j2, qL, nm, seval]
   refine nk (w := 1) (enc := eI) (ys := ([e3.Hours.High])) (gq := (some 3)) (fun _ => rfl) fx eP Tryz.underlying22 (by first | rfl | assumption | (simp only [aV, aX, bP, dZ, H5, nm, seval] <;> rfl) | (simp only [aV, aX, dp, dL, dv, dw, tyf, g4, dZ, e6, e7, e8, e9, H5, fp, (aH iE), j1, j2, qL, nm, seval]; done)) (Nat.zero_lt_succ _) qL ?_
   simp only [vz, tyf, g4, dZ, e6, e7, e8, e9, H5, fp, (aH iE), j1, j2, qL, nm, seval]
   exact ⟨List.length p3, Nat.lt_succ_self _, by rw [gx]; refine ⟨p3, ed + 1, (([] : List Int) ++ [e3.Hours.High]), .ref (fm + 15) 0 (List.length (([] : List Int) ++ [e3.Hours.High])) 1 (List.length (([] : List Int) ++ [e3.Hours.High])), rfl, Int.le_trans cH (Int.le_add_one (Int.le_refl _)), bV cH dt, rfl, (show 4 ≤ fm + 20 by omega), ?_, ?_, e7, ?_, ?_, Or.inl ⟨fm + 15, (some 3), rfl, (by first | omega | (simp only [nm, seval]; done) | (simp only [nm, seval]; omega)), (by first | omega | (intro hh; simp only [dZ, reduceCtorEq] at hh)), ?_⟩, (by first | exact h | (simp only [fp, j2]; exact h))⟩ <;> first | (simp only [ua, dZ, e6, e7, e8, e9, H5, fp, j1, j2, nm, seval] <;> rfl) | rfl⟩
def kR (r4 : List Int) : List Int → Int → (List GSpan) → Option (LOut (List GSpan) ((List GSpan)))
 | [], cJ, bL => some (.go bL)
 | e0 :: p0, cJ, bL => Option.bind (getI r4 cJ) (fun x5 => cond (roomOk 16 (List.length (bL ++ [(GSpan.mk e0 x5)]))) (kR r4 p0 (cJ + 1) (bL ++ [(GSpan.mk e0 x5)])) none)
def tO (ai : GBk) (ae : List Int) : Option (List GSpan) := Option.bind (qE ai false) (fun r1 => Option.bind (qF ai ae r1) (fun r2 => Option.bind (qE ai true) (fun r3 => Option.bind (qF ai ae r3) (fun r4 => cond (aC r2) (lbind (kR r4 r2 0 ([] : List GSpan)) (fun r7 => some r7) (fun c6 => some c6) (fun _ _ => none)) none))))
theorem Oj (ai : GBk) (ae : List Int) (R : List GSpan) (h : tO ai ae = some R) : ah Tryz.prog G0 26 [.agg (cGBk ai), .sl (aa eI ae) (List.length ae) false] (.tree (.sl (aa au R) (List.length R) false)) := by
 refine ah.runR mixed Tryz.call26 Tryz.func26 rfl (by simp [Tryz.ntmps26]; kernel_rfl) ?_
 obtain ⟨KF, h, kF, kN⟩ := cA h
 simp only [tO] at h
 simp only [vz, tyf, nm, seval]
 refine lp (fun tm => tm 1 = .sl (aa eI ae) (List.length ae) false ∧ tm 2 = .ptr 0 0 ∧ True) (by refine ⟨?_, ?_, trivial⟩ <;> first | (simp only [ua, nm, seval] <;> rfl) | rfl) ?_
 rintro tm ⟨e8, e9, _⟩
 obtain ⟨oI, nM, h⟩ := optI h kN
 try simp only [hs] at h
 simp only [vz, tyf, e8, e9, nm, seval]
 refine dktA (Kt _ _ _ nM) ?_
 refine bJ (fun tm => tm 1 = .sl (aa eI ae) (List.length ae) false ∧ tm 2 = .ptr 0 0 ∧ tm 9 = .agg (cGBk ai) ∧ tm 10 = .sl (aa eI ae) (List.length ae) false ∧ tm 12 = .sl (aa eI oI) (List.length oI) false ∧ True) (by refine ⟨e8, e9, ?_, ?_, ?_, trivial⟩ <;> first | (simp only [ua, e8, e9, nm, seval] <;> rfl) | rfl) ?_
 rintro tm ⟨bj, ba, bx, bt, bE, _⟩
 obtain ⟨dh, nn, h⟩ := optI h kN
 try simp only [hs] at h
 simp only [vz, tyf, bj, ba, bx, bt, bE, nm, seval]
 refine dktA (Kq _ _ _ _ nn) ?_
 refine bJ (fun tm => tm 1 = .sl (aa eI ae) (List.length ae) false ∧ tm 2 = .ptr 0 0 ∧ tm 13 = .sl (aa eI dh) (List.length dh) false ∧ True) (by refine ⟨bj, ba, ?_, trivial⟩ <;> first | (simp only [ua, bj, ba, bx, bt, bE, nm, seval] <;> rfl) | rfl) ?_
 rintro tm ⟨bQ, dr, eA, _⟩
 obtain ⟨nI, hD, h⟩ := optI h kN
 try simp only [hs] at h
 simp only [vz, tyf, bQ, dr, eA, nm, seval]
 refine dktA (Kt _ _ _ hD) ?_
 refine bJ (fun tm => tm 13 = .sl (aa eI dh) (List.length dh) false ∧ tm 14 = .agg (cGBk ai) ∧ tm 15 = .sl (aa eI ae) (List.length ae) false ∧ tm 17 = .sl (aa eI nI) (List.length nI) false ∧ True) (by refine ⟨eA, ?_, ?_, ?_, trivial⟩ <;> first | (simp only [ua, bQ, dr, eA, nm, seval] <;> rfl) | rfl) ?_
 rintro tm ⟨bK, bY, cl, bk, _⟩
 obtain ⟨mX, Pv, h⟩ := optI h kN
 try simp only [hs] at h
 simp only [vz, tyf, bK, bY, cl, bk, nm, seval]
 refine dktA (Kq _ _ _ _ Pv) ?_
 refine bJ (fun tm => tm 13 = .sl (aa eI dh) (List.length dh) false ∧ tm 18 = .sl (aa eI mX) (List.length mX) false ∧ True) (by refine ⟨bK, ?_, trivial⟩ <;> first | (simp only [ua, bK, bY, cl, bk, nm, seval] <;> rfl) | rfl) ?_
 rintro tm ⟨ck, cu, _⟩
 cases fv : (aC dh)
 ·simp only [fv, hs] at h
  exact absurd h kN
 simp only [fv, hs] at h
 simp only [vz, tyf, ck, cu, fv, nm, seval]
 obtain ⟨Pw, h, Px, uK, Py, lQ⟩ := eN h kN
 obtain ⟨Pz, Fz, h⟩ := call3 h
 obtain ⟨P0, lR⟩ : ∃ I : Nat → St → Prop, I = (fun m st => ∃ (j3 : List Int) (ct : Int) (bT : List GSpan) (iP : VV), m = List.length j3 ∧ 0 ≤ ct ∧ List.drop (Int.toNat ct) dh = j3 ∧ st.df = [] ∧ 16 ≤ st.nx ∧ st.tm 5 = .sl (aa eI dh) (List.length dh) false ∧ st.tm 6 = .sl (aa eI mX) (List.length mX) false ∧ st.tm 7 = iP ∧ st.tm 8 = .lit (.int .i64 ct) ∧ ((∃ (β : Nat) (el : Option TypeId), iP = .ref β 0 (List.length bT) 2 (List.length bT) ∧ β < st.nx ∧ st.H β = some (.cells el (aa au bT))) ∨ (iP = .lit (.slice none 0 0) ∧ bT = [])) ∧ Pw (Pz j3 ct bT)) := ⟨_, rfl⟩
 refine loopK mixed (by kernel_rfl) P0 (List.length dh) (by rw [lR]; refine ⟨dh, 0, ([] : List GSpan), .lit (.slice none 0 0), rfl, Int.le_refl _, rfl, rfl, (show 16 ≤ 16 by omega), ?_, ?_, ?_, ?_, Or.inr ⟨rfl, rfl⟩, h⟩ <;> first | (simp only [ua, ck, cu, nm, seval] <;> rfl) | rfl) ?_
 rintro m ⟨tm, H, iD, df⟩ hinv
 rw [lR] at hinv
 obtain ⟨j3, ct, bT, iP, rfl, eD, fJ, hdf, F0, dM, dY, fE, fG, kj, h⟩ := hinv
 simp only at hdf F0 dM dY fE fG kj
 have eM := fj (m := 16) (b := iD) (by omega)
 subst hdf Fz
 rcases kj with ⟨mY, kl, rfl, F1, jr⟩ | ⟨rfl, rfl⟩
 ·have il := hY F1
  cases j3 with
  | nil =>
   have tq : (decide (ct < (List.length dh : Int))) = false := eg eD fJ
   simp only [kR, hs, reduceCtorEq] at h
   replace h := uK _ h
   try dsimp only at h
   try simp only [hs] at h
   try simp only [vz, tyf, fv, eM, dM, dY, fE, fG, il, jr, tq, nm, seval]
   refine cL (x := (.ref mY 0 (List.length bT) 2 (List.length bT))) (by first | (simp only [Tryz.results26, resV, resL, resV1, cD, cE, uw, cr, tyf, fv, eM, il, jr, tq, nm, seval] <;> rfl) | rfl) ?_
   obtain rfl := kF _ h
   refine fN ?_ ?_
   ·simp only [tre, tytre, Bool.and_self]
   ·first | (simp only [outV, uw, fY, cr, tyf, nrm, aL, fv, eM, dM, dY, fE, fG, il, jr, tq, nm, seval] <;> rfl) | rfl
  | cons dm j3 =>
   have h9 : (decide (ct < (List.length dh : Int))) = true := eh eD fJ
   have ia := cX eD fJ
   have ib := dO eD fJ fv
   simp only [kR, hs, reduceCtorEq] at h
   simp only [vz, tyf, fv, eM, dM, dY, fE, fG, il, jr, h9, (aB ia), ib, nm, seval]
   refine lX (fun tm => tm 5 = .sl (aa eI dh) (List.length dh) false ∧ tm 6 = .sl (aa eI mX) (List.length mX) false ∧ tm 7 = .ref mY 0 (List.length bT) 2 (List.length bT) ∧ tm 8 = .lit (.int .i64 ct) ∧ True) (by refine ⟨dM, dY, fE, fG, trivial⟩ <;> first | (simp only [ua, eM, dM, dY, fE, fG, il, jr, h9, ib, nm, seval] <;> rfl) | rfl) ?_
   rintro tm ⟨cy, cZ, cF, cv, _⟩
   obtain ⟨uL, pa, h⟩ := optI h lQ
   try simp only [hs] at h
   cases mZ : (roomOk 16 (List.length (bT ++ [(GSpan.mk dm uL)])))
   ·simp only [mZ, hs] at h
    exact absurd h lQ
   simp only [mZ, hs] at h
   simp only [vz, tyf, fv, eM, il, jr, h9, (aB ia), ib, cy, cZ, cF, cv, (aB pa), mZ, nm, seval]
   refine k_app (w := 2) (enc := au) (xs := bT) (ys := ([(GSpan.mk dm uL)])) (el := kl) (gq := (some 35)) (fun _ => rfl) lu lv Tryz.underlying31 (by first | rfl | assumption | (simp only [aV, aX, ij, eM, il, jr, nm, seval] <;> rfl) | (simp only [aV, aX, dp, dL, dv, dw, tyf, fv, eM, il, jr, h9, (aB ia), ib, cy, cZ, cF, cv, (aB pa), mZ, nm, seval]; done)) (by first | rfl | assumption | (simp only [aV, aX, ij, eM, il, jr, nm, seval] <;> rfl) | (simp only [aV, aX, dp, dL, dv, dw, tyf, fv, eM, il, jr, h9, (aB ia), ib, cy, cZ, cF, cv, (aB pa), mZ, nm, seval]; done)) (Nat.zero_lt_succ _) mZ ?_
   simp only [vz, tyf, fv, eM, il, jr, h9, (aB ia), ib, cy, cZ, cF, cv, (aB pa), mZ, nm, seval]
   refine lY ⟨?_, ?_⟩
   ·simp only [lZ, ma, gX, mb, and_true, true_and]
    repeat' (first | exact trivial | refine And.intro ?_ ?_ | rw [gX] | rw [mc] | exact Or.inl (by decide +kernel) | exact Or.inl (by dsimp only; decide +kernel) | (refine Or.inr ⟨?_, ?_⟩ <;> simp; done) | (refine Or.inr ⟨?_, ?_⟩ <;> simp <;> omega) | (refine Or.inr ⟨?_, ?_⟩ <;> simp [VEff.wr] <;> omega))
   simp only [vz, tyf, fv, eM, il, jr, h9, (aB ia), ib, cy, cZ, cF, cv, (aB pa), mZ, nm, seval]
   exact ⟨List.length j3, Nat.lt_succ_self _, by rw [lR]; refine ⟨j3, ct + 1, (bT ++ [(GSpan.mk dm uL)]), .ref (iD + 15) 0 (List.length (bT ++ [(GSpan.mk dm uL)])) 2 (List.length (bT ++ [(GSpan.mk dm uL)])), rfl, Int.le_trans eD (Int.le_add_one (Int.le_refl _)), bV eD fJ, rfl, (show 16 ≤ iD + 20 by omega), cy, cZ, ?_, ?_, Or.inl ⟨iD + 15, (sameEl kl 35), rfl, (by first | omega | (simp only [nm, seval]; done) | (simp only [nm, seval]; omega)), ?_⟩, (by first | exact h | (simp only [h9]; exact h))⟩ <;> first | (simp only [ua, eM, il, jr, h9, ib, cy, cZ, cF, cv, nm, seval] <;> rfl) | rfl⟩
 ·cases j3 with
  | nil =>
   have fF : (decide (ct < (List.length dh : Int))) = false := eg eD fJ
   simp only [kR, hs, reduceCtorEq] at h
   replace h := uK _ h
   try dsimp only at h
   try simp only [hs] at h
   try simp only [vz, tyf, fv, eM, dM, dY, fE, fG, fF, nm, seval]
   refine cL (x := (.lit (.slice none 0 0))) (by first | (simp only [Tryz.results26, resV, resL, resV1, cD, cE, uw, cr, tyf, fv, eM, fF, nm, seval] <;> rfl) | rfl) ?_
   obtain rfl := kF _ h
   refine fN ?_ ?_
   ·simp only [tre, tytre, Bool.and_self]
   ·first | (simp only [outV, uw, fY, cr, tyf, nrm, aL, fv, eM, dM, dY, fE, fG, fF, nm, seval] <;> rfl) | rfl
  | cons dm j3 =>
   have gz : (decide (ct < (List.length dh : Int))) = true := eh eD fJ
   have m5 := cX eD fJ
   have pF := dO eD fJ fv
   simp only [kR, hs, reduceCtorEq] at h
   simp only [vz, tyf, fv, eM, dM, dY, fE, fG, gz, (aB m5), pF, nm, seval]
   refine lX (fun tm => tm 5 = .sl (aa eI dh) (List.length dh) false ∧ tm 6 = .sl (aa eI mX) (List.length mX) false ∧ tm 7 = .lit (.slice none 0 0) ∧ tm 8 = .lit (.int .i64 ct) ∧ True) (by refine ⟨dM, dY, fE, fG, trivial⟩ <;> first | (simp only [ua, eM, dM, dY, fE, fG, gz, pF, nm, seval] <;> rfl) | rfl) ?_
   rintro tm ⟨fl, fu, fU, gk, _⟩
   obtain ⟨hX, gB, h⟩ := optI h lQ
   try simp only [hs] at h
   cases pG : (roomOk 16 (List.length (([] : List GSpan) ++ [(GSpan.mk dm hX)])))
   ·simp only [pG, hs] at h
    exact absurd h lQ
   simp only [pG, hs] at h
   simp only [vz, tyf, fv, eM, gz, (aB m5), pF, fl, fu, fU, gk, (aB gB), pG, nm, seval]
   refine nk (w := 2) (enc := au) (ys := ([(GSpan.mk dm hX)])) (gq := (some 35)) (fun _ => rfl) lu lv Tryz.underlying31 (by first | rfl | assumption | (simp only [aV, aX, ij, eM, nm, seval] <;> rfl) | (simp only [aV, aX, dp, dL, dv, dw, tyf, fv, eM, gz, (aB m5), pF, fl, fu, fU, gk, (aB gB), pG, nm, seval]; done)) (Nat.zero_lt_succ _) pG ?_
   simp only [vz, tyf, fv, eM, gz, (aB m5), pF, fl, fu, fU, gk, (aB gB), pG, nm, seval]
   refine lY ⟨?_, ?_⟩
   ·simp only [lZ, ma, gX, mb, and_true, true_and]
    repeat' (first | exact trivial | refine And.intro ?_ ?_ | rw [gX] | rw [mc] | exact Or.inl (by decide +kernel) | exact Or.inl (by dsimp only; decide +kernel) | (refine Or.inr ⟨?_, ?_⟩ <;> simp; done) | (refine Or.inr ⟨?_, ?_⟩ <;> simp <;> omega) | (refine Or.inr ⟨?_, ?_⟩ <;> simp [VEff.wr] <;> omega))
   simp only [vz, tyf, fv, eM, gz, (aB m5), pF, fl, fu, fU, gk, (aB gB), pG, nm, seval]
   exact ⟨List.length j3, Nat.lt_succ_self _, by rw [lR]; refine ⟨j3, ct + 1, (([] : List GSpan) ++ [(GSpan.mk dm hX)]), .ref (iD + 15) 0 (List.length (([] : List GSpan) ++ [(GSpan.mk dm hX)])) 2 (List.length (([] : List GSpan) ++ [(GSpan.mk dm hX)])), rfl, Int.le_trans eD (Int.le_add_one (Int.le_refl _)), bV eD fJ, rfl, (show 16 ≤ iD + 20 by omega), fl, fu, ?_, ?_, Or.inl ⟨iD + 15, (some 35), rfl, (by first | omega | (simp only [nm, seval]; done) | (simp only [nm, seval]; omega)), ?_⟩, (by first | exact h | (simp only [gz]; exact h))⟩ <;> first | (simp only [ua, eM, gz, pF, fl, fu, fU, gk, nm, seval] <;> rfl) | rfl⟩
end Go.V
end
