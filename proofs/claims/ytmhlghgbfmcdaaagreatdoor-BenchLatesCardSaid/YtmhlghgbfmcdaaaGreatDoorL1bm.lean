/- Part of a proof. -/
import Derived.Test.YtmhlghgbfmcdaaaGreatDoorL1bl
set_option linter.all false
set_option maxRecDepth 4000
set_option maxHeartbeats 40000000
section
namespace Go.V
open Go Go.Proofs IntKind
def eV (x : VV) : List VV := [x]
theorem eV_eq {x : VV} : eV x = [x] := rfl
theorem ui : ∀ xs : List VV, aa eV xs = xs
  | [] => rfl
  | x :: xs => by rw [cP, ui xs]; rfl
theorem Cp : appOk Tryz.prog 71 = some (22, 1, 24) := by kernel_rfl
theorem ixoV {xs : List VV} {x : VV} {i : Int} (h : getI xs i = some x) : (∀ (H : Nat → Option VObj) (β c : Nat) (k : IntKind), aq Tryz.prog H 71 (.ref β 0 xs.length 1 c) (.lit (.int k i)) = if (H β).isSome = true then some (.ptr β (i.toNat * 1)) else none) ∧ (aa eV xs).drop (i.toNat * 1) = eV x ++ aa eV (xs.drop (i.toNat + 1)) ∧ (i.toNat * 1 ≤ (aa eV xs).length) = True := ixO Tryz.underlying71 (by kernel_rfl : szT Tryz.prog 22 = some 1) (fun _ => rfl) h
theorem cT {xs : List (List Int)} {x : List Int} {i : Int} (h : getI xs i = some x) : (∀ (H : Nat → Option VObj) (β c : Nat) (k : IntKind), aq Tryz.prog H 71 (.ref β 0 xs.length 1 c) (.lit (.int k i)) = if (H β).isSome = true then some (.ptr β (i.toNat * 1)) else none) ∧ (aa (eSl eI) xs).drop (i.toNat * 1) = (eSl eI) x ++ aa (eSl eI) (xs.drop (i.toNat + 1)) ∧ (i.toNat * 1 ≤ (aa (eSl eI) xs).length) = True := ixO Tryz.underlying71 (by kernel_rfl : szT Tryz.prog 22 = some 1) (fun _ => rfl) h
def l6 (b : GBk) (plan : List Int) (i : Int) : Nat → Int → List Int → Option (List Int)
 | 0, _, w => some w
 | m + 1, k, w => Option.bind (sh b plan k i) (fun r => cond r (cond (aC 8 (w ++ [k]).length) (l6 b plan i m (k + 1) (w ++ [k])) none) (l6 b plan i m (k + 1) w))
def mn (b : GBk) (plan : List Int) : Nat → Int → List (List Int) → List Int → Option (List (List Int) × List Int)
 | 0, _, pre, bg => some (pre, bg)
 | m + 1, i, pre, bg => Option.bind (l6 b plan i i.toNat 0 []) (fun w => mn b plan m (i + 1) (pre ++ [w]) (List.set bg i.toNat (-1)))
def ou (xh : List Int) (bO : Int) (dG : List Int) : List Int → Int → Option (LOut (Bool) (Unit))
 | [], uj => some (.go ())
 | e2 :: p2, uj => Option.bind (getI dG e2) (fun Ku => cond (decide (Ku < 0)) (some (.ret false)) (Option.bind (getI xh e2) (fun uk => cond (decide ((i64.wrap (Ku + uk)) > bO)) (some (.ret false)) (ou xh bO dG p2 (uj + 1)))))
def mo (bf : List (List Int)) (ae : List Int) (xh : List Int) (bO : Int) : List Int → Int → Int → (List Int) → Option (LOut (List Int) (Int × (List Int)))
 | [], eR, gY, dG => some (.go (gY, dG))
 | e1 :: p1, eR, gY, dG => Option.bind (getI dG eR) (fun Cq => cond (decide (Cq < 0)) (Option.bind (getI bf eR) (fun Kv => cond (au Kv) (lbind (ou xh bO dG Kv 0) (fun l7 => cond (l7) (mo bf ae xh bO p1 (eR + 1) (i64.wrap (gY - 1)) (List.set dG (Int.toNat eR) bO)) (mo bf ae xh bO p1 (eR + 1) gY dG)) (fun SG => mo bf ae xh bO p1 (eR + 1) (i64.wrap (gY - 1)) (List.set dG (Int.toNat eR) bO)) (fun _ _ => none)) none)) (mo bf ae xh bO p1 (eR + 1) gY dG))
def nn (bf : List (List Int)) (ae : List Int) (xh : List Int) : Nat → Int → Int → (List Int) → Option (LOut (List Int) (Int × Int × (List Int)))
 | 0, _, _, _ => none
 | k0 + 1, dh, bO, bx => cond (decide (dh > 0)) (cond (au ae) (lbind (mo bf ae xh bO ae 0 dh bx) (fun xq => some (.ret xq)) (fun Kw => nn bf ae xh k0 Kw.1 (i64.wrap (bO + 1)) Kw.2) (fun _ _ => none)) none) (some (.go (dh, bO, bx)))
def si (ag : GBk) (ae : List Int) (xh : List Int) : Option (List Int) := cond (mkOk 8 (List.length ae : Int)) (cond (mkOk 24 (List.length ae : Int)) (cond (au ae) (Option.bind (mn ag ae ae.length 0 [] (List.replicate (Int.toNat (List.length ae : Int)) 0)) (fun rw => lbind (nn rw.1 ae xh 1000000 (List.length ae : Int) 0 rw.2) (fun dD => some dD) (fun NH => some NH.2.2) (fun _ _ => none))) none) none) none
theorem Kx (ag : GBk) (ae : List Int) (xh : List Int) (R : List Int) (h : si ag ae xh = some R) : ai Tryz.prog G0 78 [.agg (cGBk ag), .sl (aa eI ae) (List.length ae) false, .sl (aa eI xh) (List.length xh) false] (.own (aa eI R) R.length 1) := by
 refine ai.run mixed Tryz.call78 Tryz.func78 rfl (by simp [Tryz.ntmps78]; kernel_rfl) ?_
 obtain ⟨KF, h, kF, kN⟩ := cO h
 simp only [si] at h
 cases dy : (mkOk 8 (List.length ae : Int))
 ·simp only [dy, hs] at h
  exact absurd h kN
 simp only [dy, hs] at h
 try simp only [vz, tyf, dy, nm, seval]
 refine k_mkS (enc := eI) (z := (0 : Int)) ei (by kernel_rfl) rfl (by first | (simp only [pT, pU, pV, oc, dy, nm, seval] <;> rfl) | rfl) (by first | (simp only [pT, pU, pV, oc, dy, nm, seval] <;> rfl) | rfl) dy ?_
 cases dS : (mkOk 24 (List.length ae : Int))
 ·simp only [dS, hs] at h
  exact absurd h kN
 simp only [dS, hs] at h
 try simp only [vz, tyf, dy, dS, nm, seval]
 refine k_mkS (enc := eV) (z := .lit (.slice none 0 0)) Cp (by kernel_rfl) rfl (by first | (simp only [pT, pU, pV, oc, dy, dS, nm, seval] <;> rfl) | rfl) (by first | (simp only [pT, pU, pV, oc, dy, dS, nm, seval] <;> rfl) | rfl) dS ?_
 simp only [vz, tyf, dy, dS, nm, seval]
 cases gl : au ae
 ·simp only [gl, hs] at h
  exact absurd h kN
 simp only [gl, hs] at h
 rcases ob : mn ag ae ae.length 0 [] (List.replicate (Int.toNat (List.length ae : Int)) 0) with _ | ⟨bf, bg⟩
 ·simp only [ob, hs] at h
  exact absurd h kN
 simp only [ob, hs] at h
 obtain ⟨IA, hIA⟩ : ∃ I : Nat → St → Prop, I = (fun m st => ∃ (p : List Int) (i : Int) (pre : List (List Int)) (jL : List Int) (xs : List VV), m = List.length p ∧ 0 ≤ i ∧ List.drop (Int.toNat i) ae = p ∧ pre.length = i.toNat ∧ jL.length = ae.length ∧ xs = aa (eSl eI) pre ++ List.replicate m (.lit (.slice none 0 0)) ∧ i.toNat + m = ae.length ∧ mn ag ae m i pre jL = some (bf, bg) ∧ st.df = [] ∧ 12 ≤ st.nx ∧ st.H 0 = some (.cells (some 25) (cGBk ag)) ∧ st.H 6 = some (.cells (some 3) (aa eI jL)) ∧ st.H 9 = some (.cells (some 22) (aa eV xs)) ∧ st.tm 1 = .sl (aa eI ae) (List.length ae) false ∧ st.tm 2 = .sl (aa eI xh) (List.length xh) false ∧ st.tm 3 = .ptr 0 0 ∧ st.tm 7 = .lit (.int .i64 (List.length ae : Int)) ∧ st.tm 8 = .ref 6 0 (List.length jL) 1 (List.length jL) ∧ st.tm 9 = .ref 9 0 (List.length xs) 1 (List.length xs) ∧ st.tm 10 = .lit (.int .i64 i)) := ⟨_, rfl⟩
 refine loopKL mixed (by kernel_rfl) IA (List.length ae) (by rw [hIA]; refine ⟨ae, 0, [], List.replicate (Int.toNat (List.length ae : Int)) 0, List.replicate (Int.toNat (List.length ae : Int)) (.lit (.slice none 0 0)), rfl, Int.le_refl _, rfl, rfl, (by simp), (by simp [db]), (by simp), ob, rfl, (show 12 ≤ 12 by omega), ?_, ?_, ?_, ?_, ?_, ?_, ?_, ?_, ?_, ?_⟩ <;> first | (simp only [ua, nm, seval] <;> rfl) | rfl) ?_
 rintro m ⟨tm, H, nxA, df⟩ hinv
 rw [hIA] at hinv
 obtain ⟨p, i, pre, jL, xs, rfl, hi, hp, hpre, hbg, hxs, hil, hrw, hdf, hnA, A0, A6, A9, a1, a2, a3, a7, a8, a9, pW⟩ := hinv
 simp only at hdf hnA A0 A6 A9 a1 a2 a3 a7 a8 a9 pW
 have nA := fg (m := 12) (b := nxA) (by omega)
 subst hdf
 have hxl : xs.length = ae.length := by
  rw [hxs, List.length_append, gV (w := 1) (enc := eSl eI) (fun _ => rfl), List.length_replicate]
  omega
 cases p with
 | nil =>
  have dA : (decide (i < (List.length ae : Int))) = false := dR hi hp
  simp only [List.length_nil, mn, Option.some.injEq, Prod.mk.injEq] at hrw
  obtain ⟨rfl, rfl⟩ := hrw
  simp only [List.length_nil, List.replicate_zero, List.append_nil] at hxs
  have NI : xs.length = pre.length := by rw [hxs, gV (w := 1) (enc := eSl eI) (fun _ => rfl)]; omega
  rw [NI] at a9
  rw [ui, hxs] at A9
  simp only [vz, tyf, dy, dS, nA, a1, a2, a3, a7, a8, a9, pW, A0, A6, A9, dA, nm, seval]
  obtain ⟨Cr, h, um, pX, Cs, l8⟩ := eN h kN
  obtain ⟨Ct, pY, h⟩ := call4 h
  obtain ⟨Cu, jz⟩ : ∃ I : Nat → St → Prop, I = (fun m st => ∃ (jh : Nat) (gd : Int) (ct : Int) (cH : List Int), jh = m ∧ st.df = [] ∧ 14 ≤ st.nx ∧ st.H 6 = some (.cells ((some 3)) (aa eI cH)) ∧ st.H 9 = some (.cells ((some 22)) (aa (eSl eI) pre)) ∧ st.tm 2 = .sl (aa eI xh) (List.length xh) false ∧ st.tm 7 = .lit (.int .i64 (List.length ae : Int)) ∧ st.tm 8 = .ref 6 0 (List.length cH) 1 (List.length cH) ∧ st.tm 9 = .ref 9 0 (List.length pre) 1 (List.length pre) ∧ st.tm 12 = .lit (.int .i64 gd) ∧ st.tm 13 = .lit (.int .i64 ct) ∧ Cr (Ct jh gd ct cH)) := ⟨_, rfl⟩
  refine loopK mixed (by kernel_rfl) Cu 1000000 (by rw [jz]; refine ⟨1000000, (List.length ae : Int), 0, jL, rfl, rfl, (show 14 ≤ nxA + 6 by omega), ?_, ?_, ?_, ?_, ?_, ?_, ?_, ?_, h⟩ <;> first | (simp only [ua, nA, a1, a2, a3, a7, a8, a9, pW, A0, A6, A9, dA, nm, seval] <;> rfl) | rfl) ?_
  rintro m ⟨tm, H, dp, df⟩ hinv
  rw [jz] at hinv
  obtain ⟨jh, gd, ct, cH, rfl, hdf, pZ, sj, fh, cQ, cG, ep, ez, di, dH, h⟩ := hinv
  simp only at hdf pZ sj fh cQ cG ep ez di dH
  have ov := fg (m := 14) (b := dp) (by omega)
  subst hdf pY
  cases jh with
  | zero =>
   simp only [nn, hs, reduceCtorEq] at h
   exact absurd h l8
  | succ jh =>
   simp only [nn, hs, reduceCtorEq] at h
   cases j0 : (decide (gd > 0))
   ·simp only [j0, hs] at h
    replace h := pX _ h
    try dsimp only at h
    try simp only [hs] at h
    try simp only [vz, tyf, dy, dS, ov, cQ, cG, ep, ez, di, dH, sj, fh, j0, nm, seval]
    obtain rfl := kF _ h
    exact ⟨rfl, .ref 6 0 (List.length cH) 1 (List.length cH), (by first | (simp only [Tryz.results78, resV, resL, resV1, cF, cE, uw, cr, tyf, dy, dS, ov, sj, fh, j0, nm, seval] <;> rfl) | rfl), (aa eI cH).length + 1, 6, _, aa eI cH, ⟨_, rfl⟩, sj, rU _ _ (eI_ok.treeL _) (Nat.lt_succ_self _)⟩
   simp only [j0, hs] at h
   cases qa : (au ae)
   ·simp only [qa, hs] at h
    exact absurd h l8
   simp only [qa, hs] at h
   simp only [vz, tyf, dy, dS, ov, cQ, cG, ep, ez, di, dH, sj, fh, j0, qa, nm, seval]
   obtain ⟨NJ, h, NK, Cv, NL, np⟩ := eN h l8
   obtain ⟨NM, Cw, h⟩ := call4 h
   obtain ⟨NN, kh⟩ : ∃ I : Nat → St → Prop, I = (fun m st => ∃ (jM : List Int) (bS : Int) (dI : Int) (bB : List Int), m = List.length jM ∧ 0 ≤ bS ∧ List.drop (Int.toNat bS) ae = jM ∧ st.df = [] ∧ dp + 3 ≤ st.nx ∧ st.H 6 = some (.cells ((some 3)) (aa eI bB)) ∧ st.H 9 = some (.cells ((some 22)) (aa (eSl eI) pre)) ∧ st.tm 2 = .sl (aa eI xh) (List.length xh) false ∧ st.tm 7 = .lit (.int .i64 (List.length ae : Int)) ∧ st.tm 8 = .ref 6 0 (List.length bB) 1 (List.length bB) ∧ st.tm 9 = .ref 9 0 (List.length pre) 1 (List.length pre) ∧ st.tm 13 = .lit (.int .i64 ct) ∧ st.tm 12 = .lit (.int .i64 dI) ∧ st.tm 14 = .lit (.int .i64 bS) ∧ NJ (NM jM bS dI bB)) := ⟨_, rfl⟩
   refine loopK mixed (by kernel_rfl) NN (List.length ae) (by rw [kh]; refine ⟨ae, 0, gd, cH, rfl, Int.le_refl _, rfl, rfl, (show dp + 3 ≤ dp + 3 by omega), ?_, ?_, cQ, cG, ep, ez, dH, di, ?_, h⟩ <;> first | (simp only [ua, ov, cQ, cG, ep, ez, di, dH, sj, fh, j0, nm, seval] <;> rfl) | rfl) ?_
   rintro m ⟨tm, H, ie, df⟩ hinv
   rw [kh] at hinv
   obtain ⟨jM, bS, dI, bB, rfl, fK, iK, hdf, Cx, uo, uq, bz, b4, bG, cy, eT, dT, dq, h⟩ := hinv
   simp only at hdf Cx uo uq bz b4 bG cy eT dT dq
   have xr := fg (m := 14) (b := ie) (by omega)
   have xt := nq (a := dp) (m := 3) (b := ie) (by omega)
   subst hdf Cw
   cases jM with
   | nil =>
    have fV : (decide (bS < (List.length ae : Int))) = false := dR fK iK
    simp only [mo, hs, reduceCtorEq] at h
    replace h := Cv _ h
    try dsimp only at h
    try simp only [hs] at h
    simp only [vz, tyf, dy, dS, ov, j0, qa, xr, xt, bz, b4, bG, cy, eT, dT, dq, uo, uq, fV, nm, seval]
    exact ⟨jh, Nat.lt_succ_self _, by rw [jz]; refine ⟨jh, dI, i64.wrap (ct + 1), bB, rfl, rfl, (show 14 ≤ ie + 6 by omega), ?_, ?_, bz, b4, bG, cy, dT, ?_, (by first | exact h | (simp only [j0, fV]; exact h))⟩ <;> first | (simp only [ua, ov, j0, xr, xt, bz, b4, bG, cy, eT, dT, dq, uo, uq, fV, nm, seval] <;> rfl) | rfl⟩
   | cons cR jM =>
    have fL : (decide (bS < (List.length ae : Int))) = true := dQ fK iK
    have i0 := cA fK iK
    have mr := dN fK iK qa
    simp only [mo, hs, reduceCtorEq] at h
    obtain ⟨NO, i5, h⟩ := optI h np
    try simp only [hs] at h
    cases xu : (decide (NO < 0))
    ·simp only [xu, hs] at h
     have Cy := And.intro dy (And.intro dS (And.intro ov (And.intro j0 (And.intro qa (And.intro xr (And.intro xt (And.intro uo (And.intro uq (And.intro fL (And.intro mr xu))))))))))
     simp only [vz, tyf, Cy, bz, b4, bG, cy, eT, dT, dq, (aj i0), (aY i5), nm, seval]
     exact ⟨List.length jM, Nat.lt_succ_self _, by rw [kh]; refine ⟨jM, bS + 1, dI, bB, rfl, Int.le_trans fK (Int.le_add_one (Int.le_refl _)), bJ fK iK, rfl, (show dp + 3 ≤ ie + 21 by omega), ?_, ?_, bz, b4, bG, cy, eT, dT, ?_, (by first | exact h | (simp only [Cy]; exact h))⟩ <;> first | (simp only [ua, Cy, bz, b4, bG, cy, eT, dT, dq, nm, seval] <;> rfl) | rfl⟩
    simp only [xu, hs] at h
    have l9 := And.intro dy (And.intro dS (And.intro ov (And.intro j0 (And.intro qa (And.intro xr (And.intro xt (And.intro uo (And.intro uq (And.intro fL (And.intro mr xu))))))))))
    obtain ⟨ji, i6, h⟩ := optI h np
    try simp only [hs] at h
    try simp only [vz, tyf, l9, bz, b4, bG, cy, eT, dT, dq, (aj i0), (aY i5), (cT i6), nm, seval]
    refine kopen ?_
    rw [Cz]
    refine ar.run mixed Tryz.call109 Tryz.func109 rfl (by simp [Tryz.ntmps109]; kernel_rfl) ?_
    cases nr : (au ji)
    ·simp only [nr, hs] at h
     exact absurd h np
    simp only [nr, hs] at h
    simp only [vz, tyf, l9, (aj i0), (aY i5), (cT i6), nr, nm, seval]
    obtain ⟨NP, h, ur, C0, NQ, uu⟩ := eN h np
    obtain ⟨NR, C1, h⟩ := call2 h
    obtain ⟨NS, qb⟩ : ∃ I : Nat → St → Prop, I = (fun m st => ∃ (oy : List Int) (eU : Int), m = List.length oy ∧ 0 ≤ eU ∧ List.drop (Int.toNat eU) ji = oy ∧ st.df = [] ∧ ie + 20 ≤ st.nx ∧ st.H 6 = some (.cells ((some 3)) (aa eI bB)) ∧ st.H 9 = some (.cells ((some 22)) (aa (eSl eI) pre)) ∧ st.tm 0 = .sl (aa eI ji) (List.length ji) false ∧ st.tm 1 = .ref 6 0 (List.length bB) 1 (List.length bB) ∧ st.tm 2 = .sl (aa eI xh) (List.length xh) false ∧ st.tm 3 = .lit (.int .i64 ct) ∧ st.tm 9 = .lit (.int .i64 eU) ∧ NP (NR oy eU)) := ⟨_, rfl⟩
    refine loopK mixed (by kernel_rfl) NS (List.length ji) (by rw [qb]; refine ⟨ji, 0, rfl, Int.le_refl _, rfl, rfl, (show ie + 20 ≤ ie + 20 by omega), ?_, ?_, ?_, ?_, ?_, ?_, ?_, h⟩ <;> first | (simp only [ua, l9, nm, seval] <;> rfl) | rfl) ?_
    rintro m ⟨tm, H, j1, df⟩ hinv
    rw [qb] at hinv
    obtain ⟨oy, eU, rfl, ki, lA, hdf, C2, oz, o0, iL, iM, nt, gZ, ig, h⟩ := hinv
    simp only at hdf C2 oz o0 iL iM nt gZ ig
    have qc := fg (m := 14) (b := j1) (by omega)
    have qd := nq (a := dp) (m := 3) (b := j1) (by omega)
    have qe := nq (a := ie) (m := 20) (b := j1) (by omega)
    subst hdf C1
    cases oy with
    | nil =>
     have uv : (decide (eU < (List.length ji : Int))) = false := dR ki lA
     simp only [ou, hs, reduceCtorEq] at h
     replace h := C0 _ h
     try dsimp only at h
     try simp only [hs] at h
     try simp only [vz, tyf, l9, (aj i0), (aY i5), (cT i6), nr, qc, qd, qe, iL, iM, nt, gZ, ig, oz, o0, uv, nm, seval]
     refine cL (x := (.lit (.bool true))) (by first | (simp only [Tryz.results109, resV, resL, resV1, cF, cE, uw, cr, tyf, l9, (aj i0), (aY i5), (cT i6), nr, qc, qd, qe, oz, o0, uv, nm, seval] <;> rfl) | rfl) ?_
     have ux := setA (w := 1) (enc := eI) (fun _ => rfl) i5
     have qf := setB (w := 1) (enc := eI) ct (fun _ => rfl) i5
     simp only [vz, tyf, nm, seval] at qf
     have j2 := setC (w := 1) (enc := eI) bB (Int.toNat bS) ct (fun _ => rfl)
     simp only [vz, tyf, l9, (aj i0), (aY i5), (cT i6), nr, qc, qd, qe, oz, o0, uv, bz, b4, bG, cy, eT, dT, dq, ux, qf, j2, nm, seval]
     exact ⟨List.length jM, Nat.lt_succ_self _, by rw [kh]; refine ⟨jM, bS + 1, i64.wrap (dI - 1), (List.set bB (Int.toNat bS) ct), rfl, Int.le_trans fK (Int.le_add_one (Int.le_refl _)), bJ fK iK, rfl, (show dp + 3 ≤ j1 + 16 by omega), ?_, ?_, bz, b4, ?_, cy, eT, ?_, ?_, (by first | exact h | (simp only [l9, uv]; exact h))⟩ <;> first | (simp only [ua, l9, qc, qd, qe, oz, o0, uv, bz, b4, bG, cy, eT, dT, dq, ux, qf, j2, nm, seval] <;> rfl) | rfl⟩
    | cons nu oy =>
     have C3 : (decide (eU < (List.length ji : Int))) = true := dQ ki lA
     have mu := cA ki lA
     have C4 := dN ki lA nr
     simp only [ou, hs, reduceCtorEq] at h
     simp only [vz, tyf, l9, (aj i0), (aY i5), (cT i6), nr, qc, qd, qe, iL, iM, nt, gZ, ig, oz, o0, C3, (aj mu), C4, nm, seval]
     refine iD (fun tm => tm 0 = .sl (aa eI ji) (List.length ji) false ∧ tm 1 = .ref 6 0 (List.length bB) 1 (List.length bB) ∧ tm 2 = .sl (aa eI xh) (List.length xh) false ∧ tm 3 = .lit (.int .i64 ct) ∧ tm 9 = .lit (.int .i64 eU) ∧ True) (by refine ⟨iL, iM, nt, gZ, ig, trivial⟩ <;> first | (simp only [ua, l9, qc, qd, qe, iL, iM, nt, gZ, ig, oz, o0, C3, C4, nm, seval] <;> rfl) | rfl) ?_
     rintro tm ⟨mw, h9, hC, hD, i7, _⟩
     have kj := And.intro l9 (And.intro nr (And.intro qc (And.intro qd (And.intro qe (And.intro oz (And.intro o0 (And.intro C3 C4)))))))
     obtain ⟨Ky, qg, h⟩ := optI h uu
     try simp only [hs] at h
     cases j3 : (decide (Ky < 0))
     ·simp only [j3, hs] at h
      obtain ⟨NT, xv, h⟩ := optI h uu
      try simp only [hs] at h
      cases my : (decide ((i64.wrap (Ky + NT)) > ct))
      ·simp only [my, hs] at h
       simp only [vz, tyf, kj, (aj i0), (aY i5), (cT i6), (aj mu), mw, h9, hC, hD, i7, (aY qg), j3, (aj xv), my, nm, seval]
       exact ⟨List.length oy, Nat.lt_succ_self _, by rw [qb]; refine ⟨oy, eU + 1, rfl, Int.le_trans ki (Int.le_add_one (Int.le_refl _)), bJ ki lA, rfl, (show ie + 20 ≤ j1 + 34 by omega), ?_, ?_, mw, h9, hC, hD, ?_, (by first | exact h | (simp only [kj, j3, my]; exact h))⟩ <;> first | (simp only [ua, kj, mw, h9, hC, hD, i7, j3, my, nm, seval] <;> rfl) | rfl⟩
      simp only [my, hs] at h
      try simp only [vz, tyf, kj, (aj i0), (aY i5), (cT i6), (aj mu), mw, h9, hC, hD, i7, (aY qg), j3, (aj xv), my, nm, seval]
      refine cL (x := (.lit (.bool false))) (by first | (simp only [Tryz.results109, resV, resL, resV1, cF, cE, uw, cr, tyf, kj, (aj i0), (aY i5), (cT i6), (aj mu), (aY qg), j3, (aj xv), my, nm, seval] <;> rfl) | rfl) ?_
      replace h := ur _ h
      try dsimp only at h
      simp only [vz, tyf, kj, (aj i0), (aY i5), (cT i6), (aj mu), (aY qg), j3, (aj xv), my, bz, b4, bG, cy, eT, dT, dq, nm, seval]
      exact ⟨List.length jM, Nat.lt_succ_self _, by rw [kh]; refine ⟨jM, bS + 1, dI, bB, rfl, Int.le_trans fK (Int.le_add_one (Int.le_refl _)), bJ fK iK, rfl, (show dp + 3 ≤ j1 + 35 by omega), ?_, ?_, bz, b4, bG, cy, eT, dT, ?_, (by first | exact h | (simp only [kj, j3, my]; exact h))⟩ <;> first | (simp only [ua, kj, j3, my, bz, b4, bG, cy, eT, dT, dq, nm, seval] <;> rfl) | rfl⟩
     simp only [j3, hs] at h
     try simp only [vz, tyf, kj, (aj i0), (aY i5), (cT i6), (aj mu), mw, h9, hC, hD, i7, (aY qg), j3, nm, seval]
     refine cL (x := (.lit (.bool false))) (by first | (simp only [Tryz.results109, resV, resL, resV1, cF, cE, uw, cr, tyf, kj, (aj i0), (aY i5), (cT i6), (aj mu), (aY qg), j3, nm, seval] <;> rfl) | rfl) ?_
     replace h := ur _ h
     try dsimp only at h
     simp only [vz, tyf, kj, (aj i0), (aY i5), (cT i6), (aj mu), (aY qg), j3, bz, b4, bG, cy, eT, dT, dq, nm, seval]
     exact ⟨List.length jM, Nat.lt_succ_self _, by rw [kh]; refine ⟨jM, bS + 1, dI, bB, rfl, Int.le_trans fK (Int.le_add_one (Int.le_refl _)), bJ fK iK, rfl, (show dp + 3 ≤ j1 + 35 by omega), ?_, ?_, bz, b4, bG, cy, eT, dT, ?_, (by first | exact h | (simp only [kj, j3]; exact h))⟩ <;> first | (simp only [ua, kj, j3, bz, b4, bG, cy, eT, dT, dq, nm, seval] <;> rfl) | rfl⟩
 | cons e p =>
  have dA : (decide (i < (List.length ae : Int))) = true := dQ hi hp
  have wA := dN hi hp gl
  have hin : i.toNat < ae.length := by
   have := of_decide_eq_true dA
   omega
  rcases oA : getI jL i with _ | xA
  ·exfalso
   unfold getI at oA
   rw [if_pos hi] at oA
   have := List.getElem?_eq_none_iff.1 oA
   omega
  rw [List.length_cons] at hrw hxs
  simp only [mn] at hrw
  rcases hws : l6 ag ae i i.toNat 0 [] with _ | ws
  ·rw [hws] at hrw
   cases hrw
  rw [hws] at hrw
  simp only [Option.bind_some] at hrw
  have ux := setA (w := 1) (enc := eI) (fun _ => rfl) oA
  have qf := setB (w := 1) (enc := eI) (-1 : Int) (fun _ => rfl) oA
  simp only [vz, tyf, nm, seval] at qf
  have j2 := setC (w := 1) (enc := eI) jL (Int.toNat i) (-1 : Int) (fun _ => rfl)
  simp only [vz, tyf, dy, dS, nA, a1, a2, a3, a7, a8, a9, pW, A0, A6, A9, dA, (aY oA), ux, qf, j2, nm, seval]
  rw [List.replicate_succ] at hxs
  obtain ⟨IB, hIB⟩ : ∃ I : Nat → St → Prop, I = (fun m st => ∃ (k : Int) (w : List Int) (hd : VV) (ys : List VV), 0 ≤ k ∧ k.toNat + m = i.toNat ∧ ys = aa (eSl eI) pre ++ hd :: List.replicate p.length (.lit (.slice none 0 0)) ∧ l6 ag ae i m k w = some ws ∧ st.df = [] ∧ nxA ≤ st.nx ∧ st.H 0 = some (.cells (some 25) (cGBk ag)) ∧ st.H 6 = some (.cells (some 3) (aa eI (List.set jL (Int.toNat i) (-1)))) ∧ st.H 9 = some (.cells (some 22) (aa eV ys)) ∧ st.tm 1 = .sl (aa eI ae) (List.length ae) false ∧ st.tm 2 = .sl (aa eI xh) (List.length xh) false ∧ st.tm 3 = .ptr 0 0 ∧ st.tm 7 = .lit (.int .i64 (List.length ae : Int)) ∧ st.tm 8 = .ref 6 0 (List.length jL) 1 (List.length jL) ∧ st.tm 9 = .ref 9 0 (List.length ys) 1 (List.length ys) ∧ st.tm 10 = .lit (.int .i64 i) ∧ st.tm 11 = .lit (.int .i64 k) ∧ ((∃ (β : Nat) (el : Option TypeId), hd = .ref β 0 (List.length w) 1 (List.length w) ∧ β < st.nx ∧ β ≠ 0 ∧ β ≠ 6 ∧ β ≠ 9 ∧ st.H β = some (.cells el (aa eI w))) ∨ (hd = .lit (.slice none 0 0) ∧ w = []))) := ⟨_, rfl⟩
  refine loopK mixed (by kernel_rfl) IB i.toNat (by rw [hIB]; refine ⟨0, [], .lit (.slice none 0 0), xs, Int.le_refl _, (by simp), hxs, hws, rfl, Nat.le_add_right _ _, ?_, ?_, ?_, ?_, ?_, ?_, ?_, ?_, ?_, ?_, ?_, Or.inr ⟨rfl, rfl⟩⟩ <;> first | (simp only [ua, nA, a1, a2, a3, a7, a8, a9, pW, A0, A6, A9, dA, ux, qf, j2, nm, seval] <;> rfl) | rfl) ?_
  rintro m ⟨tm, H, nxB, df⟩ hinv
  rw [hIB] at hinv
  obtain ⟨k, w, hd, ys, hk, hkm, hys, hrow, hdf, hnB, B0, B6, B9, b1, b2, b3, b7, b8, b9, dU, dV, ow⟩ := hinv
  simp only at hdf hnB B0 B6 B9 b1 b2 b3 b7 b8 b9 dU dV ow
  have nB := fg (m := 12) (b := nxB) (by omega)
  subst hdf
  cases m with
  | zero =>
   have dB : decide (k < i) = false := decide_eq_false (by clear ow; omega)
   simp only [l6, Option.some.injEq] at hrow
   subst hrow
   have hki : k = i := by clear ow; omega
   have hzl : (aa (eSl eI) pre).length = i.toNat := by rw [gV (w := 1) (enc := eSl eI) (fun _ => rfl)]; clear ow; omega
   simp only [vz, tyf, dy, dS, nA, nB, b1, b2, b3, b7, b8, b9, dU, dV, B0, B6, B9, dA, dB, wA, nm, seval]
   rw [ui] at B9
   have hcl : aa (eSl eI) (pre ++ [w]) = aa (eSl eI) pre ++ [.sl (aa eI w) w.length false] := by rw [rT]; rfl
   rcases ow with ⟨β, el, rfl, nv, Kz, K1, qh, hβ⟩ | ⟨rfl, rfl⟩
   · refine ⟨p.length, Nat.lt_succ_self _, ⟨_, updH (without H β) 9 (.cells (some 22) (aa (eSl eI) pre ++ .sl (aa eI w) w.length false :: List.replicate p.length (.lit (.slice none 0 0)))), _, []⟩, Look.ghost (Ghost.mid hβ (by rw [B9, hys]) (Ne.symm qh) (eI_ok.treeL _) (gV (w := 1) (enc := eI) (fun _ => rfl) _)), ?_⟩
     rw [hIA]
     refine ⟨p, i + 1, pre ++ [w], List.set jL i.toNat (-1), aa (eSl eI) pre ++ .sl (aa eI w) w.length false :: List.replicate p.length (.lit (.slice none 0 0)), rfl, Int.le_trans hi (Int.le_add_one (Int.le_refl _)), bJ hi hp, ?_, ?_, ?_, ?_, hrw, rfl, ?_, ?_, ?_, ?_, ?_, ?_, ?_, ?_, ?_, ?_, ?_⟩
     · rw [List.length_append, List.length_singleton]; omega
     · rw [List.length_set]; exact hbg
     · rw [hcl, List.append_assoc]; rfl
     · rw [List.length_cons] at hil; omega
     · dsimp only; omega
     · dsimp only
       rw [aS, if_neg (by decide), aT, if_neg (by omega)]; exact B0
     · dsimp only
       rw [aS, if_neg (by decide), aT, if_neg (by omega)]; exact B6
     · dsimp only
       rw [aS, if_pos rfl, ui]
     · simp only [ua, nB, b1, b2, b3, b7, b8, b9, dU, dV, nm, seval]
     · simp only [ua, nB, b1, b2, b3, b7, b8, b9, dU, dV, nm, seval]
     · simp only [ua, nB, b1, b2, b3, b7, b8, b9, dU, dV, nm, seval]
     · simp only [ua, nB, b1, b2, b3, b7, b8, b9, dU, dV, nm, seval]
     · simp only [ua, nB, b1, b2, b3, b7, b8, b9, dU, dV, List.length_set, nm, seval]
     · simp only [ua, nB, b1, b2, b3, b7, b8, b9, dU, dV, nm, seval]; rw [hys]; simp only [List.length_append, List.length_cons]
     · simp only [ua, nB, b1, b2, b3, b7, b8, b9, dU, dV, wA, nm, seval]
   · refine ⟨p.length, Nat.lt_succ_self _, ⟨_, updH H 9 (.cells (some 22) (aa (eSl eI) pre ++ .sl [] 0 false :: List.replicate p.length (.lit (.slice none 0 0)))), _, []⟩, Look.nil (by rw [B9, hys]), ?_⟩
     rw [hIA]
     refine ⟨p, i + 1, pre ++ [[]], List.set jL i.toNat (-1), aa (eSl eI) pre ++ .sl [] 0 false :: List.replicate p.length (.lit (.slice none 0 0)), rfl, Int.le_trans hi (Int.le_add_one (Int.le_refl _)), bJ hi hp, ?_, ?_, ?_, ?_, hrw, rfl, ?_, ?_, ?_, ?_, ?_, ?_, ?_, ?_, ?_, ?_, ?_⟩
     · rw [List.length_append, List.length_singleton]; omega
     · rw [List.length_set]; exact hbg
     · rw [hcl, List.append_assoc]; rfl
     · rw [List.length_cons] at hil; omega
     · dsimp only; omega
     · dsimp only
       rw [aS, if_neg (by decide)]; exact B0
     · dsimp only
       rw [aS, if_neg (by decide)]; exact B6
     · dsimp only
       rw [aS, if_pos rfl, ui]
     · simp only [ua, nB, b1, b2, b3, b7, b8, b9, dU, dV, nm, seval]
     · simp only [ua, nB, b1, b2, b3, b7, b8, b9, dU, dV, nm, seval]
     · simp only [ua, nB, b1, b2, b3, b7, b8, b9, dU, dV, nm, seval]
     · simp only [ua, nB, b1, b2, b3, b7, b8, b9, dU, dV, nm, seval]
     · simp only [ua, nB, b1, b2, b3, b7, b8, b9, dU, dV, List.length_set, nm, seval]
     · simp only [ua, nB, b1, b2, b3, b7, b8, b9, dU, dV, nm, seval]; rw [hys]; simp only [List.length_append, List.length_cons]
     · simp only [ua, nB, b1, b2, b3, b7, b8, b9, dU, dV, wA, nm, seval]
  | succ m =>
   have dB : decide (k < i) = true := decide_eq_true (by clear ow; omega)
   have hkp : k.toNat < ae.length := by clear ow; omega
   have wB := dN hk (List.drop_eq_getElem_cons hkp) gl
   have oY : getI ys i = some hd := by
    have hzl : (aa (eSl eI) pre).length = i.toNat := by rw [gV (w := 1) (enc := eSl eI) (fun _ => rfl)]; clear ow; omega
    unfold getI
    rw [if_pos hi, hys, ← hzl, List.getElem?_append_right (Nat.le_refl _), Nat.sub_self]
    rfl
   have hset : ∀ v, List.set ys (Int.toNat i) v = aa (eSl eI) pre ++ v :: List.replicate p.length (.lit (.slice none 0 0)) := by
    intro v
    have hzl : (aa (eSl eI) pre).length = i.toNat := by rw [gV (w := 1) (enc := eSl eI) (fun _ => rfl)]; clear ow; omega
    rw [hys, ← hzl, List.set_append_right _ _ (Nat.le_refl _), Nat.sub_self]
    rfl
   simp only [l6] at hrow
   rcases of : sh ag ae k i with _ | r
   ·rw [of] at hrow
    cases hrow
   rw [of] at hrow
   simp only [Option.bind_some] at hrow
   simp only [vz, tyf, dy, dS, nA, nB, b1, b2, b3, b7, b8, b9, dU, dV, B0, B6, B9, dA, dB, wA, nm, seval]
   refine ktA (NU _ _ _ _ _ of) ?_
   have oB := setA (w := 1) (enc := eV) (fun _ => rfl) oY
   have nw := fun v => setB (w := 1) (enc := eV) v (fun _ => rfl) oY
   simp only [vz, tyf, eV_eq, nm, seval] at nw
   have oC := fun v => setC (w := 1) (enc := eV) ys (Int.toNat i) v (fun _ => rfl)
   rcases r with _ | _
   · simp only [cond_false] at hrow
     simp only [vz, tyf, dy, dS, nA, nB, b1, b2, b3, b7, b8, b9, dU, dV, B0, B6, B9, dA, dB, wA, wB, nm, seval]
     exact ⟨m, Nat.lt_succ_self _, by
      rw [hIB]
      refine ⟨k + 1, w, hd, ys, (by clear ow; omega), (by clear ow; omega), hys, hrow, rfl, (by dsimp only; clear ow; omega), ?_, ?_, ?_, ?_, ?_, ?_, ?_, ?_, ?_, ?_, ?_, ?_⟩
      rotate_right
      · rcases ow with ⟨β, el, h1, h2, h3, h4, h5, h6⟩ | h1
        · exact Or.inl ⟨β, el, h1, (by dsimp only; omega), h3, h4, h5, h6⟩
        · exact Or.inr h1
      all_goals first | (simp only [ua, dy, dS, nA, nB, b1, b2, b3, b7, b8, b9, dU, dV, B0, B6, B9, dA, dB, wA, wB, nm, seval] <;> rfl) | rfl⟩
   · simp only [cond_true] at hrow
     cases gr : (aC 8 (List.length (w ++ [k])))
     · rw [gr] at hrow
       cases hrow
     rw [gr] at hrow
     simp only [cond_true] at hrow
     rcases ow with ⟨β, el, rfl, nv, Kz, K1, qh, hβ⟩ | ⟨rfl, rfl⟩
     · have q1 := gF nv
       have q2 := ne_f Kz
       have q3 := ne_f K1
       have q4 := ne_f qh
       simp only [vz, tyf, dy, dS, nA, nB, b1, b2, b3, b7, b8, b9, dU, dV, B0, B6, B9, dA, dB, wA, wB, (ixoV oY), eV_eq, oB, nw, oC, q1, q2, q3, q4, hβ, nm, seval]
       refine k_app (w := 1) (enc := eI) (xs := w) (ys := [k]) (el := el) (ff := (some 3)) (fun _ => rfl) eP ei Tryz.underlying22 (by first | rfl | assumption | (simp only [aS, aT, ca, dy, dS, nA, nB, b1, b2, b3, b7, b8, b9, dU, dV, B0, B6, B9, dA, dB, wA, wB, q1, q2, q3, q4, hβ, nm, seval] <;> rfl) | (simp only [aS, aT, cP, db, cY, cZ, tyf, dy, dS, nA, nB, b1, b2, b3, b7, b8, b9, dU, dV, B0, B6, B9, dA, dB, wA, wB, q1, q2, q3, q4, hβ, nm, seval]; done)) (by first | rfl | assumption | (simp only [aS, aT, ca, dy, dS, nA, nB, b1, b2, b3, b7, b8, b9, dU, dV, B0, B6, B9, dA, dB, wA, wB, q1, q2, q3, q4, hβ, nm, seval] <;> rfl) | (simp only [aS, aT, cP, db, cY, cZ, tyf, dy, dS, nA, nB, b1, b2, b3, b7, b8, b9, dU, dV, B0, B6, B9, dA, dB, wA, wB, q1, q2, q3, q4, hβ, nm, seval]; done)) (Nat.zero_lt_succ _) gr ?_
       simp only [vz, tyf, dy, dS, nA, nB, b1, b2, b3, b7, b8, b9, dU, dV, B0, B6, B9, dA, dB, wA, wB, (ixoV oY), eV_eq, oB, nw, oC, q1, q2, q3, q4, hβ, gr, nm, seval]
       exact ⟨m, Nat.lt_succ_self _, by
        rw [hIB]
        refine ⟨k + 1, w ++ [k], .ref (nxB + 16) 0 (List.length (w ++ [k])) 1 (List.length (w ++ [k])), List.set ys (Int.toNat i) (.ref (nxB + 16) 0 (List.length (w ++ [k])) 1 (List.length (w ++ [k]))), (by omega), (by omega), hset _, hrow, rfl, (by dsimp only; omega), ?_, ?_, ?_, ?_, ?_, ?_, ?_, ?_, ?_, ?_, ?_, Or.inl ⟨nxB + 16, sameEl el 3, rfl, (by dsimp only; omega), (by omega), (by omega), (by omega), ?_⟩⟩
        all_goals first | (simp only [ua, dy, dS, nA, nB, b1, b2, b3, b7, b8, b9, dU, dV, B0, B6, B9, dA, dB, wA, wB, (ixoV oY), eV_eq, oB, nw, oC, q1, q2, q3, q4, hβ, nm, seval] <;> rfl) | (simp only [ua, dy, dS, nA, nB, b1, b2, b3, b7, b8, b9, dU, dV, B0, B6, B9, dA, dB, wA, wB, (ixoV oY), eV_eq, oB, nw, oC, q1, q2, q3, q4, hβ, List.length_set, nm, seval] <;> rfl) | rfl⟩
     · simp only [vz, tyf, dy, dS, nA, nB, b1, b2, b3, b7, b8, b9, dU, dV, B0, B6, B9, dA, dB, wA, wB, (ixoV oY), eV_eq, oB, nw, oC, nm, seval]
       refine kJ (w := 1) (enc := eI) (ys := [k]) (ff := (some 3)) (fun _ => rfl) eP ei Tryz.underlying22 (by first | rfl | assumption | (simp only [aS, aT, ca, dy, dS, nA, nB, b1, b2, b3, b7, b8, b9, dU, dV, B0, B6, B9, dA, dB, wA, wB, nm, seval] <;> rfl) | (simp only [aS, aT, cP, db, cY, cZ, tyf, dy, dS, nA, nB, b1, b2, b3, b7, b8, b9, dU, dV, B0, B6, B9, dA, dB, wA, wB, nm, seval]; done)) (Nat.zero_lt_succ _) gr ?_
       simp only [vz, tyf, dy, dS, nA, nB, b1, b2, b3, b7, b8, b9, dU, dV, B0, B6, B9, dA, dB, wA, wB, (ixoV oY), eV_eq, oB, nw, oC, gr, nm, seval]
       exact ⟨m, Nat.lt_succ_self _, by
        rw [hIB]
        refine ⟨k + 1, [k], .ref (nxB + 16) 0 (List.length ([k])) 1 (List.length ([k])), List.set ys (Int.toNat i) (.ref (nxB + 16) 0 (List.length ([k])) 1 (List.length ([k]))), (by omega), (by omega), hset _, hrow, rfl, (by dsimp only; omega), ?_, ?_, ?_, ?_, ?_, ?_, ?_, ?_, ?_, ?_, ?_, Or.inl ⟨nxB + 16, some 3, rfl, (by dsimp only; omega), (by omega), (by omega), (by omega), ?_⟩⟩
        all_goals first | (simp only [ua, dy, dS, nA, nB, b1, b2, b3, b7, b8, b9, dU, dV, B0, B6, B9, dA, dB, wA, wB, (ixoV oY), eV_eq, oB, nw, oC, nm, seval] <;> rfl) | (simp only [ua, dy, dS, nA, nB, b1, b2, b3, b7, b8, b9, dU, dV, B0, B6, B9, dA, dB, wA, wB, (ixoV oY), eV_eq, oB, nw, oC, List.length_set, nm, seval] <;> rfl) | rfl⟩
def qi (xh : List Int) : Nat → Int → (List Int) → Option (LOut (List Int) (Int × (List Int)))
 | 0, _, _ => none
 | k0 + 1, cl, bx => cond (decide (cl < (List.length bx : Int))) (Option.bind (getI bx cl) (fun x3 => Option.bind (getI xh cl) (fun x4 => qi xh k0 (i64.wrap (cl + 1)) (List.set bx (Int.toNat cl) (i64.wrap (x3 + x4)))))) (some (.go (cl, bx)))
def sk (ag : GBk) (ae : List Int) (xh : List Int) : Option (List Int) := Option.bind (si ag ae xh) (fun r1 => cond (au r1) (lbind (qi xh 1000000 0 r1) (fun r6 => some r6) (fun c5 => some c5.2) (fun _ _ => none)) none)
theorem K2 (ag : GBk) (ae : List Int) (xh : List Int) (R : List Int) (h : sk ag ae xh = some R) : ai Tryz.prog G0 75 [.agg (cGBk ag), .sl (aa eI ae) (List.length ae) false, .sl (aa eI xh) (List.length xh) false] (.tree (.sl (aa eI R) (List.length R) false)) := by
 refine ai.runR mixed Tryz.call75 Tryz.func75 rfl (by simp [Tryz.ntmps75]; kernel_rfl) ?_
 obtain ⟨KF, h, kF, kN⟩ := cO h
 simp only [sk] at h
 obtain ⟨r7, o8, h⟩ := optI h kN
 try simp only [hs] at h
 simp only [vz, tyf, nm, seval]
 refine kown (args0 := [.agg (cGBk ag), .sl (aa eI ae) (List.length ae) false, .sl (aa eI xh) (List.length xh) false]) (by first | (simp only [nrm, aI] <;> rfl) | rfl) (by simp only [tre, tytre, Bool.and_self]) (Kx _ _ _ _ o8) ?_
 simp only [vz, tyf, nm, seval]
 cases gE : (au r7)
 ·simp only [gE, hs] at h
  exact absurd h kN
 simp only [gE, hs] at h
 obtain ⟨K9, h, NV, xw, NW, kP⟩ := eN h kN
 obtain ⟨f9, C5, h⟩ := call3 h
 obtain ⟨I9, kQ⟩ : ∃ I : Nat → St → Prop, I = (fun m st => ∃ (p9 : Nat) (iN : Int) (dj : List Int), p9 = m ∧ st.df = [] ∧ 8 ≤ st.nx ∧ st.H 5 = some (.cells (none) (aa eI dj)) ∧ st.tm 2 = .sl (aa eI xh) (List.length xh) false ∧ st.tm 7 = .ref 5 0 (List.length dj) 1 (List.length dj) ∧ st.tm 8 = .lit (.int .i64 iN) ∧ K9 (f9 p9 iN dj)) := ⟨_, rfl⟩
 refine loopK mixed (by kernel_rfl) I9 1000000 (by rw [kQ]; refine ⟨1000000, 0, r7, rfl, rfl, (show 8 ≤ 8 by omega), ?_, ?_, ?_, ?_, h⟩ <;> first | (simp only [ua, nm, seval] <;> rfl) | rfl) ?_
 rintro m ⟨tm, H, fE, df⟩ hinv
 rw [kQ] at hinv
 obtain ⟨p9, iN, dj, rfl, hdf, C6, ny, aZ, bh, aW, h⟩ := hinv
 simp only at hdf C6 ny aZ bh aW
 have jj := fg (m := 8) (b := fE) (by omega)
 subst hdf C5
 cases p9 with
 | zero =>
  simp only [qi, hs, reduceCtorEq] at h
  exact absurd h kP
 | succ p9 =>
  simp only [qi, hs, reduceCtorEq] at h
  cases fj : (decide (iN < (List.length dj : Int)))
  ·simp only [fj, hs] at h
   replace h := xw _ h
   try dsimp only at h
   try simp only [hs] at h
   try simp only [vz, tyf, jj, aZ, bh, aW, ny, fj, nm, seval]
   refine cL (x := (.ref 5 0 (List.length dj) 1 (List.length dj))) (by first | (simp only [Tryz.results75, resV, resL, resV1, cF, cE, uw, cr, tyf, jj, ny, fj, nm, seval] <;> rfl) | rfl) ?_
   obtain rfl := kF _ h
   refine gw ?_ ?_
   ·simp only [tre, tytre, Bool.and_self]
   ·first | (simp only [outV, uw, gG, cr, tyf, nrm, aI, jj, aZ, bh, aW, ny, fj, nm, seval] <;> rfl) | rfl
  simp only [fj, hs] at h
  simp only [vz, tyf, jj, aZ, bh, aW, ny, fj, nm, seval]
  refine mh (fun tm => tm 2 = .sl (aa eI xh) (List.length xh) false ∧ tm 7 = .ref 5 0 (List.length dj) 1 (List.length dj) ∧ tm 8 = .lit (.int .i64 iN) ∧ True) (by refine ⟨aZ, bh, aW, trivial⟩ <;> first | (simp only [ua, jj, aZ, bh, aW, ny, fj, nm, seval] <;> rfl) | rfl) ?_
  rintro tm ⟨bX, bR, bN, _⟩
  obtain ⟨C7, nz, h⟩ := optI h kP
  try simp only [hs] at h
  obtain ⟨uy, lB, h⟩ := optI h kP
  try simp only [hs] at h
  have lC := setA (w := 1) (enc := eI) (fun _ => rfl) nz
  have xx := setB (w := 1) (enc := eI) (i64.wrap (C7 + uy)) (fun _ => rfl) nz
  simp only [vz, tyf, nm, seval] at xx
  have kR := setC (w := 1) (enc := eI) dj (Int.toNat iN) (i64.wrap (C7 + uy)) (fun _ => rfl)
  simp only [vz, tyf, jj, ny, fj, bX, bR, bN, (aY nz), (aj lB), lC, xx, kR, nm, seval]
  refine mz ⟨?_, ?_⟩
  ·simp only [m0, m2, hJ, m3, and_true, true_and]
   repeat' (first | exact trivial | refine And.intro ?_ ?_ | rw [hJ] | rw [m4] | exact Or.inl (by decide +kernel) | exact Or.inl (by dsimp only; decide +kernel) | (refine Or.inr ⟨?_, ?_⟩ <;> simp; done) | (refine Or.inr ⟨?_, ?_⟩ <;> simp <;> omega) | (refine Or.inr ⟨?_, ?_⟩ <;> simp [VEff.wr] <;> omega))
  simp only [vz, tyf, jj, ny, fj, bX, bR, bN, (aY nz), (aj lB), lC, xx, kR, nm, seval]
  exact ⟨p9, Nat.lt_succ_self _, by rw [kQ]; refine ⟨p9, i64.wrap (iN + 1), (List.set dj (Int.toNat iN) (i64.wrap (C7 + uy))), rfl, rfl, (show 8 ≤ fE + 20 by omega), ?_, bX, ?_, ?_, (by first | exact h | (simp only [fj]; exact h))⟩ <;> first | (simp only [ua, jj, ny, fj, bX, bR, bN, lC, xx, kR, nm, seval] <;> rfl) | rfl⟩
def m5 (aX : Bool) : List GBs → Int → (List Int) → Option (LOut (List Int) ((List Int)))
 | [], dr, bL => some (.go bL)
 | e0 :: p0, dr, bL => cond (aX) (cond (aC 8 (List.length (bL ++ [e0.Hours.High]))) (m5 aX p0 (dr + 1) (bL ++ [e0.Hours.High])) none) (cond (aC 8 (List.length (bL ++ [e0.Hours.Low]))) (m5 aX p0 (dr + 1) (bL ++ [e0.Hours.Low])) none)
def qj (ag : GBk) (aX : Bool) : Option (List Int) := cond (au ag.Strokes) (lbind (m5 aX ag.Strokes 0 ([] : List Int)) (fun r2 => some r2) (fun c1 => some c1) (fun _ _ => none)) none
theorem C8 (ag : GBk) (aX : Bool) (R : List Int) (h : qj ag aX = some R) : ai Tryz.prog G0 33 [.agg (cGBk ag), .lit (.bool aX)] (.tree (.sl (aa eI R) (List.length R) false)) := by
 refine ai.runR mixed Tryz.call33 Tryz.func33 rfl (by simp [Tryz.ntmps33]; kernel_rfl) ?_
 obtain ⟨KF, h, kF, kN⟩ := cO h
 simp only [qj] at h
 cases g4 : (au ag.Strokes)
 ·simp only [g4, hs] at h
  exact absurd h kN
 simp only [g4, hs] at h
 simp only [vz, tyf, g4, nm, seval]
 obtain ⟨K3, h, uz, n0, C9, qk⟩ := eN h kN
 obtain ⟨f3, ql, h⟩ := call3 h
 obtain ⟨I3, i9⟩ : ∃ I : Nat → St → Prop, I = (fun m st => ∃ (p3 : List GBs) (fy : Int) (bT : List Int) (n2 : VV), m = List.length p3 ∧ 0 ≤ fy ∧ List.drop (Int.toNat fy) ag.Strokes = p3 ∧ st.df = [] ∧ 4 ≤ st.nx ∧ st.H 0 = some (.cells (some 25) (cGBk ag)) ∧ st.tm 1 = .lit (.bool aX) ∧ st.tm 2 = .ptr 0 0 ∧ st.tm 5 = n2 ∧ st.tm 6 = .lit (.int .i64 fy) ∧ ((∃ (β : Nat) (el : Option TypeId), n2 = .ref β 0 (List.length bT) 1 (List.length bT) ∧ β < st.nx ∧ β ≠ 0 ∧ st.H β = some (.cells el (aa eI bT))) ∨ (n2 = .lit (.slice none 0 0) ∧ bT = [])) ∧ K3 (f3 p3 fy bT)) := ⟨_, rfl⟩
 refine loopK mixed (by kernel_rfl) I3 (List.length ag.Strokes) (by rw [i9]; refine ⟨ag.Strokes, 0, ([] : List Int), .lit (.slice none 0 0), rfl, Int.le_refl _, rfl, rfl, (show 4 ≤ 4 by omega), ?_, ?_, ?_, ?_, ?_, Or.inr ⟨rfl, rfl⟩, h⟩ <;> first | (simp only [ua, nm, seval] <;> rfl) | rfl) ?_
 rintro m ⟨tm, H, gy, df⟩ hinv
 rw [i9] at hinv
 obtain ⟨p3, fy, bT, n2, rfl, dt, eK, hdf, qm, H5, e6, e7, e8, e9, oD, h⟩ := hinv
 simp only at hdf qm H5 e6 e7 e8 e9 oD
 have dO := fg (m := 4) (b := gy) (by omega)
 subst hdf ql
 rcases oD with ⟨CA, jN, rfl, CB, CD, eW⟩ | ⟨rfl, rfl⟩
 ·have u3 := gF CB
  have u4 := ne_f CD
  cases p3 with
  | nil =>
   have bY : (decide (fy < (List.length ag.Strokes : Int))) = false := dR dt eK
   simp only [m5, hs, reduceCtorEq] at h
   replace h := n0 _ h
   try dsimp only at h
   try simp only [hs] at h
   try simp only [vz, tyf, g4, dO, e6, e7, e8, e9, H5, u3, eW, u4, bY, nm, seval]
   refine cL (x := (.ref CA 0 (List.length bT) 1 (List.length bT))) (by first | (simp only [Tryz.results33, resV, resL, resV1, cF, cE, uw, cr, tyf, g4, dO, H5, u3, eW, u4, bY, nm, seval] <;> rfl) | rfl) ?_
   obtain rfl := kF _ h
   refine gw ?_ ?_
   ·simp only [tre, tytre, Bool.and_self]
   ·first | (simp only [outV, uw, gG, cr, tyf, nrm, aI, g4, dO, e6, e7, e8, e9, H5, u3, eW, u4, bY, nm, seval] <;> rfl) | rfl
  | cons e3 p3 =>
   have fj : (decide (fy < (List.length ag.Strokes : Int))) = true := dQ dt eK
   have kL := cA dt eK
   have K7 := dN dt eK g4
   simp only [m5, hs, reduceCtorEq] at h
   cases kS : (aX)
   ·simp only [kS, hs] at h
    have kl := And.intro g4 (And.intro dO (And.intro H5 (And.intro u3 (And.intro eW (And.intro u4 (And.intro fj (And.intro K7 kS)))))))
    cases qn : (aC 8 (List.length (bT ++ [e3.Hours.Low])))
    ·simp only [qn, hs] at h
     exact absurd h qk
    simp only [qn, hs] at h
    simp only [vz, tyf, kl, e6, e7, e8, e9, (aJ kL), qn, nm, seval]
    refine k_app (w := 1) (enc := eI) (xs := bT) (ys := ([e3.Hours.Low])) (el := jN) (ff := (some 3)) (fun _ => rfl) eP ei Tryz.underlying22 (by first | rfl | assumption | (simp only [aS, aT, ca, kl, nm, seval] <;> rfl) | (simp only [aS, aT, cP, db, cY, cZ, tyf, kl, e6, e7, e8, e9, (aJ kL), qn, nm, seval]; done)) (by first | rfl | assumption | (simp only [aS, aT, ca, kl, nm, seval] <;> rfl) | (simp only [aS, aT, cP, db, cY, cZ, tyf, kl, e6, e7, e8, e9, (aJ kL), qn, nm, seval]; done)) (Nat.zero_lt_succ _) qn ?_
    simp only [vz, tyf, kl, e6, e7, e8, e9, (aJ kL), qn, nm, seval]
    exact ⟨List.length p3, Nat.lt_succ_self _, by rw [i9]; refine ⟨p3, fy + 1, (bT ++ [e3.Hours.Low]), .ref (gy + 15) 0 (List.length (bT ++ [e3.Hours.Low])) 1 (List.length (bT ++ [e3.Hours.Low])), rfl, Int.le_trans dt (Int.le_add_one (Int.le_refl _)), bJ dt eK, rfl, (show 4 ≤ gy + 20 by omega), ?_, ?_, e7, ?_, ?_, Or.inl ⟨gy + 15, (sameEl jN 3), rfl, (by first | omega | (simp only [nm, seval]; done) | (simp only [nm, seval]; omega)), (by first | omega | (intro hh; simp only [kl, reduceCtorEq] at hh)), ?_⟩, (by first | exact h | (simp only [kl]; exact h))⟩ <;> first | (simp only [ua, kl, e6, e7, e8, e9, nm, seval] <;> rfl) | rfl⟩
   simp only [kS, hs] at h
   have n3 := And.intro g4 (And.intro dO (And.intro H5 (And.intro u3 (And.intro eW (And.intro u4 (And.intro fj (And.intro K7 kS)))))))
   cases qo : (aC 8 (List.length (bT ++ [e3.Hours.High])))
   ·simp only [qo, hs] at h
    exact absurd h qk
   simp only [qo, hs] at h
   simp only [vz, tyf, n3, e6, e7, e8, e9, (aJ kL), qo, nm, seval]
   refine k_app (w := 1) (enc := eI) (xs := bT) (ys := ([e3.Hours.High])) (el := jN) (ff := (some 3)) (fun _ => rfl) eP ei Tryz.underlying22 (by first | rfl | assumption | (simp only [aS, aT, ca, n3, nm, seval] <;> rfl) | (simp only [aS, aT, cP, db, cY, cZ, tyf, n3, e6, e7, e8, e9, (aJ kL), qo, nm, seval]; done)) (by first | rfl | assumption | (simp only [aS, aT, ca, n3, nm, seval] <;> rfl) | (simp only [aS, aT, cP, db, cY, cZ, tyf, n3, e6, e7, e8, e9, (aJ kL), qo, nm, seval]; done)) (Nat.zero_lt_succ _) qo ?_
   simp only [vz, tyf, n3, e6, e7, e8, e9, (aJ kL), qo, nm, seval]
   exact ⟨List.length p3, Nat.lt_succ_self _, by rw [i9]; refine ⟨p3, fy + 1, (bT ++ [e3.Hours.High]), .ref (gy + 15) 0 (List.length (bT ++ [e3.Hours.High])) 1 (List.length (bT ++ [e3.Hours.High])), rfl, Int.le_trans dt (Int.le_add_one (Int.le_refl _)), bJ dt eK, rfl, (show 4 ≤ gy + 20 by omega), ?_, ?_, e7, ?_, ?_, Or.inl ⟨gy + 15, (sameEl jN 3), rfl, (by first | omega | (simp only [nm, seval]; done) | (simp only [nm, seval]; omega)), (by first | omega | (intro hh; simp only [n3, reduceCtorEq] at hh)), ?_⟩, (by first | exact h | (simp only [n3]; exact h))⟩ <;> first | (simp only [ua, n3, e6, e7, e8, e9, nm, seval] <;> rfl) | rfl⟩
 ·cases p3 with
  | nil =>
   have bM : (decide (fy < (List.length ag.Strokes : Int))) = false := dR dt eK
   simp only [m5, hs, reduceCtorEq] at h
   replace h := n0 _ h
   try dsimp only at h
   try simp only [hs] at h
   try simp only [vz, tyf, g4, dO, e6, e7, e8, e9, H5, bM, nm, seval]
   refine cL (x := (.lit (.slice none 0 0))) (by first | (simp only [Tryz.results33, resV, resL, resV1, cF, cE, uw, cr, tyf, g4, dO, H5, bM, nm, seval] <;> rfl) | rfl) ?_
   obtain rfl := kF _ h
   refine gw ?_ ?_
   ·simp only [tre, tytre, Bool.and_self]
   ·first | (simp only [outV, uw, gG, cr, tyf, nrm, aI, g4, dO, e6, e7, e8, e9, H5, bM, nm, seval] <;> rfl) | rfl
  | cons e3 p3 =>
   have gx : (decide (fy < (List.length ag.Strokes : Int))) = true := dQ dt eK
   have jO := cA dt eK
   have kR := dN dt eK g4
   simp only [m5, hs, reduceCtorEq] at h
   cases kT : (aX)
   ·simp only [kT, hs] at h
    cases iO : (aC 8 (List.length (([] : List Int) ++ [e3.Hours.Low])))
    ·simp only [iO, hs] at h
     exact absurd h qk
    simp only [iO, hs] at h
    simp only [vz, tyf, g4, dO, e6, e7, e8, e9, H5, gx, (aJ jO), kR, kT, iO, nm, seval]
    refine kJ (w := 1) (enc := eI) (ys := ([e3.Hours.Low])) (ff := (some 3)) (fun _ => rfl) eP ei Tryz.underlying22 (by first | rfl | assumption | (simp only [aS, aT, ca, dO, H5, nm, seval] <;> rfl) | (simp only [aS, aT, cP, db, cY, cZ, tyf, g4, dO, e6, e7, e8, e9, H5, gx, (aJ jO), kR, kT, iO, nm, seval]; done)) (Nat.zero_lt_succ _) iO ?_
    simp only [vz, tyf, g4, dO, e6, e7, e8, e9, H5, gx, (aJ jO), kR, kT, iO, nm, seval]
    exact ⟨List.length p3, Nat.lt_succ_self _, by rw [i9]; refine ⟨p3, fy + 1, (([] : List Int) ++ [e3.Hours.Low]), .ref (gy + 15) 0 (List.length (([] : List Int) ++ [e3.Hours.Low])) 1 (List.length (([] : List Int) ++ [e3.Hours.Low])), rfl, Int.le_trans dt (Int.le_add_one (Int.le_refl _)), bJ dt eK, rfl, (show 4 ≤ gy + 20 by omega), ?_, ?_, e7, ?_, ?_, Or.inl ⟨gy + 15, (some 3), rfl, (by first | omega | (simp only [nm, seval]; done) | (simp only [nm, seval]; omega)), (by first | omega | (intro hh; simp only [dO, reduceCtorEq] at hh)), ?_⟩, (by first | exact h | (simp only [gx, kT]; exact h))⟩ <;> first | (simp only [ua, dO, e6, e7, e8, e9, H5, gx, kR, kT, nm, seval] <;> rfl) | rfl⟩
   simp only [kT, hs] at h
   cases sm : (aC 8 (List.length (([] : List Int) ++ [e3.Hours.High])))
   ·simp only [sm, hs] at h
    exact absurd h qk
   simp only [sm, hs] at h
   simp only [vz, tyf, g4, dO, e6, e7, e8, e9, H5, gx, (aJ jO), kR, kT, sm, nm, seval]
   refine kJ (w := 1) (enc := eI) (ys := ([e3.Hours.High])) (ff := (some 3)) (fun _ => rfl) eP ei Tryz.underlying22 (by first | rfl | assumption | (simp only [aS, aT, ca, dO, H5, nm, seval] <;> rfl) | (simp only [aS, aT, cP, db, cY, cZ, tyf, g4, dO, e6, e7, e8, e9, H5, gx, (aJ jO), kR, kT, sm, nm, seval]; done)) (Nat.zero_lt_succ _) sm ?_
   simp only [vz, tyf, g4, dO, e6, e7, e8, e9, H5, gx, (aJ jO), kR, kT, sm, nm, seval]
   exact ⟨List.length p3, Nat.lt_succ_self _, by rw [i9]; refine ⟨p3, fy + 1, (([] : List Int) ++ [e3.Hours.High]), .ref (gy + 15) 0 (List.length (([] : List Int) ++ [e3.Hours.High])) 1 (List.length (([] : List Int) ++ [e3.Hours.High])), rfl, Int.le_trans dt (Int.le_add_one (Int.le_refl _)), bJ dt eK, rfl, (show 4 ≤ gy + 20 by omega), ?_, ?_, e7, ?_, ?_, Or.inl ⟨gy + 15, (some 3), rfl, (by first | omega | (simp only [nm, seval]; done) | (simp only [nm, seval]; omega)), (by first | omega | (intro hh; simp only [dO, reduceCtorEq] at hh)), ?_⟩, (by first | exact h | (simp only [gx, kT]; exact h))⟩ <;> first | (simp only [ua, dO, e6, e7, e8, e9, H5, gx, kR, kT, nm, seval] <;> rfl) | rfl⟩
def m6 (r4 : List Int) : List Int → Int → (List GSpan) → Option (LOut (List GSpan) ((List GSpan)))
 | [], cl, bt => some (.go bt)
 | e0 :: p0, cl, bt => Option.bind (getI r4 cl) (fun x5 => cond (aC 16 (List.length (bt ++ [(GSpan.mk e0 x5)]))) (m6 r4 p0 (cl + 1) (bt ++ [(GSpan.mk e0 x5)])) none)
def u5 (ag : GBk) (ae : List Int) : Option (List GSpan) := Option.bind (qj ag false) (fun r1 => Option.bind (sk ag ae r1) (fun r2 => Option.bind (qj ag true) (fun r3 => Option.bind (sk ag ae r3) (fun r4 => cond (au r2) (lbind (m6 r4 r2 0 ([] : List GSpan)) (fun r7 => some r7) (fun c6 => some c6) (fun _ _ => none)) none))))
theorem NX (ag : GBk) (ae : List Int) (R : List GSpan) (h : u5 ag ae = some R) : ai Tryz.prog G0 26 [.agg (cGBk ag), .sl (aa eI ae) (List.length ae) false] (.tree (.sl (aa aL R) (List.length R) false)) := by
 refine ai.runR mixed Tryz.call26 Tryz.func26 rfl (by simp [Tryz.ntmps26]; kernel_rfl) ?_
 obtain ⟨KF, h, kF, kN⟩ := cO h
 simp only [u5] at h
 simp only [vz, tyf, nm, seval]
 refine iD (fun tm => tm 1 = .sl (aa eI ae) (List.length ae) false ∧ tm 2 = .ptr 0 0 ∧ True) (by refine ⟨?_, ?_, trivial⟩ <;> first | (simp only [ua, nm, seval] <;> rfl) | rfl) ?_
 rintro tm ⟨e8, e9, _⟩
 obtain ⟨km, iP, h⟩ := optI h kN
 try simp only [hs] at h
 simp only [vz, tyf, e8, e9, nm, seval]
 refine dktA (C8 _ _ _ iP) ?_
 refine bZ (fun tm => tm 1 = .sl (aa eI ae) (List.length ae) false ∧ tm 2 = .ptr 0 0 ∧ tm 9 = .agg (cGBk ag) ∧ tm 10 = .sl (aa eI ae) (List.length ae) false ∧ tm 12 = .sl (aa eI km) (List.length km) false ∧ True) (by refine ⟨e8, e9, ?_, ?_, ?_, trivial⟩ <;> first | (simp only [ua, e8, e9, nm, seval] <;> rfl) | rfl) ?_
 rintro tm ⟨bh, aW, bu, bn, bX, _⟩
 obtain ⟨dJ, n4, h⟩ := optI h kN
 try simp only [hs] at h
 simp only [vz, tyf, bh, aW, bu, bn, bX, nm, seval]
 refine dktA (K2 _ _ _ _ n4) ?_
 refine bZ (fun tm => tm 1 = .sl (aa eI ae) (List.length ae) false ∧ tm 2 = .ptr 0 0 ∧ tm 13 = .sl (aa eI dJ) (List.length dJ) false ∧ True) (by refine ⟨bh, aW, ?_, trivial⟩ <;> first | (simp only [ua, bh, aW, bu, bn, bX, nm, seval] <;> rfl) | rfl) ?_
 rintro tm ⟨cq, dY, dw, _⟩
 obtain ⟨xq, eJ, h⟩ := optI h kN
 try simp only [hs] at h
 simp only [vz, tyf, cq, dY, dw, nm, seval]
 refine dktA (C8 _ _ _ eJ) ?_
 refine bZ (fun tm => tm 13 = .sl (aa eI dJ) (List.length dJ) false ∧ tm 14 = .agg (cGBk ag) ∧ tm 15 = .sl (aa eI ae) (List.length ae) false ∧ tm 17 = .sl (aa eI xq) (List.length xq) false ∧ True) (by refine ⟨dw, ?_, ?_, ?_, trivial⟩ <;> first | (simp only [ua, cq, dY, dw, nm, seval] <;> rfl) | rfl) ?_
 rintro tm ⟨bK, cg, cn, bp, _⟩
 obtain ⟨oE, NY, h⟩ := optI h kN
 try simp only [hs] at h
 simp only [vz, tyf, bK, cg, cn, bp, nm, seval]
 refine dktA (K2 _ _ _ _ NY) ?_
 refine bZ (fun tm => tm 13 = .sl (aa eI dJ) (List.length dJ) false ∧ tm 18 = .sl (aa eI oE) (List.length oE) false ∧ True) (by refine ⟨bK, ?_, trivial⟩ <;> first | (simp only [ua, bK, cg, cn, bp, nm, seval] <;> rfl) | rfl) ?_
 rintro tm ⟨cQ, cG, _⟩
 cases gz : (au dJ)
 ·simp only [gz, hs] at h
  exact absurd h kN
 simp only [gz, hs] at h
 simp only [vz, tyf, cQ, cG, gz, nm, seval]
 obtain ⟨NZ, h, Oa, u6, Ob, n5⟩ := eN h kN
 obtain ⟨Oc, CE, h⟩ := call3 h
 obtain ⟨Od, n7⟩ : ∃ I : Nat → St → Prop, I = (fun m st => ∃ (kU : List Int) (cU : Int) (cu : List GSpan) (jP : VV), m = List.length kU ∧ 0 ≤ cU ∧ List.drop (Int.toNat cU) dJ = kU ∧ st.df = [] ∧ 16 ≤ st.nx ∧ st.tm 5 = .sl (aa eI dJ) (List.length dJ) false ∧ st.tm 6 = .sl (aa eI oE) (List.length oE) false ∧ st.tm 7 = jP ∧ st.tm 8 = .lit (.int .i64 cU) ∧ ((∃ (β : Nat) (el : Option TypeId), jP = .ref β 0 (List.length cu) 2 (List.length cu) ∧ β < st.nx ∧ st.H β = some (.cells el (aa aL cu))) ∨ (jP = .lit (.slice none 0 0) ∧ cu = [])) ∧ NZ (Oc kU cU cu)) := ⟨_, rfl⟩
 refine loopK mixed (by kernel_rfl) Od (List.length dJ) (by rw [n7]; refine ⟨dJ, 0, ([] : List GSpan), .lit (.slice none 0 0), rfl, Int.le_refl _, rfl, rfl, (show 16 ≤ 16 by omega), ?_, ?_, ?_, ?_, Or.inr ⟨rfl, rfl⟩, h⟩ <;> first | (simp only [ua, cQ, cG, nm, seval] <;> rfl) | rfl) ?_
 rintro m ⟨tm, H, j4, df⟩ hinv
 rw [n7] at hinv
 obtain ⟨kU, cU, cu, jP, rfl, fM, gH, hdf, CF, di, dH, fF, fG, lD, h⟩ := hinv
 simp only at hdf CF di dH fF fG lD
 have fW := fg (m := 16) (b := j4) (by omega)
 subst hdf CE
 rcases lD with ⟨oF, lE, rfl, CG, kn⟩ | ⟨rfl, rfl⟩
 ·have j5 := gF CG
  cases kU with
  | nil =>
   have u7 : (decide (cU < (List.length dJ : Int))) = false := dR fM gH
   simp only [m6, hs, reduceCtorEq] at h
   replace h := u6 _ h
   try dsimp only at h
   try simp only [hs] at h
   try simp only [vz, tyf, gz, fW, di, dH, fF, fG, j5, kn, u7, nm, seval]
   refine cL (x := (.ref oF 0 (List.length cu) 2 (List.length cu))) (by first | (simp only [Tryz.results26, resV, resL, resV1, cF, cE, uw, cr, tyf, gz, fW, j5, kn, u7, nm, seval] <;> rfl) | rfl) ?_
   obtain rfl := kF _ h
   refine gw ?_ ?_
   ·simp only [tre, tytre, Bool.and_self]
   ·first | (simp only [outV, uw, gG, cr, tyf, nrm, aI, gz, fW, di, dH, fF, fG, j5, kn, u7, nm, seval] <;> rfl) | rfl
  | cons ep kU =>
   have jk : (decide (cU < (List.length dJ : Int))) = true := dQ fM gH
   have j6 := cA fM gH
   have j7 := dN fM gH gz
   simp only [m6, hs, reduceCtorEq] at h
   simp only [vz, tyf, gz, fW, di, dH, fF, fG, j5, kn, jk, (aj j6), j7, nm, seval]
   refine mh (fun tm => tm 5 = .sl (aa eI dJ) (List.length dJ) false ∧ tm 6 = .sl (aa eI oE) (List.length oE) false ∧ tm 7 = .ref oF 0 (List.length cu) 2 (List.length cu) ∧ tm 8 = .lit (.int .i64 cU) ∧ True) (by refine ⟨di, dH, fF, fG, trivial⟩ <;> first | (simp only [ua, fW, di, dH, fF, fG, j5, kn, jk, j7, nm, seval] <;> rfl) | rfl) ?_
   rintro tm ⟨cy, eT, dT, dq, _⟩
   obtain ⟨lF, m7, h⟩ := optI h n5
   try simp only [hs] at h
   cases jl : (aC 16 (List.length (cu ++ [(GSpan.mk ep lF)])))
   ·simp only [jl, hs] at h
    exact absurd h n5
   simp only [jl, hs] at h
   simp only [vz, tyf, gz, fW, j5, kn, jk, (aj j6), j7, cy, eT, dT, dq, (aj m7), jl, nm, seval]
   refine k_app (w := 2) (enc := aL) (xs := cu) (ys := ([(GSpan.mk ep lF)])) (el := lE) (ff := (some 35)) (fun _ => rfl) t8 t7 Tryz.underlying31 (by first | rfl | assumption | (simp only [aS, aT, nc, fW, j5, kn, nm, seval] <;> rfl) | (simp only [aS, aT, cP, db, cY, cZ, tyf, gz, fW, j5, kn, jk, (aj j6), j7, cy, eT, dT, dq, (aj m7), jl, nm, seval]; done)) (by first | rfl | assumption | (simp only [aS, aT, nc, fW, j5, kn, nm, seval] <;> rfl) | (simp only [aS, aT, cP, db, cY, cZ, tyf, gz, fW, j5, kn, jk, (aj j6), j7, cy, eT, dT, dq, (aj m7), jl, nm, seval]; done)) (Nat.zero_lt_succ _) jl ?_
   simp only [vz, tyf, gz, fW, j5, kn, jk, (aj j6), j7, cy, eT, dT, dq, (aj m7), jl, nm, seval]
   refine mz ⟨?_, ?_⟩
   ·simp only [m0, m2, hJ, m3, and_true, true_and]
    repeat' (first | exact trivial | refine And.intro ?_ ?_ | rw [hJ] | rw [m4] | exact Or.inl (by decide +kernel) | exact Or.inl (by dsimp only; decide +kernel) | (refine Or.inr ⟨?_, ?_⟩ <;> simp; done) | (refine Or.inr ⟨?_, ?_⟩ <;> simp <;> omega) | (refine Or.inr ⟨?_, ?_⟩ <;> simp [VEff.wr] <;> omega))
   simp only [vz, tyf, gz, fW, j5, kn, jk, (aj j6), j7, cy, eT, dT, dq, (aj m7), jl, nm, seval]
   exact ⟨List.length kU, Nat.lt_succ_self _, by rw [n7]; refine ⟨kU, cU + 1, (cu ++ [(GSpan.mk ep lF)]), .ref (j4 + 15) 0 (List.length (cu ++ [(GSpan.mk ep lF)])) 2 (List.length (cu ++ [(GSpan.mk ep lF)])), rfl, Int.le_trans fM (Int.le_add_one (Int.le_refl _)), bJ fM gH, rfl, (show 16 ≤ j4 + 20 by omega), cy, eT, ?_, ?_, Or.inl ⟨j4 + 15, (sameEl lE 35), rfl, (by first | omega | (simp only [nm, seval]; done) | (simp only [nm, seval]; omega)), ?_⟩, (by first | exact h | (simp only [jk]; exact h))⟩ <;> first | (simp only [ua, fW, j5, kn, jk, j7, cy, eT, dT, dq, nm, seval] <;> rfl) | rfl⟩
 ·cases kU with
  | nil =>
   have fL : (decide (cU < (List.length dJ : Int))) = false := dR fM gH
   simp only [m6, hs, reduceCtorEq] at h
   replace h := u6 _ h
   try dsimp only at h
   try simp only [hs] at h
   try simp only [vz, tyf, gz, fW, di, dH, fF, fG, fL, nm, seval]
   refine cL (x := (.lit (.slice none 0 0))) (by first | (simp only [Tryz.results26, resV, resL, resV1, cF, cE, uw, cr, tyf, gz, fW, fL, nm, seval] <;> rfl) | rfl) ?_
   obtain rfl := kF _ h
   refine gw ?_ ?_
   ·simp only [tre, tytre, Bool.and_self]
   ·first | (simp only [outV, uw, gG, cr, tyf, nrm, aI, gz, fW, di, dH, fF, fG, fL, nm, seval] <;> rfl) | rfl
  | cons ep kU =>
   have iA : (decide (cU < (List.length dJ : Int))) = true := dQ fM gH
   have m8 := cA fM gH
   have qp := dN fM gH gz
   simp only [m6, hs, reduceCtorEq] at h
   simp only [vz, tyf, gz, fW, di, dH, fF, fG, iA, (aj m8), qp, nm, seval]
   refine mh (fun tm => tm 5 = .sl (aa eI dJ) (List.length dJ) false ∧ tm 6 = .sl (aa eI oE) (List.length oE) false ∧ tm 7 = .lit (.slice none 0 0) ∧ tm 8 = .lit (.int .i64 cU) ∧ True) (by refine ⟨di, dH, fF, fG, trivial⟩ <;> first | (simp only [ua, fW, di, dH, fF, fG, iA, qp, nm, seval] <;> rfl) | rfl) ?_
   rintro tm ⟨du, dZ, eA, eL, _⟩
   obtain ⟨ji, i6, h⟩ := optI h n5
   try simp only [hs] at h
   cases qq : (aC 16 (List.length (([] : List GSpan) ++ [(GSpan.mk ep ji)])))
   ·simp only [qq, hs] at h
    exact absurd h n5
   simp only [qq, hs] at h
   simp only [vz, tyf, gz, fW, iA, (aj m8), qp, du, dZ, eA, eL, (aj i6), qq, nm, seval]
   refine kJ (w := 2) (enc := aL) (ys := ([(GSpan.mk ep ji)])) (ff := (some 35)) (fun _ => rfl) t8 t7 Tryz.underlying31 (by first | rfl | assumption | (simp only [aS, aT, nc, fW, nm, seval] <;> rfl) | (simp only [aS, aT, cP, db, cY, cZ, tyf, gz, fW, iA, (aj m8), qp, du, dZ, eA, eL, (aj i6), qq, nm, seval]; done)) (Nat.zero_lt_succ _) qq ?_
   simp only [vz, tyf, gz, fW, iA, (aj m8), qp, du, dZ, eA, eL, (aj i6), qq, nm, seval]
   refine mz ⟨?_, ?_⟩
   ·simp only [m0, m2, hJ, m3, and_true, true_and]
    repeat' (first | exact trivial | refine And.intro ?_ ?_ | rw [hJ] | rw [m4] | exact Or.inl (by decide +kernel) | exact Or.inl (by dsimp only; decide +kernel) | (refine Or.inr ⟨?_, ?_⟩ <;> simp; done) | (refine Or.inr ⟨?_, ?_⟩ <;> simp <;> omega) | (refine Or.inr ⟨?_, ?_⟩ <;> simp [VEff.wr] <;> omega))
   simp only [vz, tyf, gz, fW, iA, (aj m8), qp, du, dZ, eA, eL, (aj i6), qq, nm, seval]
   exact ⟨List.length kU, Nat.lt_succ_self _, by rw [n7]; refine ⟨kU, cU + 1, (([] : List GSpan) ++ [(GSpan.mk ep ji)]), .ref (j4 + 15) 0 (List.length (([] : List GSpan) ++ [(GSpan.mk ep ji)])) 2 (List.length (([] : List GSpan) ++ [(GSpan.mk ep ji)])), rfl, Int.le_trans fM (Int.le_add_one (Int.le_refl _)), bJ fM gH, rfl, (show 16 ≤ j4 + 20 by omega), du, dZ, ?_, ?_, Or.inl ⟨j4 + 15, (some 35), rfl, (by first | omega | (simp only [nm, seval]; done) | (simp only [nm, seval]; omega)), ?_⟩, (by first | exact h | (simp only [iA]; exact h))⟩ <;> first | (simp only [ua, fW, iA, qp, du, dZ, eA, eL, nm, seval] <;> rfl) | rfl⟩
end Go.V
end
