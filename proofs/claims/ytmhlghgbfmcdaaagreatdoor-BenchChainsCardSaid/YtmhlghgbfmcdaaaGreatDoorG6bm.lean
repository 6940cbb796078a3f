/- Part of a proof. -/
import Derived.Test.YtmhlghgbfmcdaaaGreatDoorG6bl
set_option linter.all false
set_option maxRecDepth 4000
set_option maxHeartbeats 40000000
section
namespace Go.V
open Go Go.Proofs IntKind
def rG (cO : Int) : List Int → Int → Option (LOut (Bool) (Unit))
 | [], cw => some (.go ())
 | e0 :: p0, cw => cond (e0 == cO) (some (.ret true)) (rG cO p0 (cw + 1))
def tH (bD : List Int) (cO : Int) : Option (Bool) := cond (aG bD) (lbind (rG cO bD 0) (fun r2 => some r2) (fun c1 => some false) (fun _ _ => none)) none
theorem P5 (bD : List Int) (cO : Int) (R : Bool) (h : tH bD cO = some R) : ak Tryz.prog G0 35 [.sl (ae eI bD) (List.length bD) false, .lit (.int .i64 cO)] (.tree (.lit (.bool R))) := by
 refine ak.runR mixed Tryz.call35 Tryz.func35 rfl (by simp [Tryz.ntmps35]; kernel_rfl) ?_
 obtain ⟨KF, h, kF, kN⟩ := cI h
 simp only [tH] at h
 cases g4 : (aG bD)
 ·simp only [g4, hs] at h
  exact absurd h kN
 simp only [g4, hs] at h
 simp only [vz, tyf, g4, nm, seval]
 obtain ⟨K3, h, mn, iB, rH, kh⟩ := eR h kN
 obtain ⟨f3, j8, h⟩ := call2 h
 obtain ⟨I3, dU⟩ : ∃ I : Nat → St → Prop, I = (fun m st => ∃ (p3 : List Int) (bu : Int), m = List.length p3 ∧ 0 ≤ bu ∧ List.drop (Int.toNat bu) bD = p3 ∧ st.df = [] ∧ 2 ≤ st.nx ∧ st.tm 0 = .sl (ae eI bD) (List.length bD) false ∧ st.tm 1 = .lit (.int .i64 cO) ∧ st.tm 5 = .lit (.int .i64 bu) ∧ K3 (f3 p3 bu)) := ⟨_, rfl⟩
 refine loopK mixed (by kernel_rfl) I3 (List.length bD) (by rw [dU]; refine ⟨bD, 0, rfl, Int.le_refl _, rfl, rfl, (show 2 ≤ 2 by omega), ?_, ?_, ?_, h⟩ <;> first | (simp only [ua, nm, seval] <;> rfl) | rfl) ?_
 rintro m ⟨tm, H, dr, df⟩ hinv
 rw [dU] at hinv
 obtain ⟨p3, bu, rfl, bJ, ca, hdf, j9, e5, e6, e7, h⟩ := hinv
 simp only at hdf j9 e5 e6 e7
 have n8 := fw (m := 2) (b := dr) (by omega)
 subst hdf j8
 cases p3 with
 | nil =>
  have d9 : (decide (bu < (List.length bD : Int))) = false := fj bJ ca
  simp only [rG, hs, reduceCtorEq] at h
  replace h := iB _ h
  try dsimp only at h
  try simp only [hs] at h
  try simp only [vz, tyf, g4, n8, e5, e6, e7, d9, nm, seval]
  obtain rfl := kF _ h
  exact bw Tryz.results35 rfl
 | cons e3 p3 =>
  have gv : (decide (bu < (List.length bD : Int))) = true := fh bJ ca
  have lG := dG bJ ca
  have jn := eQ bJ ca g4
  simp only [rG, hs, reduceCtorEq] at h
  cases de : (e3 == cO)
  ·simp only [de, hs] at h
   simp only [vz, tyf, g4, n8, e5, e6, e7, gv, (aB lG), jn, de, nm, seval]
   exact ⟨List.length p3, Nat.lt_succ_self _, by rw [dU]; refine ⟨p3, bu + 1, rfl, Int.le_trans bJ (Int.le_add_one (Int.le_refl _)), cU bJ ca, rfl, (show 2 ≤ dr + 13 by omega), e5, e6, ?_, (by first | exact h | (simp only [gv, de]; exact h))⟩ <;> first | (simp only [ua, n8, e5, e6, e7, gv, jn, de, nm, seval] <;> rfl) | rfl⟩
  simp only [de, hs] at h
  try simp only [vz, tyf, g4, n8, e5, e6, e7, gv, (aB lG), jn, de, nm, seval]
  replace h := mn _ h
  try dsimp only at h
  obtain rfl := kF _ h
  exact bw Tryz.results35 rfl
def mo (al : GBk) (ah : List Int) (cb : Int) (cL : Int) : Option (Bool) := cond (decide (cb < cL)) (Option.bind (getI ah cb) (fun x1 => Option.bind (getI ah cL) (fun x2 => cond (x1 == x2) (some true) (Option.bind (getI al.Strokes cL) (fun x3 => Option.bind (tH x3.Needs cb) (fun r4 => some r4)))))) (some false)
theorem LP (al : GBk) (ah : List Int) (cb : Int) (cL : Int) (R : Bool) (h : mo al ah cb cL = some R) : ak Tryz.prog G0 84 [.agg (cGBk al), .sl (ae eI ah) (List.length ah) false, .lit (.int .i64 cb), .lit (.int .i64 cL)] (.tree (.lit (.bool R))) := by
 refine ak.runR mixed Tryz.call84 Tryz.func84 rfl (by simp [Tryz.ntmps84]; kernel_rfl) ?_
 obtain ⟨KF, h, kF, kN⟩ := cI h
 simp only [mo] at h
 simp only [vz, tyf, nm, seval]
 refine jk (fun tm => tm 1 = .sl (ae eI ah) (List.length ah) false ∧ tm 2 = .lit (.int .i64 cb) ∧ tm 3 = .lit (.int .i64 cL) ∧ tm 4 = .ptr 0 0 ∧ True) (by refine ⟨?_, ?_, ?_, ?_, trivial⟩ <;> first | (simp only [ua, nm, seval] <;> rfl) | rfl) ?_
 rintro tm ⟨e5, e6, e7, e8, _⟩
 cases d9 : (decide (cb < cL))
 ·simp only [d9, hs] at h
  try simp only [vz, tyf, e5, e6, e7, e8, d9, nm, seval]
  obtain rfl := kF _ h
  exact bw Tryz.results84 rfl
 simp only [d9, hs] at h
 obtain ⟨P6, tI, h⟩ := optI h kN
 try simp only [hs] at h
 obtain ⟨P7, gM, h⟩ := optI h kN
 try simp only [hs] at h
 cases bx : (P6 == P7)
 ·simp only [bx, hs] at h
  obtain ⟨ni, dx, h⟩ := optI h kN
  try simp only [hs] at h
  obtain ⟨kL, tJ, h⟩ := optI h kN
  try simp only [hs] at h
  simp only [vz, tyf, e5, e6, e7, e8, d9, (aB tI), (aB gM), bx, (aT dx), nm, seval]
  refine dktA (P5 _ _ _ tJ) ?_
  refine bN (fun tm => tm 12 = .lit (.bool true) ∧ tm 22 = .lit (.bool false) ∧ tm 30 = .lit (.bool kL) ∧ True) (by refine ⟨?_, ?_, ?_, trivial⟩ <;> first | (simp only [ua, e5, e6, e7, e8, d9, bx, nm, seval] <;> rfl) | rfl) ?_
  rintro tm ⟨cD, dK, dI, _⟩
  try simp only [vz, tyf, d9, (aB tI), (aB gM), bx, (aT dx), cD, dK, dI, nm, seval]
  obtain rfl := kF _ h
  exact bw Tryz.results84 rfl
 simp only [bx, hs] at h
 try simp only [vz, tyf, e5, e6, e7, e8, d9, (aB tI), (aB gM), bx, nm, seval]
 obtain rfl := kF _ h
 exact bw Tryz.results84 rfl
def eV (x : VV) : List VV := [x]
theorem eV_eq {x : VV} : eV x = [x] := rfl
theorem tK : ∀ xs : List VV, ae eV xs = xs
  | [] => rfl
  | x :: xs => by rw [ga, tK xs]; rfl
theorem ixoV {xs : List VV} {x : VV} {i : Int} (h : getI xs i = some x) : (∀ (H : Nat → Option VObj) (β c : Nat) (k : IntKind), aC Tryz.prog H 71 (.ref β 0 xs.length 1 c) (.lit (.int k i)) = if (H β).isSome = true then some (.ptr β (i.toNat * 1)) else none) ∧ (ae eV xs).drop (i.toNat * 1) = eV x ++ ae eV (xs.drop (i.toNat + 1)) ∧ (i.toNat * 1 ≤ (ae eV xs).length) = True := ixO Tryz.underlying71 (by kernel_rfl : szT Tryz.prog 22 = some 1) (fun _ => rfl) h
def kM (b : GBk) (plan : List Int) (i : Int) : Nat → Int → List Int → Option (List Int)
 | 0, _, w => some w
 | m + 1, k, w => Option.bind (mo b plan k i) (fun r => cond r (cond (aS 8 (w ++ [k]).length) (kM b plan i m (k + 1) (w ++ [k])) none) (kM b plan i m (k + 1) w))
def lH (b : GBk) (plan : List Int) : Nat → Int → List (List Int) → List Int → Option (List (List Int) × List Int)
 | 0, _, pre, bg => some (pre, bg)
 | m + 1, i, pre, bg => Option.bind (kM b plan i i.toNat 0 []) (fun w => lH b plan m (i + 1) (pre ++ [w]) (List.set bg i.toNat (-1)))
def nj (aj : List Int) (bP : Int) (dy : List Int) : List Int → Int → Option (LOut (Bool) (Unit))
 | [], tL => some (.go ())
 | e2 :: p2, tL => Option.bind (getI dy e2) (fun LQ => cond (decide (LQ < 0)) (some (.ret false)) (Option.bind (getI aj e2) (fun Dn => cond (decide ((i64.wrap (LQ + Dn)) > bP)) (some (.ret false)) (nj aj bP dy p2 (tL + 1)))))
def lI (bf : List (List Int)) (ah : List Int) (aj : List Int) (bP : Int) : List Int → Int → Int → (List Int) → Option (LOut (List Int) (Int × (List Int)))
 | [], eu, gH, dy => some (.go (gH, dy))
 | e1 :: p1, eu, gH, dy => Option.bind (getI dy eu) (fun ni => cond (decide (ni < 0)) (Option.bind (getI bf eu) (fun LS => cond (aG LS) (lbind (nj aj bP dy LS 0) (fun gw => cond (gw) (lI bf ah aj bP p1 (eu + 1) (i64.wrap (gH - 1)) (List.set dy (Int.toNat eu) bP)) (lI bf ah aj bP p1 (eu + 1) gH dy)) (fun T4 => lI bf ah aj bP p1 (eu + 1) (i64.wrap (gH - 1)) (List.set dy (Int.toNat eu) bP)) (fun _ _ => none)) none)) (lI bf ah aj bP p1 (eu + 1) gH dy))
def mr (bf : List (List Int)) (ah : List Int) (aj : List Int) : Nat → Int → Int → (List Int) → Option (LOut (List Int) (Int × Int × (List Int)))
 | 0, _, _, _ => none
 | k0 + 1, gI, bP, bO => cond (decide (gI > 0)) (cond (aG ah) (lbind (lI bf ah aj bP ah 0 gI bO) (fun P8 => some (.ret P8)) (fun LU => mr bf ah aj k0 LU.1 (i64.wrap (bP + 1)) LU.2) (fun _ _ => none)) none) (some (.go (gI, bP, bO)))
def rI (al : GBk) (ah : List Int) (aj : List Int) : Option (List Int) := cond (mkOk 8 (List.length ah : Int)) (cond (mkOk 24 (List.length ah : Int)) (cond (aG ah) (Option.bind (lH al ah ah.length 0 [] (List.replicate (Int.toNat (List.length ah : Int)) 0)) (fun rw => lbind (mr rw.1 ah aj 1000000 (List.length ah : Int) 0 rw.2) (fun kO => some kO) (fun P9 => some P9.2.2) (fun _ _ => none))) none) none) none
theorem LV (al : GBk) (ah : List Int) (aj : List Int) (R : List Int) (h : rI al ah aj = some R) : ak Tryz.prog G0 78 [.agg (cGBk al), .sl (ae eI ah) (List.length ah) false, .sl (ae eI aj) (List.length aj) false] (.own (ae eI R) R.length 1) := by
 refine ak.run mixed Tryz.call78 Tryz.func78 rfl (by simp [Tryz.ntmps78]; kernel_rfl) ?_
 obtain ⟨KF, h, kF, kN⟩ := cI h
 simp only [rI] at h
 cases dt : (mkOk 8 (List.length ah : Int))
 ·simp only [dt, hs] at h
  exact absurd h kN
 simp only [dt, hs] at h
 try simp only [vz, tyf, dt, nm, seval]
 refine k_mkS (enc := eI) (z := (0 : Int)) dL (by kernel_rfl) rfl (by first | (simp only [pq, pv, pw, nk, dt, nm, seval] <;> rfl) | rfl) (by first | (simp only [pq, pv, pw, nk, dt, nm, seval] <;> rfl) | rfl) dt ?_
 cases dM : (mkOk 24 (List.length ah : Int))
 ·simp only [dM, hs] at h
  exact absurd h kN
 simp only [dM, hs] at h
 try simp only [vz, tyf, dt, dM, nm, seval]
 refine k_mkS (enc := eV) (z := .lit (.slice none 0 0)) px (by kernel_rfl) rfl (by first | (simp only [pq, pv, pw, nk, dt, dM, nm, seval] <;> rfl) | rfl) (by first | (simp only [pq, pv, pw, nk, dt, dM, nm, seval] <;> rfl) | rfl) dM ?_
 simp only [vz, tyf, dt, dM, nm, seval]
 cases gl : aG ah
 ·simp only [gl, hs] at h
  exact absurd h kN
 simp only [gl, hs] at h
 rcases ob : lH al ah ah.length 0 [] (List.replicate (Int.toNat (List.length ah : Int)) 0) with _ | ⟨bf, bg⟩
 ·simp only [ob, hs] at h
  exact absurd h kN
 simp only [ob, hs] at h
 obtain ⟨IA, hIA⟩ : ∃ I : Nat → St → Prop, I = (fun m st => ∃ (p : List Int) (i : Int) (pre : List (List Int)) (jo : List Int) (xs : List VV), m = List.length p ∧ 0 ≤ i ∧ List.drop (Int.toNat i) ah = p ∧ pre.length = i.toNat ∧ jo.length = ah.length ∧ xs = ae (eSl eI) pre ++ List.replicate m (.lit (.slice none 0 0)) ∧ i.toNat + m = ah.length ∧ lH al ah m i pre jo = some (bf, bg) ∧ st.df = [] ∧ 12 ≤ st.nx ∧ st.H 0 = some (.cells (some 25) (cGBk al)) ∧ st.H 6 = some (.cells (some 3) (ae eI jo)) ∧ st.H 9 = some (.cells (some 22) (ae eV xs)) ∧ st.tm 1 = .sl (ae eI ah) (List.length ah) false ∧ st.tm 2 = .sl (ae eI aj) (List.length aj) false ∧ st.tm 3 = .ptr 0 0 ∧ st.tm 7 = .lit (.int .i64 (List.length ah : Int)) ∧ st.tm 8 = .ref 6 0 (List.length jo) 1 (List.length jo) ∧ st.tm 9 = .ref 9 0 (List.length xs) 1 (List.length xs) ∧ st.tm 10 = .lit (.int .i64 i)) := ⟨_, rfl⟩
 refine loopKL mixed (by kernel_rfl) IA (List.length ah) (by rw [hIA]; refine ⟨ah, 0, [], List.replicate (Int.toNat (List.length ah : Int)) 0, List.replicate (Int.toNat (List.length ah : Int)) (.lit (.slice none 0 0)), rfl, Int.le_refl _, rfl, rfl, (by simp), (by simp [gi]), (by simp), ob, rfl, (show 12 ≤ 12 by omega), ?_, ?_, ?_, ?_, ?_, ?_, ?_, ?_, ?_, ?_⟩ <;> first | (simp only [ua, nm, seval] <;> rfl) | rfl) ?_
 rintro m ⟨tm, H, nxA, df⟩ hinv
 rw [hIA] at hinv
 obtain ⟨p, i, pre, jo, xs, rfl, hi, hp, hpre, hbg, hxs, hil, hrw, hdf, hnA, A0, A6, A9, a1, a2, a3, a7, a8, a9, po⟩ := hinv
 simp only at hdf hnA A0 A6 A9 a1 a2 a3 a7 a8 a9 po
 have nA := fw (m := 12) (b := nxA) (by omega)
 subst hdf
 have hxl : xs.length = ah.length := by
  rw [hxs, List.length_append, ej (w := 1) (enc := eSl eI) (fun _ => rfl), List.length_replicate]
  omega
 cases p with
 | nil =>
  have dA : (decide (i < (List.length ah : Int))) = false := fj hi hp
  simp only [List.length_nil, lH, Option.some.injEq, Prod.mk.injEq] at hrw
  obtain ⟨rfl, rfl⟩ := hrw
  simp only [List.length_nil, List.replicate_zero, List.append_nil] at hxs
  have PA : xs.length = pre.length := by rw [hxs, ej (w := 1) (enc := eSl eI) (fun _ => rfl)]; omega
  rw [PA] at a9
  rw [tK, hxs] at A9
  simp only [vz, tyf, dt, dM, nA, a1, a2, a3, a7, a8, a9, po, A0, A6, A9, dA, nm, seval]
  obtain ⟨Dp, h, tM, py, Dq, kP⟩ := eR h kN
  obtain ⟨Dr, pz, h⟩ := call4 h
  obtain ⟨Ds, iQ⟩ : ∃ I : Nat → St → Prop, I = (fun m st => ∃ (iC : Nat) (fN : Int) (cA : Int) (cP : List Int), iC = m ∧ st.df = [] ∧ 14 ≤ st.nx ∧ st.H 6 = some (.cells ((some 3)) (ae eI cP)) ∧ st.H 9 = some (.cells ((some 22)) (ae (eSl eI) pre)) ∧ st.tm 2 = .sl (ae eI aj) (List.length aj) false ∧ st.tm 7 = .lit (.int .i64 (List.length ah : Int)) ∧ st.tm 8 = .ref 6 0 (List.length cP) 1 (List.length cP) ∧ st.tm 9 = .ref 9 0 (List.length pre) 1 (List.length pre) ∧ st.tm 12 = .lit (.int .i64 fN) ∧ st.tm 13 = .lit (.int .i64 cA) ∧ Dp (Dr iC fN cA cP)) := ⟨_, rfl⟩
  refine loopK mixed (by kernel_rfl) Ds 1000000 (by rw [iQ]; refine ⟨1000000, (List.length ah : Int), 0, jo, rfl, rfl, (show 14 ≤ nxA + 6 by omega), ?_, ?_, ?_, ?_, ?_, ?_, ?_, ?_, h⟩ <;> first | (simp only [ua, nA, a1, a2, a3, a7, a8, a9, po, A0, A6, A9, dA, nm, seval] <;> rfl) | rfl) ?_
  rintro m ⟨tm, H, dk, df⟩ hinv
  rw [iQ] at hinv
  obtain ⟨iC, fN, cA, cP, rfl, hdf, p8, rJ, ki, cj, ck, dV, fx, ed, fm, h⟩ := hinv
  simp only at hdf p8 rJ ki cj ck dV fx ed fm
  have nn := fw (m := 14) (b := dk) (by omega)
  subst hdf pz
  cases iC with
  | zero =>
   simp only [mr, hs, reduceCtorEq] at h
   exact absurd h kP
  | succ iC =>
   simp only [mr, hs, reduceCtorEq] at h
   cases iR : (decide (fN > 0))
   ·simp only [iR, hs] at h
    replace h := py _ h
    try dsimp only at h
    try simp only [hs] at h
    try simp only [vz, tyf, dt, dM, nn, cj, ck, dV, fx, ed, fm, rJ, ki, iR, nm, seval]
    obtain rfl := kF _ h
    exact ⟨rfl, .ref 6 0 (List.length cP) 1 (List.length cP), (by first | (simp only [Tryz.results78, resV, resL, aO, bX, bY, uw, cr, tyf, dt, dM, nn, rJ, ki, iR, nm, seval] <;> rfl) | rfl), (ae eI cP).length + 1, 6, _, ae eI cP, ⟨_, rfl⟩, rJ, kE _ _ (eI_ok.treeL _) (Nat.lt_succ_self _)⟩
   simp only [iR, hs] at h
   cases pA : (aG ah)
   ·simp only [pA, hs] at h
    exact absurd h kP
   simp only [pA, hs] at h
   simp only [vz, tyf, dt, dM, nn, cj, ck, dV, fx, ed, fm, rJ, ki, iR, pA, nm, seval]
   obtain ⟨PB, h, PC, Dt, PD, mu⟩ := eR h kP
   obtain ⟨PE, Du, h⟩ := call4 h
   obtain ⟨PF, jA⟩ : ∃ I : Nat → St → Prop, I = (fun m st => ∃ (jq : List Int) (bT : Int) (dz : Int) (bE : List Int), m = List.length jq ∧ 0 ≤ bT ∧ List.drop (Int.toNat bT) ah = jq ∧ st.df = [] ∧ dk + 3 ≤ st.nx ∧ st.H 6 = some (.cells ((some 3)) (ae eI bE)) ∧ st.H 9 = some (.cells ((some 22)) (ae (eSl eI) pre)) ∧ st.tm 2 = .sl (ae eI aj) (List.length aj) false ∧ st.tm 7 = .lit (.int .i64 (List.length ah : Int)) ∧ st.tm 8 = .ref 6 0 (List.length bE) 1 (List.length bE) ∧ st.tm 9 = .ref 9 0 (List.length pre) 1 (List.length pre) ∧ st.tm 13 = .lit (.int .i64 cA) ∧ st.tm 12 = .lit (.int .i64 dz) ∧ st.tm 14 = .lit (.int .i64 bT) ∧ PB (PE jq bT dz bE)) := ⟨_, rfl⟩
   refine loopK mixed (by kernel_rfl) PF (List.length ah) (by rw [jA]; refine ⟨ah, 0, fN, cP, rfl, Int.le_refl _, rfl, rfl, (show dk + 3 ≤ dk + 3 by omega), ?_, ?_, cj, ck, dV, fx, fm, ed, ?_, h⟩ <;> first | (simp only [ua, nn, cj, ck, dV, fx, ed, fm, rJ, ki, iR, nm, seval] <;> rfl) | rfl) ?_
   rintro m ⟨tm, H, gN, df⟩ hinv
   rw [jA] at hinv
   obtain ⟨jq, bT, dz, bE, rfl, fy, hX, hdf, Dv, tN, tO, cE, cy, cz, cW, d6, cF, cu, h⟩ := hinv
   simp only at hdf Dv tN tO cE cy cz cW d6 cF cu
   have xu := fw (m := 14) (b := gN) (by omega)
   have xv := kH (a := dk) (m := 3) (b := gN) (by omega)
   subst hdf Du
   cases jq with
   | nil =>
    have gS : (decide (bT < (List.length ah : Int))) = false := fj fy hX
    simp only [lI, hs, reduceCtorEq] at h
    replace h := Dt _ h
    try dsimp only at h
    try simp only [hs] at h
    simp only [vz, tyf, dt, dM, nn, iR, pA, xu, xv, cE, cy, cz, cW, d6, cF, cu, tN, tO, gS, nm, seval]
    exact ⟨iC, Nat.lt_succ_self _, by rw [iQ]; refine ⟨iC, dz, i64.wrap (cA + 1), bE, rfl, rfl, (show 14 ≤ gN + 6 by omega), ?_, ?_, cE, cy, cz, cW, cF, ?_, (by first | exact h | (simp only [iR, gS]; exact h))⟩ <;> first | (simp only [ua, nn, iR, xu, xv, cE, cy, cz, cW, d6, cF, cu, tN, tO, gS, nm, seval] <;> rfl) | rfl⟩
   | cons gb jq =>
    have fC : (decide (bT < (List.length ah : Int))) = true := fh fy hX
    have gT := dG fy hX
    have rK := eQ fy hX pA
    simp only [lI, hs, reduceCtorEq] at h
    obtain ⟨PG, gU, h⟩ := optI h mu
    try simp only [hs] at h
    cases xw : (decide (PG < 0))
    ·simp only [xw, hs] at h
     have Dw := And.intro dt (And.intro dM (And.intro nn (And.intro iR (And.intro pA (And.intro xu (And.intro xv (And.intro tN (And.intro tO (And.intro fC (And.intro rK xw))))))))))
     simp only [vz, tyf, Dw, cE, cy, cz, cW, d6, cF, cu, (aB gT), (bm gU), nm, seval]
     exact ⟨List.length jq, Nat.lt_succ_self _, by rw [jA]; refine ⟨jq, bT + 1, dz, bE, rfl, Int.le_trans fy (Int.le_add_one (Int.le_refl _)), cU fy hX, rfl, (show dk + 3 ≤ gN + 21 by omega), ?_, ?_, cE, cy, cz, cW, d6, cF, ?_, (by first | exact h | (simp only [Dw]; exact h))⟩ <;> first | (simp only [ua, Dw, cE, cy, cz, cW, d6, cF, cu, nm, seval] <;> rfl) | rfl⟩
    simp only [xw, hs] at h
    have kQ := And.intro dt (And.intro dM (And.intro nn (And.intro iR (And.intro pA (And.intro xu (And.intro xv (And.intro tN (And.intro tO (And.intro fC (And.intro rK xw))))))))))
    obtain ⟨lJ, jB, h⟩ := optI h mu
    try simp only [hs] at h
    try simp only [vz, tyf, kQ, cE, cy, cz, cW, d6, cF, cu, (aB gT), (bm gU), (cX jB), nm, seval]
    refine kopen ?_
    rw [lK]
    refine au.run mixed Tryz.call109 Tryz.func109 rfl (by simp [Tryz.ntmps109]; kernel_rfl) ?_
    cases mw : (aG lJ)
    ·simp only [mw, hs] at h
     exact absurd h mu
    simp only [mw, hs] at h
    simp only [vz, tyf, kQ, (aB gT), (bm gU), (cX jB), mw, nm, seval]
    obtain ⟨PH, h, tP, Dx, PI, tQ⟩ := eR h mu
    obtain ⟨PJ, Dy, h⟩ := call2 h
    obtain ⟨PK, pC⟩ : ∃ I : Nat → St → Prop, I = (fun m st => ∃ (np : List Int) (ez : Int), m = List.length np ∧ 0 ≤ ez ∧ List.drop (Int.toNat ez) lJ = np ∧ st.df = [] ∧ gN + 20 ≤ st.nx ∧ st.H 6 = some (.cells ((some 3)) (ae eI bE)) ∧ st.H 9 = some (.cells ((some 22)) (ae (eSl eI) pre)) ∧ st.tm 0 = .sl (ae eI lJ) (List.length lJ) false ∧ st.tm 1 = .ref 6 0 (List.length bE) 1 (List.length bE) ∧ st.tm 2 = .sl (ae eI aj) (List.length aj) false ∧ st.tm 3 = .lit (.int .i64 cA) ∧ st.tm 9 = .lit (.int .i64 ez) ∧ PH (PJ np ez)) := ⟨_, rfl⟩
    refine loopK mixed (by kernel_rfl) PK (List.length lJ) (by rw [pC]; refine ⟨lJ, 0, rfl, Int.le_refl _, rfl, rfl, (show gN + 20 ≤ gN + 20 by omega), ?_, ?_, ?_, ?_, ?_, ?_, ?_, h⟩ <;> first | (simp only [ua, kQ, nm, seval] <;> rfl) | rfl) ?_
    rintro m ⟨tm, H, iS, df⟩ hinv
    rw [pC] at hinv
    obtain ⟨np, ez, rfl, jC, kR, hdf, Dz, nq, nr, gd, fO, kj, my, mz, h⟩ := hinv
    simp only at hdf Dz nq nr gd fO kj my mz
    have pD := fw (m := 14) (b := iS) (by omega)
    have pE := kH (a := dk) (m := 3) (b := iS) (by omega)
    have pF := kH (a := gN) (m := 20) (b := iS) (by omega)
    subst hdf Dy
    cases np with
    | nil =>
     have kS : (decide (ez < (List.length lJ : Int))) = false := fj jC kR
     simp only [nj, hs, reduceCtorEq] at h
     replace h := Dx _ h
     try dsimp only at h
     try simp only [hs] at h
     try simp only [vz, tyf, kQ, (aB gT), (bm gU), (cX jB), mw, pD, pE, pF, gd, fO, kj, my, mz, nq, nr, kS, nm, seval]
     refine ct (x := (.lit (.bool true))) (by first | (simp only [Tryz.results109, resV, resL, aO, bX, bY, uw, cr, tyf, kQ, (aB gT), (bm gU), (cX jB), mw, pD, pE, pF, nq, nr, kS, nm, seval] <;> rfl) | rfl) ?_
     have tR := setA (w := 1) (enc := eI) (fun _ => rfl) gU
     have pG := setB (w := 1) (enc := eI) cA (fun _ => rfl) gU
     simp only [vz, tyf, nm, seval] at pG
     have tS := setC (w := 1) (enc := eI) bE (Int.toNat bT) cA (fun _ => rfl)
     simp only [vz, tyf, kQ, (aB gT), (bm gU), (cX jB), mw, pD, pE, pF, nq, nr, kS, cE, cy, cz, cW, d6, cF, cu, tR, pG, tS, nm, seval]
     exact ⟨List.length jq, Nat.lt_succ_self _, by rw [jA]; refine ⟨jq, bT + 1, i64.wrap (dz - 1), (List.set bE (Int.toNat bT) cA), rfl, Int.le_trans fy (Int.le_add_one (Int.le_refl _)), cU fy hX, rfl, (show dk + 3 ≤ iS + 16 by omega), ?_, ?_, cE, cy, ?_, cW, d6, ?_, ?_, (by first | exact h | (simp only [kQ, kS]; exact h))⟩ <;> first | (simp only [ua, kQ, pD, pE, pF, nq, nr, kS, cE, cy, cz, cW, d6, cF, cu, tR, pG, tS, nm, seval] <;> rfl) | rfl⟩
    | cons lL np =>
     have D0 : (decide (ez < (List.length lJ : Int))) = true := fh jC kR
     have nt := dG jC kR
     have D1 := eQ jC kR mw
     simp only [nj, hs, reduceCtorEq] at h
     simp only [vz, tyf, kQ, (aB gT), (bm gU), (cX jB), mw, pD, pE, pF, gd, fO, kj, my, mz, nq, nr, D0, (aB nt), D1, nm, seval]
     refine jk (fun tm => tm 0 = .sl (ae eI lJ) (List.length lJ) false ∧ tm 1 = .ref 6 0 (List.length bE) 1 (List.length bE) ∧ tm 2 = .sl (ae eI aj) (List.length aj) false ∧ tm 3 = .lit (.int .i64 cA) ∧ tm 9 = .lit (.int .i64 ez) ∧ True) (by refine ⟨gd, fO, kj, my, mz, trivial⟩ <;> first | (simp only [ua, kQ, pD, pE, pF, gd, fO, kj, my, mz, nq, nr, D0, D1, nm, seval] <;> rfl) | rfl) ?_
     rintro tm ⟨jr, js, jD, kl, kT, _⟩
     have jE := And.intro kQ (And.intro mw (And.intro pD (And.intro pE (And.intro pF (And.intro nq (And.intro nr (And.intro D0 D1)))))))
     obtain ⟨LW, pH, h⟩ := optI h tQ
     try simp only [hs] at h
     cases iT : (decide (LW < 0))
     ·simp only [iT, hs] at h
      obtain ⟨PL, xx, h⟩ := optI h tQ
      try simp only [hs] at h
      cases lM : (decide ((i64.wrap (LW + PL)) > cA))
      ·simp only [lM, hs] at h
       simp only [vz, tyf, jE, (aB gT), (bm gU), (cX jB), (aB nt), jr, js, jD, kl, kT, (bm pH), iT, (aB xx), lM, nm, seval]
       exact ⟨List.length np, Nat.lt_succ_self _, by rw [pC]; refine ⟨np, ez + 1, rfl, Int.le_trans jC (Int.le_add_one (Int.le_refl _)), cU jC kR, rfl, (show gN + 20 ≤ iS + 34 by omega), ?_, ?_, jr, js, jD, kl, ?_, (by first | exact h | (simp only [jE, iT, lM]; exact h))⟩ <;> first | (simp only [ua, jE, jr, js, jD, kl, kT, iT, lM, nm, seval] <;> rfl) | rfl⟩
      simp only [lM, hs] at h
      try simp only [vz, tyf, jE, (aB gT), (bm gU), (cX jB), (aB nt), jr, js, jD, kl, kT, (bm pH), iT, (aB xx), lM, nm, seval]
      refine ct (x := (.lit (.bool false))) (by first | (simp only [Tryz.results109, resV, resL, aO, bX, bY, uw, cr, tyf, jE, (aB gT), (bm gU), (cX jB), (aB nt), (bm pH), iT, (aB xx), lM, nm, seval] <;> rfl) | rfl) ?_
      replace h := tP _ h
      try dsimp only at h
      simp only [vz, tyf, jE, (aB gT), (bm gU), (cX jB), (aB nt), (bm pH), iT, (aB xx), lM, cE, cy, cz, cW, d6, cF, cu, nm, seval]
      exact ⟨List.length jq, Nat.lt_succ_self _, by rw [jA]; refine ⟨jq, bT + 1, dz, bE, rfl, Int.le_trans fy (Int.le_add_one (Int.le_refl _)), cU fy hX, rfl, (show dk + 3 ≤ iS + 35 by omega), ?_, ?_, cE, cy, cz, cW, d6, cF, ?_, (by first | exact h | (simp only [jE, iT, lM]; exact h))⟩ <;> first | (simp only [ua, jE, iT, lM, cE, cy, cz, cW, d6, cF, cu, nm, seval] <;> rfl) | rfl⟩
     simp only [iT, hs] at h
     try simp only [vz, tyf, jE, (aB gT), (bm gU), (cX jB), (aB nt), jr, js, jD, kl, kT, (bm pH), iT, nm, seval]
     refine ct (x := (.lit (.bool false))) (by first | (simp only [Tryz.results109, resV, resL, aO, bX, bY, uw, cr, tyf, jE, (aB gT), (bm gU), (cX jB), (aB nt), (bm pH), iT, nm, seval] <;> rfl) | rfl) ?_
     replace h := tP _ h
     try dsimp only at h
     simp only [vz, tyf, jE, (aB gT), (bm gU), (cX jB), (aB nt), (bm pH), iT, cE, cy, cz, cW, d6, cF, cu, nm, seval]
     exact ⟨List.length jq, Nat.lt_succ_self _, by rw [jA]; refine ⟨jq, bT + 1, dz, bE, rfl, Int.le_trans fy (Int.le_add_one (Int.le_refl _)), cU fy hX, rfl, (show dk + 3 ≤ iS + 35 by omega), ?_, ?_, cE, cy, cz, cW, d6, cF, ?_, (by first | exact h | (simp only [jE, iT]; exact h))⟩ <;> first | (simp only [ua, jE, iT, cE, cy, cz, cW, d6, cF, cu, nm, seval] <;> rfl) | rfl⟩
 | cons e p =>
  have dA : (decide (i < (List.length ah : Int))) = true := fh hi hp
  have wA := eQ hi hp gl
  have hin : i.toNat < ah.length := by
   have := of_decide_eq_true dA
   omega
  rcases oA : getI jo i with _ | xA
  ·exfalso
   unfold getI at oA
   rw [if_pos hi] at oA
   have := List.getElem?_eq_none_iff.1 oA
   omega
  rw [List.length_cons] at hrw hxs
  simp only [lH] at hrw
  rcases hws : kM al ah i i.toNat 0 [] with _ | ws
  ·rw [hws] at hrw
   cases hrw
  rw [hws] at hrw
  simp only [Option.bind_some] at hrw
  have tR := setA (w := 1) (enc := eI) (fun _ => rfl) oA
  have pG := setB (w := 1) (enc := eI) (-1 : Int) (fun _ => rfl) oA
  simp only [vz, tyf, nm, seval] at pG
  have tS := setC (w := 1) (enc := eI) jo (Int.toNat i) (-1 : Int) (fun _ => rfl)
  simp only [vz, tyf, dt, dM, nA, a1, a2, a3, a7, a8, a9, po, A0, A6, A9, dA, (bm oA), tR, pG, tS, nm, seval]
  rw [List.replicate_succ] at hxs
  obtain ⟨IB, hIB⟩ : ∃ I : Nat → St → Prop, I = (fun m st => ∃ (k : Int) (w : List Int) (hd : VV) (ys : List VV), 0 ≤ k ∧ k.toNat + m = i.toNat ∧ ys = ae (eSl eI) pre ++ hd :: List.replicate p.length (.lit (.slice none 0 0)) ∧ kM al ah i m k w = some ws ∧ st.df = [] ∧ nxA ≤ st.nx ∧ st.H 0 = some (.cells (some 25) (cGBk al)) ∧ st.H 6 = some (.cells (some 3) (ae eI (List.set jo (Int.toNat i) (-1)))) ∧ st.H 9 = some (.cells (some 22) (ae eV ys)) ∧ st.tm 1 = .sl (ae eI ah) (List.length ah) false ∧ st.tm 2 = .sl (ae eI aj) (List.length aj) false ∧ st.tm 3 = .ptr 0 0 ∧ st.tm 7 = .lit (.int .i64 (List.length ah : Int)) ∧ st.tm 8 = .ref 6 0 (List.length jo) 1 (List.length jo) ∧ st.tm 9 = .ref 9 0 (List.length ys) 1 (List.length ys) ∧ st.tm 10 = .lit (.int .i64 i) ∧ st.tm 11 = .lit (.int .i64 k) ∧ ((∃ (β : Nat) (el : Option TypeId), hd = .ref β 0 (List.length w) 1 (List.length w) ∧ β < st.nx ∧ β ≠ 0 ∧ β ≠ 6 ∧ β ≠ 9 ∧ st.H β = some (.cells el (ae eI w))) ∨ (hd = .lit (.slice none 0 0) ∧ w = []))) := ⟨_, rfl⟩
  refine loopK mixed (by kernel_rfl) IB i.toNat (by rw [hIB]; refine ⟨0, [], .lit (.slice none 0 0), xs, Int.le_refl _, (by simp), hxs, hws, rfl, Nat.le_add_right _ _, ?_, ?_, ?_, ?_, ?_, ?_, ?_, ?_, ?_, ?_, ?_, Or.inr ⟨rfl, rfl⟩⟩ <;> first | (simp only [ua, nA, a1, a2, a3, a7, a8, a9, po, A0, A6, A9, dA, tR, pG, tS, nm, seval] <;> rfl) | rfl) ?_
  rintro m ⟨tm, H, nxB, df⟩ hinv
  rw [hIB] at hinv
  obtain ⟨k, w, hd, ys, hk, hkm, hys, hrow, hdf, hnB, B0, B6, B9, b1, b2, b3, b7, b8, b9, dN, dO, ow⟩ := hinv
  simp only at hdf hnB B0 B6 B9 b1 b2 b3 b7 b8 b9 dN dO ow
  have nB := fw (m := 12) (b := nxB) (by omega)
  subst hdf
  cases m with
  | zero =>
   have dB : decide (k < i) = false := decide_eq_false (by clear ow; omega)
   simp only [kM, Option.some.injEq] at hrow
   subst hrow
   have hki : k = i := by clear ow; omega
   have hzl : (ae (eSl eI) pre).length = i.toNat := by rw [ej (w := 1) (enc := eSl eI) (fun _ => rfl)]; clear ow; omega
   simp only [vz, tyf, dt, dM, nA, nB, b1, b2, b3, b7, b8, b9, dN, dO, B0, B6, B9, dA, dB, wA, nm, seval]
   rw [tK] at B9
   have hcl : ae (eSl eI) (pre ++ [w]) = ae (eSl eI) pre ++ [.sl (ae eI w) w.length false] := by rw [lD]; rfl
   rcases ow with ⟨β, el, rfl, mm, LX, LY, pk, hβ⟩ | ⟨rfl, rfl⟩
   · refine ⟨p.length, Nat.lt_succ_self _, ⟨_, updH (without H β) 9 (.cells (some 22) (ae (eSl eI) pre ++ .sl (ae eI w) w.length false :: List.replicate p.length (.lit (.slice none 0 0)))), _, []⟩, Look.ghost (Ghost.mid hβ (by rw [B9, hys]) (Ne.symm pk) (eI_ok.treeL _) (ej (w := 1) (enc := eI) (fun _ => rfl) _)), ?_⟩
     rw [hIA]
     refine ⟨p, i + 1, pre ++ [w], List.set jo i.toNat (-1), ae (eSl eI) pre ++ .sl (ae eI w) w.length false :: List.replicate p.length (.lit (.slice none 0 0)), rfl, Int.le_trans hi (Int.le_add_one (Int.le_refl _)), cU hi hp, ?_, ?_, ?_, ?_, hrw, rfl, ?_, ?_, ?_, ?_, ?_, ?_, ?_, ?_, ?_, ?_, ?_⟩
     · rw [List.length_append, List.length_singleton]; omega
     · rw [List.length_set]; exact hbg
     · rw [hcl, List.append_assoc]; rfl
     · rw [List.length_cons] at hil; omega
     · dsimp only; omega
     · dsimp only
       rw [ba, if_neg (by decide), bj, if_neg (by omega)]; exact B0
     · dsimp only
       rw [ba, if_neg (by decide), bj, if_neg (by omega)]; exact B6
     · dsimp only
       rw [ba, if_pos rfl, tK]
     · simp only [ua, nB, b1, b2, b3, b7, b8, b9, dN, dO, nm, seval]
     · simp only [ua, nB, b1, b2, b3, b7, b8, b9, dN, dO, nm, seval]
     · simp only [ua, nB, b1, b2, b3, b7, b8, b9, dN, dO, nm, seval]
     · simp only [ua, nB, b1, b2, b3, b7, b8, b9, dN, dO, nm, seval]
     · simp only [ua, nB, b1, b2, b3, b7, b8, b9, dN, dO, List.length_set, nm, seval]
     · simp only [ua, nB, b1, b2, b3, b7, b8, b9, dN, dO, nm, seval]; rw [hys]; simp only [List.length_append, List.length_cons]
     · simp only [ua, nB, b1, b2, b3, b7, b8, b9, dN, dO, wA, nm, seval]
   · refine ⟨p.length, Nat.lt_succ_self _, ⟨_, updH H 9 (.cells (some 22) (ae (eSl eI) pre ++ .sl [] 0 false :: List.replicate p.length (.lit (.slice none 0 0)))), _, []⟩, Look.nil (by rw [B9, hys]), ?_⟩
     rw [hIA]
     refine ⟨p, i + 1, pre ++ [[]], List.set jo i.toNat (-1), ae (eSl eI) pre ++ .sl [] 0 false :: List.replicate p.length (.lit (.slice none 0 0)), rfl, Int.le_trans hi (Int.le_add_one (Int.le_refl _)), cU hi hp, ?_, ?_, ?_, ?_, hrw, rfl, ?_, ?_, ?_, ?_, ?_, ?_, ?_, ?_, ?_, ?_, ?_⟩
     · rw [List.length_append, List.length_singleton]; omega
     · rw [List.length_set]; exact hbg
     · rw [hcl, List.append_assoc]; rfl
     · rw [List.length_cons] at hil; omega
     · dsimp only; omega
     · dsimp only
       rw [ba, if_neg (by decide)]; exact B0
     · dsimp only
       rw [ba, if_neg (by decide)]; exact B6
     · dsimp only
       rw [ba, if_pos rfl, tK]
     · simp only [ua, nB, b1, b2, b3, b7, b8, b9, dN, dO, nm, seval]
     · simp only [ua, nB, b1, b2, b3, b7, b8, b9, dN, dO, nm, seval]
     · simp only [ua, nB, b1, b2, b3, b7, b8, b9, dN, dO, nm, seval]
     · simp only [ua, nB, b1, b2, b3, b7, b8, b9, dN, dO, nm, seval]
     · simp only [ua, nB, b1, b2, b3, b7, b8, b9, dN, dO, List.length_set, nm, seval]
     · simp only [ua, nB, b1, b2, b3, b7, b8, b9, dN, dO, nm, seval]; rw [hys]; simp only [List.length_append, List.length_cons]
     · simp only [ua, nB, b1, b2, b3, b7, b8, b9, dN, dO, wA, nm, seval]
  | succ m =>
   have dB : decide (k < i) = true := decide_eq_true (by clear ow; omega)
   have hkp : k.toNat < ah.length := by clear ow; omega
   have wB := eQ hk (List.drop_eq_getElem_cons hkp) gl
   have oY : getI ys i = some hd := by
    have hzl : (ae (eSl eI) pre).length = i.toNat := by rw [ej (w := 1) (enc := eSl eI) (fun _ => rfl)]; clear ow; omega
    unfold getI
    rw [if_pos hi, hys, ← hzl, List.getElem?_append_right (Nat.le_refl _), Nat.sub_self]
    rfl
   have hset : ∀ v, List.set ys (Int.toNat i) v = ae (eSl eI) pre ++ v :: List.replicate p.length (.lit (.slice none 0 0)) := by
    intro v
    have hzl : (ae (eSl eI) pre).length = i.toNat := by rw [ej (w := 1) (enc := eSl eI) (fun _ => rfl)]; clear ow; omega
    rw [hys, ← hzl, List.set_append_right _ _ (Nat.le_refl _), Nat.sub_self]
    rfl
   simp only [kM] at hrow
   rcases of : mo al ah k i with _ | r
   ·rw [of] at hrow
    cases hrow
   rw [of] at hrow
   simp only [Option.bind_some] at hrow
   simp only [vz, tyf, dt, dM, nA, nB, b1, b2, b3, b7, b8, b9, dN, dO, B0, B6, B9, dA, dB, wA, nm, seval]
   refine ktA (LP _ _ _ _ _ of) ?_
   have nu := setA (w := 1) (enc := eV) (fun _ => rfl) oY
   have m0 := fun v => setB (w := 1) (enc := eV) v (fun _ => rfl) oY
   simp only [vz, tyf, eV_eq, nm, seval] at m0
   have nv := fun v => setC (w := 1) (enc := eV) ys (Int.toNat i) v (fun _ => rfl)
   rcases r with _ | _
   · simp only [cond_false] at hrow
     simp only [vz, tyf, dt, dM, nA, nB, b1, b2, b3, b7, b8, b9, dN, dO, B0, B6, B9, dA, dB, wA, wB, nm, seval]
     exact ⟨m, Nat.lt_succ_self _, by
      rw [hIB]
      refine ⟨k + 1, w, hd, ys, (by clear ow; omega), (by clear ow; omega), hys, hrow, rfl, (by dsimp only; clear ow; omega), ?_, ?_, ?_, ?_, ?_, ?_, ?_, ?_, ?_, ?_, ?_, ?_⟩
      rotate_right
      · rcases ow with ⟨β, el, h1, h2, h3, h4, h5, h6⟩ | h1
        · exact Or.inl ⟨β, el, h1, (by dsimp only; omega), h3, h4, h5, h6⟩
        · exact Or.inr h1
      all_goals first | (simp only [ua, dt, dM, nA, nB, b1, b2, b3, b7, b8, b9, dN, dO, B0, B6, B9, dA, dB, wA, wB, nm, seval] <;> rfl) | rfl⟩
   · simp only [cond_true] at hrow
     cases gr : (aS 8 (List.length (w ++ [k])))
     · rw [gr] at hrow
       cases hrow
     rw [gr] at hrow
     simp only [cond_true] at hrow
     rcases ow with ⟨β, el, rfl, mm, LX, LY, pk, hβ⟩ | ⟨rfl, rfl⟩
     · have q1 := fZ mm
       have q2 := ne_f LX
       have q3 := ne_f LY
       have q4 := ne_f pk
       simp only [vz, tyf, dt, dM, nA, nB, b1, b2, b3, b7, b8, b9, dN, dO, B0, B6, B9, dA, dB, wA, wB, (ixoV oY), eV_eq, nu, m0, nv, q1, q2, q3, q4, hβ, nm, seval]
       refine k_app (w := 1) (enc := eI) (xs := w) (ys := [k]) (el := el) (gC := (some 3)) (fun _ => rfl) dW dL Tryz.underlying22 (by first | rfl | assumption | (simp only [ba, bj, bC, dt, dM, nA, nB, b1, b2, b3, b7, b8, b9, dN, dO, B0, B6, B9, dA, dB, wA, wB, q1, q2, q3, q4, hβ, nm, seval] <;> rfl) | (simp only [ba, bj, ga, gi, gx, gy, tyf, dt, dM, nA, nB, b1, b2, b3, b7, b8, b9, dN, dO, B0, B6, B9, dA, dB, wA, wB, q1, q2, q3, q4, hβ, nm, seval]; done)) (by first | rfl | assumption | (simp only [ba, bj, bC, dt, dM, nA, nB, b1, b2, b3, b7, b8, b9, dN, dO, B0, B6, B9, dA, dB, wA, wB, q1, q2, q3, q4, hβ, nm, seval] <;> rfl) | (simp only [ba, bj, ga, gi, gx, gy, tyf, dt, dM, nA, nB, b1, b2, b3, b7, b8, b9, dN, dO, B0, B6, B9, dA, dB, wA, wB, q1, q2, q3, q4, hβ, nm, seval]; done)) (Nat.zero_lt_succ _) gr ?_
       simp only [vz, tyf, dt, dM, nA, nB, b1, b2, b3, b7, b8, b9, dN, dO, B0, B6, B9, dA, dB, wA, wB, (ixoV oY), eV_eq, nu, m0, nv, q1, q2, q3, q4, hβ, gr, nm, seval]
       exact ⟨m, Nat.lt_succ_self _, by
        rw [hIB]
        refine ⟨k + 1, w ++ [k], .ref (nxB + 16) 0 (List.length (w ++ [k])) 1 (List.length (w ++ [k])), List.set ys (Int.toNat i) (.ref (nxB + 16) 0 (List.length (w ++ [k])) 1 (List.length (w ++ [k]))), (by omega), (by omega), hset _, hrow, rfl, (by dsimp only; omega), ?_, ?_, ?_, ?_, ?_, ?_, ?_, ?_, ?_, ?_, ?_, Or.inl ⟨nxB + 16, sameEl el 3, rfl, (by dsimp only; omega), (by omega), (by omega), (by omega), ?_⟩⟩
        all_goals first | (simp only [ua, dt, dM, nA, nB, b1, b2, b3, b7, b8, b9, dN, dO, B0, B6, B9, dA, dB, wA, wB, (ixoV oY), eV_eq, nu, m0, nv, q1, q2, q3, q4, hβ, nm, seval] <;> rfl) | (simp only [ua, dt, dM, nA, nB, b1, b2, b3, b7, b8, b9, dN, dO, B0, B6, B9, dA, dB, wA, wB, (ixoV oY), eV_eq, nu, m0, nv, q1, q2, q3, q4, hβ, List.length_set, nm, seval] <;> rfl) | rfl⟩
     · simp only [vz, tyf, dt, dM, nA, nB, b1, b2, b3, b7, b8, b9, dN, dO, B0, B6, B9, dA, dB, wA, wB, (ixoV oY), eV_eq, nu, m0, nv, nm, seval]
       refine ru (w := 1) (enc := eI) (ys := [k]) (gC := (some 3)) (fun _ => rfl) dW dL Tryz.underlying22 (by first | rfl | assumption | (simp only [ba, bj, bC, dt, dM, nA, nB, b1, b2, b3, b7, b8, b9, dN, dO, B0, B6, B9, dA, dB, wA, wB, nm, seval] <;> rfl) | (simp only [ba, bj, ga, gi, gx, gy, tyf, dt, dM, nA, nB, b1, b2, b3, b7, b8, b9, dN, dO, B0, B6, B9, dA, dB, wA, wB, nm, seval]; done)) (Nat.zero_lt_succ _) gr ?_
       simp only [vz, tyf, dt, dM, nA, nB, b1, b2, b3, b7, b8, b9, dN, dO, B0, B6, B9, dA, dB, wA, wB, (ixoV oY), eV_eq, nu, m0, nv, gr, nm, seval]
       exact ⟨m, Nat.lt_succ_self _, by
        rw [hIB]
        refine ⟨k + 1, [k], .ref (nxB + 16) 0 (List.length ([k])) 1 (List.length ([k])), List.set ys (Int.toNat i) (.ref (nxB + 16) 0 (List.length ([k])) 1 (List.length ([k]))), (by omega), (by omega), hset _, hrow, rfl, (by dsimp only; omega), ?_, ?_, ?_, ?_, ?_, ?_, ?_, ?_, ?_, ?_, ?_, Or.inl ⟨nxB + 16, some 3, rfl, (by dsimp only; omega), (by omega), (by omega), (by omega), ?_⟩⟩
        all_goals first | (simp only [ua, dt, dM, nA, nB, b1, b2, b3, b7, b8, b9, dN, dO, B0, B6, B9, dA, dB, wA, wB, (ixoV oY), eV_eq, nu, m0, nv, nm, seval] <;> rfl) | (simp only [ua, dt, dM, nA, nB, b1, b2, b3, b7, b8, b9, dN, dO, B0, B6, B9, dA, dB, wA, wB, (ixoV oY), eV_eq, nu, m0, nv, List.length_set, nm, seval] <;> rfl) | rfl⟩
def pI (aj : List Int) : Nat → Int → (List Int) → Option (LOut (List Int) (Int × (List Int)))
 | 0, _, _ => none
 | k0 + 1, eT, bO => cond (decide (eT < (List.length bO : Int))) (Option.bind (getI bO eT) (fun x3 => Option.bind (getI aj eT) (fun x4 => pI aj k0 (i64.wrap (eT + 1)) (List.set bO (Int.toNat eT) (i64.wrap (x3 + x4)))))) (some (.go (eT, bO)))
def rL (al : GBk) (ah : List Int) (aj : List Int) : Option (List Int) := Option.bind (rI al ah aj) (fun r1 => cond (aG r1) (lbind (pI aj 1000000 0 r1) (fun r6 => some r6) (fun c5 => some c5.2) (fun _ _ => none)) none)
theorem LZ (al : GBk) (ah : List Int) (aj : List Int) (R : List Int) (h : rL al ah aj = some R) : ak Tryz.prog G0 75 [.agg (cGBk al), .sl (ae eI ah) (List.length ah) false, .sl (ae eI aj) (List.length aj) false] (.tree (.sl (ae eI R) (List.length R) false)) := by
 refine ak.runR mixed Tryz.call75 Tryz.func75 rfl (by simp [Tryz.ntmps75]; kernel_rfl) ?_
 obtain ⟨KF, h, kF, kN⟩ := cI h
 simp only [rL] at h
 obtain ⟨r7, o8, h⟩ := optI h kN
 try simp only [hs] at h
 simp only [vz, tyf, nm, seval]
 refine kown (args0 := [.agg (cGBk al), .sl (ae eI ah) (List.length ah) false, .sl (ae eI aj) (List.length aj) false]) (by first | (simp only [nrm, aF] <;> rfl) | rfl) (by simp only [tre, aI, Bool.and_self]) (LV _ _ _ _ o8) ?_
 simp only [vz, tyf, nm, seval]
 cases gE : (aG r7)
 ·simp only [gE, hs] at h
  exact absurd h kN
 simp only [gE, hs] at h
 obtain ⟨K9, h, T5, PM, T6, D2⟩ := eR h kN
 obtain ⟨f9, PN, h⟩ := call3 h
 obtain ⟨I9, D3⟩ : ∃ I : Nat → St → Prop, I = (fun m st => ∃ (p9 : Nat) (hY : Int) (dh : List Int), p9 = m ∧ st.df = [] ∧ 8 ≤ st.nx ∧ st.H 5 = some (.cells (none) (ae eI dh)) ∧ st.tm 2 = .sl (ae eI aj) (List.length aj) false ∧ st.tm 7 = .ref 5 0 (List.length dh) 1 (List.length dh) ∧ st.tm 8 = .lit (.int .i64 hY) ∧ K9 (f9 p9 hY dh)) := ⟨_, rfl⟩
 refine loopK mixed (by kernel_rfl) I9 1000000 (by rw [D3]; refine ⟨1000000, 0, r7, rfl, rfl, (show 8 ≤ 8 by omega), ?_, ?_, ?_, ?_, h⟩ <;> first | (simp only [ua, nm, seval] <;> rfl) | rfl) ?_
 rintro m ⟨tm, H, Ma, df⟩ hinv
 rw [D3] at hinv
 obtain ⟨p9, hY, dh, rfl, hdf, PO, gV, bF, cn, bI, h⟩ := hinv
 simp only at hdf PO gV bF cn bI
 have iD := fw (m := 8) (b := Ma) (by omega)
 subst hdf PN
 cases p9 with
 | zero =>
  simp only [pI, hs, reduceCtorEq] at h
  exact absurd h D2
 | succ p9 =>
  simp only [pI, hs, reduceCtorEq] at h
  cases eg : (decide (hY < (List.length dh : Int)))
  ·simp only [eg, hs] at h
   replace h := PM _ h
   try dsimp only at h
   try simp only [hs] at h
   try simp only [vz, tyf, iD, bF, cn, bI, gV, eg, nm, seval]
   refine ct (x := (.ref 5 0 (List.length dh) 1 (List.length dh))) (by first | (simp only [Tryz.results75, resV, resL, aO, bX, bY, uw, cr, tyf, iD, gV, eg, nm, seval] <;> rfl) | rfl) ?_
   obtain rfl := kF _ h
   refine fB ?_ ?_
   ·simp only [tre, aI, Bool.and_self]
   ·first | (simp only [outV, uw, fp, cr, tyf, nrm, aF, iD, bF, cn, bI, gV, eg, nm, seval] <;> rfl) | rfl
  simp only [eg, hs] at h
  simp only [vz, tyf, iD, bF, cn, bI, gV, eg, nm, seval]
  refine rp (fun tm => tm 2 = .sl (ae eI aj) (List.length aj) false ∧ tm 7 = .ref 5 0 (List.length dh) 1 (List.length dh) ∧ tm 8 = .lit (.int .i64 hY) ∧ True) (by refine ⟨bF, cn, bI, trivial⟩ <;> first | (simp only [ua, iD, bF, cn, bI, gV, eg, nm, seval] <;> rfl) | rfl) ?_
  rintro tm ⟨bB, bK, cv, _⟩
  obtain ⟨D4, lN, h⟩ := optI h D2
  try simp only [hs] at h
  obtain ⟨D5, lO, h⟩ := optI h D2
  try simp only [hs] at h
  have kU := setA (w := 1) (enc := eI) (fun _ => rfl) lN
  have xy := setB (w := 1) (enc := eI) (i64.wrap (D4 + D5)) (fun _ => rfl) lN
  simp only [vz, tyf, nm, seval] at xy
  have hZ := setC (w := 1) (enc := eI) dh (Int.toNat hY) (i64.wrap (D4 + D5)) (fun _ => rfl)
  simp only [vz, tyf, iD, gV, eg, bB, bK, cv, (bm lN), (aB lO), kU, xy, hZ, nm, seval]
  refine nc ⟨?_, ?_⟩
  ·simp only [iA, i9, dQ, i6, and_true, true_and]
   repeat' (first | exact trivial | refine And.intro ?_ ?_ | rw [dQ] | rw [i7] | exact Or.inl (by decide +kernel) | exact Or.inl (by dsimp only; decide +kernel) | (refine Or.inr ⟨?_, ?_⟩ <;> simp; done) | (refine Or.inr ⟨?_, ?_⟩ <;> simp <;> omega) | (refine Or.inr ⟨?_, ?_⟩ <;> simp [VEff.wr] <;> omega))
  simp only [vz, tyf, iD, gV, eg, bB, bK, cv, (bm lN), (aB lO), kU, xy, hZ, nm, seval]
  exact ⟨p9, Nat.lt_succ_self _, by rw [D3]; refine ⟨p9, i64.wrap (hY + 1), (List.set dh (Int.toNat hY) (i64.wrap (D4 + D5))), rfl, rfl, (show 8 ≤ Ma + 20 by omega), ?_, bB, ?_, ?_, (by first | exact h | (simp only [eg]; exact h))⟩ <;> first | (simp only [ua, iD, gV, eg, bB, bK, cv, kU, xy, hZ, nm, seval] <;> rfl) | rfl⟩
def jt (aW : Bool) : List GBs → Int → (List Int) → Option (LOut (List Int) ((List Int)))
 | [], fz, cw => some (.go cw)
 | e0 :: p0, fz, cw => cond (aW) (cond (aS 8 (List.length (cw ++ [e0.Hours.High]))) (jt aW p0 (fz + 1) (cw ++ [e0.Hours.High])) none) (cond (aS 8 (List.length (cw ++ [e0.Hours.Low]))) (jt aW p0 (fz + 1) (cw ++ [e0.Hours.Low])) none)
def lP (al : GBk) (aW : Bool) : Option (List Int) := cond (aG al.Strokes) (lbind (jt aW al.Strokes 0 ([] : List Int)) (fun r2 => some r2) (fun c1 => some c1) (fun _ _ => none)) none
theorem Mb (al : GBk) (aW : Bool) (R : List Int) (h : lP al aW = some R) : ak Tryz.prog G0 33 [.agg (cGBk al), .lit (.bool aW)] (.tree (.sl (ae eI R) (List.length R) false)) := by
 refine ak.runR mixed Tryz.call33 Tryz.func33 rfl (by simp [Tryz.ntmps33]; kernel_rfl) ?_
 obtain ⟨KF, h, kF, kN⟩ := cI h
 simp only [lP] at h
 cases g4 : (aG al.Strokes)
 ·simp only [g4, hs] at h
  exact absurd h kN
 simp only [g4, hs] at h
 simp only [vz, tyf, g4, nm, seval]
 obtain ⟨K3, h, mn, iB, rH, kh⟩ := eR h kN
 obtain ⟨f3, j8, h⟩ := call3 h
 obtain ⟨I3, dU⟩ : ∃ I : Nat → St → Prop, I = (fun m st => ∃ (p3 : List GBs) (cq : Int) (bu : List Int) (gO : VV), m = List.length p3 ∧ 0 ≤ cq ∧ List.drop (Int.toNat cq) al.Strokes = p3 ∧ st.df = [] ∧ 4 ≤ st.nx ∧ st.H 0 = some (.cells (some 25) (cGBk al)) ∧ st.tm 1 = .lit (.bool aW) ∧ st.tm 2 = .ptr 0 0 ∧ st.tm 5 = gO ∧ st.tm 6 = .lit (.int .i64 cq) ∧ ((∃ (β : Nat) (el : Option TypeId), gO = .ref β 0 (List.length bu) 1 (List.length bu) ∧ β < st.nx ∧ β ≠ 0 ∧ st.H β = some (.cells el (ae eI bu))) ∨ (gO = .lit (.slice none 0 0) ∧ bu = [])) ∧ K3 (f3 p3 cq bu)) := ⟨_, rfl⟩
 refine loopK mixed (by kernel_rfl) I3 (List.length al.Strokes) (by rw [dU]; refine ⟨al.Strokes, 0, ([] : List Int), .lit (.slice none 0 0), rfl, Int.le_refl _, rfl, rfl, (show 4 ≤ 4 by omega), ?_, ?_, ?_, ?_, ?_, Or.inr ⟨rfl, rfl⟩, h⟩ <;> first | (simp only [ua, nm, seval] <;> rfl) | rfl) ?_
 rintro m ⟨tm, H, dr, df⟩ hinv
 rw [dU] at hinv
 obtain ⟨p3, cq, bu, gO, rfl, bJ, ca, hdf, j9, H5, e6, e7, e8, e9, ia, h⟩ := hinv
 simp only at hdf j9 H5 e6 e7 e8 e9 ia
 have di := fw (m := 4) (b := dr) (by omega)
 subst hdf j8
 rcases ia with ⟨m2, fP, rfl, pJ, pK, lQ⟩ | ⟨rfl, rfl⟩
 ·have m3 := fZ pJ
  have m4 := ne_f pK
  cases p3 with
  | nil =>
   have bx : (decide (cq < (List.length al.Strokes : Int))) = false := fj bJ ca
   simp only [jt, hs, reduceCtorEq] at h
   replace h := iB _ h
   try dsimp only at h
   try simp only [hs] at h
   try simp only [vz, tyf, g4, di, e6, e7, e8, e9, H5, m3, lQ, m4, bx, nm, seval]
   refine ct (x := (.ref m2 0 (List.length bu) 1 (List.length bu))) (by first | (simp only [Tryz.results33, resV, resL, aO, bX, bY, uw, cr, tyf, g4, di, H5, m3, lQ, m4, bx, nm, seval] <;> rfl) | rfl) ?_
   obtain rfl := kF _ h
   refine fB ?_ ?_
   ·simp only [tre, aI, Bool.and_self]
   ·first | (simp only [outV, uw, fp, cr, tyf, nrm, aF, g4, di, e6, e7, e8, e9, H5, m3, lQ, m4, bx, nm, seval] <;> rfl) | rfl
  | cons e3 p3 =>
   have eg : (decide (cq < (List.length al.Strokes : Int))) = true := fh bJ ca
   have iU := dG bJ ca
   have xz := eQ bJ ca g4
   simp only [jt, hs, reduceCtorEq] at h
   cases eh : (aW)
   ·simp only [eh, hs] at h
    have jF := And.intro g4 (And.intro di (And.intro H5 (And.intro m3 (And.intro lQ (And.intro m4 (And.intro eg (And.intro xz eh)))))))
    cases pL : (aS 8 (List.length (bu ++ [e3.Hours.Low])))
    ·simp only [pL, hs] at h
     exact absurd h kh
    simp only [pL, hs] at h
    simp only [vz, tyf, jF, e6, e7, e8, e9, (aT iU), pL, nm, seval]
    refine k_app (w := 1) (enc := eI) (xs := bu) (ys := ([e3.Hours.Low])) (el := fP) (gC := (some 3)) (fun _ => rfl) dW dL Tryz.underlying22 (by first | rfl | assumption | (simp only [ba, bj, bC, jF, nm, seval] <;> rfl) | (simp only [ba, bj, ga, gi, gx, gy, tyf, jF, e6, e7, e8, e9, (aT iU), pL, nm, seval]; done)) (by first | rfl | assumption | (simp only [ba, bj, bC, jF, nm, seval] <;> rfl) | (simp only [ba, bj, ga, gi, gx, gy, tyf, jF, e6, e7, e8, e9, (aT iU), pL, nm, seval]; done)) (Nat.zero_lt_succ _) pL ?_
    simp only [vz, tyf, jF, e6, e7, e8, e9, (aT iU), pL, nm, seval]
    exact ⟨List.length p3, Nat.lt_succ_self _, by rw [dU]; refine ⟨p3, cq + 1, (bu ++ [e3.Hours.Low]), .ref (dr + 15) 0 (List.length (bu ++ [e3.Hours.Low])) 1 (List.length (bu ++ [e3.Hours.Low])), rfl, Int.le_trans bJ (Int.le_add_one (Int.le_refl _)), cU bJ ca, rfl, (show 4 ≤ dr + 20 by omega), ?_, ?_, e7, ?_, ?_, Or.inl ⟨dr + 15, (sameEl fP 3), rfl, (by first | omega | (simp only [nm, seval]; done) | (simp only [nm, seval]; omega)), (by first | omega | (intro hh; simp only [jF, reduceCtorEq] at hh)), ?_⟩, (by first | exact h | (simp only [jF]; exact h))⟩ <;> first | (simp only [ua, jF, e6, e7, e8, e9, nm, seval] <;> rfl) | rfl⟩
   simp only [eh, hs] at h
   have gP := And.intro g4 (And.intro di (And.intro H5 (And.intro m3 (And.intro lQ (And.intro m4 (And.intro eg (And.intro xz eh)))))))
   cases iV : (aS 8 (List.length (bu ++ [e3.Hours.High])))
   ·simp only [iV, hs] at h
    exact absurd h kh
   simp only [iV, hs] at h
   simp only [vz, tyf, gP, e6, e7, e8, e9, (aT iU), iV, nm, seval]
   refine k_app (w := 1) (enc := eI) (xs := bu) (ys := ([e3.Hours.High])) (el := fP) (gC := (some 3)) (fun _ => rfl) dW dL Tryz.underlying22 (by first | rfl | assumption | (simp only [ba, bj, bC, gP, nm, seval] <;> rfl) | (simp only [ba, bj, ga, gi, gx, gy, tyf, gP, e6, e7, e8, e9, (aT iU), iV, nm, seval]; done)) (by first | rfl | assumption | (simp only [ba, bj, bC, gP, nm, seval] <;> rfl) | (simp only [ba, bj, ga, gi, gx, gy, tyf, gP, e6, e7, e8, e9, (aT iU), iV, nm, seval]; done)) (Nat.zero_lt_succ _) iV ?_
   simp only [vz, tyf, gP, e6, e7, e8, e9, (aT iU), iV, nm, seval]
   exact ⟨List.length p3, Nat.lt_succ_self _, by rw [dU]; refine ⟨p3, cq + 1, (bu ++ [e3.Hours.High]), .ref (dr + 15) 0 (List.length (bu ++ [e3.Hours.High])) 1 (List.length (bu ++ [e3.Hours.High])), rfl, Int.le_trans bJ (Int.le_add_one (Int.le_refl _)), cU bJ ca, rfl, (show 4 ≤ dr + 20 by omega), ?_, ?_, e7, ?_, ?_, Or.inl ⟨dr + 15, (sameEl fP 3), rfl, (by first | omega | (simp only [nm, seval]; done) | (simp only [nm, seval]; omega)), (by first | omega | (intro hh; simp only [gP, reduceCtorEq] at hh)), ?_⟩, (by first | exact h | (simp only [gP]; exact h))⟩ <;> first | (simp only [ua, gP, e6, e7, e8, e9, nm, seval] <;> rfl) | rfl⟩
 ·cases p3 with
  | nil =>
   have gW : (decide (cq < (List.length al.Strokes : Int))) = false := fj bJ ca
   simp only [jt, hs, reduceCtorEq] at h
   replace h := iB _ h
   try dsimp only at h
   try simp only [hs] at h
   try simp only [vz, tyf, g4, di, e6, e7, e8, e9, H5, gW, nm, seval]
   refine ct (x := (.lit (.slice none 0 0))) (by first | (simp only [Tryz.results33, resV, resL, aO, bX, bY, uw, cr, tyf, g4, di, H5, gW, nm, seval] <;> rfl) | rfl) ?_
   obtain rfl := kF _ h
   refine fB ?_ ?_
   ·simp only [tre, aI, Bool.and_self]
   ·first | (simp only [outV, uw, fp, cr, tyf, nrm, aF, g4, di, e6, e7, e8, e9, H5, gW, nm, seval] <;> rfl) | rfl
  | cons e3 p3 =>
   have eP : (decide (cq < (List.length al.Strokes : Int))) = true := fh bJ ca
   have iE := dG bJ ca
   have hZ := eQ bJ ca g4
   simp only [jt, hs, reduceCtorEq] at h
   cases fq : (aW)
   ·simp only [fq, hs] at h
    cases ib : (aS 8 (List.length (([] : List Int) ++ [e3.Hours.Low])))
    ·simp only [ib, hs] at h
     exact absurd h kh
    simp only [ib, hs] at h
    simp only [vz, tyf, g4, di, e6, e7, e8, e9, H5, eP, (aT iE), hZ, fq, ib, nm, seval]
    refine ru (w := 1) (enc := eI) (ys := ([e3.Hours.Low])) (gC := (some 3)) (fun _ => rfl) dW dL Tryz.underlying22 (by first | rfl | assumption | (simp only [ba, bj, bC, di, H5, nm, seval] <;> rfl) | (simp only [ba, bj, ga, gi, gx, gy, tyf, g4, di, e6, e7, e8, e9, H5, eP, (aT iE), hZ, fq, ib, nm, seval]; done)) (Nat.zero_lt_succ _) ib ?_
    simp only [vz, tyf, g4, di, e6, e7, e8, e9, H5, eP, (aT iE), hZ, fq, ib, nm, seval]
    exact ⟨List.length p3, Nat.lt_succ_self _, by rw [dU]; refine ⟨p3, cq + 1, (([] : List Int) ++ [e3.Hours.Low]), .ref (dr + 15) 0 (List.length (([] : List Int) ++ [e3.Hours.Low])) 1 (List.length (([] : List Int) ++ [e3.Hours.Low])), rfl, Int.le_trans bJ (Int.le_add_one (Int.le_refl _)), cU bJ ca, rfl, (show 4 ≤ dr + 20 by omega), ?_, ?_, e7, ?_, ?_, Or.inl ⟨dr + 15, (some 3), rfl, (by first | omega | (simp only [nm, seval]; done) | (simp only [nm, seval]; omega)), (by first | omega | (intro hh; simp only [di, reduceCtorEq] at hh)), ?_⟩, (by first | exact h | (simp only [eP, fq]; exact h))⟩ <;> first | (simp only [ua, di, e6, e7, e8, e9, H5, eP, hZ, fq, nm, seval] <;> rfl) | rfl⟩
   simp only [fq, hs] at h
   cases jG : (aS 8 (List.length (([] : List Int) ++ [e3.Hours.High])))
   ·simp only [jG, hs] at h
    exact absurd h kh
   simp only [jG, hs] at h
   simp only [vz, tyf, g4, di, e6, e7, e8, e9, H5, eP, (aT iE), hZ, fq, jG, nm, seval]
   refine ru (w := 1) (enc := eI) (ys := ([e3.Hours.High])) (gC := (some 3)) (fun _ => rfl) dW dL Tryz.underlying22 (by first | rfl | assumption | (simp only [ba, bj, bC, di, H5, nm, seval] <;> rfl) | (simp only [ba, bj, ga, gi, gx, gy, tyf, g4, di, e6, e7, e8, e9, H5, eP, (aT iE), hZ, fq, jG, nm, seval]; done)) (Nat.zero_lt_succ _) jG ?_
   simp only [vz, tyf, g4, di, e6, e7, e8, e9, H5, eP, (aT iE), hZ, fq, jG, nm, seval]
   exact ⟨List.length p3, Nat.lt_succ_self _, by rw [dU]; refine ⟨p3, cq + 1, (([] : List Int) ++ [e3.Hours.High]), .ref (dr + 15) 0 (List.length (([] : List Int) ++ [e3.Hours.High])) 1 (List.length (([] : List Int) ++ [e3.Hours.High])), rfl, Int.le_trans bJ (Int.le_add_one (Int.le_refl _)), cU bJ ca, rfl, (show 4 ≤ dr + 20 by omega), ?_, ?_, e7, ?_, ?_, Or.inl ⟨dr + 15, (some 3), rfl, (by first | omega | (simp only [nm, seval]; done) | (simp only [nm, seval]; omega)), (by first | omega | (intro hh; simp only [di, reduceCtorEq] at hh)), ?_⟩, (by first | exact h | (simp only [eP, fq]; exact h))⟩ <;> first | (simp only [ua, di, e6, e7, e8, e9, H5, eP, hZ, fq, nm, seval] <;> rfl) | rfl⟩

end Go.V
end
