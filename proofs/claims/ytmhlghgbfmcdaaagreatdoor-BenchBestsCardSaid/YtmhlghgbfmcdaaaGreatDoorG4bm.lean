/- Part of a proof. -/
import Derived.Test.YtmhlghgbfmcdaaaGreatDoorG4bl
set_option linter.all false
set_option maxRecDepth 4000
set_option maxHeartbeats 40000000
section
namespace Go.V
open Go Go.Proofs IntKind
def pM (cV : Int) : List Int → Int → Option (LOut (Bool) (Unit))
 | [], cq => some (.go ())
 | e0 :: p0, cq => cond (e0 == cV) (some (.ret true)) (pM cV p0 (cq + 1))
def rF (bA : List Int) (cV : Int) : Option (Bool) := cond (aK bA) (lbind (pM cV bA 0) (fun r2 => some r2) (fun c1 => some false) (fun _ _ => none)) none
theorem Py (bA : List Int) (cV : Int) (R : Bool) (h : rF bA cV = some R) : aj Tryz.prog G0 35 [.sl (ae eI bA) (List.length bA) false, .lit (.int .i64 cV)] (.tree (.lit (.bool R))) := by
 refine aj.runR mixed Tryz.call35 Tryz.func35 rfl (by simp [Tryz.ntmps35]; kernel_rfl) ?_
 obtain ⟨KF, h, kF, kN⟩ := cT h
 simp only [rF] at h
 cases g4 : (aK bA)
 ·simp only [g4, hs] at h
  exact absurd h kN
 simp only [g4, hs] at h
 simp only [vz, tyf, g4, nm, seval]
 obtain ⟨K3, h, pQ, j1, vU, mi⟩ := fS h kN
 obtain ⟨f3, lj, h⟩ := call2 h
 obtain ⟨I3, fv⟩ : ∃ I : Nat → St → Prop, I = (fun m st => ∃ (p3 : List Int) (bG : Int), m = List.length p3 ∧ 0 ≤ bG ∧ List.drop (Int.toNat bG) bA = p3 ∧ st.df = [] ∧ 2 ≤ st.nx ∧ st.tm 0 = .sl (ae eI bA) (List.length bA) false ∧ st.tm 1 = .lit (.int .i64 cV) ∧ st.tm 5 = .lit (.int .i64 bG) ∧ K3 (f3 p3 bG)) := ⟨_, rfl⟩
 refine loopK mixed (by kernel_rfl) I3 (List.length bA) (by rw [fv]; refine ⟨bA, 0, rfl, Int.le_refl _, rfl, rfl, (show 2 ≤ 2 by omega), ?_, ?_, ?_, h⟩ <;> first | (simp only [ua, nm, seval] <;> rfl) | rfl) ?_
 rintro m ⟨tm, H, eG, df⟩ hinv
 rw [fv] at hinv
 obtain ⟨p3, bG, rfl, ca, cH, hdf, lk, e5, e6, e7, h⟩ := hinv
 simp only at hdf lk e5 e6 e7
 have n8 := fq (m := 2) (b := eG) (by omega)
 subst hdf lj
 cases p3 with
 | nil =>
  have d9 : (decide (bG < (List.length bA : Int))) = false := fB ca cH
  simp only [pM, hs, reduceCtorEq] at h
  replace h := j1 _ h
  try dsimp only at h
  try simp only [hs] at h
  try simp only [vz, tyf, g4, n8, e5, e6, e7, d9, nm, seval]
  obtain rfl := kF _ h
  exact bx Tryz.results35 rfl
 | cons e3 p3 =>
  have gG : (decide (bG < (List.length bA : Int))) = true := fC ca cH
  have mj := ei ca cH
  have pR := fu ca cH g4
  simp only [pM, hs, reduceCtorEq] at h
  cases bQ : (e3 == cV)
  ·simp only [bQ, hs] at h
   simp only [vz, tyf, g4, n8, e5, e6, e7, gG, (aR mj), pR, bQ, nm, seval]
   exact ⟨List.length p3, Nat.lt_succ_self _, by rw [fv]; refine ⟨p3, bG + 1, rfl, Int.le_trans ca (Int.le_add_one (Int.le_refl _)), cn ca cH, rfl, (show 2 ≤ eG + 13 by omega), e5, e6, ?_, (by first | exact h | (simp only [gG, bQ]; exact h))⟩ <;> first | (simp only [ua, n8, e5, e6, e7, gG, pR, bQ, nm, seval] <;> rfl) | rfl⟩
  simp only [bQ, hs] at h
  try simp only [vz, tyf, g4, n8, e5, e6, e7, gG, (aR mj), pR, bQ, nm, seval]
  replace h := pQ _ h
  try dsimp only at h
  obtain rfl := kF _ h
  exact bx Tryz.results35 rfl
def pN (an : GBk) (al : List Int) (bK : Int) (ck : Int) : Option (Bool) := cond (decide (bK < ck)) (Option.bind (getI al bK) (fun x1 => Option.bind (getI al ck) (fun x2 => cond (x1 == x2) (some true) (Option.bind (getI an.Strokes ck) (fun x3 => Option.bind (rF x3.Needs bK) (fun r4 => some r4)))))) (some false)
theorem Pz (an : GBk) (al : List Int) (bK : Int) (ck : Int) (R : Bool) (h : pN an al bK ck = some R) : aj Tryz.prog G0 84 [.agg (cGBk an), .sl (ae eI al) (List.length al) false, .lit (.int .i64 bK), .lit (.int .i64 ck)] (.tree (.lit (.bool R))) := by
 refine aj.runR mixed Tryz.call84 Tryz.func84 rfl (by simp [Tryz.ntmps84]; kernel_rfl) ?_
 obtain ⟨KF, h, kF, kN⟩ := cT h
 simp only [pN] at h
 simp only [vz, tyf, nm, seval]
 refine km (fun tm => tm 1 = .sl (ae eI al) (List.length al) false ∧ tm 2 = .lit (.int .i64 bK) ∧ tm 3 = .lit (.int .i64 ck) ∧ tm 4 = .ptr 0 0 ∧ True) (by refine ⟨?_, ?_, ?_, ?_, trivial⟩ <;> first | (simp only [ua, nm, seval] <;> rfl) | rfl) ?_
 rintro tm ⟨e5, e6, e7, e8, _⟩
 cases d9 : (decide (bK < ck))
 ·simp only [d9, hs] at h
  try simp only [vz, tyf, e5, e6, e7, e8, d9, nm, seval]
  obtain rfl := kF _ h
  exact bx Tryz.results84 rfl
 simp only [d9, hs] at h
 obtain ⟨P0, th, h⟩ := optI h kN
 try simp only [hs] at h
 obtain ⟨P1, kK, h⟩ := optI h kN
 try simp only [hs] at h
 cases bZ : (P0 == P1)
 ·simp only [bZ, hs] at h
  obtain ⟨AO, iQ, h⟩ := optI h kN
  try simp only [hs] at h
  obtain ⟨jM, sY, h⟩ := optI h kN
  try simp only [hs] at h
  simp only [vz, tyf, e5, e6, e7, e8, d9, (aR th), (aR kK), bZ, (aZ iQ), nm, seval]
  refine dktA (Py _ _ _ sY) ?_
  refine bY (fun tm => tm 12 = .lit (.bool true) ∧ tm 22 = .lit (.bool false) ∧ tm 30 = .lit (.bool jM) ∧ True) (by refine ⟨?_, ?_, ?_, trivial⟩ <;> first | (simp only [ua, e5, e6, e7, e8, d9, bZ, nm, seval] <;> rfl) | rfl) ?_
  rintro tm ⟨eT, fa, gi, _⟩
  try simp only [vz, tyf, d9, (aR th), (aR kK), bZ, (aZ iQ), eT, fa, gi, nm, seval]
  obtain rfl := kF _ h
  exact bx Tryz.results84 rfl
 simp only [bZ, hs] at h
 try simp only [vz, tyf, e5, e6, e7, e8, d9, (aR th), (aR kK), bZ, nm, seval]
 obtain rfl := kF _ h
 exact bx Tryz.results84 rfl
def eV (x : VV) : List VV := [x]
theorem eV_eq {x : VV} : eV x = [x] := rfl
theorem tl : ∀ xs : List VV, ae eV xs = xs
  | [] => rfl
  | x :: xs => by rw [fx, tl xs]; rfl
theorem ixoV {xs : List VV} {x : VV} {i : Int} (h : getI xs i = some x) : (∀ (H : Nat → Option VObj) (β c : Nat) (k : IntKind), aA Tryz.prog H 71 (.ref β 0 xs.length 1 c) (.lit (.int k i)) = if (H β).isSome = true then some (.ptr β (i.toNat * 1)) else none) ∧ (ae eV xs).drop (i.toNat * 1) = eV x ++ ae eV (xs.drop (i.toNat + 1)) ∧ (i.toNat * 1 ≤ (ae eV xs).length) = True := ixO Tryz.underlying71 (by kernel_rfl : szT Tryz.prog 22 = some 1) (fun _ => rfl) h
def j0 (b : GBk) (plan : List Int) (i : Int) : Nat → Int → List Int → Option (List Int)
 | 0, _, w => some w
 | m + 1, k, w => Option.bind (pN b plan k i) (fun r => cond r (cond (aE 8 (w ++ [k]).length) (j0 b plan i m (k + 1) (w ++ [k])) none) (j0 b plan i m (k + 1) w))
def ku (b : GBk) (plan : List Int) : Nat → Int → List (List Int) → List Int → Option (List (List Int) × List Int)
 | 0, _, pre, bg => some (pre, bg)
 | m + 1, i, pre, bg => Option.bind (j0 b plan i i.toNat 0 []) (fun w => ku b plan m (i + 1) (pre ++ [w]) (List.set bg i.toNat (-1)))
def me (ah : List Int) (bD : Int) (cO : List Int) : List Int → Int → Option (LOut (Bool) (Unit))
 | [], tn => some (.go ())
 | e2 :: p2, tn => Option.bind (getI cO e2) (fun KN => cond (decide (KN < 0)) (some (.ret false)) (Option.bind (getI ah e2) (fun yk => cond (decide ((i64.wrap (KN + yk)) > bD)) (some (.ret false)) (me ah bD cO p2 (tn + 1)))))
def ky (bf : List (List Int)) (al : List Int) (ah : List Int) (bD : Int) : List Int → Int → Int → (List Int) → Option (LOut (List Int) (Int × (List Int)))
 | [], dI, gb, cO => some (.go (gb, cO))
 | e1 :: p1, dI, gb, cO => Option.bind (getI cO dI) (fun AO => cond (decide (AO < 0)) (Option.bind (getI bf dI) (fun KO => cond (aK KO) (lbind (me ah bD cO KO 0) (fun P2 => cond (P2) (ky bf al ah bD p1 (dI + 1) (i64.wrap (gb - 1)) (List.set cO (Int.toNat dI) bD)) (ky bf al ah bD p1 (dI + 1) gb cO)) (fun SG => ky bf al ah bD p1 (dI + 1) (i64.wrap (gb - 1)) (List.set cO (Int.toNat dI) bD)) (fun _ _ => none)) none)) (ky bf al ah bD p1 (dI + 1) gb cO))
def lh (bf : List (List Int)) (al : List Int) (ah : List Int) : Nat → Int → Int → (List Int) → Option (LOut (List Int) (Int × Int × (List Int)))
 | 0, _, _, _ => none
 | k0 + 1, ga, bD, bV => cond (decide (ga > 0)) (cond (aK al) (lbind (ky bf al ah bD al 0 ga bV) (fun P3 => some (.ret P3)) (fun KP => lh bf al ah k0 KP.1 (i64.wrap (bD + 1)) KP.2) (fun _ _ => none)) none) (some (.go (ga, bD, bV)))
def rO (an : GBk) (al : List Int) (ah : List Int) : Option (List Int) := cond (mkOk 8 (List.length al : Int)) (cond (mkOk 24 (List.length al : Int)) (cond (aK al) (Option.bind (ku an al al.length 0 [] (List.replicate (Int.toNat (List.length al : Int)) 0)) (fun rw => lbind (lh rw.1 al ah 1000000 (List.length al : Int) 0 rw.2) (fun oq => some oq) (fun P4 => some P4.2.2) (fun _ _ => none))) none) none) none
theorem P5 (an : GBk) (al : List Int) (ah : List Int) (R : List Int) (h : rO an al ah = some R) : aj Tryz.prog G0 78 [.agg (cGBk an), .sl (ae eI al) (List.length al) false, .sl (ae eI ah) (List.length ah) false] (.own (ae eI R) R.length 1) := by
 refine aj.run mixed Tryz.call78 Tryz.func78 rfl (by simp [Tryz.ntmps78]; kernel_rfl) ?_
 obtain ⟨KF, h, kF, kN⟩ := cT h
 simp only [rO] at h
 cases cK : (mkOk 8 (List.length al : Int))
 ·simp only [cK, hs] at h
  exact absurd h kN
 simp only [cK, hs] at h
 try simp only [vz, tyf, cK, nm, seval]
 refine k_mkS (enc := eI) (z := (0 : Int)) cU (by kernel_rfl) rfl (by first | (simp only [jA, jB, oc, jj, cK, nm, seval] <;> rfl) | rfl) (by first | (simp only [jA, jB, oc, jj, cK, nm, seval] <;> rfl) | rfl) cK ?_
 cases cW : (mkOk 24 (List.length al : Int))
 ·simp only [cW, hs] at h
  exact absurd h kN
 simp only [cW, hs] at h
 try simp only [vz, tyf, cK, cW, nm, seval]
 refine k_mkS (enc := eV) (z := .lit (.slice none 0 0)) fc (by kernel_rfl) rfl (by first | (simp only [jA, jB, oc, jj, cK, cW, nm, seval] <;> rfl) | rfl) (by first | (simp only [jA, jB, oc, jj, cK, cW, nm, seval] <;> rfl) | rfl) cW ?_
 simp only [vz, tyf, cK, cW, nm, seval]
 cases gl : aK al
 ·simp only [gl, hs] at h
  exact absurd h kN
 simp only [gl, hs] at h
 rcases ob : ku an al al.length 0 [] (List.replicate (Int.toNat (List.length al : Int)) 0) with _ | ⟨bf, bg⟩
 ·simp only [ob, hs] at h
  exact absurd h kN
 simp only [ob, hs] at h
 obtain ⟨IA, hIA⟩ : ∃ I : Nat → St → Prop, I = (fun m st => ∃ (p : List Int) (i : Int) (pre : List (List Int)) (iC : List Int) (xs : List VV), m = List.length p ∧ 0 ≤ i ∧ List.drop (Int.toNat i) al = p ∧ pre.length = i.toNat ∧ iC.length = al.length ∧ xs = ae (eSl eI) pre ++ List.replicate m (.lit (.slice none 0 0)) ∧ i.toNat + m = al.length ∧ ku an al m i pre iC = some (bf, bg) ∧ st.df = [] ∧ 12 ≤ st.nx ∧ st.H 0 = some (.cells (some 25) (cGBk an)) ∧ st.H 6 = some (.cells (some 3) (ae eI iC)) ∧ st.H 9 = some (.cells (some 22) (ae eV xs)) ∧ st.tm 1 = .sl (ae eI al) (List.length al) false ∧ st.tm 2 = .sl (ae eI ah) (List.length ah) false ∧ st.tm 3 = .ptr 0 0 ∧ st.tm 7 = .lit (.int .i64 (List.length al : Int)) ∧ st.tm 8 = .ref 6 0 (List.length iC) 1 (List.length iC) ∧ st.tm 9 = .ref 9 0 (List.length xs) 1 (List.length xs) ∧ st.tm 10 = .lit (.int .i64 i)) := ⟨_, rfl⟩
 refine loopKL mixed (by kernel_rfl) IA (List.length al) (by rw [hIA]; refine ⟨al, 0, [], List.replicate (Int.toNat (List.length al : Int)) 0, List.replicate (Int.toNat (List.length al : Int)) (.lit (.slice none 0 0)), rfl, Int.le_refl _, rfl, rfl, (by simp), (by simp [fE]), (by simp), ob, rfl, (show 12 ≤ 12 by omega), ?_, ?_, ?_, ?_, ?_, ?_, ?_, ?_, ?_, ?_⟩ <;> first | (simp only [ua, nm, seval] <;> rfl) | rfl) ?_
 rintro m ⟨tm, H, nxA, df⟩ hinv
 rw [hIA] at hinv
 obtain ⟨p, i, pre, iC, xs, rfl, hi, hp, hpre, hbg, hxs, hil, hrw, hdf, hnA, A0, A6, A9, a1, a2, a3, a7, a8, a9, nS⟩ := hinv
 simp only at hdf hnA A0 A6 A9 a1 a2 a3 a7 a8 a9 nS
 have nA := fq (m := 12) (b := nxA) (by omega)
 subst hdf
 have hxl : xs.length = al.length := by
  rw [hxs, List.length_append, ez (w := 1) (enc := eSl eI) (fun _ => rfl), List.length_replicate]
  omega
 cases p with
 | nil =>
  have dA : (decide (i < (List.length al : Int))) = false := fB hi hp
  simp only [List.length_nil, ku, Option.some.injEq, Prod.mk.injEq] at hrw
  obtain ⟨rfl, rfl⟩ := hrw
  simp only [List.length_nil, List.replicate_zero, List.append_nil] at hxs
  have P6 : xs.length = pre.length := by rw [hxs, ez (w := 1) (enc := eSl eI) (fun _ => rfl)]; omega
  rw [P6] at a9
  rw [tl, hxs] at A9
  simp only [vz, tyf, cK, cW, nA, a1, a2, a3, a7, a8, a9, nS, A0, A6, A9, dA, nm, seval]
  obtain ⟨AY, h, tq, ot, AZ, jP⟩ := fS h kN
  obtain ⟨Ba, ou, h⟩ := call4 h
  obtain ⟨Bc, iu⟩ : ∃ I : Nat → St → Prop, I = (fun m st => ∃ (hU : Nat) (fe : Int) (bW : Int) (cl : List Int), hU = m ∧ st.df = [] ∧ 14 ≤ st.nx ∧ st.H 6 = some (.cells ((some 3)) (ae eI cl)) ∧ st.H 9 = some (.cells ((some 22)) (ae (eSl eI) pre)) ∧ st.tm 2 = .sl (ae eI ah) (List.length ah) false ∧ st.tm 7 = .lit (.int .i64 (List.length al : Int)) ∧ st.tm 8 = .ref 6 0 (List.length cl) 1 (List.length cl) ∧ st.tm 9 = .ref 9 0 (List.length pre) 1 (List.length pre) ∧ st.tm 12 = .lit (.int .i64 fe) ∧ st.tm 13 = .lit (.int .i64 bW) ∧ AY (Ba hU fe bW cl)) := ⟨_, rfl⟩
  refine loopK mixed (by kernel_rfl) Bc 1000000 (by rw [iu]; refine ⟨1000000, (List.length al : Int), 0, iC, rfl, rfl, (show 14 ≤ nxA + 6 by omega), ?_, ?_, ?_, ?_, ?_, ?_, ?_, ?_, h⟩ <;> first | (simp only [ua, nA, a1, a2, a3, a7, a8, a9, nS, A0, A6, A9, dA, nm, seval] <;> rfl) | rfl) ?_
  rintro m ⟨tm, H, cE, df⟩ hinv
  rw [iu] at hinv
  obtain ⟨hU, fe, bW, cl, rfl, hdf, ov, qn, jq, cF, cz, du, bC, cv, dm, h⟩ := hinv
  simp only at hdf ov qn jq cF cz du bC cv dm
  have mI := fq (m := 14) (b := cE) (by omega)
  subst hdf ou
  cases hU with
  | zero =>
   simp only [lh, hs, reduceCtorEq] at h
   exact absurd h jP
  | succ hU =>
   simp only [lh, hs, reduceCtorEq] at h
   cases fl : (decide (fe > 0))
   ·simp only [fl, hs] at h
    replace h := ot _ h
    try dsimp only at h
    try simp only [hs] at h
    try simp only [vz, tyf, cK, cW, mI, cF, cz, du, bC, cv, dm, qn, jq, fl, nm, seval]
    obtain rfl := kF _ h
    exact ⟨rfl, .ref 6 0 (List.length cl) 1 (List.length cl), (by first | (simp only [Tryz.results78, resV, resL, resV1, cI, cJ, uw, cr, tyf, cK, cW, mI, qn, jq, fl, nm, seval] <;> rfl) | rfl), (ae eI cl).length + 1, 6, _, ae eI cl, ⟨_, rfl⟩, qn, lx _ _ (eI_ok.treeL _) (Nat.lt_succ_self _)⟩
   simp only [fl, hs] at h
   cases oy : (aK al)
   ·simp only [oy, hs] at h
    exact absurd h jP
   simp only [oy, hs] at h
   simp only [vz, tyf, cK, cW, mI, cF, cz, du, bC, cv, dm, qn, jq, fl, oy, nm, seval]
   obtain ⟨P7, h, P8, Bd, P9, lD⟩ := fS h jP
   obtain ⟨PA, Be, h⟩ := call4 h
   obtain ⟨PB, iS⟩ : ∃ I : Nat → St → Prop, I = (fun m st => ∃ (iD : List Int) (bH : Int) (cP : Int) (bu : List Int), m = List.length iD ∧ 0 ≤ bH ∧ List.drop (Int.toNat bH) al = iD ∧ st.df = [] ∧ cE + 3 ≤ st.nx ∧ st.H 6 = some (.cells ((some 3)) (ae eI bu)) ∧ st.H 9 = some (.cells ((some 22)) (ae (eSl eI) pre)) ∧ st.tm 2 = .sl (ae eI ah) (List.length ah) false ∧ st.tm 7 = .lit (.int .i64 (List.length al : Int)) ∧ st.tm 8 = .ref 6 0 (List.length bu) 1 (List.length bu) ∧ st.tm 9 = .ref 9 0 (List.length pre) 1 (List.length pre) ∧ st.tm 13 = .lit (.int .i64 bW) ∧ st.tm 12 = .lit (.int .i64 cP) ∧ st.tm 14 = .lit (.int .i64 bH) ∧ P7 (PA iD bH cP bu)) := ⟨_, rfl⟩
   refine loopK mixed (by kernel_rfl) PB (List.length al) (by rw [iS]; refine ⟨al, 0, fe, cl, rfl, Int.le_refl _, rfl, rfl, (show cE + 3 ≤ cE + 3 by omega), ?_, ?_, cF, cz, du, bC, dm, cv, ?_, h⟩ <;> first | (simp only [ua, mI, cF, cz, du, bC, cv, dm, qn, jq, fl, nm, seval] <;> rfl) | rfl) ?_
   rintro m ⟨tm, H, gw, df⟩ hinv
   rw [iS] at hinv
   obtain ⟨iD, bH, cP, bu, rfl, eP, gN, hdf, Bf, tt, tu, dg, dh, cR, di, eF, dv, cS, h⟩ := hinv
   simp only at hdf Bf tt tu dg dh cR di eF dv cS
   have wF := fq (m := 14) (b := gw) (by omega)
   have wG := jk (a := cE) (m := 3) (b := gw) (by omega)
   subst hdf Be
   cases iD with
   | nil =>
    have kM : (decide (bH < (List.length al : Int))) = false := fB eP gN
    simp only [ky, hs, reduceCtorEq] at h
    replace h := Bd _ h
    try dsimp only at h
    try simp only [hs] at h
    simp only [vz, tyf, cK, cW, mI, fl, oy, wF, wG, dg, dh, cR, di, eF, dv, cS, tt, tu, kM, nm, seval]
    exact ⟨hU, Nat.lt_succ_self _, by rw [iu]; refine ⟨hU, cP, i64.wrap (bW + 1), bu, rfl, rfl, (show 14 ≤ gw + 6 by omega), ?_, ?_, dg, dh, cR, di, dv, ?_, (by first | exact h | (simp only [fl, kM]; exact h))⟩ <;> first | (simp only [ua, mI, fl, wF, wG, dg, dh, cR, di, eF, dv, cS, tt, tu, kM, nm, seval] <;> rfl) | rfl⟩
   | cons dp iD =>
    have gO : (decide (bH < (List.length al : Int))) = true := fC eP gN
    have gA := ei eP gN
    have qo := fu eP gN oy
    simp only [ky, hs, reduceCtorEq] at h
    obtain ⟨PC, gB, h⟩ := optI h lD
    try simp only [hs] at h
    cases wH : (decide (PC < 0))
    ·simp only [wH, hs] at h
     have Bh := And.intro cK (And.intro cW (And.intro mI (And.intro fl (And.intro oy (And.intro wF (And.intro wG (And.intro tt (And.intro tu (And.intro gO (And.intro qo wH))))))))))
     simp only [vz, tyf, Bh, dg, dh, cR, di, eF, dv, cS, (aR gA), (bm gB), nm, seval]
     exact ⟨List.length iD, Nat.lt_succ_self _, by rw [iS]; refine ⟨iD, bH + 1, cP, bu, rfl, Int.le_trans eP (Int.le_add_one (Int.le_refl _)), cn eP gN, rfl, (show cE + 3 ≤ gw + 21 by omega), ?_, ?_, dg, dh, cR, di, eF, dv, ?_, (by first | exact h | (simp only [Bh]; exact h))⟩ <;> first | (simp only [ua, Bh, dg, dh, cR, di, eF, dv, cS, nm, seval] <;> rfl) | rfl⟩
    simp only [wH, hs] at h
    have jQ := And.intro cK (And.intro cW (And.intro mI (And.intro fl (And.intro oy (And.intro wF (And.intro wG (And.intro tt (And.intro tu (And.intro gO (And.intro qo wH))))))))))
    obtain ⟨kO, iT, h⟩ := optI h lD
    try simp only [hs] at h
    try simp only [vz, tyf, jQ, dg, dh, cR, di, eF, dv, cS, (aR gA), (bm gB), (b4 iT), nm, seval]
    refine kopen ?_
    rw [lv]
    refine aq.run mixed Tryz.call109 Tryz.func109 rfl (by simp [Tryz.ntmps109]; kernel_rfl) ?_
    cases lE : (aK kO)
    ·simp only [lE, hs] at h
     exact absurd h lD
    simp only [lE, hs] at h
    simp only [vz, tyf, jQ, (aR gA), (bm gB), (b4 iT), lE, nm, seval]
    obtain ⟨PD, h, tv, Bi, PE, tw⟩ := fS h lD
    obtain ⟨PF, Bj, h⟩ := call2 h
    obtain ⟨PG, oz⟩ : ∃ I : Nat → St → Prop, I = (fun m st => ∃ (mJ : List Int) (dJ : Int), m = List.length mJ ∧ 0 ≤ dJ ∧ List.drop (Int.toNat dJ) kO = mJ ∧ st.df = [] ∧ gw + 20 ≤ st.nx ∧ st.H 6 = some (.cells ((some 3)) (ae eI bu)) ∧ st.H 9 = some (.cells ((some 22)) (ae (eSl eI) pre)) ∧ st.tm 0 = .sl (ae eI kO) (List.length kO) false ∧ st.tm 1 = .ref 6 0 (List.length bu) 1 (List.length bu) ∧ st.tm 2 = .sl (ae eI ah) (List.length ah) false ∧ st.tm 3 = .lit (.int .i64 bW) ∧ st.tm 9 = .lit (.int .i64 dJ) ∧ PD (PF mJ dJ)) := ⟨_, rfl⟩
    refine loopK mixed (by kernel_rfl) PG (List.length kO) (by rw [oz]; refine ⟨kO, 0, rfl, Int.le_refl _, rfl, rfl, (show gw + 20 ≤ gw + 20 by omega), ?_, ?_, ?_, ?_, ?_, ?_, ?_, h⟩ <;> first | (simp only [ua, jQ, nm, seval] <;> rfl) | rfl) ?_
    rintro m ⟨tm, H, iv, df⟩ hinv
    rw [oz] at hinv
    obtain ⟨mJ, dJ, rfl, iU, jR, hdf, Bk, mK, mM, kn, ko, kY, kZ, tx, h⟩ := hinv
    simp only at hdf Bk mK mM kn ko kY kZ tx
    have o0 := fq (m := 14) (b := iv) (by omega)
    have oB := jk (a := cE) (m := 3) (b := iv) (by omega)
    have oC := jk (a := gw) (m := 20) (b := iv) (by omega)
    subst hdf Bj
    cases mJ with
    | nil =>
     have tz : (decide (dJ < (List.length kO : Int))) = false := fB iU jR
     simp only [me, hs, reduceCtorEq] at h
     replace h := Bi _ h
     try dsimp only at h
     try simp only [hs] at h
     try simp only [vz, tyf, jQ, (aR gA), (bm gB), (b4 iT), lE, o0, oB, oC, kn, ko, kY, kZ, tx, mK, mM, tz, nm, seval]
     refine c9 (x := (.lit (.bool true))) (by first | (simp only [Tryz.results109, resV, resL, resV1, cI, cJ, uw, cr, tyf, jQ, (aR gA), (bm gB), (b4 iT), lE, o0, oB, oC, mK, mM, tz, nm, seval] <;> rfl) | rfl) ?_
     have t0 := setA (w := 1) (enc := eI) (fun _ => rfl) gB
     have oD := setB (w := 1) (enc := eI) bW (fun _ => rfl) gB
     simp only [vz, tyf, nm, seval] at oD
     have t4 := setC (w := 1) (enc := eI) bu (Int.toNat bH) bW (fun _ => rfl)
     simp only [vz, tyf, jQ, (aR gA), (bm gB), (b4 iT), lE, o0, oB, oC, mK, mM, tz, dg, dh, cR, di, eF, dv, cS, t0, oD, t4, nm, seval]
     exact ⟨List.length iD, Nat.lt_succ_self _, by rw [iS]; refine ⟨iD, bH + 1, i64.wrap (cP - 1), (List.set bu (Int.toNat bH) bW), rfl, Int.le_trans eP (Int.le_add_one (Int.le_refl _)), cn eP gN, rfl, (show cE + 3 ≤ iv + 16 by omega), ?_, ?_, dg, dh, ?_, di, eF, ?_, ?_, (by first | exact h | (simp only [jQ, tz]; exact h))⟩ <;> first | (simp only [ua, jQ, o0, oB, oC, mK, mM, tz, dg, dh, cR, di, eF, dv, cS, t0, oD, t4, nm, seval] <;> rfl) | rfl⟩
    | cons gp mJ =>
     have Bl : (decide (dJ < (List.length kO : Int))) = true := fC iU jR
     have mN := ei iU jR
     have Bm := fu iU jR lE
     simp only [me, hs, reduceCtorEq] at h
     simp only [vz, tyf, jQ, (aR gA), (bm gB), (b4 iT), lE, o0, oB, oC, kn, ko, kY, kZ, tx, mK, mM, Bl, (aR mN), Bm, nm, seval]
     refine km (fun tm => tm 0 = .sl (ae eI kO) (List.length kO) false ∧ tm 1 = .ref 6 0 (List.length bu) 1 (List.length bu) ∧ tm 2 = .sl (ae eI ah) (List.length ah) false ∧ tm 3 = .lit (.int .i64 bW) ∧ tm 9 = .lit (.int .i64 dJ) ∧ True) (by refine ⟨kn, ko, kY, kZ, tx, trivial⟩ <;> first | (simp only [ua, jQ, o0, oB, oC, kn, ko, kY, kZ, tx, mK, mM, Bl, Bm, nm, seval] <;> rfl) | rfl) ?_
     rintro tm ⟨t5, t6, t7, t8, wI, _⟩
     have iV := And.intro jQ (And.intro lE (And.intro o0 (And.intro oB (And.intro oC (And.intro mK (And.intro mM (And.intro Bl Bm)))))))
     obtain ⟨KQ, oE, h⟩ := optI h tw
     try simp only [hs] at h
     cases iw : (decide (KQ < 0))
     ·simp only [iw, hs] at h
      obtain ⟨PH, wJ, h⟩ := optI h tw
      try simp only [hs] at h
      cases kP : (decide ((i64.wrap (KQ + PH)) > bW))
      ·simp only [kP, hs] at h
       simp only [vz, tyf, iV, (aR gA), (bm gB), (b4 iT), (aR mN), t5, t6, t7, t8, wI, (bm oE), iw, (aR wJ), kP, nm, seval]
       exact ⟨List.length mJ, Nat.lt_succ_self _, by rw [oz]; refine ⟨mJ, dJ + 1, rfl, Int.le_trans iU (Int.le_add_one (Int.le_refl _)), cn iU jR, rfl, (show gw + 20 ≤ iv + 34 by omega), ?_, ?_, t5, t6, t7, t8, ?_, (by first | exact h | (simp only [iV, iw, kP]; exact h))⟩ <;> first | (simp only [ua, iV, t5, t6, t7, t8, wI, iw, kP, nm, seval] <;> rfl) | rfl⟩
      simp only [kP, hs] at h
      try simp only [vz, tyf, iV, (aR gA), (bm gB), (b4 iT), (aR mN), t5, t6, t7, t8, wI, (bm oE), iw, (aR wJ), kP, nm, seval]
      refine c9 (x := (.lit (.bool false))) (by first | (simp only [Tryz.results109, resV, resL, resV1, cI, cJ, uw, cr, tyf, iV, (aR gA), (bm gB), (b4 iT), (aR mN), (bm oE), iw, (aR wJ), kP, nm, seval] <;> rfl) | rfl) ?_
      replace h := tv _ h
      try dsimp only at h
      simp only [vz, tyf, iV, (aR gA), (bm gB), (b4 iT), (aR mN), (bm oE), iw, (aR wJ), kP, dg, dh, cR, di, eF, dv, cS, nm, seval]
      exact ⟨List.length iD, Nat.lt_succ_self _, by rw [iS]; refine ⟨iD, bH + 1, cP, bu, rfl, Int.le_trans eP (Int.le_add_one (Int.le_refl _)), cn eP gN, rfl, (show cE + 3 ≤ iv + 35 by omega), ?_, ?_, dg, dh, cR, di, eF, dv, ?_, (by first | exact h | (simp only [iV, iw, kP]; exact h))⟩ <;> first | (simp only [ua, iV, iw, kP, dg, dh, cR, di, eF, dv, cS, nm, seval] <;> rfl) | rfl⟩
     simp only [iw, hs] at h
     try simp only [vz, tyf, iV, (aR gA), (bm gB), (b4 iT), (aR mN), t5, t6, t7, t8, wI, (bm oE), iw, nm, seval]
     refine c9 (x := (.lit (.bool false))) (by first | (simp only [Tryz.results109, resV, resL, resV1, cI, cJ, uw, cr, tyf, iV, (aR gA), (bm gB), (b4 iT), (aR mN), (bm oE), iw, nm, seval] <;> rfl) | rfl) ?_
     replace h := tv _ h
     try dsimp only at h
     simp only [vz, tyf, iV, (aR gA), (bm gB), (b4 iT), (aR mN), (bm oE), iw, dg, dh, cR, di, eF, dv, cS, nm, seval]
     exact ⟨List.length iD, Nat.lt_succ_self _, by rw [iS]; refine ⟨iD, bH + 1, cP, bu, rfl, Int.le_trans eP (Int.le_add_one (Int.le_refl _)), cn eP gN, rfl, (show cE + 3 ≤ iv + 35 by omega), ?_, ?_, dg, dh, cR, di, eF, dv, ?_, (by first | exact h | (simp only [iV, iw]; exact h))⟩ <;> first | (simp only [ua, iV, iw, dg, dh, cR, di, eF, dv, cS, nm, seval] <;> rfl) | rfl⟩
 | cons e p =>
  have dA : (decide (i < (List.length al : Int))) = true := fC hi hp
  have wA := fu hi hp gl
  have hin : i.toNat < al.length := by
   have := of_decide_eq_true dA
   omega
  rcases oA : getI iC i with _ | xA
  ·exfalso
   unfold getI at oA
   rw [if_pos hi] at oA
   have := List.getElem?_eq_none_iff.1 oA
   omega
  rw [List.length_cons] at hrw hxs
  simp only [ku] at hrw
  rcases hws : j0 an al i i.toNat 0 [] with _ | ws
  ·rw [hws] at hrw
   cases hrw
  rw [hws] at hrw
  simp only [Option.bind_some] at hrw
  have t0 := setA (w := 1) (enc := eI) (fun _ => rfl) oA
  have oD := setB (w := 1) (enc := eI) (-1 : Int) (fun _ => rfl) oA
  simp only [vz, tyf, nm, seval] at oD
  have t4 := setC (w := 1) (enc := eI) iC (Int.toNat i) (-1 : Int) (fun _ => rfl)
  simp only [vz, tyf, cK, cW, nA, a1, a2, a3, a7, a8, a9, nS, A0, A6, A9, dA, (bm oA), t0, oD, t4, nm, seval]
  rw [List.replicate_succ] at hxs
  obtain ⟨IB, hIB⟩ : ∃ I : Nat → St → Prop, I = (fun m st => ∃ (k : Int) (w : List Int) (hd : VV) (ys : List VV), 0 ≤ k ∧ k.toNat + m = i.toNat ∧ ys = ae (eSl eI) pre ++ hd :: List.replicate p.length (.lit (.slice none 0 0)) ∧ j0 an al i m k w = some ws ∧ st.df = [] ∧ nxA ≤ st.nx ∧ st.H 0 = some (.cells (some 25) (cGBk an)) ∧ st.H 6 = some (.cells (some 3) (ae eI (List.set iC (Int.toNat i) (-1)))) ∧ st.H 9 = some (.cells (some 22) (ae eV ys)) ∧ st.tm 1 = .sl (ae eI al) (List.length al) false ∧ st.tm 2 = .sl (ae eI ah) (List.length ah) false ∧ st.tm 3 = .ptr 0 0 ∧ st.tm 7 = .lit (.int .i64 (List.length al : Int)) ∧ st.tm 8 = .ref 6 0 (List.length iC) 1 (List.length iC) ∧ st.tm 9 = .ref 9 0 (List.length ys) 1 (List.length ys) ∧ st.tm 10 = .lit (.int .i64 i) ∧ st.tm 11 = .lit (.int .i64 k) ∧ ((∃ (β : Nat) (el : Option TypeId), hd = .ref β 0 (List.length w) 1 (List.length w) ∧ β < st.nx ∧ β ≠ 0 ∧ β ≠ 6 ∧ β ≠ 9 ∧ st.H β = some (.cells el (ae eI w))) ∨ (hd = .lit (.slice none 0 0) ∧ w = []))) := ⟨_, rfl⟩
  refine loopK mixed (by kernel_rfl) IB i.toNat (by rw [hIB]; refine ⟨0, [], .lit (.slice none 0 0), xs, Int.le_refl _, (by simp), hxs, hws, rfl, Nat.le_add_right _ _, ?_, ?_, ?_, ?_, ?_, ?_, ?_, ?_, ?_, ?_, ?_, Or.inr ⟨rfl, rfl⟩⟩ <;> first | (simp only [ua, nA, a1, a2, a3, a7, a8, a9, nS, A0, A6, A9, dA, t0, oD, t4, nm, seval] <;> rfl) | rfl) ?_
  rintro m ⟨tm, H, nxB, df⟩ hinv
  rw [hIB] at hinv
  obtain ⟨k, w, hd, ys, hk, hkm, hys, hrow, hdf, hnB, B0, B6, B9, b1, b2, b3, b7, b8, b9, cX, cY, ow⟩ := hinv
  simp only at hdf hnB B0 B6 B9 b1 b2 b3 b7 b8 b9 cX cY ow
  have nB := fq (m := 12) (b := nxB) (by omega)
  subst hdf
  cases m with
  | zero =>
   have dB : decide (k < i) = false := decide_eq_false (by clear ow; omega)
   simp only [j0, Option.some.injEq] at hrow
   subst hrow
   have hki : k = i := by clear ow; omega
   have hzl : (ae (eSl eI) pre).length = i.toNat := by rw [ez (w := 1) (enc := eSl eI) (fun _ => rfl)]; clear ow; omega
   simp only [vz, tyf, cK, cW, nA, nB, b1, b2, b3, b7, b8, b9, cX, cY, B0, B6, B9, dA, dB, wA, nm, seval]
   rw [tl] at B9
   have hcl : ae (eSl eI) (pre ++ [w]) = ae (eSl eI) pre ++ [.sl (ae eI w) w.length false] := by rw [my]; rfl
   rcases ow with ⟨β, el, rfl, lf, KR, KS, oF, hβ⟩ | ⟨rfl, rfl⟩
   · refine ⟨p.length, Nat.lt_succ_self _, ⟨_, updH (without H β) 9 (.cells (some 22) (ae (eSl eI) pre ++ .sl (ae eI w) w.length false :: List.replicate p.length (.lit (.slice none 0 0)))), _, []⟩, Look.ghost (Ghost.mid hβ (by rw [B9, hys]) (Ne.symm oF) (eI_ok.treeL _) (ez (w := 1) (enc := eI) (fun _ => rfl) _)), ?_⟩
     rw [hIA]
     refine ⟨p, i + 1, pre ++ [w], List.set iC i.toNat (-1), ae (eSl eI) pre ++ .sl (ae eI w) w.length false :: List.replicate p.length (.lit (.slice none 0 0)), rfl, Int.le_trans hi (Int.le_add_one (Int.le_refl _)), cn hi hp, ?_, ?_, ?_, ?_, hrw, rfl, ?_, ?_, ?_, ?_, ?_, ?_, ?_, ?_, ?_, ?_, ?_⟩
     · rw [List.length_append, List.length_singleton]; omega
     · rw [List.length_set]; exact hbg
     · rw [hcl, List.append_assoc]; rfl
     · rw [List.length_cons] at hil; omega
     · dsimp only; omega
     · dsimp only
       rw [aF, if_neg (by decide), ba, if_neg (by omega)]; exact B0
     · dsimp only
       rw [aF, if_neg (by decide), ba, if_neg (by omega)]; exact B6
     · dsimp only
       rw [aF, if_pos rfl, tl]
     · simp only [ua, nB, b1, b2, b3, b7, b8, b9, cX, cY, nm, seval]
     · simp only [ua, nB, b1, b2, b3, b7, b8, b9, cX, cY, nm, seval]
     · simp only [ua, nB, b1, b2, b3, b7, b8, b9, cX, cY, nm, seval]
     · simp only [ua, nB, b1, b2, b3, b7, b8, b9, cX, cY, nm, seval]
     · simp only [ua, nB, b1, b2, b3, b7, b8, b9, cX, cY, List.length_set, nm, seval]
     · simp only [ua, nB, b1, b2, b3, b7, b8, b9, cX, cY, nm, seval]; rw [hys]; simp only [List.length_append, List.length_cons]
     · simp only [ua, nB, b1, b2, b3, b7, b8, b9, cX, cY, wA, nm, seval]
   · refine ⟨p.length, Nat.lt_succ_self _, ⟨_, updH H 9 (.cells (some 22) (ae (eSl eI) pre ++ .sl [] 0 false :: List.replicate p.length (.lit (.slice none 0 0)))), _, []⟩, Look.nil (by rw [B9, hys]), ?_⟩
     rw [hIA]
     refine ⟨p, i + 1, pre ++ [[]], List.set iC i.toNat (-1), ae (eSl eI) pre ++ .sl [] 0 false :: List.replicate p.length (.lit (.slice none 0 0)), rfl, Int.le_trans hi (Int.le_add_one (Int.le_refl _)), cn hi hp, ?_, ?_, ?_, ?_, hrw, rfl, ?_, ?_, ?_, ?_, ?_, ?_, ?_, ?_, ?_, ?_, ?_⟩
     · rw [List.length_append, List.length_singleton]; omega
     · rw [List.length_set]; exact hbg
     · rw [hcl, List.append_assoc]; rfl
     · rw [List.length_cons] at hil; omega
     · dsimp only; omega
     · dsimp only
       rw [aF, if_neg (by decide)]; exact B0
     · dsimp only
       rw [aF, if_neg (by decide)]; exact B6
     · dsimp only
       rw [aF, if_pos rfl, tl]
     · simp only [ua, nB, b1, b2, b3, b7, b8, b9, cX, cY, nm, seval]
     · simp only [ua, nB, b1, b2, b3, b7, b8, b9, cX, cY, nm, seval]
     · simp only [ua, nB, b1, b2, b3, b7, b8, b9, cX, cY, nm, seval]
     · simp only [ua, nB, b1, b2, b3, b7, b8, b9, cX, cY, nm, seval]
     · simp only [ua, nB, b1, b2, b3, b7, b8, b9, cX, cY, List.length_set, nm, seval]
     · simp only [ua, nB, b1, b2, b3, b7, b8, b9, cX, cY, nm, seval]; rw [hys]; simp only [List.length_append, List.length_cons]
     · simp only [ua, nB, b1, b2, b3, b7, b8, b9, cX, cY, wA, nm, seval]
  | succ m =>
   have dB : decide (k < i) = true := decide_eq_true (by clear ow; omega)
   have hkp : k.toNat < al.length := by clear ow; omega
   have wB := fu hk (List.drop_eq_getElem_cons hkp) gl
   have oY : getI ys i = some hd := by
    have hzl : (ae (eSl eI) pre).length = i.toNat := by rw [ez (w := 1) (enc := eSl eI) (fun _ => rfl)]; clear ow; omega
    unfold getI
    rw [if_pos hi, hys, ← hzl, List.getElem?_append_right (Nat.le_refl _), Nat.sub_self]
    rfl
   have hset : ∀ v, List.set ys (Int.toNat i) v = ae (eSl eI) pre ++ v :: List.replicate p.length (.lit (.slice none 0 0)) := by
    intro v
    have hzl : (ae (eSl eI) pre).length = i.toNat := by rw [ez (w := 1) (enc := eSl eI) (fun _ => rfl)]; clear ow; omega
    rw [hys, ← hzl, List.set_append_right _ _ (Nat.le_refl _), Nat.sub_self]
    rfl
   simp only [j0] at hrow
   rcases of : pN an al k i with _ | r
   ·rw [of] at hrow
    cases hrow
   rw [of] at hrow
   simp only [Option.bind_some] at hrow
   simp only [vz, tyf, cK, cW, nA, nB, b1, b2, b3, b7, b8, b9, cX, cY, B0, B6, B9, dA, dB, wA, nm, seval]
   refine ktA (Pz _ _ _ _ _ of) ?_
   have mO := setA (w := 1) (enc := eV) (fun _ => rfl) oY
   have lF := fun v => setB (w := 1) (enc := eV) v (fun _ => rfl) oY
   simp only [vz, tyf, eV_eq, nm, seval] at lF
   have mP := fun v => setC (w := 1) (enc := eV) ys (Int.toNat i) v (fun _ => rfl)
   rcases r with _ | _
   · simp only [cond_false] at hrow
     simp only [vz, tyf, cK, cW, nA, nB, b1, b2, b3, b7, b8, b9, cX, cY, B0, B6, B9, dA, dB, wA, wB, nm, seval]
     exact ⟨m, Nat.lt_succ_self _, by
      rw [hIB]
      refine ⟨k + 1, w, hd, ys, (by clear ow; omega), (by clear ow; omega), hys, hrow, rfl, (by dsimp only; clear ow; omega), ?_, ?_, ?_, ?_, ?_, ?_, ?_, ?_, ?_, ?_, ?_, ?_⟩
      rotate_right
      · rcases ow with ⟨β, el, h1, h2, h3, h4, h5, h6⟩ | h1
        · exact Or.inl ⟨β, el, h1, (by dsimp only; omega), h3, h4, h5, h6⟩
        · exact Or.inr h1
      all_goals first | (simp only [ua, cK, cW, nA, nB, b1, b2, b3, b7, b8, b9, cX, cY, B0, B6, B9, dA, dB, wA, wB, nm, seval] <;> rfl) | rfl⟩
   · simp only [cond_true] at hrow
     cases gr : (aE 8 (List.length (w ++ [k])))
     · rw [gr] at hrow
       cases hrow
     rw [gr] at hrow
     simp only [cond_true] at hrow
     rcases ow with ⟨β, el, rfl, lf, KR, KS, oF, hβ⟩ | ⟨rfl, rfl⟩
     · have q1 := fb lf
       have q2 := ne_f KR
       have q3 := ne_f KS
       have q4 := ne_f oF
       simp only [vz, tyf, cK, cW, nA, nB, b1, b2, b3, b7, b8, b9, cX, cY, B0, B6, B9, dA, dB, wA, wB, (ixoV oY), eV_eq, mO, lF, mP, q1, q2, q3, q4, hβ, nm, seval]
       refine k_app (w := 1) (enc := eI) (xs := w) (ys := [k]) (el := el) (dz := (some 3)) (fun _ => rfl) d5 cU Tryz.underlying22 (by first | rfl | assumption | (simp only [aF, ba, cL, cK, cW, nA, nB, b1, b2, b3, b7, b8, b9, cX, cY, B0, B6, B9, dA, dB, wA, wB, q1, q2, q3, q4, hβ, nm, seval] <;> rfl) | (simp only [aF, ba, fx, fE, fF, fG, tyf, cK, cW, nA, nB, b1, b2, b3, b7, b8, b9, cX, cY, B0, B6, B9, dA, dB, wA, wB, q1, q2, q3, q4, hβ, nm, seval]; done)) (by first | rfl | assumption | (simp only [aF, ba, cL, cK, cW, nA, nB, b1, b2, b3, b7, b8, b9, cX, cY, B0, B6, B9, dA, dB, wA, wB, q1, q2, q3, q4, hβ, nm, seval] <;> rfl) | (simp only [aF, ba, fx, fE, fF, fG, tyf, cK, cW, nA, nB, b1, b2, b3, b7, b8, b9, cX, cY, B0, B6, B9, dA, dB, wA, wB, q1, q2, q3, q4, hβ, nm, seval]; done)) (Nat.zero_lt_succ _) gr ?_
       simp only [vz, tyf, cK, cW, nA, nB, b1, b2, b3, b7, b8, b9, cX, cY, B0, B6, B9, dA, dB, wA, wB, (ixoV oY), eV_eq, mO, lF, mP, q1, q2, q3, q4, hβ, gr, nm, seval]
       exact ⟨m, Nat.lt_succ_self _, by
        rw [hIB]
        refine ⟨k + 1, w ++ [k], .ref (nxB + 16) 0 (List.length (w ++ [k])) 1 (List.length (w ++ [k])), List.set ys (Int.toNat i) (.ref (nxB + 16) 0 (List.length (w ++ [k])) 1 (List.length (w ++ [k]))), (by omega), (by omega), hset _, hrow, rfl, (by dsimp only; omega), ?_, ?_, ?_, ?_, ?_, ?_, ?_, ?_, ?_, ?_, ?_, Or.inl ⟨nxB + 16, sameEl el 3, rfl, (by dsimp only; omega), (by omega), (by omega), (by omega), ?_⟩⟩
        all_goals first | (simp only [ua, cK, cW, nA, nB, b1, b2, b3, b7, b8, b9, cX, cY, B0, B6, B9, dA, dB, wA, wB, (ixoV oY), eV_eq, mO, lF, mP, q1, q2, q3, q4, hβ, nm, seval] <;> rfl) | (simp only [ua, cK, cW, nA, nB, b1, b2, b3, b7, b8, b9, cX, cY, B0, B6, B9, dA, dB, wA, wB, (ixoV oY), eV_eq, mO, lF, mP, q1, q2, q3, q4, hβ, List.length_set, nm, seval] <;> rfl) | rfl⟩
     · simp only [vz, tyf, cK, cW, nA, nB, b1, b2, b3, b7, b8, b9, cX, cY, B0, B6, B9, dA, dB, wA, wB, (ixoV oY), eV_eq, mO, lF, mP, nm, seval]
       refine j2 (w := 1) (enc := eI) (ys := [k]) (dz := (some 3)) (fun _ => rfl) d5 cU Tryz.underlying22 (by first | rfl | assumption | (simp only [aF, ba, cL, cK, cW, nA, nB, b1, b2, b3, b7, b8, b9, cX, cY, B0, B6, B9, dA, dB, wA, wB, nm, seval] <;> rfl) | (simp only [aF, ba, fx, fE, fF, fG, tyf, cK, cW, nA, nB, b1, b2, b3, b7, b8, b9, cX, cY, B0, B6, B9, dA, dB, wA, wB, nm, seval]; done)) (Nat.zero_lt_succ _) gr ?_
       simp only [vz, tyf, cK, cW, nA, nB, b1, b2, b3, b7, b8, b9, cX, cY, B0, B6, B9, dA, dB, wA, wB, (ixoV oY), eV_eq, mO, lF, mP, gr, nm, seval]
       exact ⟨m, Nat.lt_succ_self _, by
        rw [hIB]
        refine ⟨k + 1, [k], .ref (nxB + 16) 0 (List.length ([k])) 1 (List.length ([k])), List.set ys (Int.toNat i) (.ref (nxB + 16) 0 (List.length ([k])) 1 (List.length ([k]))), (by omega), (by omega), hset _, hrow, rfl, (by dsimp only; omega), ?_, ?_, ?_, ?_, ?_, ?_, ?_, ?_, ?_, ?_, ?_, Or.inl ⟨nxB + 16, some 3, rfl, (by dsimp only; omega), (by omega), (by omega), (by omega), ?_⟩⟩
        all_goals first | (simp only [ua, cK, cW, nA, nB, b1, b2, b3, b7, b8, b9, cX, cY, B0, B6, B9, dA, dB, wA, wB, (ixoV oY), eV_eq, mO, lF, mP, nm, seval] <;> rfl) | (simp only [ua, cK, cW, nA, nB, b1, b2, b3, b7, b8, b9, cX, cY, B0, B6, B9, dA, dB, wA, wB, (ixoV oY), eV_eq, mO, lF, mP, List.length_set, nm, seval] <;> rfl) | rfl⟩
def nH (ah : List Int) : Nat → Int → (List Int) → Option (LOut (List Int) (Int × (List Int)))
 | 0, _, _ => none
 | k0 + 1, gv, bV => cond (decide (gv < (List.length bV : Int))) (Option.bind (getI bV gv) (fun x3 => Option.bind (getI ah gv) (fun x4 => nH ah k0 (i64.wrap (gv + 1)) (List.set bV (Int.toNat gv) (i64.wrap (x3 + x4)))))) (some (.go (gv, bV)))
def rP (an : GBk) (al : List Int) (ah : List Int) : Option (List Int) := Option.bind (rO an al ah) (fun r1 => cond (aK r1) (lbind (nH ah 1000000 0 r1) (fun r6 => some r6) (fun c5 => some c5.2) (fun _ _ => none)) none)
theorem Nz (an : GBk) (al : List Int) (ah : List Int) (R : List Int) (h : rP an al ah = some R) : aj Tryz.prog G0 75 [.agg (cGBk an), .sl (ae eI al) (List.length al) false, .sl (ae eI ah) (List.length ah) false] (.tree (.sl (ae eI R) (List.length R) false)) := by
 refine aj.runR mixed Tryz.call75 Tryz.func75 rfl (by simp [Tryz.ntmps75]; kernel_rfl) ?_
 obtain ⟨KF, h, kF, kN⟩ := cT h
 simp only [rP] at h
 obtain ⟨r7, o8, h⟩ := optI h kN
 try simp only [hs] at h
 simp only [vz, tyf, nm, seval]
 refine kown (args0 := [.agg (cGBk an), .sl (ae eI al) (List.length al) false, .sl (ae eI ah) (List.length ah) false]) (by first | (simp only [nrm, aW] <;> rfl) | rfl) (by simp only [tre, tytre, Bool.and_self]) (P5 _ _ _ _ o8) ?_
 simp only [vz, tyf, nm, seval]
 cases gE : (aK r7)
 ·simp only [gE, hs] at h
  exact absurd h kN
 simp only [gE, hs] at h
 obtain ⟨K9, h, NY, wh, NZ, jl⟩ := fS h kN
 obtain ⟨f9, yS, h⟩ := call3 h
 obtain ⟨I9, fU⟩ : ∃ I : Nat → St → Prop, I = (fun m st => ∃ (p9 : Nat) (gP : Int) (cA : List Int), p9 = m ∧ st.df = [] ∧ 8 ≤ st.nx ∧ st.H 5 = some (.cells (none) (ae eI cA)) ∧ st.tm 2 = .sl (ae eI ah) (List.length ah) false ∧ st.tm 7 = .ref 5 0 (List.length cA) 1 (List.length cA) ∧ st.tm 8 = .lit (.int .i64 gP) ∧ K9 (f9 p9 gP cA)) := ⟨_, rfl⟩
 refine loopK mixed (by kernel_rfl) I9 1000000 (by rw [fU]; refine ⟨1000000, 0, r7, rfl, rfl, (show 8 ≤ 8 by omega), ?_, ?_, ?_, ?_, h⟩ <;> first | (simp only [ua, nm, seval] <;> rfl) | rfl) ?_
 rintro m ⟨tm, H, dO, df⟩ hinv
 rw [fU] at hinv
 obtain ⟨p9, gP, cA, rfl, hdf, mo, fy, bM, bB, bw, h⟩ := hinv
 simp only at hdf mo fy bM bB bw
 have hP := fq (m := 8) (b := dO) (by omega)
 subst hdf yS
 cases p9 with
 | zero =>
  simp only [nH, hs, reduceCtorEq] at h
  exact absurd h jl
 | succ p9 =>
  simp only [nH, hs, reduceCtorEq] at h
  cases dR : (decide (gP < (List.length cA : Int)))
  ·simp only [dR, hs] at h
   replace h := wh _ h
   try dsimp only at h
   try simp only [hs] at h
   try simp only [vz, tyf, hP, bM, bB, bw, fy, dR, nm, seval]
   refine c9 (x := (.ref 5 0 (List.length cA) 1 (List.length cA))) (by first | (simp only [Tryz.results75, resV, resL, resV1, cI, cJ, uw, cr, tyf, hP, fy, dR, nm, seval] <;> rfl) | rfl) ?_
   obtain rfl := kF _ h
   refine gY ?_ ?_
   ·simp only [tre, tytre, Bool.and_self]
   ·first | (simp only [outV, uw, gF, cr, tyf, nrm, aW, hP, bM, bB, bw, fy, dR, nm, seval] <;> rfl) | rfl
  simp only [dR, hs] at h
  simp only [vz, tyf, hP, bM, bB, bw, fy, dR, nm, seval]
  refine mn (fun tm => tm 2 = .sl (ae eI ah) (List.length ah) false ∧ tm 7 = .ref 5 0 (List.length cA) 1 (List.length cA) ∧ tm 8 = .lit (.int .i64 gP) ∧ True) (by refine ⟨bM, bB, bw, trivial⟩ <;> first | (simp only [ua, hP, bM, bB, bw, fy, dR, nm, seval] <;> rfl) | rfl) ?_
  rintro tm ⟨bz, bT, eD, _⟩
  obtain ⟨Bn, kL, h⟩ := optI h jl
  try simp only [hs] at h
  obtain ⟨Bo, mH, h⟩ := optI h jl
  try simp only [hs] at h
  have jG := setA (w := 1) (enc := eI) (fun _ => rfl) kL
  have wK := setB (w := 1) (enc := eI) (i64.wrap (Bn + Bo)) (fun _ => rfl) kL
  simp only [vz, tyf, nm, seval] at wK
  have jr := setC (w := 1) (enc := eI) cA (Int.toNat gP) (i64.wrap (Bn + Bo)) (fun _ => rfl)
  simp only [vz, tyf, hP, fy, dR, bz, bT, eD, (bm kL), (aR mH), jG, wK, jr, nm, seval]
  refine j5 ⟨?_, ?_⟩
  ·simp only [j6, j7, fw, j8, and_true, true_and]
   repeat' (first | exact trivial | refine And.intro ?_ ?_ | rw [fw] | rw [j9] | exact Or.inl (by decide +kernel) | exact Or.inl (by dsimp only; decide +kernel) | (refine Or.inr ⟨?_, ?_⟩ <;> simp; done) | (refine Or.inr ⟨?_, ?_⟩ <;> simp <;> omega) | (refine Or.inr ⟨?_, ?_⟩ <;> simp [VEff.wr] <;> omega))
  simp only [vz, tyf, hP, fy, dR, bz, bT, eD, (bm kL), (aR mH), jG, wK, jr, nm, seval]
  exact ⟨p9, Nat.lt_succ_self _, by rw [fU]; refine ⟨p9, i64.wrap (gP + 1), (List.set cA (Int.toNat gP) (i64.wrap (Bn + Bo))), rfl, rfl, (show 8 ≤ dO + 20 by omega), ?_, bz, ?_, ?_, (by first | exact h | (simp only [dR]; exact h))⟩ <;> first | (simp only [ua, hP, fy, dR, bz, bT, eD, jG, wK, jr, nm, seval] <;> rfl) | rfl⟩
def kq (bc : Bool) : List GBs → Int → (List Int) → Option (LOut (List Int) ((List Int)))
 | [], cD, cq => some (.go cq)
 | e0 :: p0, cD, cq => cond (bc) (cond (aE 8 (List.length (cq ++ [e0.Hours.High]))) (kq bc p0 (cD + 1) (cq ++ [e0.Hours.High])) none) (cond (aE 8 (List.length (cq ++ [e0.Hours.Low]))) (kq bc p0 (cD + 1) (cq ++ [e0.Hours.Low])) none)
def rG (an : GBk) (bc : Bool) : Option (List Int) := cond (aK an.Strokes) (lbind (kq bc an.Strokes 0 ([] : List Int)) (fun r2 => some r2) (fun c1 => some c1) (fun _ _ => none)) none
theorem Ny (an : GBk) (bc : Bool) (R : List Int) (h : rG an bc = some R) : aj Tryz.prog G0 33 [.agg (cGBk an), .lit (.bool bc)] (.tree (.sl (ae eI R) (List.length R) false)) := by
 refine aj.runR mixed Tryz.call33 Tryz.func33 rfl (by simp [Tryz.ntmps33]; kernel_rfl) ?_
 obtain ⟨KF, h, kF, kN⟩ := cT h
 simp only [rG] at h
 cases g4 : (aK an.Strokes)
 ·simp only [g4, hs] at h
  exact absurd h kN
 simp only [g4, hs] at h
 simp only [vz, tyf, g4, nm, seval]
 obtain ⟨K3, h, pQ, j1, vU, mi⟩ := fS h kN
 obtain ⟨f3, lj, h⟩ := call3 h
 obtain ⟨I3, fv⟩ : ∃ I : Nat → St → Prop, I = (fun m st => ∃ (p3 : List GBs) (dT : Int) (bG : List Int) (lG : VV), m = List.length p3 ∧ 0 ≤ dT ∧ List.drop (Int.toNat dT) an.Strokes = p3 ∧ st.df = [] ∧ 4 ≤ st.nx ∧ st.H 0 = some (.cells (some 25) (cGBk an)) ∧ st.tm 1 = .lit (.bool bc) ∧ st.tm 2 = .ptr 0 0 ∧ st.tm 5 = lG ∧ st.tm 6 = .lit (.int .i64 dT) ∧ ((∃ (β : Nat) (el : Option TypeId), lG = .ref β 0 (List.length bG) 1 (List.length bG) ∧ β < st.nx ∧ β ≠ 0 ∧ st.H β = some (.cells el (ae eI bG))) ∨ (lG = .lit (.slice none 0 0) ∧ bG = [])) ∧ K3 (f3 p3 dT bG)) := ⟨_, rfl⟩
 refine loopK mixed (by kernel_rfl) I3 (List.length an.Strokes) (by rw [fv]; refine ⟨an.Strokes, 0, ([] : List Int), .lit (.slice none 0 0), rfl, Int.le_refl _, rfl, rfl, (show 4 ≤ 4 by omega), ?_, ?_, ?_, ?_, ?_, Or.inr ⟨rfl, rfl⟩, h⟩ <;> first | (simp only [ua, nm, seval] <;> rfl) | rfl) ?_
 rintro m ⟨tm, H, eG, df⟩ hinv
 rw [fv] at hinv
 obtain ⟨p3, dT, bG, lG, rfl, ca, cH, hdf, lk, H5, e6, e7, e8, e9, mQ, h⟩ := hinv
 simp only at hdf lk H5 e6 e7 e8 e9 mQ
 have dj := fq (m := 4) (b := eG) (by omega)
 subst hdf lj
 rcases mQ with ⟨Bp, iE, rfl, Bq, Br, d6⟩ | ⟨rfl, rfl⟩
 ·have t9 := fb Bq
  have tA := ne_f Br
  cases p3 with
  | nil =>
   have bZ : (decide (dT < (List.length an.Strokes : Int))) = false := fB ca cH
   simp only [kq, hs, reduceCtorEq] at h
   replace h := j1 _ h
   try dsimp only at h
   try simp only [hs] at h
   try simp only [vz, tyf, g4, dj, e6, e7, e8, e9, H5, t9, d6, tA, bZ, nm, seval]
   refine c9 (x := (.ref Bp 0 (List.length bG) 1 (List.length bG))) (by first | (simp only [Tryz.results33, resV, resL, resV1, cI, cJ, uw, cr, tyf, g4, dj, H5, t9, d6, tA, bZ, nm, seval] <;> rfl) | rfl) ?_
   obtain rfl := kF _ h
   refine gY ?_ ?_
   ·simp only [tre, tytre, Bool.and_self]
   ·first | (simp only [outV, uw, gF, cr, tyf, nrm, aW, g4, dj, e6, e7, e8, e9, H5, t9, d6, tA, bZ, nm, seval] <;> rfl) | rfl
  | cons e3 p3 =>
   have dR : (decide (dT < (List.length an.Strokes : Int))) = true := fC ca cH
   have kQ := ei ca cH
   have KT := fu ca cH g4
   simp only [kq, hs, reduceCtorEq] at h
   cases iR : (bc)
   ·simp only [iR, hs] at h
    have iW := And.intro g4 (And.intro dj (And.intro H5 (And.intro t9 (And.intro d6 (And.intro tA (And.intro dR (And.intro KT iR)))))))
    cases oG : (aE 8 (List.length (bG ++ [e3.Hours.Low])))
    ·simp only [oG, hs] at h
     exact absurd h mi
    simp only [oG, hs] at h
    simp only [vz, tyf, iW, e6, e7, e8, e9, (aZ kQ), oG, nm, seval]
    refine k_app (w := 1) (enc := eI) (xs := bG) (ys := ([e3.Hours.Low])) (el := iE) (dz := (some 3)) (fun _ => rfl) d5 cU Tryz.underlying22 (by first | rfl | assumption | (simp only [aF, ba, cL, iW, nm, seval] <;> rfl) | (simp only [aF, ba, fx, fE, fF, fG, tyf, iW, e6, e7, e8, e9, (aZ kQ), oG, nm, seval]; done)) (by first | rfl | assumption | (simp only [aF, ba, cL, iW, nm, seval] <;> rfl) | (simp only [aF, ba, fx, fE, fF, fG, tyf, iW, e6, e7, e8, e9, (aZ kQ), oG, nm, seval]; done)) (Nat.zero_lt_succ _) oG ?_
    simp only [vz, tyf, iW, e6, e7, e8, e9, (aZ kQ), oG, nm, seval]
    exact ⟨List.length p3, Nat.lt_succ_self _, by rw [fv]; refine ⟨p3, dT + 1, (bG ++ [e3.Hours.Low]), .ref (eG + 15) 0 (List.length (bG ++ [e3.Hours.Low])) 1 (List.length (bG ++ [e3.Hours.Low])), rfl, Int.le_trans ca (Int.le_add_one (Int.le_refl _)), cn ca cH, rfl, (show 4 ≤ eG + 20 by omega), ?_, ?_, e7, ?_, ?_, Or.inl ⟨eG + 15, (sameEl iE 3), rfl, (by first | omega | (simp only [nm, seval]; done) | (simp only [nm, seval]; omega)), (by first | omega | (intro hh; simp only [iW, reduceCtorEq] at hh)), ?_⟩, (by first | exact h | (simp only [iW]; exact h))⟩ <;> first | (simp only [ua, iW, e6, e7, e8, e9, nm, seval] <;> rfl) | rfl⟩
   simp only [iR, hs] at h
   have lH := And.intro g4 (And.intro dj (And.intro H5 (And.intro t9 (And.intro d6 (And.intro tA (And.intro dR (And.intro KT iR)))))))
   cases oH : (aE 8 (List.length (bG ++ [e3.Hours.High])))
   ·simp only [oH, hs] at h
    exact absurd h mi
   simp only [oH, hs] at h
   simp only [vz, tyf, lH, e6, e7, e8, e9, (aZ kQ), oH, nm, seval]
   refine k_app (w := 1) (enc := eI) (xs := bG) (ys := ([e3.Hours.High])) (el := iE) (dz := (some 3)) (fun _ => rfl) d5 cU Tryz.underlying22 (by first | rfl | assumption | (simp only [aF, ba, cL, lH, nm, seval] <;> rfl) | (simp only [aF, ba, fx, fE, fF, fG, tyf, lH, e6, e7, e8, e9, (aZ kQ), oH, nm, seval]; done)) (by first | rfl | assumption | (simp only [aF, ba, cL, lH, nm, seval] <;> rfl) | (simp only [aF, ba, fx, fE, fF, fG, tyf, lH, e6, e7, e8, e9, (aZ kQ), oH, nm, seval]; done)) (Nat.zero_lt_succ _) oH ?_
   simp only [vz, tyf, lH, e6, e7, e8, e9, (aZ kQ), oH, nm, seval]
   exact ⟨List.length p3, Nat.lt_succ_self _, by rw [fv]; refine ⟨p3, dT + 1, (bG ++ [e3.Hours.High]), .ref (eG + 15) 0 (List.length (bG ++ [e3.Hours.High])) 1 (List.length (bG ++ [e3.Hours.High])), rfl, Int.le_trans ca (Int.le_add_one (Int.le_refl _)), cn ca cH, rfl, (show 4 ≤ eG + 20 by omega), ?_, ?_, e7, ?_, ?_, Or.inl ⟨eG + 15, (sameEl iE 3), rfl, (by first | omega | (simp only [nm, seval]; done) | (simp only [nm, seval]; omega)), (by first | omega | (intro hh; simp only [lH, reduceCtorEq] at hh)), ?_⟩, (by first | exact h | (simp only [lH]; exact h))⟩ <;> first | (simp only [ua, lH, e6, e7, e8, e9, nm, seval] <;> rfl) | rfl⟩
 ·cases p3 with
  | nil =>
   have hX : (decide (dT < (List.length an.Strokes : Int))) = false := fB ca cH
   simp only [kq, hs, reduceCtorEq] at h
   replace h := j1 _ h
   try dsimp only at h
   try simp only [hs] at h
   try simp only [vz, tyf, g4, dj, e6, e7, e8, e9, H5, hX, nm, seval]
   refine c9 (x := (.lit (.slice none 0 0))) (by first | (simp only [Tryz.results33, resV, resL, resV1, cI, cJ, uw, cr, tyf, g4, dj, H5, hX, nm, seval] <;> rfl) | rfl) ?_
   obtain rfl := kF _ h
   refine gY ?_ ?_
   ·simp only [tre, tytre, Bool.and_self]
   ·first | (simp only [outV, uw, gF, cr, tyf, nrm, aW, g4, dj, e6, e7, e8, e9, H5, hX, nm, seval] <;> rfl) | rfl
  | cons e3 p3 =>
   have fz : (decide (dT < (List.length an.Strokes : Int))) = true := fC ca cH
   have jf := ei ca cH
   have jr := fu ca cH g4
   simp only [kq, hs, reduceCtorEq] at h
   cases js : (bc)
   ·simp only [js, hs] at h
    cases gQ : (aE 8 (List.length (([] : List Int) ++ [e3.Hours.Low])))
    ·simp only [gQ, hs] at h
     exact absurd h mi
    simp only [gQ, hs] at h
    simp only [vz, tyf, g4, dj, e6, e7, e8, e9, H5, fz, (aZ jf), jr, js, gQ, nm, seval]
    refine j2 (w := 1) (enc := eI) (ys := ([e3.Hours.Low])) (dz := (some 3)) (fun _ => rfl) d5 cU Tryz.underlying22 (by first | rfl | assumption | (simp only [aF, ba, cL, dj, H5, nm, seval] <;> rfl) | (simp only [aF, ba, fx, fE, fF, fG, tyf, g4, dj, e6, e7, e8, e9, H5, fz, (aZ jf), jr, js, gQ, nm, seval]; done)) (Nat.zero_lt_succ _) gQ ?_
    simp only [vz, tyf, g4, dj, e6, e7, e8, e9, H5, fz, (aZ jf), jr, js, gQ, nm, seval]
    exact ⟨List.length p3, Nat.lt_succ_self _, by rw [fv]; refine ⟨p3, dT + 1, (([] : List Int) ++ [e3.Hours.Low]), .ref (eG + 15) 0 (List.length (([] : List Int) ++ [e3.Hours.Low])) 1 (List.length (([] : List Int) ++ [e3.Hours.Low])), rfl, Int.le_trans ca (Int.le_add_one (Int.le_refl _)), cn ca cH, rfl, (show 4 ≤ eG + 20 by omega), ?_, ?_, e7, ?_, ?_, Or.inl ⟨eG + 15, (some 3), rfl, (by first | omega | (simp only [nm, seval]; done) | (simp only [nm, seval]; omega)), (by first | omega | (intro hh; simp only [dj, reduceCtorEq] at hh)), ?_⟩, (by first | exact h | (simp only [fz, js]; exact h))⟩ <;> first | (simp only [ua, dj, e6, e7, e8, e9, H5, fz, jr, js, nm, seval] <;> rfl) | rfl⟩
   simp only [js, hs] at h
   cases qp : (aE 8 (List.length (([] : List Int) ++ [e3.Hours.High])))
   ·simp only [qp, hs] at h
    exact absurd h mi
   simp only [qp, hs] at h
   simp only [vz, tyf, g4, dj, e6, e7, e8, e9, H5, fz, (aZ jf), jr, js, qp, nm, seval]
   refine j2 (w := 1) (enc := eI) (ys := ([e3.Hours.High])) (dz := (some 3)) (fun _ => rfl) d5 cU Tryz.underlying22 (by first | rfl | assumption | (simp only [aF, ba, cL, dj, H5, nm, seval] <;> rfl) | (simp only [aF, ba, fx, fE, fF, fG, tyf, g4, dj, e6, e7, e8, e9, H5, fz, (aZ jf), jr, js, qp, nm, seval]; done)) (Nat.zero_lt_succ _) qp ?_
   simp only [vz, tyf, g4, dj, e6, e7, e8, e9, H5, fz, (aZ jf), jr, js, qp, nm, seval]
   exact ⟨List.length p3, Nat.lt_succ_self _, by rw [fv]; refine ⟨p3, dT + 1, (([] : List Int) ++ [e3.Hours.High]), .ref (eG + 15) 0 (List.length (([] : List Int) ++ [e3.Hours.High])) 1 (List.length (([] : List Int) ++ [e3.Hours.High])), rfl, Int.le_trans ca (Int.le_add_one (Int.le_refl _)), cn ca cH, rfl, (show 4 ≤ eG + 20 by omega), ?_, ?_, e7, ?_, ?_, Or.inl ⟨eG + 15, (some 3), rfl, (by first | omega | (simp only [nm, seval]; done) | (simp only [nm, seval]; omega)), (by first | omega | (intro hh; simp only [dj, reduceCtorEq] at hh)), ?_⟩, (by first | exact h | (simp only [fz, js]; exact h))⟩ <;> first | (simp only [ua, dj, e6, e7, e8, e9, H5, fz, jr, js, nm, seval] <;> rfl) | rfl⟩

end Go.V
end
