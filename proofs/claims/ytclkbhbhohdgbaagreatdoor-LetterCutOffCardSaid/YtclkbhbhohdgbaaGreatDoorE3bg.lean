/- Part of a proof. -/
import Derived.Test.YtclkbhbhohdgbaaGreatDoorE3bf
set_option linter.all false
set_option maxRecDepth 4000
set_option maxHeartbeats 40000000
section
namespace Go.V
open Go Go.Proofs IntKind Tryz
def sc (aO : GLx) (eG : Int) (e1 : GLw) : List Int → Int → Int → (List Glm) → Option (LOut (Gld) (Int × (List Glm)))
 | [], jX, gY, jY => some (.go (gY, jY))
 | e2 :: p2, jX, gY, jY => Option.bind (getI aO.Ends gY) (fun x8 => cond (x8.Word == eG && (x8.Letters == (jX + 1))) (cond (an 32 (List.length (jY ++ [(Glm.mk eG e2 gY (decide ((jX + 1) < (List.length e1.Signs : Int))))]))) (sc aO eG e1 p2 (jX + 1) (i64.wrap (gY + 1)) (jY ++ [(Glm.mk eG e2 gY (decide ((jX + 1) < (List.length e1.Signs : Int))))])) none) (cond (an 32 (List.length (jY ++ [(Glm.mk eG e2 gY false)]))) (sc aO eG e1 p2 (jX + 1) gY (jY ++ [(Glm.mk eG e2 gY false)])) none))
def tu (aO : GLx) : List GLw → Int → Int → (List Glm) → Option (LOut (Gld) (Int × (List Glm)))
 | [], eG, i5, gy => some (.go (i5, gy))
 | e1 :: p1, eG, i5, gy => Option.bind (xF aO.Out eG) (fun r7 => cond (r7) (tu aO p1 (eG + 1) i5 gy) (cond (lenOk e1.Signs) (lbind (sc aO eG e1 e1.Signs 0 i5 gy) (fun xu => some (.ret xu)) (fun c9 => tu aO p1 (eG + 1) c9.1 c9.2) (fun _ _ => none)) none))
def xH  : List GLp → Int → (List (Glp × GSpan)) → Option (LOut (Gld) ((List (Glp × GSpan))))
 | [], lu, dy => some (.go dy)
 | e0 :: p0, lu, dy => xH p0 (lu + 1) (mapSet d6 dy (Glp.mk e0.Left e0.Right) e0.Space)
def uk (ae : GLs) (aO : GLx) (gZ : Int) : Option (Gld) := cond (lenOk ae.Pairs) (lbind (xH ae.Pairs 0 ([] : List (Glp × GSpan))) (fun xt => some xt) (fun c1 => cond (lenOk ae.Words) (lbind (tu aO ae.Words 0 0 ([] : List Glm)) (fun nd => some nd) (fun DS => some (Gld.mk ae aO gZ c1 DS.2)) (fun _ _ => none)) none) (fun _ _ => none)) none
theorem WM (ae : GLs) (aO : GLx) (gZ : Int) (R : Gld) (h : uk ae aO gZ = some R) : ah prog G0 71 [.agg (cGLs ae), .agg (cGLx aO), .lit (.int .i64 gZ)] (.tree (.agg (cGld R))) := by
 refine ah.runR mixed call71 func71 rfl (by simp [ntmps71]; kernel_rfl) ?_
 obtain ⟨KF, h, kF, kN⟩ := eN h
 simp only [uk] at h
 cases np : (lenOk ae.Pairs)
 ·simp only [np, hs] at h
  exact absurd h kN
 simp only [np, hs] at h
 simp only [vz, mq, mqm, tyf, mqt, np, nm, seval]
 obtain ⟨YA, h, YB, J5, YC, YD⟩ := hX h kN
 obtain ⟨f14, J6, h⟩ := call3 h
 obtain ⟨YE, vA⟩ : ∃ I : Nat → St → Prop, I = (fun m st => ∃ (tv : List GLp) (fJ : Int) (gG : List (Glp × GSpan)), m = List.length tv ∧ 0 ≤ fJ ∧ List.drop (Int.toNat fJ) ae.Pairs = tv ∧ st.df = [] ∧ 14 ≤ st.nx ∧ st.H 0 = some (.cells (some 28) (cGLs ae)) ∧ st.H 1 = some (.cells (some 31) (cGLx aO)) ∧ st.H 2 = some (.cells (some 93) ([.lit (.slice none 0 0)] ++ [.lit (.slice none 0 0)] ++ [.lit (.int .i64 0)] ++ [.lit (.int .i64 0)] ++ [.lit (.int .i64 0)] ++ [.lit (.int .i64 0)] ++ [.lit (.int .i64 0)] ++ [.lit (.slice none 0 0)] ++ [.lit (.int .i64 0)] ++ [.lit (.int .i64 0)] ++ [.lit (.slice none 0 0)] ++ [.lit (.slice none 0 0)] ++ [.lit (.int .i64 0)] ++ [.lit (.map none)] ++ [.lit (.slice none 0 0)])) ∧ st.H 6 = some (.map (encM cX fI gG)) ∧ st.H 8 = some (.cells (some 93) ((cGLs ae) ++ (cGLx aO) ++ [.lit (.int .i64 gZ)] ++ [.mp 6] ++ [.lit (.slice none 0 0)])) ∧ st.tm 3 = .ptr 0 0 ∧ st.tm 4 = .ptr 1 0 ∧ st.tm 6 = .ptr 2 0 ∧ st.tm 7 = .ptr 8 0 ∧ st.tm 22 = .sl (ad cGLp ae.Pairs) (List.length ae.Pairs) false ∧ st.tm 23 = .lit (.int .i64 (List.length ae.Pairs : Int)) ∧ st.tm 24 = .lit (.int .i64 fJ) ∧ YA (f14 tv fJ gG)) := ⟨_, rfl⟩
 refine loopK mixed (by kernel_rfl) YE (List.length ae.Pairs) (by rw [vA]; refine ⟨ae.Pairs, 0, ([] : List (Glp × GSpan)), rfl, qZg _, rfl, rfl, (show 14 ≤ 14 by omega), ?_, ?_, ?_, ?_, ?_, ?_, ?_, ?_, ?_, ?_, ?_, ?_, h⟩ <;> first | (simp only [ua, dI, nm, seval] <;> rfl) | rfl) ?_
 rintro m ⟨tm, H, k6, df⟩ aL
 rw [vA] at aL
 obtain ⟨tv, fJ, gG, rfl, nY, pV, hdf, J7, AB, kP, jy, lA, gC, bZ, cW, cI, du, cG, dG, fj, h⟩ := aL
 simp only at hdf J7 AB kP jy lA gC bZ cW cI du cG dG fj
 have jW := gQ (m := 14) (b := k6) (by omega)
 subst hdf J6
 cases tv with
 | nil =>
  have mw : (decide (fJ < (List.length ae.Pairs : Int))) = false := gB nY pV
  simp only [xH, hs, reduceCtorEq] at h
  replace h := J5 _ h
  try dsimp only at h
  try simp only [hs] at h
  cases jQ : (lenOk ae.Words)
  ·simp only [jQ, hs] at h
   exact absurd h kN
  simp only [jQ, hs] at h
  simp only [vz, mq, mqm, tyf, mqt, np, jW, bZ, cW, cI, du, cG, dG, fj, AB, kP, jy, lA, gC, mw, jQ, nm, seval]
  obtain ⟨YF, h, YG, J8, YH, vB⟩ := hX h kN
  obtain ⟨YI, J9, h⟩ := call4 h
  obtain ⟨YJ, sd⟩ : ∃ I : Nat → St → Prop, I = (fun m st => ∃ (re : List GLw) (bh : Int) (im : Int) (dS : List Glm) (jZ : VV), m = List.length re ∧ 0 ≤ bh ∧ List.drop (Int.toNat bh) ae.Words = re ∧ st.df = [] ∧ k6 + 6 ≤ st.nx ∧ st.H 0 = some (.cells (some 28) (cGLs ae)) ∧ st.H 1 = some (.cells (some 31) (cGLx aO)) ∧ st.H 2 = some (.cells (some 93) ([.lit (.slice none 0 0)] ++ [.lit (.slice none 0 0)] ++ [.lit (.int .i64 0)] ++ [.lit (.int .i64 0)] ++ [.lit (.int .i64 0)] ++ [.lit (.int .i64 0)] ++ [.lit (.int .i64 0)] ++ [.lit (.slice none 0 0)] ++ [.lit (.int .i64 0)] ++ [.lit (.int .i64 0)] ++ [.lit (.slice none 0 0)] ++ [.lit (.slice none 0 0)] ++ [.lit (.int .i64 0)] ++ [.lit (.map none)] ++ [.lit (.slice none 0 0)])) ∧ st.H 6 = some (.map (encM cX fI gG)) ∧ st.H 8 = some (.cells (some 93) ((cGLs ae) ++ (cGLx aO) ++ [.lit (.int .i64 gZ)] ++ [.mp 6] ++ [jZ])) ∧ st.tm 3 = .ptr 0 0 ∧ st.tm 4 = .ptr 1 0 ∧ st.tm 6 = .ptr 2 0 ∧ st.tm 7 = .ptr 8 0 ∧ st.tm 40 = .lit (.int .i64 (List.length ae.Words : Int)) ∧ st.tm 10 = .lit (.int .i64 im) ∧ st.tm 41 = .lit (.int .i64 bh) ∧ ((∃ (β : Nat) (el : Option TypeId), jZ = .ref β 0 (List.length dS) 4 (List.length dS) ∧ β < st.nx ∧ β ≠ 0 ∧ β ≠ 1 ∧ β ≠ 2 ∧ β ≠ 6 ∧ β ≠ 8 ∧ st.H β = some (.cells el (ad cGlm dS))) ∨ (jZ = .lit (.slice none 0 0) ∧ dS = [])) ∧ YF (YI re bh im dS)) := ⟨_, rfl⟩
  refine loopK mixed (by kernel_rfl) YJ (List.length ae.Words) (by rw [sd]; refine ⟨ae.Words, 0, 0, ([] : List Glm), .lit (.slice none 0 0), rfl, qZg _, rfl, rfl, (show k6 + 6 ≤ k6 + 6 by omega), ?_, ?_, ?_, ?_, ?_, bZ, cW, cI, du, ?_, ?_, ?_, Or.inr ⟨rfl, rfl⟩, h⟩ <;> first | (simp only [ua, dI, jW, bZ, cW, cI, du, cG, dG, fj, AB, kP, jy, lA, gC, mw, nm, seval] <;> rfl) | rfl) ?_
  rintro m ⟨tm, H, jh, df⟩ aL
  rw [sd] at aL
  obtain ⟨re, bh, im, dS, jZ, rfl, lB, nZ, hdf, JA, rh, ri, rj, fE, rk, bT, bG, bJ, bS, cU, ck, cC, k7, h⟩ := aL
  simp only at hdf JA rh ri rj fE rk bT bG bJ bS cU ck cC k7
  have se := gQ (m := 14) (b := jh) (by omega)
  have fu := sY (a := k6) (m := 6) (b := jh) (by omega)
  subst hdf J9
  cases re with
  | nil =>
   have lr : (decide (bh < (List.length ae.Words : Int))) = false := gB lB nZ
   simp only [tu, hs, reduceCtorEq] at h
   replace h := J8 _ h
   try dsimp only at h
   try simp only [hs] at h
   rcases k7 with ⟨AD, JB, rfl, JC, JD, JE, vu, vv, JF, JG⟩ | ⟨rfl, rfl⟩
   ·have JH := jx JC
    have JI := ne_f JD
    have JJ := ne_f JE
    have oZ := ne_f vu
    have pb := ne_f vv
    have JK := ne_f JF
    try simp only [vz, mq, mqm, tyf, mqt, np, jW, mw, jQ, se, fu, bT, bG, bJ, bS, cU, ck, cC, rh, ri, rj, fE, rk, JH, JG, JI, JJ, oZ, pb, JK, lr, nm, seval]
    refine cB (x := (.agg ((cGLs ae) ++ (cGLx aO) ++ [.lit (.int .i64 gZ)] ++ [.mp 6] ++ [.ref AD 0 (List.length dS) 4 (List.length dS)]))) (by first | (simp only [results71, resV, resL, aE, cM, cN, uw, cr, tyf, mqt, np, jW, mw, jQ, se, fu, bT, bG, bJ, bS, cU, ck, cC, rh, ri, rj, fE, rk, JH, JG, JI, JJ, oZ, pb, JK, lr, nm, seval] <;> rfl) | rfl) ?_
    obtain rfl := kF _ h
    refine cO ?_ ?_
    ·simp only [tre, au, mqr, Bool.and_self]
    ·first | (simp only [outV, uw, dx, m5, lZ, cr, tyf, mqt, nrm, ar, np, jW, mw, jQ, se, fu, bT, bG, bJ, bS, cU, ck, cC, rh, ri, rj, fE, rk, JH, JG, JI, JJ, oZ, pb, JK, lr, nm, seval] <;> rfl) | rfl
   try simp only [vz, mq, mqm, tyf, mqt, np, jW, mw, jQ, se, fu, bT, bG, bJ, bS, cU, ck, cC, rh, ri, rj, fE, rk, lr, nm, seval]
   refine cB (x := (.agg ((cGLs ae) ++ (cGLx aO) ++ [.lit (.int .i64 gZ)] ++ [.mp 6] ++ [.lit (.slice none 0 0)]))) (by first | (simp only [results71, resV, resL, aE, cM, cN, uw, cr, tyf, mqt, np, jW, mw, jQ, se, fu, bT, bG, bJ, bS, cU, ck, cC, rh, ri, rj, fE, rk, lr, nm, seval] <;> rfl) | rfl) ?_
   obtain rfl := kF _ h
   refine cO ?_ ?_
   ·simp only [tre, au, mqr, Bool.and_self]
   ·first | (simp only [outV, uw, dx, m5, lZ, cr, tyf, mqt, nrm, ar, np, jW, mw, jQ, se, fu, bT, bG, bJ, bS, cU, ck, cC, rh, ri, rj, fE, rk, lr, nm, seval] <;> rfl) | rfl
  | cons dk re =>
   have m0 : (decide (bh < (List.length ae.Words : Int))) = true := gq lB nZ
   have i0 := eV lB nZ
   have nX := gu lB nZ jQ
   simp only [tu, hs, reduceCtorEq] at h
   obtain ⟨Uj, YK, h⟩ := optI h vB
   try simp only [hs] at h
   simp only [vz, mq, mqm, tyf, mqt, np, jW, mw, jQ, se, fu, bT, bG, bJ, bS, cU, ck, cC, rh, ri, rj, fE, rk, m0, (av i0), nX, nm, seval]
   refine ktree (args0 := [.sl (ad eI aO.Out) (List.length aO.Out) false, .lit (.int .i64 bh)]) (by first | (simp only [nrm, ar, mqr] <;> rfl) | rfl) (by simp only [tre, au, mqr, Bool.and_self]) (TW _ _ _ YK) ?_
   refine bQ (fun tm => tm 3 = .ptr 0 0 ∧ tm 4 = .ptr 1 0 ∧ tm 6 = .ptr 2 0 ∧ tm 7 = .ptr 8 0 ∧ tm 10 = .lit (.int .i64 im) ∧ tm 11 = .lit (.int .i64 bh) ∧ tm 40 = .lit (.int .i64 (List.length ae.Words : Int)) ∧ tm 41 = .lit (.int .i64 bh) ∧ tm 47 = .lit (.bool Uj) ∧ True) (by refine ⟨bT, bG, bJ, bS, ck, ?_, cU, cC, ?_, trivial⟩ <;> first | (simp only [ua, dI, jW, mw, se, fu, bT, bG, bJ, bS, cU, ck, cC, rh, ri, rj, fE, rk, m0, nX, nm, seval] <;> rfl) | rfl) ?_
   rintro tm ⟨fa, fy, fz, dN, eD, mo, xI, AE, DT, _⟩
   have pc := qZk np (qZk jW (qZk mw (qZk jQ (qZk se (qZk fu (qZk rh (qZk ri (qZk rj (qZk fE (qZk rk (qZk m0 nX)))))))))))
   cases nq : (Uj)
   ·simp only [nq, hs] at h
    cases rl : (lenOk dk.Signs)
    ·simp only [rl, hs] at h
     exact absurd h vB
    simp only [rl, hs] at h
    simp only [vz, mq, mqm, tyf, mqt, pc, (av i0), fa, fy, fz, dN, eD, mo, xI, AE, DT, nq, rl, nm, seval]
    obtain ⟨YL, h, YM, JL, YN, oa⟩ := hX h vB
    obtain ⟨YO, JM, h⟩ := call4 h
    obtain ⟨YP, oc⟩ : ∃ I : Nat → St → Prop, I = (fun m st => ∃ (nr : List Int) (bC : Int) (bt : Int) (bU : List Glm) (lC : VV), m = List.length nr ∧ 0 ≤ bC ∧ List.drop (Int.toNat bC) dk.Signs = nr ∧ st.df = [] ∧ jh + 23 ≤ st.nx ∧ st.H 0 = some (.cells (some 28) (cGLs ae)) ∧ st.H 1 = some (.cells (some 31) (cGLx aO)) ∧ st.H 2 = some (.cells (some 93) ([.lit (.slice none 0 0)] ++ [.lit (.slice none 0 0)] ++ [.lit (.int .i64 0)] ++ [.lit (.int .i64 0)] ++ [.lit (.int .i64 0)] ++ [.lit (.int .i64 0)] ++ [.lit (.int .i64 0)] ++ [.lit (.slice none 0 0)] ++ [.lit (.int .i64 0)] ++ [.lit (.int .i64 0)] ++ [.lit (.slice none 0 0)] ++ [.lit (.slice none 0 0)] ++ [.lit (.int .i64 0)] ++ [.lit (.map none)] ++ [.lit (.slice none 0 0)])) ∧ st.H 6 = some (.map (encM cX fI gG)) ∧ st.H 8 = some (.cells (some 93) ((cGLs ae) ++ (cGLx aO) ++ [.lit (.int .i64 gZ)] ++ [.mp 6] ++ [lC])) ∧ st.tm 3 = .ptr 0 0 ∧ st.tm 4 = .ptr 1 0 ∧ st.tm 6 = .ptr 2 0 ∧ st.tm 7 = .ptr 8 0 ∧ st.tm 11 = .lit (.int .i64 bh) ∧ st.tm 12 = .lit (.int .i64 (List.length dk.Signs : Int)) ∧ st.tm 40 = .lit (.int .i64 (List.length ae.Words : Int)) ∧ st.tm 41 = .lit (.int .i64 bh) ∧ st.tm 60 = .sl (ad eI dk.Signs) (List.length dk.Signs) false ∧ st.tm 61 = .lit (.int .i64 (List.length dk.Signs : Int)) ∧ st.tm 10 = .lit (.int .i64 bt) ∧ st.tm 62 = .lit (.int .i64 bC) ∧ ((∃ (β : Nat) (el : Option TypeId), lC = .ref β 0 (List.length bU) 4 (List.length bU) ∧ β < st.nx ∧ β ≠ 0 ∧ β ≠ 1 ∧ β ≠ 2 ∧ β ≠ 6 ∧ β ≠ 8 ∧ st.H β = some (.cells el (ad cGlm bU))) ∨ (lC = .lit (.slice none 0 0) ∧ bU = [])) ∧ YL (YO nr bC bt bU)) := ⟨_, rfl⟩
    refine loopK mixed (by kernel_rfl) YP (List.length dk.Signs) (by rw [oc]; refine ⟨dk.Signs, 0, im, dS, jZ, rfl, qZg _, rfl, rfl, (show jh + 23 ≤ jh + 23 by omega), ?_, ?_, ?_, ?_, ?_, fa, fy, fz, dN, mo, ?_, xI, AE, ?_, ?_, eD, ?_, (match k7 with | Or.inl ⟨β0, mR, nF, hT, pE, kO, vC, lf, vD, lj⟩ => Or.inl ⟨β0, mR, nF, (by first | assumption | omega | (simp only [nm, seval]; done) | (simp only [nm, seval]; omega)), (by first | assumption | omega | (simp only [nm, seval]; done) | (simp only [nm, seval]; omega)), (by first | assumption | omega | (simp only [nm, seval]; done) | (simp only [nm, seval]; omega)), (by first | assumption | omega | (simp only [nm, seval]; done) | (simp only [nm, seval]; omega)), (by first | assumption | omega | (simp only [nm, seval]; done) | (simp only [nm, seval]; omega)), (by first | assumption | omega | (simp only [nm, seval]; done) | (simp only [nm, seval]; omega)), (by first | exact lj | (simp only [bk, bF, jx hT, ne_f pE, ne_f kO, ne_f vC, ne_f lf, ne_f vD, nm, seval]; exact lj))⟩ | Or.inr mi => Or.inr mi), h⟩ <;> first | (simp only [ua, dI, pc, fa, fy, fz, dN, eD, mo, xI, AE, DT, nq, nm, seval] <;> rfl) | rfl) ?_
    rintro m ⟨tm, H, fU, df⟩ aL
    rw [oc] at aL
    obtain ⟨nr, bC, bt, bU, lC, rfl, gH, ji, hdf, JN, vE, vF, vG, vH, vI, hZ, i6, i7, i9, gV, f8, fQ, fV, fW, fp, fC, fT, m6, h⟩ := aL
    simp only at hdf JN vE vF vG vH vI hZ i6 i7 i9 gV f8 fQ fV fW fp fC fT m6
    have xJ := gQ (m := 14) (b := fU) (by omega)
    have xK := sY (a := k6) (m := 6) (b := fU) (by omega)
    have xL := sY (a := jh) (m := 23) (b := fU) (by omega)
    subst hdf JM
    cases nr with
    | nil =>
     have JO : (decide (bC < (List.length dk.Signs : Int))) = false := gB gH ji
     simp only [sc, hs, reduceCtorEq] at h
     replace h := JL _ h
     try dsimp only at h
     try simp only [hs] at h
     simp only [vz, mq, mqm, tyf, mqt, pc, (av i0), nq, rl, xJ, xK, xL, hZ, i6, i7, i9, gV, f8, fQ, fV, fW, fp, fC, fT, vE, vF, vG, vH, vI, JO, nm, seval]
     exact ⟨List.length re, qZc _, by rw [sd]; refine ⟨re, bh + 1, bt, bU, lC, rfl, qZm lB (qZl (qZg _)), cb lB nZ, rfl, (show k6 + 6 ≤ fU + 3 by omega), ?_, ?_, ?_, ?_, ?_, hZ, i6, i7, i9, fQ, fC, ?_, (match m6 with | Or.inl ⟨β0, mR, nF, hT, pE, kO, vC, lf, vD, lj⟩ => Or.inl ⟨β0, mR, nF, (by first | assumption | omega | (simp only [nm, seval]; done) | (simp only [nm, seval]; omega)), (by first | assumption | omega | (simp only [nm, seval]; done) | (simp only [nm, seval]; omega)), (by first | assumption | omega | (simp only [nm, seval]; done) | (simp only [nm, seval]; omega)), (by first | assumption | omega | (simp only [nm, seval]; done) | (simp only [nm, seval]; omega)), (by first | assumption | omega | (simp only [nm, seval]; done) | (simp only [nm, seval]; omega)), (by first | assumption | omega | (simp only [nm, seval]; done) | (simp only [nm, seval]; omega)), (by first | exact lj | (simp only [bk, bF, jx hT, ne_f pE, ne_f kO, ne_f vC, ne_f lf, ne_f vD, nm, seval]; exact lj))⟩ | Or.inr mi => Or.inr mi), (by first | exact h | (simp only [pc, nq, JO]; exact h))⟩ <;> first | (simp only [ua, dI, pc, nq, xJ, xK, xL, hZ, i6, i7, i9, gV, f8, fQ, fV, fW, fp, fC, fT, vE, vF, vG, vH, vI, JO, nm, seval] <;> rfl) | rfl⟩
    | cons gT nr =>
     rcases m6 with ⟨Uk, k8, rfl, JP, JQ, JR, JS, JT, JU, Ul⟩ | ⟨rfl, rfl⟩
     ·have Um := jx JP
      have Un := ne_f JQ
      have Uo := ne_f JR
      have Up := ne_f JS
      have Uq := ne_f JT
      have Ur := ne_f JU
      have AF : (decide (bC < (List.length dk.Signs : Int))) = true := gq gH ji
      have lD := eV gH ji
      have AG := gu gH ji rl
      simp only [sc, hs, reduceCtorEq] at h
      obtain ⟨AH, lE, h⟩ := optI h oa
      try simp only [hs] at h
      cases sf : (AH.Word == bh && (AH.Letters == (bC + 1)))
      ·simp only [sf, hs] at h
       have iq := qZk pc (qZk nq (qZk rl (qZk xJ (qZk xK (qZk xL (qZk vE (qZk vF (qZk vG (qZk vH (qZk vI (qZk Um (qZk Ul (qZk Un (qZk Uo (qZk Up (qZk Uq (qZk Ur (qZk AF (qZk AG sf)))))))))))))))))))
       cases gI : (an 32 (List.length (bU ++ [(Glm.mk bh gT bt false)])))
       ·simp only [gI, hs] at h
        exact absurd h oa
       simp only [gI, hs] at h
       simp only [vz, mq, mqm, tyf, mqt, iq, (av i0), hZ, i6, i7, i9, gV, f8, fQ, fV, fW, fp, fC, fT, (aF lD), (bM lE), gI, nm, seval]
       refine k_app (w := 4) (enc := cGlm) (xs := bU) (ys := ([(Glm.mk bh gT bt false)])) (el := k8) (ff := (some 144)) (fun _ => rfl) si sj underlying91 (by first | rfl | assumption | (simp only [bk, bF, m7, iq, nm, seval] <;> rfl) | (simp only [bk, bF, fg, eU, eW, eX, tyf, mqt, iq, (av i0), hZ, i6, i7, i9, gV, f8, fQ, fV, fW, fp, fC, fT, (aF lD), (bM lE), gI, nm, seval]; done)) (by first | rfl | assumption | (simp only [bk, bF, m7, iq, nm, seval] <;> rfl) | (simp only [bk, bF, fg, eU, eW, eX, tyf, mqt, iq, (av i0), hZ, i6, i7, i9, gV, f8, fQ, fV, fW, fp, fC, fT, (aF lD), (bM lE), gI, nm, seval]; done)) (qZn _) gI ?_
       simp only [vz, mq, mqm, tyf, mqt, iq, (av i0), hZ, i6, i7, i9, gV, f8, fQ, fV, fW, fp, fC, fT, (aF lD), (bM lE), gI, nm, seval]
       exact ⟨List.length nr, qZc _, by rw [oc]; refine ⟨nr, bC + 1, bt, (bU ++ [(Glm.mk bh gT bt false)]), .ref (fU + 31) 0 (List.length (bU ++ [(Glm.mk bh gT bt false)])) 4 (List.length (bU ++ [(Glm.mk bh gT bt false)])), rfl, qZm gH (qZl (qZg _)), cb gH ji, rfl, (show jh + 23 ≤ fU + 37 by omega), ?_, ?_, ?_, ?_, ?_, hZ, i6, i7, i9, gV, f8, fQ, fV, fW, fp, fC, ?_, Or.inl ⟨fU + 31, (sameEl k8 144), rfl, (by first | omega | (simp only [nm, seval]; done) | (simp only [nm, seval]; omega)), (by first | omega | (intro hh; simp only [iq, reduceCtorEq] at hh)), (by first | omega | (intro hh; simp only [iq, reduceCtorEq] at hh)), (by first | omega | (intro hh; simp only [iq, reduceCtorEq] at hh)), (by first | omega | (intro hh; simp only [iq, reduceCtorEq] at hh)), (by first | omega | (intro hh; simp only [iq, reduceCtorEq] at hh)), ?_⟩, (by first | exact h | (simp only [iq]; exact h))⟩ <;> first | (simp only [ua, dI, iq, hZ, i6, i7, i9, gV, f8, fQ, fV, fW, fp, fC, fT, nm, seval] <;> rfl) | rfl⟩
      simp only [sf, hs] at h
      have ir := qZk pc (qZk nq (qZk rl (qZk xJ (qZk xK (qZk xL (qZk vE (qZk vF (qZk vG (qZk vH (qZk vI (qZk Um (qZk Ul (qZk Un (qZk Uo (qZk Up (qZk Uq (qZk Ur (qZk AF (qZk AG sf)))))))))))))))))))
      cases m8 : (an 32 (List.length (bU ++ [(Glm.mk bh gT bt (decide ((bC + 1) < (List.length dk.Signs : Int))))])))
      ·simp only [m8, hs] at h
       exact absurd h oa
      simp only [m8, hs] at h
      simp only [vz, mq, mqm, tyf, mqt, ir, (av i0), hZ, i6, i7, i9, gV, f8, fQ, fV, fW, fp, fC, fT, (aF lD), (bM lE), m8, nm, seval]
      refine k_app (w := 4) (enc := cGlm) (xs := bU) (ys := ([(Glm.mk bh gT bt (decide ((bC + 1) < (List.length dk.Signs : Int))))])) (el := k8) (ff := (some 144)) (fun _ => rfl) si sj underlying91 (by first | rfl | assumption | (simp only [bk, bF, m7, ir, nm, seval] <;> rfl) | (simp only [bk, bF, fg, eU, eW, eX, tyf, mqt, ir, (av i0), hZ, i6, i7, i9, gV, f8, fQ, fV, fW, fp, fC, fT, (aF lD), (bM lE), m8, nm, seval]; done)) (by first | rfl | assumption | (simp only [bk, bF, m7, ir, nm, seval] <;> rfl) | (simp only [bk, bF, fg, eU, eW, eX, tyf, mqt, ir, (av i0), hZ, i6, i7, i9, gV, f8, fQ, fV, fW, fp, fC, fT, (aF lD), (bM lE), m8, nm, seval]; done)) (qZn _) m8 ?_
      simp only [vz, mq, mqm, tyf, mqt, ir, (av i0), hZ, i6, i7, i9, gV, f8, fQ, fV, fW, fp, fC, fT, (aF lD), (bM lE), m8, nm, seval]
      exact ⟨List.length nr, qZc _, by rw [oc]; refine ⟨nr, bC + 1, i64.wrap (bt + 1), (bU ++ [(Glm.mk bh gT bt (decide ((bC + 1) < (List.length dk.Signs : Int))))]), .ref (fU + 31) 0 (List.length (bU ++ [(Glm.mk bh gT bt (decide ((bC + 1) < (List.length dk.Signs : Int))))])) 4 (List.length (bU ++ [(Glm.mk bh gT bt (decide ((bC + 1) < (List.length dk.Signs : Int))))])), rfl, qZm gH (qZl (qZg _)), cb gH ji, rfl, (show jh + 23 ≤ fU + 40 by omega), ?_, ?_, ?_, ?_, ?_, hZ, i6, i7, i9, gV, f8, fQ, fV, fW, fp, ?_, ?_, Or.inl ⟨fU + 31, (sameEl k8 144), rfl, (by first | omega | (simp only [nm, seval]; done) | (simp only [nm, seval]; omega)), (by first | omega | (intro hh; simp only [ir, reduceCtorEq] at hh)), (by first | omega | (intro hh; simp only [ir, reduceCtorEq] at hh)), (by first | omega | (intro hh; simp only [ir, reduceCtorEq] at hh)), (by first | omega | (intro hh; simp only [ir, reduceCtorEq] at hh)), (by first | omega | (intro hh; simp only [ir, reduceCtorEq] at hh)), ?_⟩, (by first | exact h | (simp only [ir]; exact h))⟩ <;> first | (simp only [ua, dI, ir, hZ, i6, i7, i9, gV, f8, fQ, fV, fW, fp, fC, fT, nm, seval] <;> rfl) | rfl⟩
     have AI : (decide (bC < (List.length dk.Signs : Int))) = true := gq gH ji
     have od := eV gH ji
     have AJ := gu gH ji rl
     simp only [sc, hs, reduceCtorEq] at h
     obtain ⟨AK, oe, h⟩ := optI h oa
     try simp only [hs] at h
     cases sk : (AK.Word == bh && (AK.Letters == (bC + 1)))
     ·simp only [sk, hs] at h
      have jj := qZk pc (qZk nq (qZk rl (qZk xJ (qZk xK (qZk xL (qZk vE (qZk vF (qZk vG (qZk vH (qZk vI (qZk AI (qZk AJ sk))))))))))))
      cases og : (an 32 (List.length (([] : List Glm) ++ [(Glm.mk bh gT bt false)])))
      ·simp only [og, hs] at h
       exact absurd h oa
      simp only [og, hs] at h
      simp only [vz, mq, mqm, tyf, mqt, jj, (av i0), hZ, i6, i7, i9, gV, f8, fQ, fV, fW, fp, fC, fT, (aF od), (bM oe), og, nm, seval]
      refine mX (w := 4) (enc := cGlm) (ys := ([(Glm.mk bh gT bt false)])) (ff := (some 144)) (fun _ => rfl) si sj underlying91 (by first | rfl | assumption | (simp only [bk, bF, m7, jj, nm, seval] <;> rfl) | (simp only [bk, bF, fg, eU, eW, eX, tyf, mqt, jj, (av i0), hZ, i6, i7, i9, gV, f8, fQ, fV, fW, fp, fC, fT, (aF od), (bM oe), og, nm, seval]; done)) (qZn _) og ?_
      simp only [vz, mq, mqm, tyf, mqt, jj, (av i0), hZ, i6, i7, i9, gV, f8, fQ, fV, fW, fp, fC, fT, (aF od), (bM oe), og, nm, seval]
      exact ⟨List.length nr, qZc _, by rw [oc]; refine ⟨nr, bC + 1, bt, (([] : List Glm) ++ [(Glm.mk bh gT bt false)]), .ref (fU + 31) 0 (List.length (([] : List Glm) ++ [(Glm.mk bh gT bt false)])) 4 (List.length (([] : List Glm) ++ [(Glm.mk bh gT bt false)])), rfl, qZm gH (qZl (qZg _)), cb gH ji, rfl, (show jh + 23 ≤ fU + 37 by omega), ?_, ?_, ?_, ?_, ?_, hZ, i6, i7, i9, gV, f8, fQ, fV, fW, fp, fC, ?_, Or.inl ⟨fU + 31, (some 144), rfl, (by first | omega | (simp only [nm, seval]; done) | (simp only [nm, seval]; omega)), (by first | omega | (intro hh; simp only [jj, reduceCtorEq] at hh)), (by first | omega | (intro hh; simp only [jj, reduceCtorEq] at hh)), (by first | omega | (intro hh; simp only [jj, reduceCtorEq] at hh)), (by first | omega | (intro hh; simp only [jj, reduceCtorEq] at hh)), (by first | omega | (intro hh; simp only [jj, reduceCtorEq] at hh)), ?_⟩, (by first | exact h | (simp only [jj]; exact h))⟩ <;> first | (simp only [ua, dI, jj, hZ, i6, i7, i9, gV, f8, fQ, fV, fW, fp, fC, fT, nm, seval] <;> rfl) | rfl⟩
     simp only [sk, hs] at h
     have jk := qZk pc (qZk nq (qZk rl (qZk xJ (qZk xK (qZk xL (qZk vE (qZk vF (qZk vG (qZk vH (qZk vI (qZk AI (qZk AJ sk))))))))))))
     cases oh : (an 32 (List.length (([] : List Glm) ++ [(Glm.mk bh gT bt (decide ((bC + 1) < (List.length dk.Signs : Int))))])))
     ·simp only [oh, hs] at h
      exact absurd h oa
     simp only [oh, hs] at h
     simp only [vz, mq, mqm, tyf, mqt, jk, (av i0), hZ, i6, i7, i9, gV, f8, fQ, fV, fW, fp, fC, fT, (aF od), (bM oe), oh, nm, seval]
     refine mX (w := 4) (enc := cGlm) (ys := ([(Glm.mk bh gT bt (decide ((bC + 1) < (List.length dk.Signs : Int))))])) (ff := (some 144)) (fun _ => rfl) si sj underlying91 (by first | rfl | assumption | (simp only [bk, bF, m7, jk, nm, seval] <;> rfl) | (simp only [bk, bF, fg, eU, eW, eX, tyf, mqt, jk, (av i0), hZ, i6, i7, i9, gV, f8, fQ, fV, fW, fp, fC, fT, (aF od), (bM oe), oh, nm, seval]; done)) (qZn _) oh ?_
     simp only [vz, mq, mqm, tyf, mqt, jk, (av i0), hZ, i6, i7, i9, gV, f8, fQ, fV, fW, fp, fC, fT, (aF od), (bM oe), oh, nm, seval]
     exact ⟨List.length nr, qZc _, by rw [oc]; refine ⟨nr, bC + 1, i64.wrap (bt + 1), (([] : List Glm) ++ [(Glm.mk bh gT bt (decide ((bC + 1) < (List.length dk.Signs : Int))))]), .ref (fU + 31) 0 (List.length (([] : List Glm) ++ [(Glm.mk bh gT bt (decide ((bC + 1) < (List.length dk.Signs : Int))))])) 4 (List.length (([] : List Glm) ++ [(Glm.mk bh gT bt (decide ((bC + 1) < (List.length dk.Signs : Int))))])), rfl, qZm gH (qZl (qZg _)), cb gH ji, rfl, (show jh + 23 ≤ fU + 40 by omega), ?_, ?_, ?_, ?_, ?_, hZ, i6, i7, i9, gV, f8, fQ, fV, fW, fp, ?_, ?_, Or.inl ⟨fU + 31, (some 144), rfl, (by first | omega | (simp only [nm, seval]; done) | (simp only [nm, seval]; omega)), (by first | omega | (intro hh; simp only [jk, reduceCtorEq] at hh)), (by first | omega | (intro hh; simp only [jk, reduceCtorEq] at hh)), (by first | omega | (intro hh; simp only [jk, reduceCtorEq] at hh)), (by first | omega | (intro hh; simp only [jk, reduceCtorEq] at hh)), (by first | omega | (intro hh; simp only [jk, reduceCtorEq] at hh)), ?_⟩, (by first | exact h | (simp only [jk]; exact h))⟩ <;> first | (simp only [ua, dI, jk, hZ, i6, i7, i9, gV, f8, fQ, fV, fW, fp, fC, fT, nm, seval] <;> rfl) | rfl⟩
   simp only [nq, hs] at h
   simp only [vz, mq, mqm, tyf, mqt, pc, (av i0), fa, fy, fz, dN, eD, mo, xI, AE, DT, nq, nm, seval]
   exact ⟨List.length re, qZc _, by rw [sd]; refine ⟨re, bh + 1, im, dS, jZ, rfl, qZm lB (qZl (qZg _)), cb lB nZ, rfl, (show k6 + 6 ≤ jh + 9 by omega), ?_, ?_, ?_, ?_, ?_, fa, fy, fz, dN, xI, eD, ?_, (match k7 with | Or.inl ⟨β0, mR, nF, hT, pE, kO, vC, lf, vD, lj⟩ => Or.inl ⟨β0, mR, nF, (by first | assumption | omega | (simp only [nm, seval]; done) | (simp only [nm, seval]; omega)), (by first | assumption | omega | (simp only [nm, seval]; done) | (simp only [nm, seval]; omega)), (by first | assumption | omega | (simp only [nm, seval]; done) | (simp only [nm, seval]; omega)), (by first | assumption | omega | (simp only [nm, seval]; done) | (simp only [nm, seval]; omega)), (by first | assumption | omega | (simp only [nm, seval]; done) | (simp only [nm, seval]; omega)), (by first | assumption | omega | (simp only [nm, seval]; done) | (simp only [nm, seval]; omega)), (by first | exact lj | (simp only [bk, bF, jx hT, ne_f pE, ne_f kO, ne_f vC, ne_f lf, ne_f vD, nm, seval]; exact lj))⟩ | Or.inr mi => Or.inr mi), (by first | exact h | (simp only [pc, nq]; exact h))⟩ <;> first | (simp only [ua, dI, pc, fa, fy, fz, dN, eD, mo, xI, AE, DT, nq, nm, seval] <;> rfl) | rfl⟩
 | cons bK tv =>
  have vJ : (decide (fJ < (List.length ae.Pairs : Int))) = true := gq nY pV
  have JV := eV nY pV
  have AM := gu nY pV np
  simp only [xH, hs, reduceCtorEq] at h
  have vK := fun H => Jx (β := 6) gG (Glp.mk bK.Left bK.Right) bK.Space H
  try simp only [dI] at vK
  simp only [vz, mq, mqm, tyf, mqt, np, jW, bZ, cW, cI, du, cG, dG, fj, AB, kP, jy, lA, gC, vJ, (ct JV), AM, vK, nm, seval]
  exact ⟨List.length tv, qZc _, by rw [vA]; refine ⟨tv, fJ + 1, (mapSet d6 gG (Glp.mk bK.Left bK.Right) bK.Space), rfl, qZm nY (qZl (qZg _)), cb nY pV, rfl, (show 14 ≤ k6 + 17 by omega), ?_, ?_, ?_, ?_, ?_, bZ, cW, cI, du, cG, dG, ?_, (by first | exact h | (simp only [vJ]; exact h))⟩ <;> first | (simp only [ua, dI, jW, bZ, cW, cI, du, cG, dG, fj, AB, kP, jy, lA, gC, vJ, AM, vK, nm, seval] <;> rfl) | rfl⟩
end Go.V
end
section
namespace Go.V
open Go Go.Proofs IntKind Tryz
section
variable {K V : Type} {q : K → K → Bool} {z : V}
def getR (q : K → K → Bool) (z : V) (k : K) : List (K × V) → V
 | [] => z
 | e :: l => if q k e.1 then e.2 else getR q z k l
def setR (q : K → K → Bool) (k : K) (v : V) : List (K × V) → List (K × V)
 | [] => [(k, v)]
 | e :: l => if q k e.1 then (k, v) :: l else e :: setR q k v l
theorem DU (k : K) : ∀ (es : List K) (i : Nat), kIdx q k es (i + 1) = (kIdx q k es i).map (· + 1)
 | [], _ => rfl
 | e :: es, i => by
  unfold kIdx
  cases q k e with
  | true => rfl
  | false => exact DU k es (i + 1)
theorem JW (k : K) : ∀ l : List (K × V), mapGet q z l k = getR q z k l
 | [] => rfl
 | e :: l => by
  have ih := JW k l
  unfold mapGet at ih ⊢
  rw [List.map_cons]
  unfold kIdx getR
  cases hq : q k e.1 with
  | true => rfl
  | false =>
   simp only [cond_false, Bool.false_eq_true, if_false]
   rw [DU]
   cases h : kIdx q k (l.map (·.1)) 0 with
   | none => rw [h] at ih; exact ih
   | some i => rw [h] at ih; simpa using ih
theorem DV (k : K) (v : V) : ∀ l : List (K × V), mapSet q l k v = setR q k v l
 | [] => rfl
 | e :: l => by
  have ih := DV k v l
  unfold mapSet at ih ⊢
  rw [List.map_cons]
  unfold kIdx setR
  cases hq : q k e.1 with
  | true => rfl
  | false =>
   simp only [cond_false, Bool.false_eq_true, if_false]
   rw [DU]
   cases h : kIdx q k (l.map (·.1)) 0 with
   | none => rw [h] at ih; simpa using ih
   | some i => rw [h] at ih; simpa using ih
theorem Us (hq : ∀ a b, q a b = true ↔ a = b) (k k' : K) (v : V) : ∀ l : List (K × V), getR q z k' (setR q k v l) = if q k' k then v else getR q z k' l
 | [] => rfl
 | e :: l => by
  have ih := Us hq k k' v l
  unfold setR
  cases he : q k e.1 with
  | true =>
   have e1 := (hq _ _).1 he
   simp only [if_true, getR, ← e1]
   split <;> rfl
  | false =>
   simp only [Bool.false_eq_true, if_false, getR, ih]
   cases h1 : q k' e.1 with
   | true =>
    have e1 := (hq _ _).1 h1
    have : q k' k = false := by
     cases h2 : q k' k with
     | false => rfl
     | true =>
      have e2 := (hq _ _).1 h2
      rw [e2] at e1
      rw [e1, (hq _ _).2 rfl] at he
      cases he
    rw [this]
    simp
   | false => simp
theorem JX (hq : ∀ a b, q a b = true ↔ a = b) (k k' : K) (v : V) (l : List (K × V)) : mapGet q z (mapSet q l k v) k' = if q k' k then v else mapGet q z l k' := by
 rw [JW, JW, DV, Us hq]
end
end Go.V
end
section
namespace Go.V
open Go Go.Proofs IntKind Tryz
section
variable {K V : Type} {q : K → K → Bool} {z : V}
def hasR (q : K → K → Bool) (k : K) : List (K × V) → Bool
 | [] => false
 | e :: l => q k e.1 || hasR q k l
theorem JY (k : K) : ∀ l : List (K × V), mapHas q l k = hasR q k l
 | [] => rfl
 | e :: l => by
  have ih := JY k l
  unfold mapHas at ih ⊢
  rw [List.map_cons]
  unfold kIdx hasR
  cases hq : q k e.1 with
  | true => rfl
  | false =>
   simp only [cond_false, Bool.false_or]
   rw [DU, Option.isSome_map, ih]
theorem AN (hq : ∀ a b, q a b = true ↔ a = b) (k k' : K) (v : V) : ∀ l : List (K × V), hasR q k' (setR q k v l) = (q k' k || hasR q k' l)
 | [] => by simp [setR, hasR]
 | e :: l => by
  have ih := AN hq k k' v l
  unfold setR
  cases he : q k e.1 with
  | true =>
   have e1 := (hq _ _).1 he
   simp only [if_true, hasR, ← e1]
   cases q k' k <;> simp
  | false =>
   simp only [Bool.false_eq_true, if_false, hasR, ih]
   cases q k' e.1 <;> cases q k' k <;> simp
end
theorem DW (a b : Glp) : d6 a b = true ↔ a = b := ⟨tt a b, fun h => by rw [h]; exact v9 b⟩
def lastP (l r : Int) : List GLp → Option GSpan → Option GSpan
 | [], a => a
 | p :: ps, a => lastP l r ps (if l = p.Left ∧ r = p.Right then some p.Space else a)
def MapOk (m : List (Glp × GSpan)) (A : Int → Int → Option GSpan) : Prop := ∀ l r, mapHas d6 m (Glp.mk l r) = (A l r).isSome ∧ ∀ v, A l r = some v → mapGet d6 (GSpan.mk 0 0) m (Glp.mk l r) = v
theorem yP : ∀ (ps : List GLp) (i : Int) (m : List (Glp × GSpan)) (A : Int → Int → Option GSpan), MapOk m A → ∃ m', xH ps i m = some (.go m') ∧ MapOk m' (fun l r => lastP l r ps (A l r))
 | [], i, m, A, h => ⟨m, rfl, h⟩
 | p :: ps, i, m, A, h => by
  simp only [xH]
  obtain ⟨m', h1, h2⟩ := yP ps (i + 1) (mapSet d6 m (Glp.mk p.Left p.Right) p.Space) (fun l r => if l = p.Left ∧ r = p.Right then some p.Space else A l r) (fun l r => by
   rw [JY, DV, AN DW, ← JY, (h l r).1, ← DV, JX DW]
   by_cases hk : l = p.Left ∧ r = p.Right
   ·have : d6 (Glp.mk l r) (Glp.mk p.Left p.Right) = true := (DW _ _).2 (by rw [hk.1, hk.2])
    rw [this]
    simp only [if_pos hk]
    simp
   ·have : d6 (Glp.mk l r) (Glp.mk p.Left p.Right) = false := by
     cases hh : d6 (Glp.mk l r) (Glp.mk p.Left p.Right) with
     | false => rfl
     | true =>
      have := (DW _ _).1 hh
      simp only [Glp.mk.injEq] at this
      exact absurd this hk
    rw [this]
    simp only [if_neg hk]
    simpa using (h l r).2)
  exact ⟨m', h1, h2⟩
abbrev FL := GLe × Int × Bool
def letW (i : Int) (al : Int) : List Int → Int → List FL
 | [], _ => []
 | c :: cs, k => (GLe.mk i (k + 1), c, decide (k + 1 < al)) :: letW i al cs (k + 1)
def ltrsL (out : List Int) : List GLw → Int → List FL
 | [], _ => []
 | w :: ws, i => cond (out.contains i) (ltrsL out ws (i + 1)) (letW i (w.Signs.length : Int) w.Signs 0 ++ ltrsL out ws (i + 1))
def AL : List GLe → List FL → Prop
 | [], [] => True
 | [], _ :: _ => False
 | _ :: _, [] => False
 | e :: es, f :: fl => if e = f.1 then AL es fl else AL (e :: es) fl
def mkS : List GLe → List FL → Int → List Glm × List GLe × Int
 | es, [], r => ([], es, r)
 | [], _ :: _, r => ([], [], r)
 | e :: es, f :: fl, r => if e = f.1 then (Glm.mk f.1.Word f.2.1 r f.2.2 :: (mkS es fl (r + 1)).1, (mkS es fl (r + 1)).2) else (Glm.mk f.1.Word f.2.1 r false :: (mkS (e :: es) fl r).1, (mkS (e :: es) fl r).2)
theorem roomOk32 {n : Nat} (h : n ≤ 1000) : an 32 n = true := by simp [an]; omega
theorem vL (x : GLx) (hl : x.Ends.length < 1000000) (i : Int) (w : GLw) : ∀ (cs : List Int) (k r : Int) (acc : List Glm) (es : List GLe) (fl : List FL), 0 ≤ k → k + cs.length ≤ 1000 → 0 ≤ r → r + es.length = x.Ends.length → x.Ends.drop r.toNat = es → AL es (letW i (w.Signs.length : Int) cs k ++ fl) → acc.length + cs.length ≤ 1000 →
  sc x i w cs k r acc = some (.go ((mkS es (letW i (w.Signs.length : Int) cs k) r).2.2, acc ++ (mkS es (letW i (w.Signs.length : Int) cs k) r).1)) ∧ AL (mkS es (letW i (w.Signs.length : Int) cs k) r).2.1 fl ∧ 0 ≤ (mkS es (letW i (w.Signs.length : Int) cs k) r).2.2 ∧ (mkS es (letW i (w.Signs.length : Int) cs k) r).2.2 + (mkS es (letW i (w.Signs.length : Int) cs k) r).2.1.length = x.Ends.length ∧ x.Ends.drop (mkS es (letW i (w.Signs.length : Int) cs k) r).2.2.toNat = (mkS es (letW i (w.Signs.length : Int) cs k) r).2.1 ∧ (mkS es (letW i (w.Signs.length : Int) cs k) r).1.length = cs.length
 | [], k, r, acc, es, fl, _, _, h0, h1, h2, h3, _ => by
  cases es <;> exact ⟨by simp [sc, letW, mkS], h3, h0, h1, h2, rfl⟩
 | c :: cs, k, r, acc, es, fl, pg, hk, h0, h1, h2, h3, h4 => by
  simp only [List.length_cons] at h4 hk
  cases es with
  | nil => exact h3.elim
  | cons e es =>
   have hg : getI x.Ends r = some e := eV h0 h2
   simp only [List.length_cons] at h1
   simp only [sc, hg, Option.bind_some]
   rw [sb e (GLe.mk i (k + 1)), jS (by omega) (by omega)]
   simp only [letW, List.cons_append] at h3 ⊢
   unfold AL at h3
   unfold mkS
   by_cases he : e = GLe.mk i (k + 1)
   ·simp only [he, if_true] at h3 ⊢
    simp only [decide_true, cond_true]
    rw [roomOk32 (by simp; omega), cond_true]
    obtain ⟨q1, q2, q3, q4, q5, q6⟩ := vL x hl i w cs (k + 1) (r + 1) (acc ++ [Glm.mk i c r (decide (k + 1 < (w.Signs.length : Int)))]) es fl (by omega) (by omega) (by omega) (by omega) (cb h0 h2) h3 (by simp; omega)
    refine ⟨?_, q2, q3, q4, q5, by simp [q6]⟩
    rw [q1]
    simp
   ·simp only [if_neg he] at h3 ⊢
    rw [decide_eq_false he, cond_false, roomOk32 (by simp; omega), cond_true]
    obtain ⟨q1, q2, q3, q4, q5, q6⟩ := vL x hl i w cs (k + 1) r (acc ++ [Glm.mk i c r false]) (e :: es) fl (by omega) (by omega) h0 (by simp only [List.length_cons]; omega) h2 h3 (by simp; omega)
    refine ⟨?_, q2, q3, q4, q5, by simp [q6]⟩
    rw [q1]
    simp
variable {es : List GLe} {fl : List FL}
theorem qG {e : GLe} {f : FL} {r : Int} (h : e = f.1) : mkS (e :: es) (f :: fl) r = (Glm.mk f.1.Word f.2.1 r f.2.2 :: (mkS es fl (r + 1)).1, (mkS es fl (r + 1)).2) := by
 rw [mkS, if_pos h]
theorem sJ {e : GLe} {f : FL} {r : Int} (h : ¬ e = f.1) : mkS (e :: es) (f :: fl) r = (Glm.mk f.1.Word f.2.1 r false :: (mkS (e :: es) fl r).1, (mkS (e :: es) fl r).2) := by
 rw [mkS, if_neg h]
theorem vM : ∀ (a b : List FL) (es : List GLe) (r : Int), AL es (a ++ b) → (mkS es (a ++ b) r).1 = (mkS es a r).1 ++ (mkS (mkS es a r).2.1 b (mkS es a r).2.2).1 ∧ (mkS es (a ++ b) r).2 = (mkS (mkS es a r).2.1 b (mkS es a r).2.2).2
 | [], b, es, r, _ => by cases es <;> simp [mkS]
 | f :: a, b, [], r, h => h.elim
 | f :: a, b, e :: es, r, h => by
  rw [List.cons_append] at h ⊢
  unfold AL at h
  by_cases he : e = f.1
  ·rw [if_pos he] at h
   obtain ⟨h1, h2⟩ := vM a b es (r + 1) h
   rw [qG he, qG he]
   simp only [h1, h2, List.cons_append, and_self]
  ·rw [if_neg he] at h
   obtain ⟨h1, h2⟩ := vM a b (e :: es) r h
   rw [sJ he, sJ he]
   simp only [h1, h2, List.cons_append, and_self]
theorem yO (i al : Int) : ∀ (cs : List Int) (k : Int), (letW i al cs k).length = cs.length
 | [], _ => rfl
 | c :: cs, k => by simp [letW, yO i al cs]
theorem um (x : GLx) (ho : lenOk x.Out = true) (hl : x.Ends.length < 1000000) : ∀ (ws : List GLw) (i r : Int) (acc : List Glm) (es : List GLe), (∀ w ∈ ws, w.Signs.length ≤ 6) → 0 ≤ r → r + es.length = x.Ends.length → x.Ends.drop r.toNat = es → AL es (ltrsL x.Out ws i) → acc.length + 6 * ws.length ≤ 1000 →
  tu x ws i r acc = some (.go ((mkS es (ltrsL x.Out ws i) r).2.2, acc ++ (mkS es (ltrsL x.Out ws i) r).1))
 | [], i, r, acc, es, _, _, _, _, h3, _ => by
  cases es with
  | nil => simp [tu, ltrsL, mkS]
  | cons e es => exact h3.elim
 | w :: ws, i, r, acc, es, hw, h0, h1, h2, h3, h4 => by
  simp only [List.length_cons] at h4
  have Dz := hw w (qZb ..)
  have Ut : ∀ v ∈ ws, v.Signs.length ≤ 6 := fun v hv => hw v (qZa _ hv)
  simp only [tu, Ud _ _ ho, Option.bind_some]
  unfold ltrsL at h3 ⊢
  cases hc : x.Out.contains i with
  | true =>
   rw [hc] at h3
   simp only [cond_true] at h3 ⊢
   exact um x ho hl ws (i + 1) r acc es Ut h0 h1 h2 h3 (by omega)
  | false =>
   rw [hc] at h3
   simp only [cond_false] at h3 ⊢
   obtain ⟨q1, q2, q3, q4, q5, q6⟩ := vL x hl i w w.Signs 0 r acc es (ltrsL x.Out ws (i + 1)) (by omega) (by omega) h0 h1 h2 h3 (by omega)
   obtain ⟨a1, a2⟩ := vM _ _ es r h3
   rw [km (by omega), cond_true, q1, lR, um x ho hl ws (i + 1) _ _ _ Ut q3 q4 q5 q2 (by simp only [List.length_append, q6]; omega), a1, a2]
   simp
theorem DX {i al : Int} {f : FL} : ∀ {cs : List Int} {k : Int}, f ∈ letW i al cs k → f.1.Word = i ∧ k + 1 ≤ f.1.Letters ∧ f.1.Letters ≤ k + cs.length ∧ f.2.1 ∈ cs ∧ f.2.2 = decide (f.1.Letters < al)
 | [], _, h => by cases h
 | c :: cs, k, h => by
  rcases List.mem_cons.1 h with rfl | h
  ·exact ⟨rfl, qZg _, by simp; omega, qZb .., rfl⟩
  ·obtain ⟨h1, h2, h3, h4, h5⟩ := DX h
   exact ⟨h1, by omega, by simp only [List.length_cons]; omega, qZa _ h4, h5⟩
theorem JZ {i al : Int} : ∀ (cs : List Int) (k : Int) (n : Int), k + 1 ≤ n → n ≤ k + cs.length → GLe.mk i n ∈ (letW i al cs k).map (·.1)
 | [], k, n, h1, h2 => by simp at h2; omega
 | c :: cs, k, n, h1, h2 => by
  simp only [List.length_cons] at h2
  simp only [letW, List.map_cons]
  by_cases h : n = k + 1
  ·rw [h]; exact qZb ..
  ·exact qZa _ (JZ cs (k + 1) n (by omega) (by omega))
theorem AO {i al : Int} : ∀ (cs : List Int) (k : Int), ((letW i al cs k).map (·.1)).Pairwise befE
 | [], _ => List.Pairwise.nil
 | c :: cs, k => by
  simp only [letW, List.map_cons, List.pairwise_cons]
  refine ⟨fun x hx => ?_, AO cs (k + 1)⟩
  obtain ⟨f, hf, rfl⟩ := List.mem_map.1 hx
  obtain ⟨h1, h2, _⟩ := DX hf
  exact .inr ⟨h1.symm, by show k + 1 < _; omega⟩
theorem yQ {out : List Int} {f : FL} : ∀ {ws : List GLw} {i : Int}, f ∈ ltrsL out ws i → i ≤ f.1.Word ∧ ∃ w ∈ ws, f.2.1 ∈ w.Signs
 | [], _, h => by cases h
 | w :: ws, i, h => by
  unfold ltrsL at h
  cases hc : out.contains i with
  | true =>
   rw [hc, cond_true] at h
   obtain ⟨h1, v, h2, h3⟩ := yQ h
   exact ⟨by omega, v, qZa _ h2, h3⟩
  | false =>
   rw [hc, cond_false] at h
   rcases List.mem_append.1 h with h | h
   ·obtain ⟨h1, _, _, h4, _⟩ := DX h
    exact ⟨by omega, w, qZb .., h4⟩
   ·obtain ⟨h1, v, h2, h3⟩ := yQ h
    exact ⟨by omega, v, qZa _ h2, h3⟩
theorem Dv (out : List Int) : ∀ (ws : List GLw) (i : Int), ((ltrsL out ws i).map (·.1)).Pairwise befE
 | [], _ => List.Pairwise.nil
 | w :: ws, i => by
  unfold ltrsL
  cases out.contains i with
  | true => exact Dv out ws (i + 1)
  | false =>
   rw [cond_false, List.map_append, List.pairwise_append]
   refine ⟨AO _ _, Dv out ws (i + 1), fun a ha b hb => ?_⟩
   obtain ⟨f, hf, rfl⟩ := List.mem_map.1 ha
   obtain ⟨g, hg, rfl⟩ := List.mem_map.1 hb
   have h1 := (DX hf).1
   have h2 := (yQ hg).1
   left; omega
theorem G7 (out : List Int) : ∀ (ws : List GLw) (i : Int), (∀ w ∈ ws, 1 ≤ w.Signs.length ∧ ∀ c ∈ w.Cuts, 1 ≤ c ∧ c < (w.Signs.length : Int)) → ∀ e ∈ possL out ws i, e ∈ (ltrsL out ws i).map (·.1)
 | [], _, _, e, he => by simp [possL] at he
 | w :: ws, i, h, e, he => by
  have hw := h w (qZb ..)
  have ih := G7 out ws (i + 1) (fun v hv => h v (qZa _ hv)) e
  unfold possL at he
  unfold ltrsL
  cases hc : out.contains i with
  | true => rw [hc, cond_true] at he; exact ih he
  | false =>
   rw [hc, cond_false] at he
   rw [cond_false, List.map_append, List.mem_append]
   rcases List.mem_append.1 he with he | he
   ·left
    obtain ⟨h1, h2⟩ := DP.1 he
    obtain ⟨a, b⟩ := e
    subst h1
    rcases h2 with h2 | h2
    ·have := hw.2 _ h2
     exact JZ _ _ _ (by simp only at this ⊢; omega) (by simp only at this ⊢; omega)
    ·simp only at h2
     subst h2
     exact JZ _ _ _ (by omega) (by omega)
   ·exact .inr (ih he)
theorem AP (i al : Int) : ∀ (cs : List Int) (k : Int), cs ≠ [] → ((letW i al cs k).map (·.1)).getLast? = some (GLe.mk i (k + cs.length))
 | [], _, h => absurd rfl h
 | [c], k, _ => by simp [letW]
 | c :: d :: cs, k, _ => by
  have ih := AP i al (d :: cs) (k + 1) (by simp)
  rw [letW, List.map_cons, List.getLast?_cons, ih]
  simp only [List.length_cons, Option.getD_some, Option.some.injEq, GLe.mk.injEq, true_and]
  omega
theorem Dw (out : List Int) : ∀ (ws : List GLw) (i : Int), (∀ w ∈ ws, 1 ≤ w.Signs.length) → ((ltrsL out ws i).map (·.1)).getLast? = (possL out ws i).getLast?
 | [], _, _ => rfl
 | w :: ws, i, h => by
  have hw := h w (qZb ..)
  have ih := Dw out ws (i + 1) fun v hv => h v (qZa _ hv)
  unfold ltrsL possL
  cases out.contains i with
  | true => exact ih
  | false =>
   have hne : w.Signs ≠ [] := by intro h; rw [h] at hw; simp at hw
   simp only [cond_false, List.map_append, List.getLast?_append, ih, AP _ _ _ _ hne]
   congr 1
   simp [posW]
theorem AL_of : ∀ (es : List GLe) (fl : List FL), es.Pairwise befE → (fl.map (·.1)).Pairwise befE → (∀ e ∈ es, e ∈ fl.map (·.1)) → es.getLast? = (fl.map (·.1)).getLast? → AL es fl
 | [], [], _, _, _, _ => trivial
 | [], f :: fl, _, _, _, h => by simp [List.getLast?_cons] at h
 | e :: es, [], _, _, h, _ => by have := h e (qZb ..); cases this
 | e :: es, f :: fl, h1, h2, h3, h4 => by
  rw [List.map_cons, List.pairwise_cons] at h2
  unfold AL
  by_cases he : e = f.1
  ·rw [if_pos he]
   rw [List.pairwise_cons] at h1
   refine AL_of es fl h1.2 h2.2 (fun x hx => ?_) ?_
   ·rcases List.mem_cons.1 (h3 x (qZa _ hx)) with h | h
    ·have := h1.1 x hx
     have h' : x = f.1 := h
     rw [h', ← he] at this
     exact absurd this jw
    ·exact h
   ·rw [List.map_cons, List.getLast?_cons, List.getLast?_cons, Option.some.injEq] at h4
    cases hp : es.getLast? with
    | none =>
     rw [hp] at h4
     cases hr : (fl.map (·.1)).getLast? with
     | none => rfl
     | some y =>
      rw [hr] at h4
      simp only [Option.getD_none, Option.getD_some] at h4
      have := h2.1 _ (List.mem_of_getLast? hr)
      rw [← h4, he] at this
      exact absurd this jw
    | some z =>
     rw [hp] at h4
     cases hr : (fl.map (·.1)).getLast? with
     | none =>
      rw [hr] at h4
      simp only [Option.getD_none, Option.getD_some] at h4
      have := h1.1 _ (List.mem_of_getLast? hp)
      rw [h4, he] at this
      exact absurd this jw
     | some y =>
      rw [hr] at h4
      simp only [Option.getD_some] at h4
      rw [h4]
  ·rw [if_neg he]
   have hbe : befE f.1 e := by
    rcases List.mem_cons.1 (h3 e (qZb ..)) with h | h
    ·exact absurd h he
    ·exact h2.1 e h
   refine AL_of (e :: es) fl h1 h2.2 (fun x hx => ?_) ?_
   ·rcases List.mem_cons.1 (h3 x hx) with h | h
    ·exfalso
     rcases List.mem_cons.1 hx with hx | hx
     ·exact he (by rw [← hx, h])
     ·have := (List.pairwise_cons.1 h1).1 x hx
      rw [h] at this
      exact jw (yW hbe this)
    ·exact h
   ·rw [h4, List.map_cons, List.getLast?_cons]
    cases hr : (fl.map (·.1)).getLast? with
    | none =>
     exfalso
     have := List.getLast?_eq_none_iff.1 hr
     rcases List.mem_cons.1 (h3 e (qZb ..)) with h | h
     ·exact he h
     ·rw [this] at h; cases h
    | some y => rfl
end Go.V
end
section
namespace Go.V
open Go Go.Proofs IntKind Tryz
section
variable {P : Program} {G : Gb} {γ : Nat} {tm : Nat → VV} {H : Nat → Option Vo} {α : Type} {enc : α → List VV} {z : α} {t e b : Nat} {n : Int} {v : Value} {x y : Operand} {d : Option Tmp} {ty : TypeId} {pos : String} {af : Array Edge} {g : Option (Nat × Bool)} {k : VV → Ve → Prop}
end
end Go.V
end
section
namespace Go.V
open Go Go.Proofs IntKind Tryz
def tw (aG : Gld) (dv : GSpan) : Option (Int) := some (i64.wrap (dv.Low + (i64.wrap (Int.tdiv (i64.wrap ((i64.wrap (dv.High - dv.Low)) * aG.stretch)) 10))))
theorem DY (aG : Gld) (dv : GSpan) (R : Int) (h : tw aG dv = some R) : ah prog G0 170 [.agg (cGld aG), .agg (cGSpan dv)] (.tree (.lit (.int .i64 R))) := by
 refine ah.runR mixed call170 func170 rfl (by simp [ntmps170]; kernel_rfl) ?_
 obtain ⟨KF, h, kF, kN⟩ := eN h
 simp only [tw] at h
 try simp only [vz, mq, mqm, qr, tyf, mqt, nm, seval]
 refine cB (x := (.lit (.int .i64 (i64.wrap (dv.Low + (i64.wrap (Int.tdiv (i64.wrap ((i64.wrap (dv.High - dv.Low)) * aG.stretch)) 10))))))) (by first | (simp only [results170, resV, resL, aE, cM, cN, uw, cr, tyf, mqt, nm, seval] <;> rfl) | rfl) ?_
 obtain rfl := kF _ h
 refine cO ?_ ?_
 ·simp only [tre, au, mqr, Bool.and_self]
 ·first | (simp only [outV, uw, dx, m5, lZ, cr, tyf, mqt, nrm, ar, nm, seval] <;> rfl) | rfl
def AQ (aG : Gld) (aO : Int) : Option (Int) := Option.bind (getI aG.marks aO) (fun x1 => cond (x1.hyphen) (Option.bind (tw aG aG.ls.Other) (fun r2 => some r2)) (cond ((i64.wrap (aO + 1)) == (List.length aG.marks : Int)) (some 0) (Option.bind (getI aG.marks (i64.wrap (aO + 1))) (fun x3 => cond (x3.row != x1.row) (some 0) (cond (x3.word != x1.word) (Option.bind (tw aG aG.ls.Gap) (fun r4 => some r4)) (cond (mapHas d6 aG.spaces (Glp.mk x1.sign x3.sign)) (Option.bind (tw aG (mapGet d6 (GSpan.mk 0 0) aG.spaces (Glp.mk x1.sign x3.sign))) (fun r5 => some r5)) (Option.bind (tw aG aG.ls.Other) (fun r6 => some r6))))))))
theorem YQ (aG : Gld) (aO : Int) (R : Int) (h : AQ aG aO = some R) : ah prog G0 153 [.agg (cGld aG), .lit (.int .i64 aO)] (.tree (.lit (.int .i64 R))) := by
 refine ah.runR mixed call153 func153 rfl (by simp [ntmps153]; kernel_rfl) ?_
 obtain ⟨KF, h, kF, kN⟩ := eN h
 simp only [AQ] at h
 obtain ⟨x7, o8, h⟩ := optI h kN
 try simp only [hs] at h
 cases d9 : (x7.hyphen)
 ·simp only [d9, hs] at h
  cases cR : ((i64.wrap (aO + 1)) == (List.length aG.marks : Int))
  ·simp only [cR, hs] at h
   obtain ⟨DZ, kn, h⟩ := optI h kN
   try simp only [hs] at h
   cases cy : (DZ.row != x7.row)
   ·simp only [cy, hs] at h
    cases bX : (DZ.word != x7.word)
    ·simp only [bX, hs] at h
     cases dm : (mapHas d6 aG.spaces (Glp.mk x7.sign DZ.sign))
     ·simp only [dm, hs] at h
      obtain ⟨AR, Ke, h⟩ := optI h kN
      try simp only [hs] at h
      simp only [vz, mq, mqm, tyf, mqt, (bp o8), d9, cR, (bp kn), cy, bX, dm, nm, seval]
      refine ktree (args0 := [.agg (cGld aG), .agg (cGSpan aG.ls.Other)]) (by first | (simp only [nrm, ar, tyf, mqt, d9, cR, cy, bX, dm] <;> rfl) | rfl) (by simp only [tre, au, mqr, Bool.and_self]) (DY _ _ _ Ke) ?_
      refine bQ (fun tm => tm 67 = .lit (.int .i64 AR) ∧ True) (by refine ⟨?_, trivial⟩ <;> first | (simp only [ua, dI, d9, cR, cy, bX, dm, nm, seval] <;> rfl) | rfl | (simp only [ua, dI, tyf, mqt, d9, cR, cy, bX, dm, nm, seval] <;> rfl)) ?_
      rintro tm ⟨cq, _⟩
      try simp only [vz, mq, mqm, tyf, mqt, (bp o8), d9, cR, (bp kn), cy, bX, dm, cq, nm, seval]
      refine cB (x := (.lit (.int .i64 AR))) (by first | (simp only [results153, resV, resL, aE, cM, cN, uw, cr, tyf, mqt, (bp o8), d9, cR, (bp kn), cy, bX, dm, nm, seval] <;> rfl) | rfl) ?_
      obtain rfl := kF _ h
      refine cO ?_ ?_
      ·simp only [tre, au, mqr, Bool.and_self]
      ·first | (simp only [outV, uw, dx, m5, lZ, cr, tyf, mqt, nrm, ar, (bp o8), d9, cR, (bp kn), cy, bX, dm, cq, nm, seval] <;> rfl) | rfl
     simp only [dm, hs] at h
     obtain ⟨Ea, lU, h⟩ := optI h kN
     try simp only [hs] at h
     simp only [vz, mq, mqm, tyf, mqt, (bp o8), d9, cR, (bp kn), cy, bX, dm, nm, seval]
     refine ktree (args0 := [.agg (cGld aG), .agg (cGSpan (mapGet d6 (GSpan.mk 0 0) aG.spaces (Glp.mk x7.sign DZ.sign)))]) (by first | (simp only [nrm, ar, tyf, mqt, d9, cR, cy, bX, dm] <;> rfl) | rfl) (by simp only [tre, au, mqr, Bool.and_self]) (DY _ _ _ lU) ?_
     refine bQ (fun tm => tm 62 = .lit (.int .i64 Ea) ∧ True) (by refine ⟨?_, trivial⟩ <;> first | (simp only [ua, dI, d9, cR, cy, bX, dm, nm, seval] <;> rfl) | rfl | (simp only [ua, dI, tyf, mqt, d9, cR, cy, bX, dm, nm, seval] <;> rfl)) ?_
     rintro tm ⟨bZ, _⟩
     try simp only [vz, mq, mqm, tyf, mqt, (bp o8), d9, cR, (bp kn), cy, bX, dm, bZ, nm, seval]
     refine cB (x := (.lit (.int .i64 Ea))) (by first | (simp only [results153, resV, resL, aE, cM, cN, uw, cr, tyf, mqt, (bp o8), d9, cR, (bp kn), cy, bX, dm, nm, seval] <;> rfl) | rfl) ?_
     obtain rfl := kF _ h
     refine cO ?_ ?_
     ·simp only [tre, au, mqr, Bool.and_self]
     ·first | (simp only [outV, uw, dx, m5, lZ, cr, tyf, mqt, nrm, ar, (bp o8), d9, cR, (bp kn), cy, bX, dm, bZ, nm, seval] <;> rfl) | rfl
    simp only [bX, hs] at h
    obtain ⟨Uu, rQ, h⟩ := optI h kN
    try simp only [hs] at h
    simp only [vz, mq, mqm, tyf, mqt, (bp o8), d9, cR, (bp kn), cy, bX, nm, seval]
    refine ktree (args0 := [.agg (cGld aG), .agg (cGSpan aG.ls.Gap)]) (by first | (simp only [nrm, ar, tyf, mqt, d9, cR, cy, bX] <;> rfl) | rfl) (by simp only [tre, au, mqr, Bool.and_self]) (DY _ _ _ rQ) ?_
    refine bQ (fun tm => tm 47 = .lit (.int .i64 Uu) ∧ True) (by refine ⟨?_, trivial⟩ <;> first | (simp only [ua, dI, d9, cR, cy, bX, nm, seval] <;> rfl) | rfl | (simp only [ua, dI, tyf, mqt, d9, cR, cy, bX, nm, seval] <;> rfl)) ?_
    rintro tm ⟨du, _⟩
    try simp only [vz, mq, mqm, tyf, mqt, (bp o8), d9, cR, (bp kn), cy, bX, du, nm, seval]
    refine cB (x := (.lit (.int .i64 Uu))) (by first | (simp only [results153, resV, resL, aE, cM, cN, uw, cr, tyf, mqt, (bp o8), d9, cR, (bp kn), cy, bX, nm, seval] <;> rfl) | rfl) ?_
    obtain rfl := kF _ h
    refine cO ?_ ?_
    ·simp only [tre, au, mqr, Bool.and_self]
    ·first | (simp only [outV, uw, dx, m5, lZ, cr, tyf, mqt, nrm, ar, (bp o8), d9, cR, (bp kn), cy, bX, du, nm, seval] <;> rfl) | rfl
   simp only [cy, hs] at h
   try simp only [vz, mq, mqm, tyf, mqt, (bp o8), d9, cR, (bp kn), cy, nm, seval]
   refine cB (x := (.lit (.int .i64 0))) (by first | (simp only [results153, resV, resL, aE, cM, cN, uw, cr, tyf, mqt, (bp o8), d9, cR, (bp kn), cy, nm, seval] <;> rfl) | rfl) ?_
   obtain rfl := kF _ h
   refine cO ?_ ?_
   ·simp only [tre, au, mqr, Bool.and_self]
   ·first | (simp only [outV, uw, dx, m5, lZ, cr, tyf, mqt, nrm, ar, (bp o8), d9, cR, (bp kn), cy, nm, seval] <;> rfl) | rfl
  simp only [cR, hs] at h
  try simp only [vz, mq, mqm, tyf, mqt, (bp o8), d9, cR, nm, seval]
  refine cB (x := (.lit (.int .i64 0))) (by first | (simp only [results153, resV, resL, aE, cM, cN, uw, cr, tyf, mqt, (bp o8), d9, cR, nm, seval] <;> rfl) | rfl) ?_
  obtain rfl := kF _ h
  refine cO ?_ ?_
  ·simp only [tre, au, mqr, Bool.and_self]
  ·first | (simp only [outV, uw, dx, m5, lZ, cr, tyf, mqt, nrm, ar, (bp o8), d9, cR, nm, seval] <;> rfl) | rfl
 simp only [d9, hs] at h
 obtain ⟨AS, nL, h⟩ := optI h kN
 try simp only [hs] at h
 simp only [vz, mq, mqm, tyf, mqt, (bp o8), d9, nm, seval]
 refine ktree (args0 := [.agg (cGld aG), .agg (cGSpan aG.ls.Other)]) (by first | (simp only [nrm, ar, tyf, mqt, d9] <;> rfl) | rfl) (by simp only [tre, au, mqr, Bool.and_self]) (DY _ _ _ nL) ?_
 refine bQ (fun tm => tm 20 = .lit (.int .i64 AS) ∧ True) (by refine ⟨?_, trivial⟩ <;> first | (simp only [ua, dI, d9, nm, seval] <;> rfl) | rfl | (simp only [ua, dI, tyf, mqt, d9, nm, seval] <;> rfl)) ?_
 rintro tm ⟨fj, _⟩
 try simp only [vz, mq, mqm, tyf, mqt, (bp o8), d9, fj, nm, seval]
 refine cB (x := (.lit (.int .i64 AS))) (by first | (simp only [results153, resV, resL, aE, cM, cN, uw, cr, tyf, mqt, (bp o8), d9, nm, seval] <;> rfl) | rfl) ?_
 obtain rfl := kF _ h
 refine cO ?_ ?_
 ·simp only [tre, au, mqr, Bool.and_self]
 ·first | (simp only [outV, uw, dx, m5, lZ, cr, tyf, mqt, nrm, ar, (bp o8), d9, fj, nm, seval] <;> rfl) | rfl
def vN  : List Int → Int → Int → Option (LOut (Int) (Int))
 | [], ik, db => some (.go db)
 | e0 :: p0, ik, db => vN p0 (ik + 1) (i64.wrap (db + e0))
def AT (bn : List Int) : Option (Int) := cond (lenOk bn) (lbind (vN bn 0 0) (fun r2 => some r2) (fun c1 => some c1) (fun _ _ => none)) none
theorem Uv (bn : List Int) (R : Int) (h : AT bn = some R) : ah prog G0 169 [.sl (ad eI bn) (List.length bn) false] (.tree (.lit (.int .i64 R))) := by
 refine ah.runR mixed call169 func169 rfl (by simp [ntmps169]; kernel_rfl) ?_
 obtain ⟨KF, h, kF, kN⟩ := eN h
 simp only [AT] at h
 cases g4 : (lenOk bn)
 ·simp only [g4, hs] at h
  exact absurd h kN
 simp only [g4, hs] at h
 simp only [vz, tyf, g4, nm, seval]
 obtain ⟨K3, h, rF, oV, zh, zi⟩ := hX h kN
 obtain ⟨f3, pv, h⟩ := call3 h
 obtain ⟨I3, iY⟩ : ∃ I : Nat → St → Prop, I = (fun m st => ∃ (p3 : List Int) (cS : Int) (cQ : Int), m = List.length p3 ∧ 0 ≤ cS ∧ List.drop (Int.toNat cS) bn = p3 ∧ st.df = [] ∧ 5 ≤ st.nx ∧ st.tm 6 = .sl (ad eI bn) (List.length bn) false ∧ st.tm 7 = .lit (.int .i64 (List.length bn : Int)) ∧ st.tm 3 = .lit (.int .i64 cQ) ∧ st.tm 8 = .lit (.int .i64 cS) ∧ K3 (f3 p3 cS cQ)) := ⟨_, rfl⟩
 refine loopK mixed (by kernel_rfl) I3 (List.length bn) (by rw [iY]; refine ⟨bn, 0, 0, rfl, qZg _, rfl, rfl, (show 5 ≤ 5 by omega), ?_, ?_, ?_, ?_, h⟩ <;> first | (simp only [ua, nm, seval] <;> rfl) | rfl) ?_
 rintro m ⟨tm, H, ld, df⟩ aL
 rw [iY] at aL
 obtain ⟨p3, cS, cQ, rfl, eu, fG, hdf, lf, e5, e6, e7, e8, h⟩ := aL
 simp only at hdf lf e5 e6 e7 e8
 have n9 := gQ (m := 5) (b := ld) (by omega)
 subst hdf pv
 cases p3 with
 | nil =>
  have cR : (decide (cS < (List.length bn : Int))) = false := gB eu fG
  simp only [vN, hs, reduceCtorEq] at h
  replace h := oV _ h
  try dsimp only at h
  try simp only [hs] at h
  try simp only [vz, tyf, g4, n9, e5, e6, e7, e8, cR, nm, seval]
  refine cB (x := (.lit (.int .i64 cQ))) (by first | (simp only [results169, resV, resL, aE, cM, cN, uw, cr, tyf, g4, n9, cR, nm, seval] <;> rfl) | rfl) ?_
  obtain rfl := kF _ h
  refine cO ?_ ?_
  ·simp only [tre, au, Bool.and_self]
  ·first | (simp only [outV, uw, dx, cr, tyf, nrm, ar, g4, n9, e5, e6, e7, e8, cR, nm, seval] <;> rfl) | rfl
 | cons e3 p3 =>
  have dt : (decide (cS < (List.length bn : Int))) = true := gq eu fG
  have lg := eV eu fG
  have jO := gu eu fG g4
  simp only [vN, hs, reduceCtorEq] at h
  simp only [vz, tyf, g4, n9, e5, e6, e7, e8, dt, (aF lg), jO, nm, seval]
  exact ⟨List.length p3, qZc _, by rw [iY]; refine ⟨p3, cS + 1, i64.wrap (cQ + e3), rfl, qZm eu (qZl (qZg _)), cb eu fG, rfl, (show 5 ≤ ld + 10 by omega), e5, e6, ?_, ?_, (by first | exact h | (simp only [dt]; exact h))⟩ <;> first | (simp only [ua, n9, e5, e6, e7, e8, dt, jO, nm, seval] <;> rfl) | rfl⟩
def sm (aG : Gld) (bI : Int) : List Glm → Int → (List Int) → Option (LOut (Int) ((List Int)))
 | [], iA, dc => some (.go dc)
 | e0 :: p0, iA, dc => cond (e0.row != bI) (sm aG bI p0 (iA + 1) dc) (Option.bind (getI aG.ls.Widths e0.sign) (fun x1 => Option.bind (AQ aG iA) (fun r2 => cond (an 8 (List.length (dc ++ [x1, r2]))) (cond (e0.hyphen) (cond (an 8 (List.length ((dc ++ [x1, r2]) ++ [aG.ls.Hyphen]))) (sm aG bI p0 (iA + 1) ((dc ++ [x1, r2]) ++ [aG.ls.Hyphen])) none) (sm aG bI p0 (iA + 1) (dc ++ [x1, r2]))) none)))
def AU (aG : Gld) (bI : Int) : Option (Int) := cond (lenOk aG.marks) (lbind (sm aG bI aG.marks 0 ([] : List Int)) (fun r5 => some r5) (fun c3 => Option.bind (AT c3) (fun r4 => some r4)) (fun _ _ => none)) none
theorem YR (aG : Gld) (bI : Int) (R : Int) (h : AU aG bI = some R) : ah prog G0 152 [.agg (cGld aG), .lit (.int .i64 bI)] (.tree (.lit (.int .i64 R))) := by
 refine ah.runR mixed call152 func152 rfl (by simp [ntmps152]; kernel_rfl) ?_
 obtain ⟨KF, h, kF, kN⟩ := eN h
 simp only [AU] at h
 cases g7 : (lenOk aG.marks)
 ·simp only [g7, hs] at h
  exact absurd h kN
 simp only [g7, hs] at h
 simp only [vz, mq, mqm, tyf, mqt, g7, nm, seval]
 obtain ⟨K6, h, IX, Aj, TX, nj⟩ := hX h kN
 obtain ⟨f6, Ak, h⟩ := call3 h
 obtain ⟨I6, kz⟩ : ∃ I : Nat → St → Prop, I = (fun m st => ∃ (p6 : List Glm) (cY : Int) (bY : List Int) (il : VV), m = List.length p6 ∧ 0 ≤ cY ∧ List.drop (Int.toNat cY) aG.marks = p6 ∧ st.df = [] ∧ 7 ≤ st.nx ∧ st.H 0 = some (.cells (some 93) (cGld aG)) ∧ st.tm 1 = .lit (.int .i64 bI) ∧ st.tm 2 = .ptr 0 0 ∧ st.tm 9 = .sl (ad cGlm aG.marks) (List.length aG.marks) false ∧ st.tm 10 = .lit (.int .i64 (List.length aG.marks : Int)) ∧ st.tm 5 = il ∧ st.tm 11 = .lit (.int .i64 cY) ∧ ((∃ (β : Nat) (el : Option TypeId), il = .ref β 0 (List.length bY) 1 (List.length bY) ∧ β < st.nx ∧ β ≠ 0 ∧ st.H β = some (.cells el (ad eI bY))) ∨ (il = .lit (.slice none 0 0) ∧ bY = [])) ∧ K6 (f6 p6 cY bY)) := ⟨_, rfl⟩
 refine loopK mixed (by kernel_rfl) I6 (List.length aG.marks) (by rw [kz]; refine ⟨aG.marks, 0, ([] : List Int), .lit (.slice none 0 0), rfl, qZg _, rfl, rfl, (show 7 ≤ 7 by omega), ?_, ?_, ?_, ?_, ?_, ?_, ?_, Or.inr ⟨rfl, rfl⟩, h⟩ <;> first | (simp only [ua, dI, nm, seval] <;> rfl) | rfl) ?_
 rintro m ⟨tm, H, gN, df⟩ aL
 rw [kz] at aL
 obtain ⟨p6, cY, bY, il, rfl, fD, iI, hdf, qI, H8, e9, bx, br, cj, bA, bK, gW, h⟩ := aL
 simp only at hdf qI H8 e9 bx br cj bA bK gW
 have fX := gQ (m := 7) (b := gN) (by omega)
 subst hdf Ak
 cases p6 with
 | nil =>
  have fq : (decide (cY < (List.length aG.marks : Int))) = false := gB fD iI
  simp only [sm, hs, reduceCtorEq] at h
  replace h := Aj _ h
  try dsimp only at h
  try simp only [hs] at h
  rcases gW with ⟨Uw, Kf, rfl, vt, Kg, jy⟩ | ⟨rfl, rfl⟩
  ·have rZ := jx vt
   have AV := ne_f Kg
   obtain ⟨qT, iG, h⟩ := optI h kN
   try simp only [hs] at h
   simp only [vz, mq, mqm, tyf, mqt, g7, fX, e9, bx, br, cj, bA, bK, H8, fq, rZ, jy, AV, nm, seval]
   refine kseen (args0 := [.sl (ad eI bY) (List.length bY) false]) (by simp only [List.map_cons, List.map_nil, dx, bk, bF, cr, tyf, mqt, nrm, ar, g7, fX, e9, bx, br, cj, bA, bK, H8, fq, rZ, jy, AV, nm, seval] <;> rfl) (by simp only [List.map_cons, List.map_nil, dx, bk, bF, cr, tyf, mqt, nrm, ar, g7, fX, e9, bx, br, cj, bA, bK, H8, fq, rZ, jy, AV, nm, seval]; simp only [tre, au, mqr, Bool.and_self]) (Uv _ _ iG) (by first | rfl | simp only [VV.flat, flatL, Bool.and_self]) ?_
   refine bQ (fun tm => tm 43 = .lit (.int .i64 qT) ∧ True) (by refine ⟨?_, trivial⟩ <;> first | (simp only [ua, dI, fX, e9, bx, br, cj, bA, bK, H8, fq, rZ, jy, AV, nm, seval] <;> rfl) | rfl) ?_
   rintro tm ⟨cI, _⟩
   have Kh := qZk g7 (qZk fX (qZk H8 (qZk fq (qZk rZ (qZk jy AV)))))
   try simp only [vz, mq, mqm, tyf, mqt, Kh, cI, nm, seval]
   refine cB (x := (.lit (.int .i64 qT))) (by first | (simp only [results152, resV, resL, aE, cM, cN, uw, cr, tyf, mqt, Kh, nm, seval] <;> rfl) | rfl) ?_
   obtain rfl := kF _ h
   refine cO ?_ ?_
   ·simp only [tre, au, mqr, Bool.and_self]
   ·first | (simp only [outV, uw, dx, m5, lZ, cr, tyf, mqt, nrm, ar, Kh, cI, nm, seval] <;> rfl) | rfl
  ·obtain ⟨AS, nL, h⟩ := optI h kN
   try simp only [hs] at h
   simp only [vz, mq, mqm, tyf, mqt, g7, fX, e9, bx, br, cj, bA, bK, H8, fq, nm, seval]
   refine ktree (args0 := [.sl (ad eI ([] : List Int)) (List.length ([] : List Int)) false]) (by first | (simp only [nrm, ar, mqr] <;> rfl) | rfl) (by simp only [tre, au, mqr, Bool.and_self]) (Uv _ _ nL) ?_
   refine bQ (fun tm => tm 43 = .lit (.int .i64 AS) ∧ True) (by refine ⟨?_, trivial⟩ <;> first | (simp only [ua, dI, fX, e9, bx, br, cj, bA, bK, H8, fq, nm, seval] <;> rfl) | rfl) ?_
   rintro tm ⟨fj, _⟩
   try simp only [vz, mq, mqm, tyf, mqt, g7, fX, H8, fq, fj, nm, seval]
   refine cB (x := (.lit (.int .i64 AS))) (by first | (simp only [results152, resV, resL, aE, cM, cN, uw, cr, tyf, mqt, g7, fX, H8, fq, nm, seval] <;> rfl) | rfl) ?_
   obtain rfl := kF _ h
   refine cO ?_ ?_
   ·simp only [tre, au, mqr, Bool.and_self]
   ·first | (simp only [outV, uw, dx, m5, lZ, cr, tyf, mqt, nrm, ar, g7, fX, H8, fq, fj, nm, seval] <;> rfl) | rfl
 | cons e6 p6 =>
  have eA : (decide (cY < (List.length aG.marks : Int))) = true := gq fD iI
  have iF := eV fD iI
  have k9 := gu fD iI g7
  simp only [sm, hs, reduceCtorEq] at h
  cases cT : (e6.row != bI)
  ·simp only [cT, hs] at h
   simp only [vz, mq, mqm, tyf, mqt, g7, fX, e9, bx, br, cj, bA, bK, H8, eA, (bp iF), k9, cT, nm, seval]
   refine nH (fun tm => tm 1 = .lit (.int .i64 bI) ∧ tm 2 = .ptr 0 0 ∧ tm 5 = il ∧ tm 6 = .lit (.int .i64 cY) ∧ tm 7 = .ptr (gN + 4) 0 ∧ tm 9 = .sl (ad cGlm aG.marks) (List.length aG.marks) false ∧ tm 10 = .lit (.int .i64 (List.length aG.marks : Int)) ∧ tm 11 = .lit (.int .i64 cY) ∧ True) (by refine ⟨e9, bx, bA, ?_, ?_, br, cj, bK, trivial⟩ <;> first | (simp only [ua, dI, fX, e9, bx, br, cj, bA, bK, H8, eA, k9, cT, nm, seval] <;> rfl) | rfl) ?_
   rintro tm ⟨gD, fx, hY, gS, cg, bT, bG, bJ, _⟩
   obtain ⟨jB, kR, h⟩ := optI h nj
   try simp only [hs] at h
   obtain ⟨iO, IE, h⟩ := optI h nj
   try simp only [hs] at h
   simp only [vz, mq, mqm, tyf, mqt, g7, fX, H8, eA, (bp iF), k9, cT, gD, fx, hY, gS, cg, bT, bG, bJ, (aF kR), nm, seval]
   refine dktree (args0 := [.agg (cGld aG), .lit (.int .i64 cY)]) (by first | (simp only [nrm, ar, mqr] <;> rfl) | rfl) (by simp only [tre, au, mqr, Bool.and_self]) (YQ _ _ _ IE) ?_
   refine bQ (fun tm => tm 1 = .lit (.int .i64 bI) ∧ tm 2 = .ptr 0 0 ∧ tm 7 = .ptr (gN + 4) 0 ∧ tm 9 = .sl (ad cGlm aG.marks) (List.length aG.marks) false ∧ tm 10 = .lit (.int .i64 (List.length aG.marks : Int)) ∧ tm 11 = .lit (.int .i64 cY) ∧ tm 20 = il ∧ tm 27 = .lit (.int .i64 jB) ∧ tm 30 = .lit (.int .i64 iO) ∧ True) (by refine ⟨gD, fx, cg, bT, bG, bJ, ?_, ?_, ?_, trivial⟩ <;> first | (simp only [ua, dI, fX, H8, eA, k9, cT, gD, fx, hY, gS, cg, bT, bG, bJ, nm, seval] <;> rfl) | rfl) ?_
   rintro tm ⟨bL, eE, eP, eQ, fk, cA, cZ, de, dF, _⟩
   rcases gW with ⟨Ux, kE, rfl, Ki, uM, gA⟩ | ⟨rfl, rfl⟩
   ·have tx := jx Ki
    have oW := ne_f uM
    cases sn : (an 8 (List.length (bY ++ [jB, iO])))
    ·simp only [sn, hs] at h
     exact absurd h nj
    simp only [sn, hs] at h
    simp only [vz, mq, mqm, tyf, mqt, g7, fX, H8, eA, (bp iF), k9, cT, (aF kR), bL, eE, eP, eQ, fk, cA, cZ, de, dF, tx, gA, oW, sn, nm, seval]
    refine k_app (w := 1) (enc := eI) (xs := bY) (ys := ([jB, iO])) (el := kE) (ff := (some 3)) (fun _ => rfl) ie ig underlying22 (by first | rfl | assumption | (simp only [bk, bF, eT, fX, H8, tx, gA, oW, nm, seval] <;> rfl) | (simp only [bk, bF, fg, eU, eW, eX, tyf, mqt, g7, fX, H8, eA, (bp iF), k9, cT, (aF kR), bL, eE, eP, eQ, fk, cA, cZ, de, dF, tx, gA, oW, sn, nm, seval]; done)) (by first | rfl | assumption | (simp only [bk, bF, eT, fX, H8, tx, gA, oW, nm, seval] <;> rfl) | (simp only [bk, bF, fg, eU, eW, eX, tyf, mqt, g7, fX, H8, eA, (bp iF), k9, cT, (aF kR), bL, eE, eP, eQ, fk, cA, cZ, de, dF, tx, gA, oW, sn, nm, seval]; done)) (qZn _) sn ?_
    simp only [vz, mq, mqm, tyf, mqt, g7, fX, H8, eA, (bp iF), k9, cT, (aF kR), bL, eE, eP, eQ, fk, cA, cZ, de, dF, tx, gA, oW, sn, nm, seval]
    refine jJ ⟨?_, ?_⟩
    ·simp only [jN, jM, eM, jK, and_true, true_and]
     repeat' (first | exact trivial | refine qZk ?_ ?_ | rw [eM] | rw [jL] | exact Or.inl (by decide +kernel) | exact Or.inl (by dsimp only; decide +kernel) | (refine Or.inr ⟨?_, ?_⟩ <;> simp; done) | (refine Or.inr ⟨?_, ?_⟩ <;> simp <;> omega) | (refine Or.inr ⟨?_, ?_⟩ <;> simp [Ve.wr] <;> omega))
    cases rV : (e6.hyphen)
    ·simp only [rV, hs] at h
     have vg := qZk g7 (qZk fX (qZk H8 (qZk eA (qZk k9 (qZk cT (qZk tx (qZk gA (qZk oW (qZk sn rV)))))))))
     simp only [vz, mq, mqm, tyf, mqt, vg, (bp iF), (aF kR), bL, eE, eP, eQ, fk, cA, cZ, de, dF, nm, seval]
     exact ⟨List.length p6, qZc _, by rw [kz]; refine ⟨p6, cY + 1, (bY ++ [jB, iO]), .ref (gN + 23) 0 (List.length (bY ++ [jB, iO])) 1 (List.length (bY ++ [jB, iO])), rfl, qZm fD (qZl (qZg _)), cb fD iI, rfl, (show 7 ≤ gN + 29 by omega), ?_, bL, eE, eQ, fk, ?_, ?_, Or.inl ⟨gN + 23, (sameEl kE 3), rfl, (by first | omega | (simp only [nm, seval]; done) | (simp only [nm, seval]; omega)), (by first | omega | (intro hh; simp only [vg, reduceCtorEq] at hh)), ?_⟩, (by first | exact h | (simp only [vg]; exact h))⟩ <;> first | (simp only [ua, dI, vg, bL, eE, eP, eQ, fk, cA, cZ, de, dF, nm, seval] <;> rfl) | rfl | (simp only [ua, dI, tyf, mqt, vg, bL, eE, eP, eQ, fk, cA, cZ, de, dF, nm, seval] <;> rfl)⟩
    simp only [rV, hs] at h
    have ng := qZk g7 (qZk fX (qZk H8 (qZk eA (qZk k9 (qZk cT (qZk tx (qZk gA (qZk oW (qZk sn rV)))))))))
    cases m3 : (an 8 (List.length ((bY ++ [jB, iO]) ++ [aG.ls.Hyphen])))
    ·simp only [m3, hs] at h
     exact absurd h nj
    simp only [m3, hs] at h
    simp only [vz, mq, mqm, tyf, mqt, ng, (bp iF), (aF kR), bL, eE, eP, eQ, fk, cA, cZ, de, dF, m3, nm, seval]
    refine k_app (w := 1) (enc := eI) (xs := (bY ++ [jB, iO])) (ys := ([aG.ls.Hyphen])) (el := (sameEl kE 3)) (ff := (some 3)) (fun _ => rfl) ie ig underlying22 (by first | rfl | assumption | (simp only [bk, bF, eT, ng, nm, seval] <;> rfl) | (simp only [bk, bF, fg, eU, eW, eX, tyf, mqt, ng, (bp iF), (aF kR), bL, eE, eP, eQ, fk, cA, cZ, de, dF, m3, nm, seval]; done)) (by first | rfl | assumption | (simp only [bk, bF, eT, ng, nm, seval] <;> rfl) | (simp only [bk, bF, fg, eU, eW, eX, tyf, mqt, ng, (bp iF), (aF kR), bL, eE, eP, eQ, fk, cA, cZ, de, dF, m3, nm, seval]; done)) (qZn _) m3 ?_
    simp only [vz, mq, mqm, tyf, mqt, ng, (bp iF), (aF kR), bL, eE, eP, eQ, fk, cA, cZ, de, dF, m3, nm, seval]
    exact ⟨List.length p6, qZc _, by rw [kz]; refine ⟨p6, cY + 1, ((bY ++ [jB, iO]) ++ [aG.ls.Hyphen]), .ref (gN + 32) 0 (List.length ((bY ++ [jB, iO]) ++ [aG.ls.Hyphen])) 1 (List.length ((bY ++ [jB, iO]) ++ [aG.ls.Hyphen])), rfl, qZm fD (qZl (qZg _)), cb fD iI, rfl, (show 7 ≤ gN + 36 by omega), ?_, bL, eE, eQ, fk, ?_, ?_, Or.inl ⟨gN + 32, (sameEl (sameEl kE 3) 3), rfl, (by first | omega | (simp only [nm, seval]; done) | (simp only [nm, seval]; omega)), (by first | omega | (intro hh; simp only [ng, reduceCtorEq] at hh)), ?_⟩, (by first | exact h | (simp only [ng]; exact h))⟩ <;> first | (simp only [ua, dI, ng, bL, eE, eP, eQ, fk, cA, cZ, de, dF, nm, seval] <;> rfl) | rfl | (simp only [ua, dI, tyf, mqt, ng, bL, eE, eP, eQ, fk, cA, cZ, de, dF, nm, seval] <;> rfl)⟩
   ·cases m4 : (an 8 (List.length (([] : List Int) ++ [jB, iO])))
    ·simp only [m4, hs] at h
     exact absurd h nj
    simp only [m4, hs] at h
    simp only [vz, mq, mqm, tyf, mqt, g7, fX, H8, eA, (bp iF), k9, cT, (aF kR), bL, eE, eP, eQ, fk, cA, cZ, de, dF, m4, nm, seval]
    refine mX (w := 1) (enc := eI) (ys := ([jB, iO])) (ff := (some 3)) (fun _ => rfl) ie ig underlying22 (by first | rfl | assumption | (simp only [bk, bF, eT, fX, H8, nm, seval] <;> rfl) | (simp only [bk, bF, fg, eU, eW, eX, tyf, mqt, g7, fX, H8, eA, (bp iF), k9, cT, (aF kR), bL, eE, eP, eQ, fk, cA, cZ, de, dF, m4, nm, seval]; done)) (qZn _) m4 ?_
    simp only [vz, mq, mqm, tyf, mqt, g7, fX, H8, eA, (bp iF), k9, cT, (aF kR), bL, eE, eP, eQ, fk, cA, cZ, de, dF, m4, nm, seval]
    refine jJ ⟨?_, ?_⟩
    ·simp only [jN, jM, eM, jK, and_true, true_and]
     repeat' (first | exact trivial | refine qZk ?_ ?_ | rw [eM] | rw [jL] | exact Or.inl (by decide +kernel) | exact Or.inl (by dsimp only; decide +kernel) | (refine Or.inr ⟨?_, ?_⟩ <;> simp; done) | (refine Or.inr ⟨?_, ?_⟩ <;> simp <;> omega) | (refine Or.inr ⟨?_, ?_⟩ <;> simp [Ve.wr] <;> omega))
    cases Eb : (e6.hyphen)
    ·simp only [Eb, hs] at h
     have AW := qZk g7 (qZk fX (qZk H8 (qZk eA (qZk k9 (qZk cT (qZk m4 Eb))))))
     simp only [vz, mq, mqm, tyf, mqt, AW, (bp iF), (aF kR), bL, eE, eP, eQ, fk, cA, cZ, de, dF, nm, seval]
     exact ⟨List.length p6, qZc _, by rw [kz]; refine ⟨p6, cY + 1, (([] : List Int) ++ [jB, iO]), .ref (gN + 23) 0 (List.length (([] : List Int) ++ [jB, iO])) 1 (List.length (([] : List Int) ++ [jB, iO])), rfl, qZm fD (qZl (qZg _)), cb fD iI, rfl, (show 7 ≤ gN + 29 by omega), ?_, bL, eE, eQ, fk, ?_, ?_, Or.inl ⟨gN + 23, (some 3), rfl, (by first | omega | (simp only [nm, seval]; done) | (simp only [nm, seval]; omega)), (by first | omega | (intro hh; simp only [AW, reduceCtorEq] at hh)), ?_⟩, (by first | exact h | (simp only [AW]; exact h))⟩ <;> first | (simp only [ua, dI, AW, bL, eE, eP, eQ, fk, cA, cZ, de, dF, nm, seval] <;> rfl) | rfl | (simp only [ua, dI, tyf, mqt, AW, bL, eE, eP, eQ, fk, cA, cZ, de, dF, nm, seval] <;> rfl)⟩
    simp only [Eb, hs] at h
    have rn := qZk g7 (qZk fX (qZk H8 (qZk eA (qZk k9 (qZk cT (qZk m4 Eb))))))
    cases vO : (an 8 (List.length ((([] : List Int) ++ [jB, iO]) ++ [aG.ls.Hyphen])))
    ·simp only [vO, hs] at h
     exact absurd h nj
    simp only [vO, hs] at h
    simp only [vz, mq, mqm, tyf, mqt, rn, (bp iF), (aF kR), bL, eE, eP, eQ, fk, cA, cZ, de, dF, vO, nm, seval]
    refine k_app (w := 1) (enc := eI) (xs := (([] : List Int) ++ [jB, iO])) (ys := ([aG.ls.Hyphen])) (el := (some 3)) (ff := (some 3)) (fun _ => rfl) ie ig underlying22 (by first | rfl | assumption | (simp only [bk, bF, eT, rn, nm, seval] <;> rfl) | (simp only [bk, bF, fg, eU, eW, eX, tyf, mqt, rn, (bp iF), (aF kR), bL, eE, eP, eQ, fk, cA, cZ, de, dF, vO, nm, seval]; done)) (by first | rfl | assumption | (simp only [bk, bF, eT, rn, nm, seval] <;> rfl) | (simp only [bk, bF, fg, eU, eW, eX, tyf, mqt, rn, (bp iF), (aF kR), bL, eE, eP, eQ, fk, cA, cZ, de, dF, vO, nm, seval]; done)) (qZn _) vO ?_
    simp only [vz, mq, mqm, tyf, mqt, rn, (bp iF), (aF kR), bL, eE, eP, eQ, fk, cA, cZ, de, dF, vO, nm, seval]
    exact ⟨List.length p6, qZc _, by rw [kz]; refine ⟨p6, cY + 1, ((([] : List Int) ++ [jB, iO]) ++ [aG.ls.Hyphen]), .ref (gN + 32) 0 (List.length ((([] : List Int) ++ [jB, iO]) ++ [aG.ls.Hyphen])) 1 (List.length ((([] : List Int) ++ [jB, iO]) ++ [aG.ls.Hyphen])), rfl, qZm fD (qZl (qZg _)), cb fD iI, rfl, (show 7 ≤ gN + 36 by omega), ?_, bL, eE, eQ, fk, ?_, ?_, Or.inl ⟨gN + 32, (sameEl (some 3) 3), rfl, (by first | omega | (simp only [nm, seval]; done) | (simp only [nm, seval]; omega)), (by first | omega | (intro hh; simp only [rn, reduceCtorEq] at hh)), ?_⟩, (by first | exact h | (simp only [rn]; exact h))⟩ <;> first | (simp only [ua, dI, rn, bL, eE, eP, eQ, fk, cA, cZ, de, dF, nm, seval] <;> rfl) | rfl | (simp only [ua, dI, tyf, mqt, rn, bL, eE, eP, eQ, fk, cA, cZ, de, dF, nm, seval] <;> rfl)⟩
  simp only [cT, hs] at h
  rcases gW with ⟨tz, vP, rfl, vQ, vR, Uy⟩ | ⟨rfl, rfl⟩
  ·have lF := jx vQ
   have lG := ne_f vR
   simp only [vz, mq, mqm, tyf, mqt, g7, fX, e9, bx, br, cj, bA, bK, H8, eA, (bp iF), k9, cT, lF, Uy, lG, nm, seval]
   exact ⟨List.length p6, qZc _, by rw [kz]; refine ⟨p6, cY + 1, bY, .ref tz 0 (List.length bY) 1 (List.length bY), rfl, qZm fD (qZl (qZg _)), cb fD iI, rfl, (show 7 ≤ gN + 13 by omega), ?_, e9, bx, br, cj, ?_, ?_, Or.inl ⟨tz, vP, rfl, (by first | omega | (simp only [nm, seval]; done) | (simp only [nm, seval]; omega)), (by first | omega | (intro hh; simp only [fX, lF, lG, reduceCtorEq] at hh)), ?_⟩, (by first | exact h | (simp only [eA, cT]; exact h))⟩ <;> first | (simp only [ua, dI, fX, e9, bx, br, cj, bA, bK, H8, eA, k9, cT, lF, Uy, lG, nm, seval] <;> rfl) | rfl⟩
  ·simp only [vz, mq, mqm, tyf, mqt, g7, fX, e9, bx, br, cj, bA, bK, H8, eA, (bp iF), k9, cT, nm, seval]
   exact ⟨List.length p6, qZc _, by rw [kz]; refine ⟨p6, cY + 1, ([] : List Int), .lit (.slice none 0 0), rfl, qZm fD (qZl (qZg _)), cb fD iI, rfl, (show 7 ≤ gN + 13 by omega), ?_, e9, bx, br, cj, ?_, ?_, Or.inr ⟨rfl, rfl⟩, (by first | exact h | (simp only [eA, cT]; exact h))⟩ <;> first | (simp only [ua, dI, fX, e9, bx, br, cj, bA, bK, H8, eA, k9, cT, nm, seval] <;> rfl) | rfl⟩

def Ec (aG : Gld) (bI : Int) : Option ((Unit) ⊕ (Unit)) := Option.bind (AU aG bI) (fun r1 => cond (decide (r1 > aG.ls.Wide)) (some (.inr ())) (some (.inl ())))
theorem Uz (aG : Gld) (bI : Int) (R : (Unit) ⊕ (Unit)) (h : Ec aG bI = some R) : ah prog G0 122 [.agg (cGld aG), .lit (.int .i64 bI)] (presB R (fun r => .tree (.tup [])) (fun e => .panic (.ifc 149 (.agg [])))) := by
 refine ah.runR mixed call122 func122 rfl (by simp [ntmps122]; kernel_rfl) ?_
 obtain ⟨KF, h, kF, kN⟩ := eN h
 simp only [Ec] at h
 simp only [vz, mq, mqm, tyf, mqt, nm, seval]
 refine uX (fun tm => tm 1 = .lit (.int .i64 bI) ∧ tm 2 = .ptr 0 0 ∧ True) (by refine ⟨?_, ?_, trivial⟩ <;> first | (simp only [ua, dI, nm, seval] <;> rfl) | rfl) ?_
 rintro tm ⟨e2, e3, _⟩
 obtain ⟨r4, o5, h⟩ := optI h kN
 try simp only [hs] at h
 simp only [vz, mq, mqm, tyf, mqt, e2, e3, nm, seval]
 refine dktree (args0 := [.agg (cGld aG), .lit (.int .i64 bI)]) (by first | (simp only [nrm, ar, mqr] <;> rfl) | rfl) (by simp only [tre, au, mqr, Bool.and_self]) (YR _ _ _ o5) ?_
 refine bQ (fun tm => tm 2 = .ptr 0 0 ∧ tm 6 = .lit (.int .i64 r4) ∧ True) (by refine ⟨e3, ?_, trivial⟩ <;> first | (simp only [ua, dI, e2, e3, nm, seval] <;> rfl) | rfl) ?_
 rintro tm ⟨e6, e7, _⟩
 cases d8 : (decide (r4 > aG.ls.Wide))
 ·simp only [d8, hs] at h
  try simp only [vz, mq, mqm, tyf, mqt, e6, e7, d8, nm, seval]
  refine G5 (x := (.tup [])) (by first | (simp only [results122, resV, resL, aE, cM, cN, uw, cr, tyf, mqt, d8, nm, seval] <;> rfl) | rfl) ?_
  obtain rfl := kF _ h
  refine cO ?_ ?_
  ·simp only [tre, au, mqr, Bool.and_self]
  ·first | (simp only [outV, uw, dx, m5, lZ, cr, tyf, mqt, nrm, ar, e6, e7, d8, nm, seval] <;> rfl) | rfl
 simp only [d8, hs] at h
 simp only [vz, mq, mqm, tyf, mqt, e6, e7, d8, nm, seval]
 refine Kj ?_
 obtain rfl := kF _ h
 refine Kk ?_ ?_
 ·simp only [tre, au, Kl, Bool.and_self]
 ·first | (simp only [outV, uw, dx, m5, lZ, Km, Kn, cr, tyf, mqt, nrm, ar, e6, e7, d8, nm, seval] <;> rfl) | rfl
def xM (aG : Gld) : List GLe → Int → Option (LOut (Bool) (Unit))
 | [], nI => some (.go ())
 | e0 :: p0, nI => Option.bind (Ec aG nI) (fun r1 => sumB r1 (fun u2 => xM aG p0 (nI + 1)) (fun w3 => some (.ret false)))
def uo (aG : Gld) : Option (Bool) := cond (lenOk aG.lx.Ends) (lbind (xM aG aG.lx.Ends 0) (fun r5 => some r5) (fun c4 => some (decide ((List.length aG.lx.Ends : Int) ≤ aG.ls.Rows))) (fun _ _ => none)) none
theorem YS (aG : Gld) (R : Bool) (h : uo aG = some R) : ah prog G0 83 [.agg (cGld aG)] (.tree (.lit (.bool R))) := by
 refine ah.runR mixed call83 func83 rfl (by simp [ntmps83]; kernel_rfl) ?_
 obtain ⟨KF, h, kF, kN⟩ := eN h
 simp only [uo] at h
 cases g7 : (lenOk aG.lx.Ends)
 ·simp only [g7, hs] at h
  exact absurd h kN
 simp only [g7, hs] at h
 simp only [vz, mq, mqm, tyf, mqt, g7, nm, seval]
 obtain ⟨K6, h, IX, Aj, TX, nj⟩ := hX h kN
 obtain ⟨f6, Ak, h⟩ := call2 h
 obtain ⟨I6, kz⟩ : ∃ I : Nat → St → Prop, I = (fun m st => ∃ (p6 : List GLe) (jl : Int), m = List.length p6 ∧ 0 ≤ jl ∧ List.drop (Int.toNat jl) aG.lx.Ends = p6 ∧ st.df = [.fn (.func 121) [.ptr 1 0] []] ∧ 9 ≤ st.nx ∧ st.H 0 = some (.cells (some 93) (cGld aG)) ∧ st.H 1 = some (.cells (some 4) ([.lit (.bool false)])) ∧ st.tm 1 = .ptr 0 0 ∧ st.tm 2 = .ptr 1 0 ∧ st.tm 8 = .lit (.int .i64 (List.length aG.lx.Ends : Int)) ∧ st.tm 9 = .lit (.int .i64 jl) ∧ K6 (f6 p6 jl)) := ⟨_, rfl⟩
 refine loopK mixed (by kernel_rfl) I6 (List.length aG.lx.Ends) (by rw [kz]; refine ⟨aG.lx.Ends, 0, rfl, qZg _, rfl, rfl, (show 9 ≤ 9 by omega), ?_, ?_, ?_, ?_, ?_, ?_, h⟩ <;> first | (simp only [ua, dI, nm, seval] <;> rfl) | rfl) ?_
 rintro m ⟨tm, H, gN, df⟩ aL
 rw [kz] at aL
 obtain ⟨p6, jl, rfl, fD, iI, hdf, qI, H8, H9, bx, br, cj, bA, h⟩ := aL
 simp only at hdf qI H8 H9 bx br cj bA
 have cK := gQ (m := 9) (b := gN) (by omega)
 subst hdf Ak
 cases p6 with
 | nil =>
  have dm : (decide (jl < (List.length aG.lx.Ends : Int))) = false := gB fD iI
  simp only [xM, hs, reduceCtorEq] at h
  replace h := Aj _ h
  try dsimp only at h
  try simp only [hs] at h
  try simp only [vz, mq, mqm, tyf, mqt, g7, cK, bx, br, cj, bA, H8, H9, dm, nm, seval]
  refine Ko ?_
  refine VDeferred.run mixed call121 func121 rfl (by kernel_rfl) ?_
  try simp only [vz, mq, mqm, tyf, mqt, g7, cK, H8, H9, dm, nm, seval]
  refine U0 results121 ?_
  refine Kp (x := (.lit (.bool (decide ((List.length aG.lx.Ends : Int) ≤ aG.ls.Rows))))) (by first | (simp only [results83, resV, resL, aE, cM, cN, uw, cr, tyf, mqt, g7, cK, H8, H9, dm, bx, br, cj, bA, nm, seval] <;> rfl) | rfl) ?_
  obtain rfl := kF _ h
  refine cO ?_ ?_
  ·simp only [tre, au, mqr, Bool.and_self]
  ·first | (simp only [outV, uw, dx, m5, lZ, cr, tyf, mqt, nrm, ar, g7, cK, H8, H9, dm, bx, br, cj, bA, nm, seval] <;> rfl) | rfl
 | cons e6 p6 =>
  have fq : (decide (jl < (List.length aG.lx.Ends : Int))) = true := gq fD iI
  have rW := eV fD iI
  have so := gu fD iI g7
  simp only [xM, hs, reduceCtorEq] at h
  obtain ⟨Ea, lU, h⟩ := optI h nj
  try simp only [hs] at h
  cases Ea with
  | inl u21 =>
   simp only [hs] at h
   simp only [vz, mq, mqm, tyf, mqt, g7, cK, bx, br, cj, bA, H8, H9, fq, (bM rW), so, nm, seval]
   refine ktree (args0 := [.agg (cGld aG), .lit (.int .i64 jl)]) (by first | (simp only [nrm, ar, mqr] <;> rfl) | rfl) (by simp only [tre, au, mqr, Bool.and_self]) (Uz _ _ _ lU) ?_
   refine bQ (fun tm => tm 1 = .ptr 0 0 ∧ tm 2 = .ptr 1 0 ∧ tm 8 = .lit (.int .i64 (List.length aG.lx.Ends : Int)) ∧ tm 9 = .lit (.int .i64 jl) ∧ True) (by refine ⟨bx, br, cj, bA, trivial⟩ <;> first | (simp only [ua, dI, cK, bx, br, cj, bA, H8, H9, fq, so, nm, seval] <;> rfl) | rfl) ?_
   rintro tm ⟨cI, du, cG, dG, _⟩
   simp only [vz, mq, mqm, tyf, mqt, g7, cK, H8, H9, fq, (bM rW), so, cI, du, cG, dG, nm, seval]
   exact ⟨List.length p6, qZc _, by rw [kz]; refine ⟨p6, jl + 1, rfl, qZm fD (qZl (qZg _)), cb fD iI, rfl, (show 9 ≤ gN + 8 by omega), ?_, ?_, cI, du, cG, ?_, (by first | exact h | (simp only [fq]; exact h))⟩ <;> first | (simp only [ua, dI, cK, H8, H9, fq, so, cI, du, cG, dG, nm, seval] <;> rfl) | rfl⟩
  | inr sW =>
   simp only [hs] at h
   simp only [vz, mq, mqm, tyf, mqt, g7, cK, bx, br, cj, bA, H8, H9, fq, (bM rW), so, nm, seval]
   refine kpan (args0 := [.agg (cGld aG), .lit (.int .i64 jl)]) (by first | (simp only [nrm, ar, mqr] <;> rfl) | rfl) (by simp only [tre, au, mqr, Bool.and_self]) (Uz _ _ _ lU) ?_
   try simp only [vz, mq, mqm, tyf, mqt, g7, cK, bx, br, cj, bA, H8, H9, fq, (bM rW), so, nm, seval]
   refine Kq ?_
   refine VDeferred.run mixed call121 func121 rfl (by kernel_rfl) ?_
   try simp only [vz, mq, mqm, tyf, mqt, g7, cK, H8, H9, fq, (bM rW), so, nm, seval]
   refine U0 results121 ?_
   refine Ks (x := (.lit (.bool false))) (by first | (simp only [results83, resV, resL, aE, cM, cN, uw, cr, tyf, mqt, g7, cK, H8, H9, fq, (bM rW), so, bx, br, cj, bA, nm, seval] <;> rfl) | rfl) ?_
   replace h := IX _ h
   try dsimp only at h
   obtain rfl := kF _ h
   refine cO ?_ ?_
   ·simp only [tre, au, mqr, Bool.and_self]
   ·first | (simp only [outV, uw, dx, m5, lZ, cr, tyf, mqt, nrm, ar, g7, cK, H8, H9, fq, (bM rW), so, bx, br, cj, bA, nm, seval] <;> rfl) | rfl
abbrev setS (l : Gld) (i : Int) : Gld := Gld.mk l.ls l.lx i l.spaces l.marks
def wLoop (l : Gld) : Nat → Nat → Option Gld → Option (Option Gld)
 | 0, _, acc => some acc
 | k + 1, i, acc => Option.bind (uo (setS l (i : Int))) fun b => cond b (wLoop l k (i + 1) (some (setS l (i : Int)))) (some acc)
def Dx (l : Gld) : Option (Option Gld) := wLoop l 11 0 none
def zlC : List VV := [.lit (.slice none 0 0), .lit (.slice none 0 0), .lit (.int .i64 0), .lit (.int .i64 0), .lit (.int .i64 0), .lit (.int .i64 0), .lit (.int .i64 0), .lit (.slice none 0 0), .lit (.int .i64 0), .lit (.int .i64 0), .lit (.slice none 0 0), .lit (.slice none 0 0), .lit (.int .i64 0), .lit (.map none), .lit (.slice none 0 0)]
def zlN : List VV := [.sl [] 0 false, .sl [] 0 false, .lit (.int .i64 0), .lit (.int .i64 0), .lit (.int .i64 0), .lit (.int .i64 0), .lit (.int .i64 0), .sl [] 0 false, .lit (.int .i64 0), .lit (.int .i64 0), .sl [] 0 false, .sl [] 0 false, .lit (.int .i64 0), .lit (.map none), .sl [] 0 false]
def accC : Option Gld → List VV
 | none => zlC
 | some l => cGld l
def wV : Option Gld → VV
 | none => .tup [.agg zlN, .lit (.bool false)]
 | some l => .tup [.agg (cGld l), .lit (.bool true)]
theorem D3 : normV (.lit (.map none)) = .lit (.map none) := rfl
theorem WN (l : Gld) (R : Option Gld) (h : Dx l = some R) : ah prog G0 84 [.agg (cGld l)] (.tree (wV R)) := by
 refine ah.runR mixed call84 func84 rfl (by simp [ntmps84]; kernel_rfl) ?_
 simp only [vz, @iX, mq, mqm, tyf, mqt, nm, seval]
 obtain ⟨J, hJ⟩ : ∃ J : Nat → St → Prop, J = (fun m st => ∃ (i : Nat) (s : Int) (acc : Option Gld), i + m = 11 ∧ st.df = [] ∧ 8 ≤ st.nx ∧ st.H 0 = some (.cells (some 93) (cGld (setS l s))) ∧ st.H 1 = some (.cells (some 93) zlC) ∧ st.H 4 = some (.cells (some 93) (accC acc)) ∧
   st.tm 1 = .ptr 0 0 ∧ st.tm 2 = .ptr 1 0 ∧ st.tm 4 = .ptr 4 0 ∧ st.tm 5 = .lit (.bool acc.isSome) ∧ st.tm 8 = .lit (.int .i64 (i : Int)) ∧ wLoop l m i acc = some R) := ⟨_, rfl⟩
 refine loopK mixed (by kernel_rfl) J 11 (by
  rw [hJ]
  refine ⟨0, l.stretch, none, rfl, rfl, (show 8 ≤ 8 by omega), ?_, ?_, ?_, ?_, ?_, ?_, ?_, ?_, h⟩ <;> first | rfl | (simp only [ua, seval, tyf] <;> rfl)) ?_
 rintro m ⟨tm, H, nx, df⟩ aL
 rw [hJ] at aL
 obtain ⟨i, s, acc, hi, hdf, hnx, H0, H1, H4, e1, e2, e4, e5, e8, h⟩ := aL
 simp only at hdf hnx H0 H1 H4 e1 e2 e4 e5 e8
 subst hdf
 have fin : ∀ (tm : Nat → VV) (H : Nat → Option Vo) (nx : Nat) (acc : Option Gld), 8 ≤ nx → tm 2 = .ptr 1 0 → tm 4 = .ptr 4 0 → tm 5 = .lit (.bool acc.isSome) → H 1 = some (.cells (some 93) zlC) → H 4 = some (.cells (some 93) (accC acc)) → acc = R → True := fun _ _ _ _ _ _ _ _ _ _ _ => trivial
 cases m with
 | zero =>
  have sq : decide ((i : Int) < 11) = false := by simp; omega
  simp only [wLoop, Option.some.injEq] at h
  subst h
  cases acc with
  | none =>
   simp only [accC, zlC] at H4
   simp only [Option.isSome_none] at e5
   simp only [vz, @iX, mq, mqm, tyf, mqt, e1, e2, e4, e5, e8, sq, H0, H1, H4, zlC, nm, seval]
   refine cB (x := .tup [.agg zlC, .lit (.bool false)]) (by simp only [results84, resV, resL, aE, cM, cN, uw, cr, tyf, mqt, e1, e2, e4, e5, H0, H1, H4, zlC, nm, seval] <;> rfl) ?_
   refine cO (by simp only [wV, zlN, tre, au, mqr, Bool.and_self]) ?_
   simp only [outV, zlC, zlN, wV, nrm, ar, mqr, D3, seval, List.map_cons, List.map_nil]
  | some y =>
   simp only [accC] at H4
   simp only [Option.isSome_some] at e5
   simp only [vz, @iX, mq, mqm, tyf, mqt, e1, e2, e4, e5, e8, sq, H0, H1, H4, zlC, nm, seval]
   refine cB (x := .tup [.agg (cGld y), .lit (.bool true)]) (by simp only [results84, resV, resL, aE, cM, cN, uw, cr, tyf, mqt, e1, e2, e4, e5, H0, H1, H4, zlC, nm, seval] <;> rfl) ?_
   refine cO (by simp only [wV, tre, au, mqr, Bool.and_self]) ?_
   simp only [outV, wV, nrm, ar, mqr, seval, List.map_cons, List.map_nil]
 | succ m =>
  have sq : decide ((i : Int) < 11) = true := by simp; omega
  have hw : i64.wrap ((i : Int) + 1) = ((i + 1 : Nat) : Int) := by rw [IntWalk.i64_in _ (by omega)]; simp
  rw [wLoop] at h
  rcases ob : uo (setS l (i : Int)) with _ | b
  ·rw [ob] at h; cases h
  rw [ob, Option.bind_some] at h
  simp only [vz, @iX, mq, mqm, tyf, mqt, e1, e2, e4, e5, e8, sq, H0, H1, H4, nm, seval]
  refine ktree (args0 := [.agg (cGld (setS l (i : Int)))]) (by first | (simp only [nrm, ar, mqr] <;> rfl) | rfl) (by simp only [tre, au, mqr, Bool.and_self]) (YS _ _ ob) ?_
  cases b with
  | false =>
   simp only [cond_false, Option.some.injEq] at h
   subst h
   cases acc with
   | none =>
    simp only [accC, zlC] at H4
    simp only [Option.isSome_none] at e5
    simp only [vz, @iX, mq, mqm, tyf, mqt, e1, e2, e4, e5, e8, sq, H0, H1, H4, zlC, nm, seval]
    refine cB (x := .tup [.agg zlC, .lit (.bool false)]) (by simp only [results84, resV, resL, aE, cM, cN, uw, cr, tyf, mqt, e1, e2, e4, e5, H0, H1, H4, zlC, nm, seval] <;> rfl) ?_
    refine cO (by simp only [wV, zlN, tre, au, mqr, Bool.and_self]) ?_
    simp only [outV, zlC, zlN, wV, nrm, ar, mqr, D3, seval, List.map_cons, List.map_nil]
   | some y =>
    simp only [accC] at H4
    simp only [Option.isSome_some] at e5
    simp only [vz, @iX, mq, mqm, tyf, mqt, e1, e2, e4, e5, e8, sq, H0, H1, H4, zlC, nm, seval]
    refine cB (x := .tup [.agg (cGld y), .lit (.bool true)]) (by simp only [results84, resV, resL, aE, cM, cN, uw, cr, tyf, mqt, e1, e2, e4, e5, H0, H1, H4, zlC, nm, seval] <;> rfl) ?_
    refine cO (by simp only [wV, tre, au, mqr, Bool.and_self]) ?_
    simp only [outV, wV, nrm, ar, mqr, seval, List.map_cons, List.map_nil]
  | true =>
   simp only [cond_true] at h
   have hl : (15 ≤ (accC acc).length) = True := by cases acc <;> simp [accC, zlC, AX]
   have hd : (accC acc).drop 15 = [] := by cases acc <;> rfl
   simp only [vz, @iX, mq, mqm, tyf, mqt, e1, e2, e4, e5, e8, sq, H0, H1, H4, hw, hl, hd, nm, seval]
   rw [hJ]
   exact ⟨m, qZc _, i + 1, (i : Int), some (setS l (i : Int)), by omega, rfl, qZi hnx (qZe _ _), by simp only [ua, seval, tyf], by simp only [ua, seval, H1], by simp only [ua, seval, tyf, accC], by simp only [ua, seval, e1], by simp only [ua, seval, e2], by simp only [ua, seval, e4], by simp only [ua, seval] <;> rfl, by simp only [ua, seval], h⟩
def wi (k : Int) (x : GSpan) : Int := x.Low + Int.tdiv ((x.High - x.Low) * k) 10
variable {k : Int}
theorem wi_b {x : GSpan} (h : 0 ≤ x.Low ∧ x.Low ≤ x.High ∧ x.High ≤ 20) (h0 : 0 ≤ k) (h1 : k ≤ 10) : x.Low ≤ wi k x ∧ wi k x ≤ x.High ∧ 0 ≤ (x.High - x.Low) * k ∧ (x.High - x.Low) * k ≤ 200 := by
 have hm := mulR (a := x.High - x.Low) (A := 20) (b := k) (B := 10) (by omega) (by omega) h0 h1
 have h2 : (x.High - x.Low) * k ≤ (x.High - x.Low) * 10 := Int.mul_le_mul_of_nonneg_left h1 (by omega)
 have hd := Int.tdiv_eq_ediv_of_nonneg (b := 10) hm.1
 unfold wi
 rw [hd]
 omega
theorem vS {k' : Int} {x : GSpan} (h : 0 ≤ x.Low ∧ x.Low ≤ x.High ∧ x.High ≤ 20) (h0 : 0 ≤ k) (hk : k ≤ k') (h1 : k' ≤ 10) : wi k x ≤ wi k' x := by
 have h2 : (x.High - x.Low) * k ≤ (x.High - x.Low) * k' := Int.mul_le_mul_of_nonneg_left hk (by omega)
 have a := (wi_b h h0 (by omega)).2.2.1
 unfold wi
 rw [Int.tdiv_eq_ediv_of_nonneg a, Int.tdiv_eq_ediv_of_nonneg (by omega)]
 omega
theorem Kt (l : Gld) (x : GSpan) (h : 0 ≤ x.Low ∧ x.Low ≤ x.High ∧ x.High ≤ 20) (h0 : 0 ≤ l.stretch) (h1 : l.stretch ≤ 10) : tw l x = some (wi l.stretch x) := by
 have hb := wi_b h h0 h1
 unfold tw wi
 unfold wi at hb
 rw [jS (n := x.High - x.Low) (by omega) (by omega), jS (n := (x.High - x.Low) * l.stretch) (by omega) (by omega), jS (n := Int.tdiv _ 10) (by omega) (by omega), jS (by omega) (by omega)]
def spP (s : GLs) (a b : Int) : GSpan := (lastP a b s.Pairs none).getD s.Other
theorem U1 {a b : Int} : ∀ (ps : List GLp) (o : Option GSpan) (v : GSpan), lastP a b ps o = some v → o = some v ∨ ∃ p ∈ ps, p.Left = a ∧ p.Right = b ∧ p.Space = v
 | [], o, v, h => .inl h
 | p :: ps, o, v, h => by
  rcases U1 ps _ v h with h | ⟨q, h1, h2⟩
  ·split at h
   ·rename_i hc
    simp only [Option.some.injEq] at h
    exact .inr ⟨p, qZb .., hc.1.symm, hc.2.symm, h⟩
   ·exact .inl h
  ·exact .inr ⟨q, qZa _ h1, h2⟩
variable {s : GLs}
theorem spP_b (h : Sh s) (a b : Int) : 0 ≤ (spP s a b).Low ∧ (spP s a b).Low ≤ (spP s a b).High ∧ (spP s a b).High ≤ 20 := by
 unfold spP
 cases hl : lastP a b s.Pairs none with
 | none => have := h.other; simp only [Option.getD_none]; omega
 | some v =>
  rcases U1 _ _ _ hl with hh | ⟨p, h1, _, _, rfl⟩
  ·cases hh
  ·have := h.pair p h1
   simp only [Option.getD_some]; omega
def spF (s : GLs) (k : Int) (m : Glm) : Option Glm → Int
 | none => cond m.hyphen (wi k s.Other) 0
 | some n => cond m.hyphen (wi k s.Other) (if n.row = m.row then (if n.word = m.word then wi k (spP s m.sign n.sign) else wi k s.Gap) else 0)
theorem spF_b (h : Sh s) (h0 : 0 ≤ k) (h1 : k ≤ 10) (m : Glm) (n : Option Glm) : 0 ≤ spF s k m n ∧ spF s k m n ≤ 20 := by
 have ho := h.other
 have hg := h.gap
 have a := wi_b (x := s.Other) (by omega) h0 h1
 have b := wi_b (x := s.Gap) (by omega) h0 h1
 unfold spF
 cases n with
 | none => cases m.hyphen <;> simp only [cond_true, cond_false] <;> omega
 | some n =>
  have hc := spP_b h m.sign n.sign
  have c := wi_b hc h0 h1
  simp only
  cases m.hyphen with
  | true => simp only [cond_true]; omega
  | false =>
   simp only [cond_false]
   split
   ·split <;> omega
   ·omega
theorem Ku (h : Sh s) {k' : Int} (h0 : 0 ≤ k) (hk : k ≤ k') (h1 : k' ≤ 10) (m : Glm) (n : Option Glm) : spF s k m n ≤ spF s k' m n := by
 have ho := h.other
 have hg := h.gap
 have a := vS (x := s.Other) (by omega) h0 hk h1
 have b := vS (x := s.Gap) (by omega) h0 hk h1
 unfold spF
 cases n with
 | none => cases m.hyphen <;> simp only [cond_true, cond_false] <;> omega
 | some n =>
  have c := vS (spP_b h m.sign n.sign) h0 hk h1
  simp only
  cases m.hyphen with
  | true => simp only [cond_true]; omega
  | false =>
   simp only [cond_false]
   split
   ·split <;> omega
   ·omega
def wd (s : GLs) (n : Int) : Int := (getI s.Widths n).getD 0
theorem vT (h : Sh s) {n : Int} (h0 : 0 ≤ n) (h1 : n < s.Widths.length) : getI s.Widths n = some (wd s n) ∧ 1 ≤ wd s n ∧ wd s n ≤ 20 := by
 obtain ⟨x, hx, hm⟩ := Ue h0 h1
 have := h.wid x hm
 unfold wd
 rw [hx]
 exact ⟨rfl, this.1, this.2⟩
def addL (s : GLs) (k r : Int) : List Glm → List Int
 | [] => []
 | m :: ms => (if m.row = r then [wd s m.sign, spF s k m ms.head?] ++ cond m.hyphen [s.Hyphen] [] else []) ++ addL s k r ms
def Marks (s : GLs) (ms : List Glm) : Prop := ∀ m ∈ ms, 0 ≤ m.sign ∧ m.sign < s.Widths.length
theorem AY {s : GLs} (h : Sh s) {k r : Int} (h0 : 0 ≤ k) (h1 : k ≤ 10) : ∀ (ms : List Glm), Marks s ms → (∀ x ∈ addL s k r ms, 0 ≤ x ∧ x ≤ 20) ∧ (addL s k r ms).length ≤ 3 * ms.length
 | [], _ => by simp [addL]
 | m :: ms, hm => by
  obtain ⟨i1, i2⟩ := AY h h0 h1 (r := r) ms fun x hx => hm x (qZa _ hx)
  have hs := hm m (qZb ..)
  have hw := vT h hs.1 hs.2
  have hp := spF_b h h0 h1 m ms.head?
  have hh := h.hyp
  unfold addL
  split
  ·cases m.hyphen with
   | true =>
    simp only [cond_true, List.cons_append, List.nil_append, List.mem_cons, List.length_cons]
    refine ⟨?_, by omega⟩
    rintro x (rfl | rfl | rfl | hx)
    ·omega
    ·omega
    ·omega
    ·exact i1 x hx
   | false =>
    simp only [cond_false, List.append_nil, List.cons_append, List.nil_append, List.mem_cons, List.length_cons]
    refine ⟨?_, by omega⟩
    rintro x (rfl | rfl | hx)
    ·omega
    ·omega
    ·exact i1 x hx
  ·simp only [List.nil_append, List.length_cons]
   exact ⟨i1, by omega⟩
def rowF (s : GLs) (k r : Int) (ms : List Glm) : Int := (addL s k r ms).sum
theorem AZ : ∀ (xs : List Int) (i a : Int), (∀ x ∈ xs, 0 ≤ x ∧ x ≤ 20) → 0 ≤ a → a + 20 * xs.length ≤ 1000000 → vN xs i a = some (.go (a + xs.sum))
 | [], _, a, _, _, _ => by simp [vN]
 | x :: xs, i, a, h, h0, h1 => by
  have := h x (qZb ..)
  simp only [List.length_cons] at h1
  simp only [vN]
  rw [jS (by omega) (by omega), AZ xs (i + 1) _ (fun y hy => h y (qZa _ hy)) (by omega) (by omega), List.sum_cons, Int.add_assoc]
theorem Kv (xs : List Int) (h : ∀ x ∈ xs, 0 ≤ x ∧ x ≤ 20) (hl : xs.length ≤ 1000) : AT xs = some xs.sum := by
 simp only [AT]
 rw [km (by omega), cond_true, AZ xs 0 0 h (qZg _) (by omega), lR, Int.zero_add]
structure LOk (l : Gld) : Prop where
 sh : Sh l.ls
 mp : MapOk l.spaces (fun a b => lastP a b l.ls.Pairs none)
 sg : Marks l.ls l.marks
 nm : l.marks.length ≤ 24
 ne : l.lx.Ends.length ≤ 24
 rw : ∀ j : Int, 0 ≤ j → j < l.lx.Ends.length → ∃ m ∈ l.marks, m.row = j
 k0 : 0 ≤ l.stretch
 k1 : l.stretch ≤ 10
variable {l : Gld}
theorem Kw (h : LOk l) {i : Int} {m : Glm} {ms : List Glm} (h0 : 0 ≤ i) (hd : l.marks.drop i.toNat = m :: ms) : AQ l i = some (spF l.ls l.stretch m ms.head?) := by
 have hg : getI l.marks i = some m := eV h0 hd
 have hlt := Kx hg
 have hn := h.nm
 have ho := h.sh.other
 have hgp := h.sh.gap
 have ba : ms.length + 1 + i.toNat = l.marks.length := by
  have := congrArg List.length hd
  simp only [List.length_drop, List.length_cons] at this
  omega
 simp only [AQ, hg, Option.bind_some, Kt l l.ls.Other (by omega) h.k0 h.k1, Kt l l.ls.Gap (by omega) h.k0 h.k1]
 unfold spF
 rw [jS (by omega) (by omega)]
 cases hh : m.hyphen with
 | true => cases ms <;> rfl
 | false =>
  simp only [cond_false]
  cases ms with
  | nil =>
   have : (i + 1 == (l.marks.length : Int)) = true := by simp only [List.length_nil] at ba; simp; omega
   rw [this]; rfl
  | cons n ms =>
   have : (i + 1 == (l.marks.length : Int)) = false := by simp only [List.length_cons] at ba; simp; omega
   have YT : getI l.marks (i + 1) = some n := eV (by omega) (cb h0 hd)
   rw [this, cond_false, YT, Option.bind_some]
   simp only [List.head?_cons]
   by_cases hr : n.row = m.row
   ·have : (n.row != m.row) = false := by simp [hr]
    rw [this, cond_false, if_pos hr]
    by_cases hw : n.word = m.word
    ·have : (n.word != m.word) = false := by simp [hw]
     rw [this, cond_false, if_pos hw]
     obtain ⟨m1, m2⟩ := h.mp m.sign n.sign
     replace m1 : mapHas d6 l.spaces (Glp.mk m.sign n.sign) = (lastP m.sign n.sign l.ls.Pairs none).isSome := m1
     rw [m1]
     have hb := spP_b h.sh m.sign n.sign
     unfold spP at hb ⊢
     cases hl : lastP m.sign n.sign l.ls.Pairs none with
     | none => rfl
     | some v =>
      rw [hl] at hb
      simp only [Option.getD_some] at hb ⊢
      rw [Option.isSome_some, cond_true, m2 v hl, Kt l v hb h.k0 h.k1, Option.bind_some]
    ·have : (n.word != m.word) = true := by simp [hw]
     rw [this, cond_true, if_neg hw]
   ·have : (n.row != m.row) = true := by simp [hr]
    rw [this, cond_true, if_neg hr]
theorem roomOk8 {n : Nat} (h : n ≤ 1000) : an 8 n = true := by simp [an]; omega
theorem ss {l : Gld} (h : LOk l) (r : Int) : ∀ (ms : List Glm) (i : Int) (acc : List Int), 0 ≤ i → l.marks.drop i.toNat = ms → acc.length + 3 * ms.length ≤ 500 → sm l r ms i acc = some (.go (acc ++ addL l.ls l.stretch r ms))
 | [], i, acc, _, _, _ => by simp [sm, addL]
 | m :: ms, i, acc, h0, hd, hn => by
  have hs := h.sg m (by have := Ky (eV h0 hd); exact this)
  have hw := vT h.sh hs.1 hs.2
  simp only [List.length_cons] at hn
  simp only [sm, addL]
  by_cases hr : m.row = r
  ·have : (m.row != r) = false := by simp [hr]
   rw [this, cond_false, hw.1, Option.bind_some, Kw h h0 hd, Option.bind_some, roomOk8 (by simp; omega), cond_true, if_pos hr]
   cases m.hyphen with
   | true =>
    simp only [cond_true]
    rw [roomOk8 (by simp; omega), cond_true, ss h r ms (i + 1) _ (by omega) (cb h0 hd) (by simp; omega)]
    simp
   | false =>
    simp only [cond_false]
    rw [ss h r ms (i + 1) _ (by omega) (cb h0 hd) (by simp; omega)]
    simp
  ·have : (m.row != r) = true := by simp [hr]
   rw [this, cond_true, if_neg hr, ss h r ms (i + 1) acc (by omega) (cb h0 hd) (by omega)]
   simp
theorem Kz (h : LOk l) (r : Int) : AU l r = some (rowF l.ls l.stretch r l.marks) := by
 have hn := h.nm
 obtain ⟨a1, a2⟩ := AY h.sh h.k0 h.k1 (r := r) l.marks h.sg
 simp only [AU]
 rw [km (by omega), cond_true, ss h r l.marks 0 [] (by omega) rfl (by simp; omega), lR, List.nil_append, Kv _ a1 (by omega)]
 rfl
theorem SI {s : GLs} (h : Sh s) {k k' : Int} (h0 : 0 ≤ k) (hk : k ≤ k') (h1 : k' ≤ 10) (r : Int) : ∀ (ms : List Glm), rowF s k r ms ≤ rowF s k' r ms
 | [] => qZg _
 | m :: ms => by
  have ih := SI h h0 hk h1 r ms
  have hp := Ku h h0 hk h1 m ms.head?
  unfold rowF at ih ⊢
  unfold addL
  split
  ·cases m.hyphen <;> simp only [cond_true, cond_false, List.append_nil, List.cons_append, List.nil_append, List.sum_cons] <;> omega
  ·simpa using ih
def rowsOk (s : GLs) (k : Int) (ms : List Glm) : Nat → Int → Bool
 | 0, _ => true
 | n + 1, r => decide (rowF s k r ms ≤ s.Wide) && rowsOk s k ms n (r + 1)
theorem GB {s : GLs} {k : Int} {ms : List Glm} : ∀ (n : Nat) (r : Int), rowsOk s k ms n r = true ↔ ∀ j : Int, r ≤ j → j < r + n → rowF s k j ms ≤ s.Wide
 | 0, r => by simp only [rowsOk, true_iff]; intro j h1 h2; omega
 | n + 1, r => by
  simp only [rowsOk, Bool.and_eq_true, decide_eq_true_eq, GB n (r + 1)]
  constructor
  ·rintro ⟨h1, h2⟩ j h3 h4
   by_cases hj : j = r
   ·rw [hj]; exact h1
   ·exact h2 j (by omega) (by omega)
  ·exact fun h => ⟨h r (by omega) (by omega), fun j h1 h2 => h j (by omega) (by omega)⟩
def fitB (l : Gld) (k : Int) : Bool := rowsOk l.ls k l.marks l.lx.Ends.length 0 && decide ((l.lx.Ends.length : Int) ≤ l.ls.Rows)
theorem Ba {l : Gld} (h : LOk l) : ∀ (es : List GLe) (r : Int), xM l es r = goB (rowsOk l.ls l.stretch l.marks es.length r)
 | [], _ => rfl
 | e :: es, r => by
  simp only [xM, Ec, Kz h, Option.bind_some, List.length_cons, rowsOk, ni]
  by_cases hw : rowF l.ls l.stretch r l.marks ≤ l.ls.Wide
  ·rw [decide_eq_false (show ¬ (rowF l.ls l.stretch r l.marks > l.ls.Wide) by omega), decide_eq_true hw]
   simp only [cond_false, cond_true, Option.bind_some]
   exact Ba h es (r + 1)
  ·rw [decide_eq_true (show (rowF l.ls l.stretch r l.marks > l.ls.Wide) by omega), decide_eq_false hw]
   rfl
theorem GC (h : LOk l) : uo l = some (fitB l l.stretch) := by
 have := h.ne
 simp only [uo]
 rw [km (by omega), cond_true, Ba h, xD]
 unfold fitB
 cases rowsOk l.ls l.stretch l.marks l.lx.Ends.length 0 <;> rfl
def Ed (xs : List Int) : Option (List Int) := cond (neB xs) (cond (an 8 xs.length) (some xs) none) none
theorem U2 (xs R : List Int) (h : Ed xs = some R) : ah prog G0 129 [.sl (ad eI xs) xs.length false] (.own (ad eI R) R.length 1) := by
 unfold Ed at h
 cases hn : neB xs with
 | false => rw [hn] at h; cases h
 | true =>
 cases hr : an 8 xs.length with
 | false => rw [hn, hr] at h; cases h
 | true =>
 rw [hn, hr] at h
 simp only [cond_true, Option.some.injEq] at h
 subst h
 have hc : ad eI xs ≠ [] := by
  cases xs with
  | nil => cases hn
  | cons a l => intro hh; cases hh
 have hnil : ∀ (H : Nat → Option Vo) (x y : Operand), binV prog H .eql 22 x y (.sl (ad eI xs) xs.length false) (.lit (.slice none 0 0)) = some (.lit (.bool false)) := fun H x y => U3 underlying22 hc
 have hb : aq prog 22 0 [] = some ([], 1) := by kernel_rfl
 refine ah.run mixed call129 func129 rfl (by simp [ntmps129]; kernel_rfl) ?_
 simp only [vz, tyf, hnil, hb, List.map_nil, seval]
 refine Bb (w := 1) (enc := eI) (xs := ([] : List Int)) (ys := xs) (el := some 3) (fun _ => rfl) ie ig underlying22 rfl hn (by rw [List.nil_append]; exact hr) ?_
 simp only [vz, tyf, List.nil_append, seval]
 refine ⟨rfl, .ref 5 0 xs.length 1 xs.length, by simp [results129, resV, resL, aE, upd], (ad eI xs).length + 1, 5, _, ad eI xs, ⟨_, rfl⟩, by simp only [bk, bF, seval] <;> rfl, qF _ _ (eI_ok.treeL xs) (qZc _)⟩
def xN (xs : List GLe) : Option (List GLe) := cond (neB xs) (cond (an 16 xs.length) (some xs) none) none
theorem K1 (xs R : List GLe) (h : xN xs = some R) : ah prog G0 128 [.sl (ad cGLe xs) xs.length false] (.own (ad cGLe R) R.length 2) := by
 unfold xN at h
 cases hn : neB xs with
 | false => rw [hn] at h; cases h
 | true =>
 cases hr : an 16 xs.length with
 | false => rw [hn, hr] at h; cases h
 | true =>
 rw [hn, hr] at h
 simp only [cond_true, Option.some.injEq] at h
 subst h
 have hc : ad cGLe xs ≠ [] := by
  cases xs with
  | nil => cases hn
  | cons a l => intro hh; cases hh
 have hnil : ∀ (H : Nat → Option Vo) (x y : Operand), binV prog H .eql 29 x y (.sl (ad cGLe xs) xs.length false) (.lit (.slice none 0 0)) = some (.lit (.bool false)) := fun H x y => U3 underlying29 hc
 have hb : aq prog 29 0 [] = some ([], 2) := by kernel_rfl
 refine ah.run mixed call128 func128 rfl (by simp [ntmps128]; kernel_rfl) ?_
 simp only [vz, tyf, hnil, hb, List.map_nil, seval]
 refine Bb (w := 2) (enc := cGLe) (xs := ([] : List GLe)) (ys := xs) (el := some 100) (fun _ => rfl) jf jg underlying29 rfl hn (by rw [List.nil_append]; exact hr) ?_
 simp only [vz, tyf, List.nil_append, seval]
 refine ⟨rfl, .ref 5 0 xs.length 2 xs.length, by simp [results128, resV, resL, aE, upd], (ad cGLe xs).length + 1, 5, _, ad cGLe xs, ⟨_, rfl⟩, by simp only [bk, bF, seval] <;> rfl, qF _ _ (dT.treeL xs) (qZc _)⟩
theorem aP.get {H H' : Nat → Option Vo} : ∀ {xs ys : List VV} (i : Nat), aP H H' xs ys → Frozen H H' ((xs[i]?).getD (.lit undef)) ((ys[i]?).getD (.lit undef))
 | [], [], _, _ => .inl rfl
 | x :: xs, y :: ys, 0, h => h.1
 | x :: xs, y :: ys, i + 1, h => by simpa using aP.get i h.2
 | [], _ :: _, _, h => h.elim
 | _ :: _, [], _, h => h.elim
variable {β : Nat} {o : Oper} {K : St → Prop} {X : Nat → Option Vo}
theorem K2 {st : St} : RoundEnd β o { st with H := X } K = RoundEnd β o st K := by
 obtain ⟨d, op, ty, pos, af, gd⟩ := o
 funext e s
 cases d <;> cases e <;> rfl
variable {P : Program}
theorem YU {G : Gb} {n : Nat} {bo : Code} {st : St} : RoundStart P G n β bo o { st with H := X } K = RoundStart P G n β bo o st K := by
 funext e s
 cases e <;> first | rfl | (unfold RoundStart; rw [K2])
theorem aP.set {H H' : Nat → Option Vo} {x y : VV} (hx : Frozen H H' x y) : ∀ {xs ys : List VV} (i : Nat), aP H H' xs ys → aP H H' (xs.set i x) (ys.set i y)
 | [], [], _, _ => trivial
 | _ :: _, _ :: _, 0, h => ⟨hx, h.2⟩
 | _ :: _, _ :: _, i + 1, h => ⟨h.1, aP.set hx i h.2⟩
 | [], _ :: _, _, h => h.elim
 | _ :: _, [], _, h => h.elim
theorem U4 {H H' : Nat → Option Vo} : ∀ (ps : List Tmp) {args args' tm tm' : List VV}, aP H H' args args' → aP H H' tm tm' → aP H H' (roundTm tm ps args) (roundTm tm' ps args')
 | [], _, _, _, _, _, h => h
 | _ :: _, [], [], _, _, _, h => h
 | p :: ps, x :: xs, y :: ys, tm, tm', ha, h => U4 ps (args := xs) (args' := ys) ha.2 (aP.set ha.1 p h)
 | _ :: _, [], _ :: _, _, _, ha, _ => ha.elim
 | _ :: _, _ :: _, [], _, _, ha, _ => ha.elim
variable {H : Nat → Option Vo} {ns : List Nat}
theorem K8 {c : Ctx} {W : World} (s : Sim c W) (hH : c.H = H) (hns : ∀ γ ∈ ns, ∃ el cs, H γ = some (.cells el cs)) : ∀ x st pe tm ps asg bo df, lessN H ns x = some (.loop st pe tm ps asg bo df) → isDef (lessN H ns) df := by
 intro x st pe tm ps asg bo df hx
 subst hH
 obtain ⟨l, fn, _, _, _, ds, hd⟩ := s.obj x _ (U5 x _ hx)
 refine ⟨ds, ?_⟩
 unfold lessN
 split
 ·rename_i hm
  obtain ⟨el, cs, hc⟩ := hns df hm
  rw [hc] at hd; cases hd
 ·exact hd
theorem yieldK.freezeN {G : Gb} {args args' : List VV} {st : St} (ns : List Nat) (hns : ∀ γ ∈ ns, ∃ el cs, st.H γ = some (.cells el cs)) (hβ : β ∉ ns) (ha : aP st.H (lessN st.H ns) args args')
  (h : yieldK P G o β args' { st with H := lessN st.H ns } K) : yieldK P G o β args st K := by
 unfold yieldK at h ⊢
 have e : lessN st.H ns β = st.H β := by unfold lessN; rw [if_neg hβ]
 simp only [e] at h
 split at h
 ·rename_i pe tm ps asg bo df hl
  obtain ⟨h1, h2⟩ := h
  refine ⟨by rw [← aP.length ha]; exact h1, ?_⟩
  rw [YU] at h2
  intro ro c W a hro s hr hsz
  have hloop := K8 s hr.H hns
  refine VWp.freeze (st := { tm := bc (roundTm tm ps.toList args), H := st.H, nx := st.nx, df := [] }) (lessN st.H ns) (bc (roundTm tm ps.toList args')) (fun β o' hb => ⟨o', U5 β o' hb, .inl rfl⟩) hloop (fun t => ?_) h2 ro c W a hro s hr hsz
  exact aP.get t (U4 ps.toList ha aP.same)
 ·exact h.elim
theorem Bc {x : VV} (h : x.tree = true) (n : Nat) (hn : 1 ≤ n) : sealV H n x = some x := by
 obtain ⟨m, rfl⟩ : ∃ m, n = m + 1 := ⟨n - 1, by omega⟩
 unfold sealV
 rw [h]
 rfl
variable {el : Option TypeId} {cs : List VV}
theorem xO {γ k w cp : Nat} (hγ : H γ = some (.cells el cs)) (ht : tl cs = true) (hl : cs.length = k * w) (n : Nat) (hn : cs.length + 2 ≤ n) : sealV H n (.ref γ 0 k w cp) = some (.sl cs k false) := by
 obtain ⟨m, rfl⟩ : ∃ m, n = m + 1 := ⟨n - 1, by omega⟩
 unfold sealV
 have : (VV.ref γ 0 k w cp).tree = false := rfl
 rw [this]
 simp only [Bool.false_eq_true, if_false, hγ, Nat.zero_le, if_true, List.drop_zero]
 rw [List.take_of_length_le (by omega), qF cs _ ht (by omega)]
 rfl
theorem Frozen.pair {H' : Nat → Option Vo} {x y x' y' : VV} (m : Nat) (hx : ∀ n, m ≤ n → sealV (gone H H') n x = some x') (hy : ∀ n, m ≤ n → sealV (gone H H') n y = some y') (ht : (VV.agg [x, y]).tree = false) : Frozen H H' (.agg [x, y]) (.agg [x', y']) := by
 refine .inr (.inr ⟨m + 4, ?_⟩)
 show sealV (gone H H') ((m + 3) + 1) _ = _
 unfold sealV
 rw [ht]
 simp only [Bool.false_eq_true, if_false]
 have e3 : aT (gone H H') (m + 1) [] = some [] := by simp [aT]
 have e2 : aT (gone H H') (m + 2) [y] = some [y'] := by
  show aT (gone H H') ((m + 1) + 1) _ = _
  unfold aT
  rw [hy (m + 1) (by omega), e3]
 have e1 : aT (gone H H') (m + 3) [x, y] = some [x', y'] := by
  show aT (gone H H') ((m + 2) + 1) _ = _
  unfold aT
  rw [hx (m + 2) (by omega), e2]
 rw [e1]
 rfl
theorem xP {γ : Nat} (hm : γ ∈ ns) (hγ : H γ = some (.cells el cs)) : gone H (lessN H ns) γ = some (.cells el cs) := by
 simp [gone, lessN, hm, hγ]
abbrev sE (l : List GLe) : VV := .sl (ad cGLe l) l.length false
abbrev sSet (out : List Int) (e : List GLe) : VV := .agg [vx eI out, sE e]
def goStg (rc : List GLe → Nat → Option (List (List GLe))) (poss : List GLe) (p : List GLe) : Nat → Nat → Option (List (List GLe))
 | 0, _ => some []
 | m + 1, i => Option.bind (poss[i]?) fun e => Option.bind (rc (p ++ [e]) (i + 1)) fun a => Option.bind (goStg rc poss p m (i + 1)) fun r => some (a ++ r)
def stgO (poss : List GLe) (last : Nat) (rows : Int) : Nat → List GLe → Nat → Option (List (List GLe))
 | 0, _, _ => none
 | d + 1, p, fr => Option.bind (goStg (stgO poss last rows d) poss p (if (p.length : Int) + 1 < rows then last - fr else 0) fr) fun a => Option.bind (poss[last]?) fun e => some (a ++ [p ++ [e]])
theorem argsTm8 {a b c e f g h i : VV} : bc [a, b, c, e, f, g, h, i] = upd (upd (upd (upd (upd (upd (upd (upd (fun _ => .lit undef) 0 a) 1 b) 2 c) 3 e) 4 f) 5 g) 6 h) 7 i := by
 funext t; rcases t with _ | _ | _ | _ | _ | _ | _ | _ | t <;> simp [bc, upd]
theorem KA {t e : Nat} (hu : P.underlying t = some (.slice e)) : ∀ {p : List GLe}, vlen P H t (vx cGLe p) = some (.lit (.int .i64 p.length))
 | [] => by simp [vlen, vx, hu, sls]
 | _ :: _ => by simp [vlen, vx, hu, sls]
theorem U6 : ah prog G0 129 [.lit (.slice none 0 0)] (.tree (.lit (.slice none 0 0))) := by
 have hnil : ∀ (H : Nat → Option Vo) (x y : Operand), binV prog H .eql 22 x y (.lit (.slice none 0 0)) (.lit (.slice none 0 0)) = some (.lit (.bool true)) := fun H x y => by kernel_rfl
 refine ah.run mixed call129 func129 rfl (by simp [ntmps129]; kernel_rfl) ?_
 simp only [vz, tyf, hnil, seval, ua]
 exact ⟨rfl, .lit (.slice none 0 0), by simp [results129, resV, resL, aE, upd], 1, rfl⟩
theorem KB : ah prog G0 128 [.lit (.slice none 0 0)] (.tree (.lit (.slice none 0 0))) := by
 have hnil : ∀ (H : Nat → Option Vo) (x y : Operand), binV prog H .eql 29 x y (.lit (.slice none 0 0)) (.lit (.slice none 0 0)) = some (.lit (.bool true)) := fun H x y => by kernel_rfl
 refine ah.run mixed call128 func128 rfl (by simp [ntmps128]; kernel_rfl) ?_
 simp only [vz, tyf, hnil, seval, ua]
 exact ⟨rfl, .lit (.slice none 0 0), by simp [results128, resV, resL, aE, upd], 1, rfl⟩
theorem Bd {α : Type} {xs : List α} {i : Nat} {x : α} (h : xs[i]? = some x) : getI xs (i : Int) = some x := by
 unfold getI
 simp [h]
abbrev sCaps (la e pl y : Nat) (s : GLs) (out : List Int) : List VV := [.ptr la 0, .tp (cGLs s), .ptr e 0, .ptr pl 0, .ptr y 0, .tp [vx eI out]]
def SExt (β y e pl la : Nat) (s : GLs) (out : List Int) (poss : List GLe) (last : Nat) (I : Inv) (d : Nat) : Prop :=
 ∀ (p : List GLe) (fr : Nat) (rest : List VV) (L : List (List GLe)) (Fr : Nat → Prop) (H : Nat → Option Vo) (nx : Nat), stgO poss last s.Rows d p fr = some L → p.length + d < 1000 → fr < 1000000 → β < nx → (∀ γ, Fr γ → γ < nx) → Fr y → Fr e → Fr pl → Fr la →
  H y = some (.cells (some 33) [.yl β]) → H pl = some (.cells (some 29) [sE poss]) → H la = some (.cells (some 3) [.lit (.int .i64 (last : Int))]) → H e = some (.cells (some 155) [.fn (.func 127) [] (sCaps la e pl y s out)]) →
  I (some (L.map (sSet out) ++ rest)) Fr H nx →
  aU prog G0 127 [vx cGLe p, .lit (.int .i64 (fr : Int)), .ptr la 0, .tp (cGLs s), .ptr e 0, .ptr pl 0, .ptr y 0, .tp [vx eI out]] H nx
   (fun v H' nx' => ∃ b, v = .lit (.bool b) ∧ nx ≤ nx' ∧ (∀ γ, Fr γ → H' γ = H γ) ∧ I (if b then some rest else none) Fr H' nx') (fun _ _ _ => False)
theorem U7 {p : List GLe} {e : GLe} (h : p ≠ []) (hr : an 16 (p ++ [e]).length = true) : xN p = some p := by
 unfold xN
 have h1 : neB p = true := by cases p with
  | nil => exact absurd rfl h
  | cons a l => rfl
 have h2 : an 16 p.length = true := by
  unfold an at hr ⊢
  simp only [List.length_append, List.length_cons, List.length_nil, decide_eq_true_eq] at hr ⊢
  omega
 rw [h1, h2]; rfl
theorem KC {p : List Int} (h : p ≠ []) (hr : p.length < 1000000) : Ed p = some p := by
 unfold Ed
 have h1 : neB p = true := by cases p with
  | nil => exact absurd rfl h
  | cons a l => rfl
 have h2 : an 8 p.length = true := by
  unfold an
  simp only [decide_eq_true_eq]
  omega
 rw [h1, h2]; rfl
theorem G4 {y e pl la : Nat} {out : List Int} {poss : List GLe} {last : Nat} {I : Inv} (hst : Stable I) (hr : Rounds prog G0 β I) (hlast : last < 1000000) (hout : out.length < 1000000) : ∀ d, SExt β y e pl la s out poss last I d := by
 intro d
 induction d with
 | zero => intro p fr rest L Fr H nx hL; cases hL
 | succ d ih =>
  intro p fr rest L Fr H nx hL U8 KD hbx hF hFy hFe hFp hFl hy hpl hla he hI
  rw [stgO] at hL
  rcases hLa : goStg (stgO poss last s.Rows d) poss p (if (p.length : Int) + 1 < s.Rows then last - fr else 0) fr with _ | La
  ·rw [hLa] at hL; cases hL
  rw [hLa, Option.bind_some] at hL
  rcases hLe : poss[last]? with _ | eL
  ·rw [hLe] at hL; cases hL
  rw [hLe, Option.bind_some, Option.some.injEq] at hL
  subst hL
  rw [List.map_append, List.append_assoc] at hI
  refine aU.run mixed call127 func127 rfl (by simp [ntmps127]; kernel_rfl) ?_
  simp only [argsTm8, vz, tyf, seval, ua, rg]
  obtain ⟨J, hJ⟩ : ∃ J : Nat → St → Prop, J = (fun m st => ∃ (i : Nat) (Lr : List (List GLe)), i < 1000000 ∧ (m = if (p.length : Int) + 1 < s.Rows then last - i else 0) ∧ st.df = [] ∧ nx ≤ st.nx ∧ (∀ γ, Fr γ → st.H γ = H γ) ∧
   goStg (stgO poss last s.Rows d) poss p m i = some Lr ∧ I (some (Lr.map (sSet out) ++ (List.map (sSet out) [p ++ [eL]] ++ rest))) Fr st.H st.nx ∧
   st.tm 0 = vx cGLe p ∧ st.tm 2 = .ptr la 0 ∧ st.tm 3 = .tp (cGLs s) ∧ st.tm 4 = .ptr e 0 ∧ st.tm 5 = .ptr pl 0 ∧ st.tm 6 = .ptr y 0 ∧ st.tm 7 = .tp [vx eI out] ∧ st.tm 11 = .lit (.int .i64 (i : Int))) := ⟨_, rfl⟩
  refine loopK mixed (by kernel_rfl) J (if (p.length : Int) + 1 < s.Rows then last - fr else 0) (by
   rw [hJ]
   refine ⟨fr, La, KD, rfl, rfl, (show nx ≤ nx + 3 by omega), fun _ _ => rfl, hLa, hst _ _ _ _ _ _ _ hI (fun _ _ _ => rfl) (show nx ≤ nx + 3 by omega) (fun γ h => .inl h), ?_, ?_, ?_, ?_, ?_, ?_, ?_, ?_⟩ <;> first | rfl | (simp only [ua, seval] <;> rfl)) ?_
  rintro m ⟨tm, H1, bj, df⟩ aL
  rw [hJ] at aL
  obtain ⟨i, Lr, hi1, hm, hdf, hn, pW, hLr, t4, e0, e2, e3, e4, e5, e6, e7, br⟩ := aL
  simp only at hdf hn pW t4 e0 e2 e3 e4 e5 e6 e7 br
  subst hdf
  have pZ : H1 e = _ := (pW e hFe).trans he
  have j0 : H1 y = _ := (pW y hFy).trans hy
  have hp1' : H1 pl = _ := (pW pl hFp).trans hpl
  have dH : H1 la = _ := (pW la hFl).trans hla
  have ba := fun H => KA (P := prog) (H := H) underlying29 (p := p)
  have hwp : i64.wrap ((p.length : Int) + 1) = (p.length : Int) + 1 := IntWalk.i64_in _ (by omega)
  cases m with
  | zero =>
   have hd : (decide ((i : Int) < (last : Int)) && decide ((p.length : Int) + 1 < s.Rows)) = false := by
    cases hc : (decide ((i : Int) < (last : Int)) && decide ((p.length : Int) + 1 < s.Rows)) with
    | false => rfl
    | true =>
     simp only [Bool.and_eq_true, decide_eq_true_eq] at hc
     rw [if_pos hc.2] at hm
     omega
   have YV : Lr = [] := by
    simp only [goStg, Option.some.injEq] at hLr
    exact hLr.symm
   subst YV
   have hix := Bd hLe
   have hroom : an 16 (p ++ [eL]).length = true := by
    unfold an
    simp only [List.length_append, List.length_cons, List.length_nil, decide_eq_true_eq]
    omega
   have hen : e < bj := qZd (hF e hFe) hn
   have hyn : y < bj := qZd (hF y hFy) hn
   have hpn : pl < bj := qZd (hF pl hFp) hn
   have hln : la < bj := qZd (hF la hFl) hn
   have fY : (y = bj + 13) = False := by simp only [eq_iff_iff, iff_false]; omega
   have fZ : (y = bj + 15) = False := by simp only [eq_iff_iff, iff_false]; omega
   have ga : (pl = bj + 13) = False := by simp only [eq_iff_iff, iff_false]; omega
   have gb : (pl = bj + 15) = False := by simp only [eq_iff_iff, iff_false]; omega
   have gf : (la = bj + 13) = False := by simp only [eq_iff_iff, iff_false]; omega
   have gg : (la = bj + 15) = False := by simp only [eq_iff_iff, iff_false]; omega
   cases hb : decide ((i : Int) < (last : Int))
   case' false => simp only [vz, tyf, seval, ua, e0, e2, e3, e4, e5, e6, e7, br, dH, ba, hwp, hb, rg]
   case' true =>
    rw [hb, Bool.true_and] at hd
    simp only [vz, tyf, seval, ua, e0, e2, e3, e4, e5, e6, e7, br, dH, ba, hwp, hb, hd, rg]
   all_goals
    refine Dy (fun tm => tm 0 = vx cGLe p ∧ tm 2 = .ptr la 0 ∧ tm 5 = .ptr pl 0 ∧ tm 6 = .ptr y 0 ∧ tm 7 = .tp [vx eI out]) (by refine ⟨?_, ?_, ?_, ?_, ?_⟩ <;> simp only [ua, seval, e0, e2, e3, e4, e5, e6, e7, br]) ?_
    clear e0 e2 e3 e4 e5 e6 e7 br tm
    rintro tm ⟨e0, e2, e5, e6, e7⟩
    refine U9 mixed 12 rfl rfl rfl (by kernel_rfl) ?_
    simp only [vz, tyf, seval, ua, e0, e2, e5, e6, e7, j0, rg]
    by_cases hone : out = []
    ·subst hone
     by_cases hpe : p = []
     ·subst hpe
      refine .inl ⟨rfl, .tree _, U6, ?_⟩
      simp only [vz, tyf, seval, ua, e0, e2, e5, e6, e7, j0, hp1', dH, fY, fZ, ga, gb, gf, gg, (bM hix), rg]
      refine .inl ⟨rfl, .tree _, KB, ?_⟩
      simp only [vz, tyf, seval, ua, e0, e2, e5, e6, e7, j0, hp1', dH, fY, fZ, ga, gb, gf, gg, (bM hix), rg]
      refine mX (w := 2) (enc := cGLe) (ys := [eL]) (ff := some 100) (fun _ => rfl) jf jg underlying29 (by first | rfl | (simp only [ua, nm, seval]; done) | (simp only [ua, nm, seval]; rfl)) (qZn _) hroom ?_
      simp only [vz, tyf, seval, ua, nm, e0, e2, e5, e6, e7, j0, hp1', dH, fY, fZ, ga, gb, gf, gg, (bM hix), rg]
      refine jJ ⟨?_, ?_⟩
      ·simp only [jN, jM, eM, jK, and_true, true_and]
       repeat' (first | exact trivial | refine qZk ?_ ?_ | rw [eM] | rw [jL] | exact Or.inl (by decide +kernel) | exact Or.inl (by dsimp only; decide +kernel) | (refine Or.inr ⟨?_, ?_⟩ <;> simp; done) | (refine Or.inr ⟨?_, ?_⟩ <;> simp <;> omega) | (refine Or.inr ⟨?_, ?_⟩ <;> simp [Ve.wr] <;> omega))
      simp only [vz, tyf, seval, ua, nm, e0, e2, e5, e6, e7, j0, hp1', dH, fY, fZ, ga, gb, gf, gg, (bM hix), rg]
      have vU : I (some (sSet [] ([] ++ [eL]) :: rest)) Fr H1 bj := t4
      refine yieldK.freezeN (args' := [sSet [] ([] ++ [eL])]) [bj + 21] ?_ (by simp; omega) ⟨Frozen.pair (2 * ([] ++ [eL]).length + 2 + ([] : List Int).length + 2) (fun n hn => ?_) (fun n hn => ?_) rfl, trivial⟩ ?_
      ·intro γ hγ
       simp only [List.mem_cons, List.not_mem_nil, or_false] at hγ
       subst hγ; exact ⟨_, _, by first | rfl | (simp only [ua, nm, seval]; done) | (simp only [ua, nm, seval]; rfl)⟩
      ·exact Bc rfl n (by omega)
      ·exact xO (xP (by simp) (by first | rfl | (simp only [ua, nm, seval]; done) | (simp only [ua, nm, seval]; rfl))) (dT.treeL _) (by rw [hU (w := 2) (fun _ => rfl)]) n (by rw [hU (w := 2) (fun _ => rfl)]; omega)
      refine (hr (sSet [] ([] ++ [eL])) rest Fr _ _ (fun γ h => qZd (hF γ h) (qZi hn (qZe _ _))) (hst _ _ _ _ _ _ _ vU (fun γ h _ => ?_) (qZe _ _) (fun γ h => .inl h))) (some none) _ _ _ rfl rfl ?_
      ·have n1 : γ ≠ bj + 21 := by omega
       have n2 : γ ≠ bj + 20 := by omega
       have n3 : γ ≠ bj + 15 := by omega
       have n4 : γ ≠ bj + 13 := by omega
       simp only [lessN, updH, without, List.mem_cons, List.not_mem_nil, or_false, n1, n2, n3, n4, if_false, or_self]
      rintro b H2 nG ⟨h1, h2, h3⟩
      simp only [vz, tyf, seval, ua]
      refine cB (x := .lit (.bool b)) (by simp [results127, resV, resL, aE, upd]) ⟨b, rfl, qZi (qZi hn (qZe _ _)) h1, fun γ h => ?_, h3⟩
      have g1 := hF γ h
      rw [h2 γ h, ← pW γ h]
      have n1 : γ ≠ bj + 21 := by omega
      have n2 : γ ≠ bj + 20 := by omega
      have n3 : γ ≠ bj + 15 := by omega
      have n4 : γ ≠ bj + 13 := by omega
      simp only [lessN, updH, without, List.mem_cons, List.not_mem_nil, or_false, n1, n2, n3, n4, if_false, or_self]
     ·have hvp : vx cGLe p = sE p := xQ hpe
      have hclp := U7 hpe hroom
      refine .inl ⟨rfl, .tree _, U6, ?_⟩
      simp only [vz, tyf, seval, ua, e0, e2, e5, e6, e7, j0, hp1', dH, fY, fZ, ga, gb, gf, gg, (bM hix), rg]
      rw [hvp]
      refine dkown (args0 := [sE p]) (by first | (simp only [nrm, ar]; done) | (simp only [nrm, ar]; rfl) | rfl) (by simp only [tre, au, Bool.and_self]) (K1 _ _ hclp) ?_
      simp only [vz, tyf, seval, ua, e0, e2, e5, e6, e7, j0, hp1', dH, fY, fZ, ga, gb, gf, gg, (bM hix), rg]
      refine k_app (w := 2) (enc := cGLe) (xs := p) (ys := [eL]) (el := none) (ff := some 100) (fun _ => rfl) jf jg underlying29 (by first | rfl | (simp only [ua, nm, seval]; done) | (simp only [ua, nm, seval]; rfl)) (by first | rfl | (simp only [ua, nm, seval]; done) | (simp only [ua, nm, seval]; rfl)) (qZn _) hroom ?_
      simp only [vz, tyf, seval, ua, nm, e0, e2, e5, e6, e7, j0, hp1', dH, fY, fZ, ga, gb, gf, gg, (bM hix), rg]
      refine jJ ⟨?_, ?_⟩
      ·simp only [jN, jM, eM, jK, and_true, true_and]
       repeat' (first | exact trivial | refine qZk ?_ ?_ | rw [eM] | rw [jL] | exact Or.inl (by decide +kernel) | exact Or.inl (by dsimp only; decide +kernel) | (refine Or.inr ⟨?_, ?_⟩ <;> simp; done) | (refine Or.inr ⟨?_, ?_⟩ <;> simp <;> omega) | (refine Or.inr ⟨?_, ?_⟩ <;> simp [Ve.wr] <;> omega))
      simp only [vz, tyf, seval, ua, nm, e0, e2, e5, e6, e7, j0, hp1', dH, fY, fZ, ga, gb, gf, gg, (bM hix), rg]
      have vU : I (some (sSet [] (p ++ [eL]) :: rest)) Fr H1 bj := t4
      refine yieldK.freezeN (args' := [sSet [] (p ++ [eL])]) [bj + 21] ?_ (by simp; omega) ⟨Frozen.pair (2 * (p ++ [eL]).length + 2 + ([] : List Int).length + 2) (fun n hn => ?_) (fun n hn => ?_) rfl, trivial⟩ ?_
      ·intro γ hγ
       simp only [List.mem_cons, List.not_mem_nil, or_false] at hγ
       subst hγ; exact ⟨_, _, by first | rfl | (simp only [ua, nm, seval]; done) | (simp only [ua, nm, seval]; rfl)⟩
      ·exact Bc rfl n (by omega)
      ·exact xO (xP (by simp) (by first | rfl | (simp only [ua, nm, seval]; done) | (simp only [ua, nm, seval]; rfl))) (dT.treeL _) (by rw [hU (w := 2) (fun _ => rfl)]) n (by rw [hU (w := 2) (fun _ => rfl)]; omega)
      refine (hr (sSet [] (p ++ [eL])) rest Fr _ _ (fun γ h => qZd (hF γ h) (qZi hn (qZe _ _))) (hst _ _ _ _ _ _ _ vU (fun γ h _ => ?_) (qZe _ _) (fun γ h => .inl h))) (some none) _ _ _ rfl rfl ?_
      ·have n1 : γ ≠ bj + 21 := by omega
       have n2 : γ ≠ bj + 20 := by omega
       have n3 : γ ≠ bj + 15 := by omega
       have n4 : γ ≠ bj + 13 := by omega
       simp only [lessN, updH, without, List.mem_cons, List.not_mem_nil, or_false, n1, n2, n3, n4, if_false, or_self]
      rintro b H2 nG ⟨h1, h2, h3⟩
      simp only [vz, tyf, seval, ua]
      refine cB (x := .lit (.bool b)) (by simp [results127, resV, resL, aE, upd]) ⟨b, rfl, qZi (qZi hn (qZe _ _)) h1, fun γ h => ?_, h3⟩
      have g1 := hF γ h
      rw [h2 γ h, ← pW γ h]
      have n1 : γ ≠ bj + 21 := by omega
      have n2 : γ ≠ bj + 20 := by omega
      have n3 : γ ≠ bj + 15 := by omega
      have n4 : γ ≠ bj + 13 := by omega
      simp only [lessN, updH, without, List.mem_cons, List.not_mem_nil, or_false, n1, n2, n3, n4, if_false, or_self]
    ·have hclo := KC hone hout
     by_cases hpe : p = []
     ·subst hpe
      have hov : vx eI out = sI out := xQ hone
      rw [hov]
      refine dkown (args0 := [sI out]) (by first | (simp only [nrm, ar]; done) | (simp only [nrm, ar]; rfl) | rfl) (by simp only [tre, au, Bool.and_self]) (U2 _ _ hclo) ?_
      simp only [vz, tyf, seval, ua, e0, e2, e5, e6, e7, j0, hp1', dH, fY, fZ, ga, gb, gf, gg, (bM hix), rg]
      refine .inl ⟨rfl, .tree _, KB, ?_⟩
      simp only [vz, tyf, seval, ua, e0, e2, e5, e6, e7, j0, hp1', dH, fY, fZ, ga, gb, gf, gg, (bM hix), rg]
      refine mX (w := 2) (enc := cGLe) (ys := [eL]) (ff := some 100) (fun _ => rfl) jf jg underlying29 (by first | rfl | (simp only [ua, nm, seval]; done) | (simp only [ua, nm, seval]; rfl)) (qZn _) hroom ?_
      simp only [vz, tyf, seval, ua, nm, e0, e2, e5, e6, e7, j0, hp1', dH, fY, fZ, ga, gb, gf, gg, (bM hix), rg]
      refine jJ ⟨?_, ?_⟩
      ·simp only [jN, jM, eM, jK, and_true, true_and]
       repeat' (first | exact trivial | refine qZk ?_ ?_ | rw [eM] | rw [jL] | exact Or.inl (by decide +kernel) | exact Or.inl (by dsimp only; decide +kernel) | (refine Or.inr ⟨?_, ?_⟩ <;> simp; done) | (refine Or.inr ⟨?_, ?_⟩ <;> simp <;> omega) | (refine Or.inr ⟨?_, ?_⟩ <;> simp [Ve.wr] <;> omega))
      simp only [vz, tyf, seval, ua, nm, e0, e2, e5, e6, e7, j0, hp1', dH, fY, fZ, ga, gb, gf, gg, (bM hix), rg]
      have vU : I (some (sSet out ([] ++ [eL]) :: rest)) Fr H1 bj := t4
      refine yieldK.freezeN (args' := [sSet out ([] ++ [eL])]) [bj + 21, bj + 13] ?_ (by simp; omega) ⟨Frozen.pair (2 * ([] ++ [eL]).length + 2 + out.length + 2) (fun n hn => ?_) (fun n hn => ?_) rfl, trivial⟩ ?_
      ·intro γ hγ
       simp only [List.mem_cons, List.not_mem_nil, or_false] at hγ
       rcases hγ with rfl | rfl <;> exact ⟨_, _, by first | rfl | (simp only [ua, nm, seval]; done) | (simp only [ua, nm, seval]; rfl)⟩
      ·rw [hov]; exact xO (xP (by simp) (by first | rfl | (simp only [ua, nm, seval]; done) | (simp only [ua, nm, seval]; rfl))) (eI_ok.treeL _) (by rw [hU (w := 1) (fun _ => rfl)]) n (by rw [hU (w := 1) (fun _ => rfl)]; omega)
      ·exact xO (xP (by simp) (by first | rfl | (simp only [ua, nm, seval]; done) | (simp only [ua, nm, seval]; rfl))) (dT.treeL _) (by rw [hU (w := 2) (fun _ => rfl)]) n (by rw [hU (w := 2) (fun _ => rfl)]; omega)
      refine (hr (sSet out ([] ++ [eL])) rest Fr _ _ (fun γ h => qZd (hF γ h) (qZi hn (qZe _ _))) (hst _ _ _ _ _ _ _ vU (fun γ h _ => ?_) (qZe _ _) (fun γ h => .inl h))) (some none) _ _ _ rfl rfl ?_
      ·have n1 : γ ≠ bj + 21 := by omega
       have n2 : γ ≠ bj + 20 := by omega
       have n3 : γ ≠ bj + 15 := by omega
       have n4 : γ ≠ bj + 13 := by omega
       simp only [lessN, updH, without, List.mem_cons, List.not_mem_nil, or_false, n1, n2, n3, n4, if_false, or_self]
      rintro b H2 nG ⟨h1, h2, h3⟩
      simp only [vz, tyf, seval, ua]
      refine cB (x := .lit (.bool b)) (by simp [results127, resV, resL, aE, upd]) ⟨b, rfl, qZi (qZi hn (qZe _ _)) h1, fun γ h => ?_, h3⟩
      have g1 := hF γ h
      rw [h2 γ h, ← pW γ h]
      have n1 : γ ≠ bj + 21 := by omega
      have n2 : γ ≠ bj + 20 := by omega
      have n3 : γ ≠ bj + 15 := by omega
      have n4 : γ ≠ bj + 13 := by omega
      simp only [lessN, updH, without, List.mem_cons, List.not_mem_nil, or_false, n1, n2, n3, n4, if_false, or_self]
     ·have hvp : vx cGLe p = sE p := xQ hpe
      have hclp := U7 hpe hroom
      have hov : vx eI out = sI out := xQ hone
      rw [hov]
      refine dkown (args0 := [sI out]) (by first | (simp only [nrm, ar]; done) | (simp only [nrm, ar]; rfl) | rfl) (by simp only [tre, au, Bool.and_self]) (U2 _ _ hclo) ?_
      simp only [vz, tyf, seval, ua, e0, e2, e5, e6, e7, j0, hp1', dH, fY, fZ, ga, gb, gf, gg, (bM hix), rg]
      rw [hvp]
      refine dkown (args0 := [sE p]) (by first | (simp only [nrm, ar]; done) | (simp only [nrm, ar]; rfl) | rfl) (by simp only [tre, au, Bool.and_self]) (K1 _ _ hclp) ?_
      simp only [vz, tyf, seval, ua, e0, e2, e5, e6, e7, j0, hp1', dH, fY, fZ, ga, gb, gf, gg, (bM hix), rg]
      refine k_app (w := 2) (enc := cGLe) (xs := p) (ys := [eL]) (el := none) (ff := some 100) (fun _ => rfl) jf jg underlying29 (by first | rfl | (simp only [ua, nm, seval]; done) | (simp only [ua, nm, seval]; rfl)) (by first | rfl | (simp only [ua, nm, seval]; done) | (simp only [ua, nm, seval]; rfl)) (qZn _) hroom ?_
      simp only [vz, tyf, seval, ua, nm, e0, e2, e5, e6, e7, j0, hp1', dH, fY, fZ, ga, gb, gf, gg, (bM hix), rg]
      refine jJ ⟨?_, ?_⟩
      ·simp only [jN, jM, eM, jK, and_true, true_and]
       repeat' (first | exact trivial | refine qZk ?_ ?_ | rw [eM] | rw [jL] | exact Or.inl (by decide +kernel) | exact Or.inl (by dsimp only; decide +kernel) | (refine Or.inr ⟨?_, ?_⟩ <;> simp; done) | (refine Or.inr ⟨?_, ?_⟩ <;> simp <;> omega) | (refine Or.inr ⟨?_, ?_⟩ <;> simp [Ve.wr] <;> omega))
      simp only [vz, tyf, seval, ua, nm, e0, e2, e5, e6, e7, j0, hp1', dH, fY, fZ, ga, gb, gf, gg, (bM hix), rg]
      have vU : I (some (sSet out (p ++ [eL]) :: rest)) Fr H1 bj := t4
      refine yieldK.freezeN (args' := [sSet out (p ++ [eL])]) [bj + 21, bj + 13] ?_ (by simp; omega) ⟨Frozen.pair (2 * (p ++ [eL]).length + 2 + out.length + 2) (fun n hn => ?_) (fun n hn => ?_) rfl, trivial⟩ ?_
      ·intro γ hγ
       simp only [List.mem_cons, List.not_mem_nil, or_false] at hγ
       rcases hγ with rfl | rfl <;> exact ⟨_, _, by first | rfl | (simp only [ua, nm, seval]; done) | (simp only [ua, nm, seval]; rfl)⟩
      ·rw [hov]; exact xO (xP (by simp) (by first | rfl | (simp only [ua, nm, seval]; done) | (simp only [ua, nm, seval]; rfl))) (eI_ok.treeL _) (by rw [hU (w := 1) (fun _ => rfl)]) n (by rw [hU (w := 1) (fun _ => rfl)]; omega)
      ·exact xO (xP (by simp) (by first | rfl | (simp only [ua, nm, seval]; done) | (simp only [ua, nm, seval]; rfl))) (dT.treeL _) (by rw [hU (w := 2) (fun _ => rfl)]) n (by rw [hU (w := 2) (fun _ => rfl)]; omega)
      refine (hr (sSet out (p ++ [eL])) rest Fr _ _ (fun γ h => qZd (hF γ h) (qZi hn (qZe _ _))) (hst _ _ _ _ _ _ _ vU (fun γ h _ => ?_) (qZe _ _) (fun γ h => .inl h))) (some none) _ _ _ rfl rfl ?_
      ·have n1 : γ ≠ bj + 21 := by omega
       have n2 : γ ≠ bj + 20 := by omega
       have n3 : γ ≠ bj + 15 := by omega
       have n4 : γ ≠ bj + 13 := by omega
       simp only [lessN, updH, without, List.mem_cons, List.not_mem_nil, or_false, n1, n2, n3, n4, if_false, or_self]
      rintro b H2 nG ⟨h1, h2, h3⟩
      simp only [vz, tyf, seval, ua]
      refine cB (x := .lit (.bool b)) (by simp [results127, resV, resL, aE, upd]) ⟨b, rfl, qZi (qZi hn (qZe _ _)) h1, fun γ h => ?_, h3⟩
      have g1 := hF γ h
      rw [h2 γ h, ← pW γ h]
      have n1 : γ ≠ bj + 21 := by omega
      have n2 : γ ≠ bj + 20 := by omega
      have n3 : γ ≠ bj + 15 := by omega
      have n4 : γ ≠ bj + 13 := by omega
      simp only [lessN, updH, without, List.mem_cons, List.not_mem_nil, or_false, n1, n2, n3, n4, if_false, or_self]
  | succ m =>
   have wM : (p.length : Int) + 1 < s.Rows := by
    rcases Classical.em ((p.length : Int) + 1 < s.Rows) with h | h
    ·exact h
    ·rw [if_neg h] at hm; cases hm
   rw [if_pos wM] at hm
   have sq : decide ((i : Int) < (last : Int)) = true := by simp; omega
   have mT : decide ((p.length : Int) + 1 < s.Rows) = true := by simpa using wM
   simp only [vz, tyf, seval, ua, e0, e2, e3, e4, e5, e6, e7, br, dH, ba, hwp, sq, mT, rg]
   refine Dy (fun tm => tm 0 = vx cGLe p ∧ tm 2 = .ptr la 0 ∧ tm 3 = .tp (cGLs s) ∧ tm 4 = .ptr e 0 ∧ tm 5 = .ptr pl 0 ∧ tm 6 = .ptr y 0 ∧ tm 7 = .tp [vx eI out] ∧ tm 11 = .lit (.int .i64 (i : Int))) (by refine ⟨?_, ?_, ?_, ?_, ?_, ?_, ?_, ?_⟩ <;> simp only [ua, seval, e0, e2, e3, e4, e5, e6, e7, br]) ?_
   clear e0 e2 e3 e4 e5 e6 e7 br tm
   rintro tm ⟨e0, e2, e3, e4, e5, e6, e7, br⟩
   refine U9 mixed 11 rfl rfl rfl (by kernel_rfl) ?_
   rw [goStg] at hLr
   rcases hei : poss[i]? with _ | ei
   ·rw [hei] at hLr; cases hLr
   rw [hei, Option.bind_some] at hLr
   rcases hLx : stgO poss last s.Rows d (p ++ [ei]) (i + 1) with _ | Lx
   ·rw [hLx] at hLr; cases hLr
   rw [hLx, Option.bind_some] at hLr
   rcases hLy : goStg (stgO poss last s.Rows d) poss p m (i + 1) with _ | Ly
   ·rw [hLy] at hLr; cases hLr
   rw [hLy, Option.bind_some, Option.some.injEq] at hLr
   subst hLr
   rw [List.map_append, List.append_assoc] at t4
   have hix := Bd hei
   have hw : i64.wrap ((i : Int) + 1) = ((i + 1 : Nat) : Int) := by rw [IntWalk.i64_in _ (by omega)]; simp
   have hv : vx cGLe (p ++ [ei]) = sE (p ++ [ei]) := xQ (by simp)
   have hroom : an 16 (p ++ [ei]).length = true := by
    unfold an
    simp only [List.length_append, List.length_cons, List.length_nil, decide_eq_true_eq]
    omega
   have hen : e < bj := qZd (hF e hFe) hn
   have hyn : y < bj := qZd (hF y hFy) hn
   have hpn : pl < bj := qZd (hF pl hFp) hn
   have hln : la < bj := qZd (hF la hFl) hn
   simp only [vz, tyf, seval, ua, e0, e2, e3, e4, e5, e6, e7, br, pZ, rg]
   rcases hpc : p with _ | ⟨p0, pt⟩
   ·subst hpc
    refine .inl ⟨rfl, .tree _, KB, ?_⟩
    simp only [vz, tyf, seval, ua, e0, e2, e3, e4, e5, e6, e7, br, pZ, hp1', (bM hix), rg, hw]
    refine mX (w := 2) (enc := cGLe) (ys := [ei]) (ff := some 100) (fun _ => rfl) jf jg underlying29 (by simp only [ua, nm, seval]; rfl) (qZn _) hroom ?_
    simp only [vz, tyf, seval, ua, nm, e0, e2, e3, e4, e5, e6, e7, br, pZ, hp1', rg, hw]
    refine jJ ⟨?_, ?_⟩
    ·simp only [jN, jM, eM, jK, and_true, true_and]
     repeat' (first | exact trivial | refine qZk ?_ ?_ | rw [eM] | rw [jL] | exact Or.inl (by decide +kernel) | exact Or.inl (by dsimp only; decide +kernel) | (refine Or.inr ⟨?_, ?_⟩ <;> simp; done) | (refine Or.inr ⟨?_, ?_⟩ <;> simp <;> omega) | (refine Or.inr ⟨?_, ?_⟩ <;> simp [Ve.wr] <;> omega))
    simp only [vz, tyf, seval, ua, e0, e2, e3, e4, e5, e6, e7, br, pZ, rg]
    refine kopen ?_
    rw [G3]
    have hcell : (updH (updH H1 (bj + 18) (Vo.cells (some 100) [VV.lit (Value.int IntKind.i64 ei.Word), VV.lit (Value.int IntKind.i64 ei.Letters)])) (bj + 19) (Vo.cells (some 100) (ad cGLe ([] ++ [ei])))) (bj + 19) = some (.cells (some 100) (ad cGLe ([] ++ [ei]))) := by simp only [ua, seval]
    have hbig : ∀ γ, γ < bj → without (updH (updH H1 (bj + 18) (Vo.cells (some 100) [VV.lit (Value.int IntKind.i64 ei.Word), VV.lit (Value.int IntKind.i64 ei.Letters)])) (bj + 19) (Vo.cells (some 100) (ad cGLe ([] ++ [ei])))) (bj + 19) γ = H1 γ := by
     intro γ h
     simp only [updH, without]
     repeat rw [if_neg (by omega)]
    refine aU.mono (aU.freeze1 (γ := (bj + 19)) hcell (args' := [vx cGLe ([] ++ [ei]), .lit (.int .i64 ((i + 1 : Nat) : Int)), .ptr la 0, .tp (cGLs s), .ptr e 0, .ptr pl 0, .ptr y 0, .tp [vx eI out]]) ⟨by rw [hv]; exact Frozen.own hcell (dT.treeL _) (by rw [hU (w := 2) (fun _ => rfl)]), aP.same⟩ (ih ([] ++ [ei]) (i + 1) _ Lx Fr _ _ hLx (by simp only [List.length_append, List.length_cons, List.length_nil] at U8 ⊢; omega) (by omega) (by omega) (fun γ h => by have := hF γ h; omega) hFy hFe hFp hFl ((hbig y hyn).trans j0) ((hbig pl hpn).trans hp1') ((hbig la hln).trans dH) ((hbig e hen).trans pZ) (hst _ _ _ _ _ _ _ t4 (fun γ h _ => hbig γ h) (by omega) (fun γ h => .inl h)))) ?_ (fun _ _ _ h => h.elim)
    rintro v H2 nG ⟨b, rfl, h1, h2, h3⟩
    have Be : ∀ γ, Fr γ → H2 γ = H γ := fun γ h => by rw [h2 γ h, hbig γ (qZd (hF γ h) hn), pW γ h]
    simp only [vz, tyf, seval, ua, e0, e2, e3, e4, e5, e6, e7, br, pZ, rg]
    cases b with
    | false =>
     simp only [vz, tyf, seval, ua, Bool.not_false]
     refine cB (x := .lit (.bool false)) (by simp [results127, resV, resL, aE, upd]) ⟨false, rfl, by omega, Be, ?_⟩
     exact hst _ _ _ _ _ _ _ h3 (fun _ _ _ => rfl) (by omega) (fun γ h => .inl h)
    | true =>
     simp only [vz, tyf, seval, ua, Bool.not_true, br, hw]
     simp only [if_true] at h3
     rw [hJ]
     refine ⟨m, qZc _, i + 1, Ly, by omega, by rw [if_pos wM]; omega, rfl, qZi hn (qZi (by omega : bj ≤ nG) (qZe _ _)), Be, hLy, hst _ _ _ _ _ _ _ h3 (fun _ _ _ => rfl) (qZe _ _) (fun γ h => .inl h), by simp only [ua, seval, e0], by simp only [ua, seval, e2], by simp only [ua, seval, e3], by simp only [ua, seval, e4], by simp only [ua, seval, e5], by simp only [ua, seval, e6], by simp only [ua, seval, e7], by simp only [ua, seval]⟩
   rw [← hpc]
   have hne : p ≠ [] := by rw [hpc]; simp
   have hvp : vx cGLe p = sE p := xQ hne
   rw [hvp]
   have hcl : xN p = some p := by
    unfold xN
    have h1 : neB p = true := by rw [hpc]; rfl
    have h2 : an 16 p.length = true := by
     unfold an at hroom ⊢
     simp only [List.length_append, List.length_cons, List.length_nil, decide_eq_true_eq] at hroom ⊢
     omega
    rw [h1, h2]; rfl
   have hpx : (pl = bj + 13) = False := by simp only [eq_iff_iff, iff_false]; omega
   refine dkown (args0 := [sE p]) (by first | (simp only [nrm, ar]; done) | (simp only [nrm, ar]; rfl) | rfl) (by simp only [tre, au, Bool.and_self]) (K1 _ _ hcl) ?_
   simp only [vz, tyf, seval, ua, e0, e2, e3, e4, e5, e6, e7, br, pZ, hp1', hpx, (bM hix), rg, hw]
   refine k_app (w := 2) (enc := cGLe) (xs := p) (ys := [ei]) (el := none) (ff := some 100) (fun _ => rfl) jf jg underlying29 (by first | rfl | (simp only [ua, nm, seval]; done) | (simp only [ua, nm, seval]; rfl)) (by first | rfl | (simp only [ua, nm, seval]; done) | (simp only [ua, nm, seval]; rfl)) (qZn _) hroom ?_
   simp only [vz, tyf, seval, ua, nm, e0, e2, e3, e4, e5, e6, e7, br, pZ, hp1', rg, hw]
   refine jJ ⟨?_, ?_⟩
   ·simp only [jN, jM, eM, jK, and_true, true_and]
    repeat' (first | exact trivial | refine qZk ?_ ?_ | rw [eM] | rw [jL] | exact Or.inl (by decide +kernel) | exact Or.inl (by dsimp only; decide +kernel) | (refine Or.inr ⟨?_, ?_⟩ <;> simp; done) | (refine Or.inr ⟨?_, ?_⟩ <;> simp <;> omega) | (refine Or.inr ⟨?_, ?_⟩ <;> simp [Ve.wr] <;> omega))
   simp only [vz, tyf, seval, ua, e0, e2, e3, e4, e5, e6, e7, br, pZ, rg]
   refine kopen ?_
   rw [G3]
   have hcell : (updH (without (updH (updH H1 (bj + 13) (Vo.cells none (ad cGLe p))) (bj + 18) (Vo.cells (some 100) [VV.lit (Value.int IntKind.i64 ei.Word), VV.lit (Value.int IntKind.i64 ei.Letters)])) (bj + 13)) (bj + 19) (Vo.cells (sameEl none 100) (ad cGLe (p ++ [ei])))) (bj + 19) = some (.cells (sameEl none 100) (ad cGLe (p ++ [ei]))) := by simp only [ua, seval]
   have hbig : ∀ γ, γ < bj → without (updH (without (updH (updH H1 (bj + 13) (Vo.cells none (ad cGLe p))) (bj + 18) (Vo.cells (some 100) [VV.lit (Value.int IntKind.i64 ei.Word), VV.lit (Value.int IntKind.i64 ei.Letters)])) (bj + 13)) (bj + 19) (Vo.cells (sameEl none 100) (ad cGLe (p ++ [ei])))) (bj + 19) γ = H1 γ := by
    intro γ h
    simp only [updH, without]
    repeat rw [if_neg (by omega)]
   refine aU.mono (aU.freeze1 (γ := (bj + 19)) hcell (args' := [vx cGLe (p ++ [ei]), .lit (.int .i64 ((i + 1 : Nat) : Int)), .ptr la 0, .tp (cGLs s), .ptr e 0, .ptr pl 0, .ptr y 0, .tp [vx eI out]]) ⟨by rw [hv]; exact Frozen.own hcell (dT.treeL _) (by rw [hU (w := 2) (fun _ => rfl)]), aP.same⟩ (ih (p ++ [ei]) (i + 1) _ Lx Fr _ _ hLx (by simp only [List.length_append, List.length_cons, List.length_nil] at U8 ⊢; omega) (by omega) (by omega) (fun γ h => by have := hF γ h; omega) hFy hFe hFp hFl ((hbig y hyn).trans j0) ((hbig pl hpn).trans hp1') ((hbig la hln).trans dH) ((hbig e hen).trans pZ) (hst _ _ _ _ _ _ _ t4 (fun γ h _ => hbig γ h) (by omega) (fun γ h => .inl h)))) ?_ (fun _ _ _ h => h.elim)
   rintro v H2 nG ⟨b, rfl, h1, h2, h3⟩
   have Be : ∀ γ, Fr γ → H2 γ = H γ := fun γ h => by rw [h2 γ h, hbig γ (qZd (hF γ h) hn), pW γ h]
   simp only [vz, tyf, seval, ua, e0, e2, e3, e4, e5, e6, e7, br, pZ, rg]
   cases b with
   | false =>
    simp only [vz, tyf, seval, ua, Bool.not_false]
    refine cB (x := .lit (.bool false)) (by simp [results127, resV, resL, aE, upd]) ⟨false, rfl, by omega, Be, ?_⟩
    exact hst _ _ _ _ _ _ _ h3 (fun _ _ _ => rfl) (by omega) (fun γ h => .inl h)
   | true =>
    simp only [vz, tyf, seval, ua, Bool.not_true, br, hw]
    simp only [if_true] at h3
    rw [hJ]
    refine ⟨m, qZc _, i + 1, Ly, by omega, by rw [if_pos wM]; omega, rfl, qZi hn (qZi (by omega : bj ≤ nG) (qZe _ _)), Be, hLy, hst _ _ _ _ _ _ _ h3 (fun _ _ _ => rfl) (qZe _ _) (fun γ h => .inl h), by simp only [ua, seval, e0], by simp only [ua, seval, e2], by simp only [ua, seval, e3], by simp only [ua, seval, e4], by simp only [ua, seval, e5], by simp only [ua, seval, e6], by simp only [ua, seval, e7], by simp only [ua, seval]⟩
end Go.V
end
