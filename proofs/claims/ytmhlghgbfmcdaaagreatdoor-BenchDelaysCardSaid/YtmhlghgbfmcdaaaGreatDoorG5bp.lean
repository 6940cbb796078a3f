/- Part of a proof. -/
import Derived.Test.YtmhlghgbfmcdaaaGreatDoorG5bo
set_option linter.all false
set_option maxRecDepth 4000
set_option maxHeartbeats 40000000
section
namespace Go.V
open Go Go.Proofs IntKind
def qe (ak : GBk) (aq : List Int) (au : List Int) : List Int → Int → Int → Bool → Option (LOut (Bool) (Int × Bool))
 | [], iG, fY, j9 => some (.go (fY, j9))
 | e2 :: p2, iG, fY, j9 => Option.bind (tD ak e2) (fun fj => cond (fj) (cond (decide (iG > 0)) (Option.bind (getI au (i64.wrap (iG - 1))) (fun mz => cond (decide (e2 ≤ mz)) (some (.go (fY, false))) (Option.bind (getI aq mz) (fun Da => Option.bind (getI aq e2) (fun CZ => cond (Da != CZ) (Option.bind (getI ak.Strokes e2) (fun wv => Option.bind (rF wv.Needs mz) (fun WY => cond (WY) (qe ak aq au p2 (iG + 1) (i64.wrap (fY + wv.Hours.High)) j9) (some (.go (fY, false)))))) (Option.bind (getI ak.Strokes e2) (fun Kx => qe ak aq au p2 (iG + 1) (i64.wrap (fY + Kx.Hours.High)) j9))))))) (Option.bind (getI ak.Strokes e2) (fun zY => qe ak aq au p2 (iG + 1) (i64.wrap (fY + zY.Hours.High)) j9))) (some (.go (fY, false))))
def tY  : List GSpan → Int → Int → Option (LOut (Bool) (Int))
 | [], rT, lv => some (.go lv)
 | e1 :: p1, rT, lv => tY p1 (rT + 1) (if lv < e1.High then e1.High else lv)
def tZ (ak : GBk) : List Int → Int → Int → Option (LOut (Bool) (Int))
 | [], rU, n0 => some (.go n0)
 | e0 :: p0, rU, n0 => Option.bind (getI ak.Strokes e0) (fun KL => tZ ak p0 (rU + 1) (i64.wrap (n0 + KL.Hours.High)))
def w8 (ak : GBk) (aq : List Int) (au : List Int) (bh : Int) (ch : List Int) (sp : Int) : Option (Bool) := (Option.bind (wC ak aq au) (fun WZ => cond (WZ) (Option.bind (Ao au ch) (fun zH => cond (zH) (some false) (Option.bind (rF au bh) (fun xd => cond (xd) (cond (sp == 0) (some true) (some false)) (some true))))) (some true)))
def wD (ak : GBk) (aq : List Int) (au : List Int) (bh : Int) (ch : List Int) (sp Ap : Int) : Option (Bool) := (cond (aF au) (aT (qe ak aq au au 0 0 true) (fun Ca => some Ca) (fun RP => cond (RP.2) (cond (decide (RP.1 > Ap)) (some false) (w8 ak aq au bh ch sp)) (w8 ak aq au bh ch sp)) (fun _ _ => none)) none)
def Dl (ak : GBk) (aq : List Int) (au : List Int) (bh : Int) : Option (Bool) := Option.bind (vJ ak) (fun r1 => cond (r1) (Option.bind (zB aq) (fun r2 => cond (r2) (Option.bind (zB au) (fun r3 => cond (r3) (Option.bind (zC ak aq) (fun r4 => cond (r4) (Option.bind (tD ak bh) (fun r5 => cond (r5) (Option.bind (Aq ak aq) (fun r6 => Option.bind (wN ak aq) (fun r7 => Option.bind (xb ak aq bh) (fun r8 => cond (r6.2 != 0) (some false) (cond (r7.2 != 0) (some false) (cond (r8.2 != 0) (some false) (cond (decide (r8.1 < 0)) (some false) (cond (decide (r8.1 > 9)) (some false) (cond ((List.length r7.1 : Int) != (List.length aq : Int)) (some false) (Option.bind (wC ak aq r6.1) (fun r9 => cond (r9) (cond (aF r6.1) (aT (tZ ak r6.1 0 0) (fun CF => some CF) (fun Xa => cond (aF r7.1) (aT (tY r7.1 0 0) (fun CL => some CL) (fun Ap => cond (Xa != Ap) (some false) (Option.bind (rF r6.1 bh) (fun BJ => cond (BJ) (cond (r8.1 != 0) (some false) (wD ak aq au bh r6.1 r8.1 Ap)) (wD ak aq au bh r6.1 r8.1 Ap)))) (fun _ _ => none)) none) (fun _ _ => none)) none) (some false)))))))))))) (some true))) (some true))) (some true))) (some true))) (some true))
theorem Ar {P : Program} {G : Glob} {m n b : Nat} {body a c : Code} {K : St → Prop} {Q : VExit → St → Prop} {st : St} (I : St → Prop) (h1 : CWp P G m body (VExit.then K (VExit.inBlock b (VExit.then (CWp P G n a (VExit.then I Q)) Q))) st) (h2 : ∀ s, I s → CWp P G n c Q s) : CWp P G m body (VExit.then K (VExit.inBlock b (VExit.then (CWp P G n (.seq a c) Q) Q))) st :=
 CWp.mono body st (LO (fun _ h => h) (fun e s h => by
  cases e with
  | normal => exact Al I h h2
  | exit i =>
   rw [PF] at h ⊢
   split
   · next hi => rw [if_pos hi] at h; exact Al I h h2
   · next hi => rw [if_neg hi] at h; exact h
  | _ => exact h)) h1
theorem Wg (ak : GBk) (aq : List Int) (au : List Int) (bh : Int) (R : Bool) (h : Dl ak aq au bh = some R) : al Tryz.prog G0 8 [.agg (cGBk ak), .sl (ae eI aq) (List.length aq) false, .sl (ae eI au) (List.length au) false, .lit (.int .i64 bh)] (.tree (.lit (.bool R))) := by
 refine al.runRQ mixed Tryz.call8 Tryz.func8 rfl (by simp [Tryz.ntmps8]; kernel_rfl) ?_
 obtain ⟨KF, h, kF, kN⟩ := cR h
 simp only [Dl] at h
 obtain ⟨RQ, qL, h⟩ := optI h kN
 try simp only [hs] at h
 simp only [vz, tyf, nm, seval]
 refine ktA (V9 _ _ qL) ?_
 refine bM (fun tm => tm 1 = .sl (ae eI aq) (List.length aq) false ∧ tm 2 = .sl (ae eI au) (List.length au) false ∧ tm 3 = .lit (.int .i64 bh) ∧ tm 4 = .ptr 0 0 ∧ tm 24 = .lit (.bool RQ) ∧ True) (by refine ⟨?_, ?_, ?_, ?_, ?_, trivial⟩ <;> first | (simp only [ua, nm, seval] <;> rfl) | rfl) ?_
 rintro tm ⟨gZ, hC, i6, gx, gY, _⟩
 cases dN : (RQ)
 ·simp only [dN, hs] at h
  simp only [vz, tyf, gZ, hC, i6, gx, gY, dN, nm, seval]
  refine ktree0 rV ?_
  try simp only [vz, tyf, gZ, hC, i6, gx, gY, dN, nm, seval]
  obtain rfl := kF _ h
  exact bz Tryz.results8 rfl
 simp only [dN, hs] at h
 obtain ⟨RT, dX, h⟩ := optI h kN
 try simp only [hs] at h
 simp only [vz, tyf, gZ, hC, i6, gx, gY, dN, nm, seval]
 refine ktA (QV _ _ dX) ?_
 refine bM (fun tm => tm 1 = .sl (ae eI aq) (List.length aq) false ∧ tm 2 = .sl (ae eI au) (List.length au) false ∧ tm 3 = .lit (.int .i64 bh) ∧ tm 4 = .ptr 0 0 ∧ tm 26 = .lit (.bool false) ∧ tm 28 = .lit (.bool RT) ∧ True) (by refine ⟨gZ, hC, i6, gx, ?_, ?_, trivial⟩ <;> first | (simp only [ua, gZ, hC, i6, gx, gY, dN, nm, seval] <;> rfl) | rfl) ?_
 rintro tm ⟨jZ, jm, m8, As, zW, qP, _⟩
 cases dh : (RT)
 ·simp only [dh, hs] at h
  simp only [vz, tyf, dN, jZ, jm, m8, As, zW, qP, dh, nm, seval]
  refine ktree0 rV ?_
  try simp only [vz, tyf, dN, jZ, jm, m8, As, zW, qP, dh, nm, seval]
  obtain rfl := kF _ h
  exact bz Tryz.results8 rfl
 simp only [dh, hs] at h
 obtain ⟨RU, Xb, h⟩ := optI h kN
 try simp only [hs] at h
 simp only [vz, tyf, dN, jZ, jm, m8, As, zW, qP, dh, nm, seval]
 refine ktA (QV _ _ Xb) ?_
 refine bM (fun tm => tm 1 = .sl (ae eI aq) (List.length aq) false ∧ tm 2 = .sl (ae eI au) (List.length au) false ∧ tm 3 = .lit (.int .i64 bh) ∧ tm 4 = .ptr 0 0 ∧ tm 31 = .lit (.bool false) ∧ tm 33 = .lit (.bool RU) ∧ True) (by refine ⟨jZ, jm, m8, As, ?_, ?_, trivial⟩ <;> first | (simp only [ua, dN, jZ, jm, m8, As, zW, qP, dh, nm, seval] <;> rfl) | rfl) ?_
 rintro tm ⟨iL, jg, ky, kz, l9, oq, _⟩
 cases im : (RU)
 ·simp only [im, hs] at h
  simp only [vz, tyf, dN, dh, iL, jg, ky, kz, l9, oq, im, nm, seval]
  refine ktree0 rV ?_
  try simp only [vz, tyf, dN, dh, iL, jg, ky, kz, l9, oq, im, nm, seval]
  obtain rfl := kF _ h
  exact bz Tryz.results8 rfl
 simp only [im, hs] at h
 obtain ⟨RV, wE, h⟩ := optI h kN
 try simp only [hs] at h
 simp only [vz, tyf, dN, dh, iL, jg, ky, kz, l9, oq, im, nm, seval]
 refine ktA (VA _ _ _ wE) ?_
 refine bM (fun tm => tm 1 = .sl (ae eI aq) (List.length aq) false ∧ tm 2 = .sl (ae eI au) (List.length au) false ∧ tm 3 = .lit (.int .i64 bh) ∧ tm 4 = .ptr 0 0 ∧ tm 36 = .lit (.bool false) ∧ tm 39 = .lit (.bool RV) ∧ True) (by refine ⟨iL, jg, ky, kz, ?_, ?_, trivial⟩ <;> first | (simp only [ua, dN, dh, iL, jg, ky, kz, l9, oq, im, nm, seval] <;> rfl) | rfl) ?_
 rintro tm ⟨ot, At, oV, oW, qf, k6, _⟩
 cases jA : (RV)
 ·simp only [jA, hs] at h
  simp only [vz, tyf, dN, dh, im, ot, At, oV, oW, qf, k6, jA, nm, seval]
  refine ktree0 rV ?_
  try simp only [vz, tyf, dN, dh, im, ot, At, oV, oW, qf, k6, jA, nm, seval]
  obtain rfl := kF _ h
  exact bz Tryz.results8 rfl
 simp only [jA, hs] at h
 obtain ⟨RW, Xc, h⟩ := optI h kN
 try simp only [hs] at h
 simp only [vz, tyf, dN, dh, im, ot, At, oV, oW, qf, k6, jA, nm, seval]
 refine ktA (Kk _ _ _ Xc) ?_
 refine bM (fun tm => tm 1 = .sl (ae eI aq) (List.length aq) false ∧ tm 2 = .sl (ae eI au) (List.length au) false ∧ tm 3 = .lit (.int .i64 bh) ∧ tm 4 = .ptr 0 0 ∧ tm 42 = .lit (.bool false) ∧ tm 45 = .lit (.bool RW) ∧ True) (by refine ⟨ot, At, oV, oW, ?_, ?_, trivial⟩ <;> first | (simp only [ua, dN, dh, im, ot, At, oV, oW, qf, k6, jA, nm, seval] <;> rfl) | rfl) ?_
 rintro tm ⟨lr, qg, Au, qh, rW, rX, _⟩
 cases mc : (RW)
 ·simp only [mc, hs] at h
  simp only [vz, tyf, dN, dh, im, jA, lr, qg, Au, qh, rW, rX, mc, nm, seval]
  refine ktree0 rV ?_
  try simp only [vz, tyf, dN, dh, im, jA, lr, qg, Au, qh, rW, rX, mc, nm, seval]
  obtain rfl := kF _ h
  exact bz Tryz.results8 rfl
 simp only [mc, hs] at h
 obtain ⟨cA, Xd, h⟩ := optI h kN
 try simp only [hs] at h
 simp only [vz, tyf, dN, dh, im, jA, lr, qg, Au, qh, rW, rX, mc, nm, seval]
 refine ktA (Xe _ _ _ Xd) ?_
 refine bM (fun tm => tm 1 = .sl (ae eI aq) (List.length aq) false ∧ tm 2 = .sl (ae eI au) (List.length au) false ∧ tm 3 = .lit (.int .i64 bh) ∧ tm 4 = .ptr 0 0 ∧ tm 52 = .tup [.sl (ae eI cA.1) (List.length cA.1) false, .lit (.int .i64 cA.2)] ∧ True) (by refine ⟨lr, qg, Au, qh, ?_, trivial⟩ <;> first | (simp only [ua, dN, dh, im, jA, lr, qg, Au, qh, rW, rX, mc, nm, seval] <;> rfl) | rfl) ?_
 rintro tm ⟨MX, MY, MZ, Na, RX, _⟩
 obtain ⟨hU, Nb, h⟩ := optI h kN
 try simp only [hs] at h
 simp only [vz, tyf, dN, dh, im, jA, mc, MX, MY, MZ, Na, RX, nm, seval]
 refine ktA (SI _ _ _ Nb) ?_
 refine bM (fun tm => tm 1 = .sl (ae eI aq) (List.length aq) false ∧ tm 2 = .sl (ae eI au) (List.length au) false ∧ tm 3 = .lit (.int .i64 bh) ∧ tm 4 = .ptr 0 0 ∧ tm 9 = .sl (ae eI cA.1) (List.length cA.1) false ∧ tm 10 = .lit (.int .i64 cA.2) ∧ tm 58 = .tup [.sl (ae cGSpan hU.1) (List.length hU.1) false, .lit (.int .i64 hU.2)] ∧ True) (by refine ⟨MX, MY, MZ, Na, ?_, ?_, ?_, trivial⟩ <;> first | (simp only [ua, dN, dh, im, jA, mc, MX, MY, MZ, Na, RX, nm, seval] <;> rfl) | rfl) ?_
 rintro tm ⟨ub, uc, ud, ue, uf, ug, Av, _⟩
 obtain ⟨cm, Nc, h⟩ := optI h kN
 try simp only [hs] at h
 simp only [vz, tyf, dN, dh, im, jA, mc, ub, uc, ud, ue, uf, ug, Av, nm, seval]
 refine ktA (Tc _ _ _ _ Nc) ?_
 refine bM (fun tm => tm 1 = .sl (ae eI aq) (List.length aq) false ∧ tm 2 = .sl (ae eI au) (List.length au) false ∧ tm 3 = .lit (.int .i64 bh) ∧ tm 4 = .ptr 0 0 ∧ tm 9 = .sl (ae eI cA.1) (List.length cA.1) false ∧ tm 10 = .lit (.int .i64 cA.2) ∧ tm 11 = .sl (ae cGSpan hU.1) (List.length hU.1) false ∧ tm 12 = .lit (.int .i64 hU.2) ∧ tm 65 = .tup [.lit (.int .i64 cm.1), .lit (.int .i64 cm.2)] ∧ True) (by refine ⟨ub, uc, ud, ue, uf, ug, ?_, ?_, ?_, trivial⟩ <;> first | (simp only [ua, dN, dh, im, jA, mc, ub, uc, ud, ue, uf, ug, Av, nm, seval] <;> rfl) | rfl) ?_
 rintro tm ⟨iR, iS, iT, iU, iV, jB, iW, jC, jD, _⟩
 cases n7 : (cA.2 != 0)
 ·simp only [n7, hs] at h
  cases qi : (hU.2 != 0)
  ·simp only [qi, hs] at h
   have dw := And.intro dN (And.intro dh (And.intro im (And.intro jA (And.intro mc (And.intro n7 qi)))))
   cases cQ : (cm.2 != 0)
   ·simp only [cQ, hs] at h
    cases dc : (decide (cm.1 < 0))
    ·simp only [dc, hs] at h
     cases dp : (decide (cm.1 > 9))
     ·simp only [dp, hs] at h
      cases dx : ((List.length hU.1 : Int) != (List.length aq : Int))
      ·simp only [dx, hs] at h
       obtain ⟨Aw, Nd, h⟩ := optI h kN
       try simp only [hs] at h
       simp only [vz, tyf, dw, iR, iS, iT, iU, iV, jB, iW, jC, jD, cQ, dc, dp, dx, nm, seval]
       refine ktA (RY _ _ _ _ Nd) ?_
       refine bM (fun tm => tm 1 = .sl (ae eI aq) (List.length aq) false ∧ tm 2 = .sl (ae eI au) (List.length au) false ∧ tm 3 = .lit (.int .i64 bh) ∧ tm 4 = .ptr 0 0 ∧ tm 9 = .sl (ae eI cA.1) (List.length cA.1) false ∧ tm 11 = .sl (ae cGSpan hU.1) (List.length hU.1) false ∧ tm 13 = .lit (.int .i64 cm.1) ∧ tm 93 = .lit (.bool false) ∧ tm 97 = .lit (.bool Aw) ∧ True) (by refine ⟨iR, iS, iT, iU, iV, iW, ?_, ?_, ?_, trivial⟩ <;> first | (simp only [ua, dw, iR, iS, iT, iU, iV, jB, iW, jC, jD, cQ, dc, dp, dx, nm, seval] <;> rfl) | rfl) ?_
       rintro tm ⟨qj, qk, ql, qm, qn, qo, qp, uh, ui, _⟩
       cases ei : (Aw)
       ·simp only [ei, hs] at h
        try simp only [vz, tyf, dw, cQ, dc, dp, dx, qj, qk, ql, qm, qn, qo, qp, uh, ui, ei, nm, seval]
        obtain rfl := kF _ h
        exact bz Tryz.results8 rfl
       simp only [ei, hs] at h
       cases iq : (aF cA.1)
       ·simp only [iq, hs] at h
        exact absurd h kN
       simp only [iq, hs] at h
       simp only [vz, tyf, dw, cQ, dc, dp, dx, qj, qk, ql, qm, qn, qo, qp, uh, ui, ei, iq, nm, seval]
       obtain ⟨Nf, h, RZ, Ax, Sa, Ay⟩ := fa h kN
       obtain ⟨Ng, Az, h⟩ := call3 h
       obtain ⟨Nh, nC⟩ : ∃ I : Nat → St → Prop, I = (fun m st => ∃ (jE : List Int) (c8 : Int) (dy : Int), m = List.length jE ∧ 0 ≤ c8 ∧ List.drop (Int.toNat c8) cA.1 = jE ∧ st.df = [] ∧ 87 ≤ st.nx ∧ st.H 0 = some (.cells (some 25) (cGBk ak)) ∧ st.tm 1 = .sl (ae eI aq) (List.length aq) false ∧ st.tm 2 = .sl (ae eI au) (List.length au) false ∧ st.tm 3 = .lit (.int .i64 bh) ∧ st.tm 4 = .ptr 0 0 ∧ st.tm 9 = .sl (ae eI cA.1) (List.length cA.1) false ∧ st.tm 11 = .sl (ae cGSpan hU.1) (List.length hU.1) false ∧ st.tm 13 = .lit (.int .i64 cm.1) ∧ st.tm 16 = .lit (.int .i64 0) ∧ st.tm 15 = .lit (.int .i64 dy) ∧ st.tm 17 = .lit (.int .i64 c8) ∧ Nf (Ng jE c8 dy)) := ⟨_, rfl⟩
       refine loopK mixed (lk (by kernel_rfl)) Nh (List.length cA.1) (by rw [nC]; refine ⟨cA.1, 0, 0, rfl, Int.le_refl _, rfl, rfl, (show 87 ≤ 87 by omega), ?_, qj, qk, ql, qm, qn, qo, qp, ?_, ?_, ?_, h⟩ <;> first | (simp only [ua, dw, cQ, dc, dp, dx, qj, qk, ql, qm, qn, qo, qp, uh, ui, ei, nm, seval] <;> rfl) | rfl) ?_
       rintro m ⟨tm, H, gR, df⟩ hinv
       rw [nC] at hinv
       obtain ⟨jE, c8, dy, rfl, iH, jF, hdf, AA, md, kD, kE, kG, kH, kI, kJ, kK, kL, kM, me, h⟩ := hinv
       simp only at hdf AA md kD kE kG kH kI kJ kK kL kM me
       have iX := fb (m := 87) (b := gR) (by omega)
       subst hdf Az
       cases jE with
       | nil =>
        have kO : (decide (c8 < (List.length cA.1 : Int))) = false := fc iH jF
        simp only [tZ, hs, reduceCtorEq] at h
        replace h := Ax _ h
        try dsimp only at h
        try simp only [hs] at h
        cases kP : (aF hU.1)
        ·simp only [kP, hs] at h
         exact absurd h kN
        simp only [kP, hs] at h
        simp only [vz, tyf, dw, cQ, dc, dp, dx, ei, iq, iX, kD, kE, kG, kH, kI, kJ, kK, kL, kM, me, md, kO, kP, nm, seval]
        obtain ⟨Ni, h, Sb, AB, Sc, Sd⟩ := fa h kN
        obtain ⟨Nj, AD, h⟩ := call3 h
        obtain ⟨Nk, nD⟩ : ∃ I : Nat → St → Prop, I = (fun m st => ∃ (jG : List GSpan) (cX : Int) (bA : Int), m = List.length jG ∧ 0 ≤ cX ∧ List.drop (Int.toNat cX) hU.1 = jG ∧ st.df = [] ∧ gR + 5 ≤ st.nx ∧ st.H 0 = some (.cells (some 25) (cGBk ak)) ∧ st.tm 1 = .sl (ae eI aq) (List.length aq) false ∧ st.tm 2 = .sl (ae eI au) (List.length au) false ∧ st.tm 3 = .lit (.int .i64 bh) ∧ st.tm 4 = .ptr 0 0 ∧ st.tm 9 = .sl (ae eI cA.1) (List.length cA.1) false ∧ st.tm 11 = .sl (ae cGSpan hU.1) (List.length hU.1) false ∧ st.tm 13 = .lit (.int .i64 cm.1) ∧ st.tm 15 = .lit (.int .i64 dy) ∧ st.tm 16 = .lit (.int .i64 bA) ∧ st.tm 18 = .lit (.int .i64 cX) ∧ Ni (Nj jG cX bA)) := ⟨_, rfl⟩
        refine loopK mixed (lk (by kernel_rfl)) Nk (List.length hU.1) (by rw [nD]; refine ⟨hU.1, 0, 0, rfl, Int.le_refl _, rfl, rfl, (show gR + 5 ≤ gR + 5 by omega), ?_, kD, kE, kG, kH, kI, kJ, kK, kM, kL, ?_, h⟩ <;> first | (simp only [ua, dw, cQ, dc, dp, dx, ei, iX, kD, kE, kG, kH, kI, kJ, kK, kL, kM, me, md, kO, nm, seval] <;> rfl) | rfl) ?_
        rintro m ⟨tm, H, nE, df⟩ hinv
        rw [nD] at hinv
        obtain ⟨jG, cX, bA, rfl, iI, jH, hdf, AE, nG, jI, jJ, jK, jL, jM, kQ, jN, kR, kS, mf, h⟩ := hinv
        simp only at hdf AE nG jI jJ jK jL jM kQ jN kR kS mf
        have qs := fb (m := 87) (b := nE) (by omega)
        have qt := mn (a := gR) (m := 5) (b := nE) (by omega)
        subst hdf AD
        cases jG with
        | nil =>
         have AF : (decide (cX < (List.length hU.1 : Int))) = false := fc iI jH
         simp only [tY, hs, reduceCtorEq] at h
         replace h := AB _ h
         try dsimp only at h
         try simp only [hs] at h
         obtain ⟨J1, Nl⟩ : ∃ I : St → Prop, I = (fun st => st.df = [] ∧ 87 ≤ st.nx ∧ st.H 0 = some (.cells (some 25) (cGBk ak)) ∧ st.tm 1 = .sl (ae eI aq) (List.length aq) false ∧ st.tm 2 = .sl (ae eI au) (List.length au) false ∧ st.tm 3 = .lit (.int .i64 bh) ∧ st.tm 4 = .ptr 0 0 ∧ st.tm 9 = .sl (ae eI cA.1) (List.length cA.1) false ∧ st.tm 13 = .lit (.int .i64 cm.1) ∧ st.tm 16 = .lit (.int .i64 bA) ∧ KF (wD ak aq au bh cA.1 cm.1 bA)) := ⟨_, rfl⟩
         refine Ar J1 ?_ ?_
         ·cases qu : (dy != bA)
          ·simp only [qu, hs] at h
           have eF := And.intro dw (And.intro cQ (And.intro dc (And.intro dp (And.intro dx (And.intro ei (And.intro iq (And.intro iX (And.intro kO (And.intro kP (And.intro qs (And.intro qt (And.intro nG (And.intro AF qu)))))))))))))
           obtain ⟨AG, Nm, h⟩ := optI h kN
           try simp only [hs] at h
           simp only [vz, tyf, eF, jI, jJ, jK, jL, jM, kQ, jN, kR, kS, mf, nm, seval]
           refine ktA (CY _ _ _ Nm) ?_
           refine bM (fun tm => tm 1 = .sl (ae eI aq) (List.length aq) false ∧ tm 2 = .sl (ae eI au) (List.length au) false ∧ tm 3 = .lit (.int .i64 bh) ∧ tm 4 = .ptr 0 0 ∧ tm 9 = .sl (ae eI cA.1) (List.length cA.1) false ∧ tm 13 = .lit (.int .i64 cm.1) ∧ tm 16 = .lit (.int .i64 bA) ∧ tm 134 = .lit (.bool false) ∧ tm 137 = .lit (.bool AG) ∧ True) (by refine ⟨jI, jJ, jK, jL, jM, jN, kS, ?_, ?_, trivial⟩ <;> first | (simp only [ua, eF, jI, jJ, jK, jL, jM, kQ, jN, kR, kS, mf, nm, seval] <;> rfl) | rfl) ?_
           rintro tm ⟨ir, iu, iv, iw, ix, iy, iz, nH, nI, _⟩
           cases kT : (AG)
           ·simp only [kT, hs] at h
            simp only [vz, tyf, eF, ir, iu, iv, iw, ix, iy, iz, nH, nI, kT, nm, seval]
            rw [Nl]
            refine ⟨rfl, (by dsimp only; omega), ?_, ?_, ?_, ?_, ?_, ?_, ?_, ?_, h⟩ <;> first | assumption | (simp only [ua, eF, ir, iu, iv, iw, ix, iy, iz, nH, nI, kT, nm, seval] <;> rfl) | rfl
           simp only [kT, hs] at h
           cases qv : (cm.1 != 0)
           ·simp only [qv, hs] at h
            simp only [vz, tyf, eF, ir, iu, iv, iw, ix, iy, iz, nH, nI, kT, qv, nm, seval]
            rw [Nl]
            refine ⟨rfl, (by dsimp only; omega), ?_, ?_, ?_, ?_, ?_, ?_, ?_, ?_, h⟩ <;> first | assumption | (simp only [ua, eF, ir, iu, iv, iw, ix, iy, iz, nH, nI, kT, nm, seval] <;> rfl) | rfl
           simp only [qv, hs] at h
           try simp only [vz, tyf, eF, ir, iu, iv, iw, ix, iy, iz, nH, nI, kT, qv, nm, seval]
           obtain rfl := kF _ h
           exact bz Tryz.results8 rfl
          simp only [qu, hs] at h
          have Nn := And.intro dw (And.intro cQ (And.intro dc (And.intro dp (And.intro dx (And.intro ei (And.intro iq (And.intro iX (And.intro kO (And.intro kP (And.intro qs (And.intro qt (And.intro nG (And.intro AF qu)))))))))))))
          try simp only [vz, tyf, Nn, jI, jJ, jK, jL, jM, kQ, jN, kR, kS, mf, nm, seval]
          obtain rfl := kF _ h
          exact bz Tryz.results8 rfl
         ·rintro ⟨tm, H, AH, df⟩ hst
          rw [Nl] at hst
          obtain ⟨hdf, AI, AJ, ir, iu, iv, iw, ix, iy, iz, h⟩ := hst
          simp only at hdf AI AJ ir iu iv iw ix iy iz
          subst hdf
          simp only [wD] at h
          have eF := And.intro cQ (And.intro dc (And.intro dp (And.intro dx (And.intro ei (And.intro AJ (fb (m := 87) (b := AH) (by omega)))))))
          cases jO : (aF au)
          ·simp only [jO, hs] at h
           exact absurd h kN
          simp only [jO, hs] at h
          simp only [vz, tyf, eF, ir, iu, iv, iw, ix, iy, iz, jO, nm, seval]
          obtain ⟨No, h, Se, lx, Sf, fZ⟩ := fa h kN
          obtain ⟨Np, AK, h⟩ := call4 h
          obtain ⟨Nq, jP⟩ : ∃ I : Nat → St → Prop, I = (fun m st => ∃ (gn : List Int) (bB : Int) (bI : Int) (bJ : Bool), m = List.length gn ∧ 0 ≤ bB ∧ List.drop (Int.toNat bB) au = gn ∧ st.df = [] ∧ 87 ≤ st.nx ∧ st.H 0 = some (.cells (some 25) (cGBk ak)) ∧ st.tm 1 = .sl (ae eI aq) (List.length aq) false ∧ st.tm 2 = .sl (ae eI au) (List.length au) false ∧ st.tm 3 = .lit (.int .i64 bh) ∧ st.tm 4 = .ptr 0 0 ∧ st.tm 9 = .sl (ae eI cA.1) (List.length cA.1) false ∧ st.tm 13 = .lit (.int .i64 cm.1) ∧ st.tm 16 = .lit (.int .i64 bA) ∧ st.tm 19 = .lit (.int .i64 bI) ∧ st.tm 20 = .lit (.bool bJ) ∧ st.tm 21 = .lit (.int .i64 bB) ∧ No (Np gn bB bI bJ)) := ⟨_, rfl⟩
          refine loopK mixed (lk (by kernel_rfl)) Nq (List.length au) (by rw [jP]; refine ⟨au, 0, 0, true, rfl, Int.le_refl _, rfl, rfl, (by dsimp only; omega), ?_, ir, iu, iv, iw, ix, iy, iz, ?_, ?_, ?_, h⟩ <;> first | (simp only [ua, eF, ir, iu, iv, iw, ix, iy, iz, nm, seval] <;> rfl) | rfl) ?_
          rintro m ⟨tm, H, ly, df⟩ hinv
          rw [jP] at hinv
          obtain ⟨gn, bB, bI, bJ, rfl, eu, gS, hdf, AL, mg, fD, eT, eU, fE, eW, eX, iY, iZ, ja, jb, h⟩ := hinv
          simp only at hdf AL mg fD eT eU fE eW eX iY iZ ja jb
          have nJ := fb (m := 87) (b := ly) (by omega)
          subst hdf AK
          obtain ⟨J2, wF⟩ : ∃ I : St → Prop, I = (fun st => st.df = [] ∧ 87 ≤ st.nx ∧ st.H 0 = some (.cells (some 25) (cGBk ak)) ∧ st.tm 1 = .sl (ae eI aq) (List.length aq) false ∧ st.tm 2 = .sl (ae eI au) (List.length au) false ∧ st.tm 3 = .lit (.int .i64 bh) ∧ st.tm 4 = .ptr 0 0 ∧ st.tm 9 = .sl (ae eI cA.1) (List.length cA.1) false ∧ st.tm 13 = .lit (.int .i64 cm.1) ∧ KF (w8 ak aq au bh cA.1 cm.1)) := ⟨_, rfl⟩
          refine Ar J2 ?_ ?_
          ·cases gn with
           | nil =>
            have AM : (decide (bB < (List.length au : Int))) = false := fc eu gS
            simp only [qe, hs, reduceCtorEq] at h
            replace h := lx _ h
            try dsimp only at h
            try simp only [hs] at h
            cases qw : (bJ)
            ·simp only [qw, hs] at h
             have dT := And.intro eF (And.intro jO (And.intro nJ (And.intro mg (And.intro AM qw))))
             simp only [vz, tyf, dT, fD, eT, eU, fE, eW, eX, iY, iZ, ja, jb, nm, seval]
             rw [wF]
             refine ⟨rfl, (by dsimp only; omega), ?_, ?_, ?_, ?_, ?_, ?_, ?_, h⟩ <;> first | assumption | (simp only [ua, dT, fD, eT, eU, fE, eW, eX, iY, iZ, ja, jb, nm, seval] <;> rfl) | rfl
            simp only [qw, hs] at h
            have uj := And.intro eF (And.intro jO (And.intro nJ (And.intro mg (And.intro AM qw))))
            cases nK : (decide (bI > bA))
            ·simp only [nK, hs] at h
             simp only [vz, tyf, uj, fD, eT, eU, fE, eW, eX, iY, iZ, ja, jb, nK, nm, seval]
             rw [wF]
             refine ⟨rfl, (by dsimp only; omega), ?_, ?_, ?_, ?_, ?_, ?_, ?_, h⟩ <;> first | assumption | (simp only [ua, uj, nK, fD, eT, eU, fE, eW, eX, iY, iZ, ja, jb, nm, seval] <;> rfl) | rfl
            simp only [nK, hs] at h
            try simp only [vz, tyf, uj, fD, eT, eU, fE, eW, eX, iY, iZ, ja, jb, nK, nm, seval]
            obtain rfl := kF _ h
            exact bz Tryz.results8 rfl
           | cons Nr gn =>
            have uk : (decide (bB < (List.length au : Int))) = true := fe eu gS
            have gp := dD eu gS
            have um := eG eu gS jO
            simp only [qe, hs, reduceCtorEq] at h
            simp only [vz, tyf, eF, jO, nJ, fD, eT, eU, fE, eW, eX, iY, iZ, ja, jb, mg, uk, (aw gp), um, nm, seval]
            refine j3 (fun tm => tm 1 = .sl (ae eI aq) (List.length aq) false ∧ tm 2 = .sl (ae eI au) (List.length au) false ∧ tm 3 = .lit (.int .i64 bh) ∧ tm 4 = .ptr 0 0 ∧ tm 9 = .sl (ae eI cA.1) (List.length cA.1) false ∧ tm 13 = .lit (.int .i64 cm.1) ∧ tm 16 = .lit (.int .i64 bA) ∧ tm 19 = .lit (.int .i64 bI) ∧ tm 20 = .lit (.bool bJ) ∧ tm 21 = .lit (.int .i64 bB) ∧ True) (by refine ⟨fD, eT, eU, fE, eW, eX, iY, iZ, ja, jb, trivial⟩ <;> first | (simp only [ua, eF, nJ, fD, eT, eU, fE, eW, eX, iY, iZ, ja, jb, mg, uk, um, nm, seval] <;> rfl) | rfl) ?_
            rintro tm ⟨uo, uq, ur, uu, uv, ux, uy, uz, u5, u6, _⟩
            have cw := And.intro eF (And.intro jO (And.intro nJ (And.intro mg (And.intro uk um))))
            obtain ⟨AN, Ns, h⟩ := optI h fZ
            try simp only [hs] at h
            simp only [vz, tyf, cw, (aw gp), uo, uq, ur, uu, uv, ux, uy, uz, u5, u6, nm, seval]
            refine dktA (Kk _ _ _ Ns) ?_
            refine bM (fun tm => tm 1 = .sl (ae eI aq) (List.length aq) false ∧ tm 2 = .sl (ae eI au) (List.length au) false ∧ tm 3 = .lit (.int .i64 bh) ∧ tm 4 = .ptr 0 0 ∧ tm 9 = .sl (ae eI cA.1) (List.length cA.1) false ∧ tm 13 = .lit (.int .i64 cm.1) ∧ tm 16 = .lit (.int .i64 bA) ∧ tm 19 = .lit (.int .i64 bI) ∧ tm 20 = .lit (.bool bJ) ∧ tm 21 = .lit (.int .i64 bB) ∧ tm 154 = .lit (.bool AN) ∧ True) (by refine ⟨uo, uq, ur, uu, uv, ux, uy, uz, u5, u6, ?_, trivial⟩ <;> first | (simp only [ua, cw, uo, uq, ur, uu, uv, ux, uy, uz, u5, u6, nm, seval] <;> rfl) | rfl) ?_
            rintro tm ⟨fF, fG, fH, fI, fJ, fK, fL, fM, fN, fO, i0, _⟩
            cases cy : (AN)
            ·simp only [cy, hs] at h
             replace h := lx _ h
             try dsimp only at h
             try simp only [hs] at h
             simp only [vz, tyf, cw, (aw gp), fF, fG, fH, fI, fJ, fK, fL, fM, fN, fO, i0, cy, nm, seval]
             rw [wF]
             refine ⟨rfl, (by dsimp only; omega), ?_, ?_, ?_, ?_, ?_, ?_, ?_, h⟩ <;> first | assumption | (simp only [ua, cw, cy, fF, fG, fH, fI, fJ, fK, fL, fM, fN, fO, i0, nm, seval] <;> rfl) | rfl
            simp only [cy, hs] at h
            cases cG : (decide (bB > 0))
            ·simp only [cG, hs] at h
             simp only [vz, tyf, cw, (aw gp), fF, fG, fH, fI, fJ, fK, fL, fM, fN, fO, i0, cy, cG, nm, seval]
             refine j3 (fun tm => tm 1 = .sl (ae eI aq) (List.length aq) false ∧ tm 2 = .sl (ae eI au) (List.length au) false ∧ tm 3 = .lit (.int .i64 bh) ∧ tm 4 = .ptr 0 0 ∧ tm 9 = .sl (ae eI cA.1) (List.length cA.1) false ∧ tm 13 = .lit (.int .i64 cm.1) ∧ tm 16 = .lit (.int .i64 bA) ∧ tm 19 = .lit (.int .i64 bI) ∧ tm 20 = .lit (.bool bJ) ∧ tm 21 = .lit (.int .i64 bB) ∧ True) (by refine ⟨fF, fG, fH, fI, fJ, fK, fL, fM, fN, fO, trivial⟩ <;> first | (simp only [ua, cw, fF, fG, fH, fI, fJ, fK, fL, fM, fN, fO, i0, cy, cG, nm, seval] <;> rfl) | rfl) ?_
             rintro tm ⟨u7, u9, uA, uB, uC, uD, uE, AO, uF, AP, _⟩
             obtain ⟨Nt, Nu, h⟩ := optI h fZ
             try simp only [hs] at h
             simp only [vz, tyf, cw, (aw gp), cy, cG, u7, u9, uA, uB, uC, uD, uE, AO, uF, AP, (aM Nu), nm, seval]
             exact ⟨List.length gn, Nat.lt_succ_self _, by rw [jP]; refine ⟨gn, bB + 1, i64.wrap (bI + Nt.Hours.High), bJ, rfl, Int.le_trans eu (Int.le_add_one (Int.le_refl _)), cC eu gS, rfl, (show 87 ≤ ly + 79 by omega), ?_, u7, u9, uA, uB, uC, uD, uE, ?_, uF, ?_, (by first | exact h | (simp only [cw, cy, cG]; exact h))⟩ <;> first | (simp only [ua, cw, cy, cG, u7, u9, uA, uB, uC, uD, uE, AO, uF, AP, nm, seval] <;> rfl) | rfl⟩
            simp only [cG, hs] at h
            obtain ⟨Nv, kU, h⟩ := optI h fZ
            try simp only [hs] at h
            cases dJ : (decide (Nr ≤ Nv))
            ·simp only [dJ, hs] at h
             obtain ⟨Nw, mh, h⟩ := optI h fZ
             try simp only [hs] at h
             obtain ⟨Ny, mi, h⟩ := optI h fZ
             try simp only [hs] at h
             cases ej : (Nw != Ny)
             ·simp only [ej, hs] at h
              simp only [vz, tyf, cw, (aw gp), fF, fG, fH, fI, fJ, fK, fL, fM, fN, fO, i0, cy, cG, (aw kU), dJ, (aw mh), (aw mi), ej, nm, seval]
              refine j3 (fun tm => tm 1 = .sl (ae eI aq) (List.length aq) false ∧ tm 2 = .sl (ae eI au) (List.length au) false ∧ tm 3 = .lit (.int .i64 bh) ∧ tm 4 = .ptr 0 0 ∧ tm 9 = .sl (ae eI cA.1) (List.length cA.1) false ∧ tm 13 = .lit (.int .i64 cm.1) ∧ tm 16 = .lit (.int .i64 bA) ∧ tm 19 = .lit (.int .i64 bI) ∧ tm 20 = .lit (.bool bJ) ∧ tm 21 = .lit (.int .i64 bB) ∧ True) (by refine ⟨fF, fG, fH, fI, fJ, fK, fL, fM, fN, fO, trivial⟩ <;> first | (simp only [ua, cw, fF, fG, fH, fI, fJ, fK, fL, fM, fN, fO, i0, cy, cG, dJ, ej, nm, seval] <;> rfl) | rfl) ?_
              rintro tm ⟨uG, uH, uI, uJ, uK, uL, uM, AQ, uN, AR, _⟩
              obtain ⟨Nz, N0, h⟩ := optI h fZ
              try simp only [hs] at h
              simp only [vz, tyf, cw, (aw gp), cy, cG, (aw kU), dJ, (aw mh), (aw mi), ej, uG, uH, uI, uJ, uK, uL, uM, AQ, uN, AR, (aM N0), nm, seval]
              exact ⟨List.length gn, Nat.lt_succ_self _, by rw [jP]; refine ⟨gn, bB + 1, i64.wrap (bI + Nz.Hours.High), bJ, rfl, Int.le_trans eu (Int.le_add_one (Int.le_refl _)), cC eu gS, rfl, (show 87 ≤ ly + 79 by omega), ?_, uG, uH, uI, uJ, uK, uL, uM, ?_, uN, ?_, (by first | exact h | (simp only [cw, cy, cG, dJ, ej]; exact h))⟩ <;> first | (simp only [ua, cw, cy, cG, dJ, ej, uG, uH, uI, uJ, uK, uL, uM, AQ, uN, AR, nm, seval] <;> rfl) | rfl⟩
             simp only [ej, hs] at h
             obtain ⟨N1, qx, h⟩ := optI h fZ
             try simp only [hs] at h
             obtain ⟨AS, N2, h⟩ := optI h fZ
             try simp only [hs] at h
             simp only [vz, tyf, cw, (aw gp), fF, fG, fH, fI, fJ, fK, fL, fM, fN, fO, i0, cy, cG, (aw kU), dJ, (aw mh), (aw mi), ej, (aM qx), nm, seval]
             refine dktA (CY _ _ _ N2) ?_
             refine bM (fun tm => tm 1 = .sl (ae eI aq) (List.length aq) false ∧ tm 2 = .sl (ae eI au) (List.length au) false ∧ tm 3 = .lit (.int .i64 bh) ∧ tm 4 = .ptr 0 0 ∧ tm 9 = .sl (ae eI cA.1) (List.length cA.1) false ∧ tm 13 = .lit (.int .i64 cm.1) ∧ tm 16 = .lit (.int .i64 bA) ∧ tm 19 = .lit (.int .i64 bI) ∧ tm 20 = .lit (.bool bJ) ∧ tm 21 = .lit (.int .i64 bB) ∧ tm 156 = .lit (.bool false) ∧ tm 159 = .lit (.bool true) ∧ tm 170 = .lit (.bool false) ∧ tm 187 = .lit (.bool true) ∧ tm 202 = .lit (.bool AS) ∧ True) (by refine ⟨fF, fG, fH, fI, fJ, fK, fL, fM, fN, fO, ?_, ?_, ?_, ?_, ?_, trivial⟩ <;> first | (simp only [ua, cw, fF, fG, fH, fI, fJ, fK, fL, fM, fN, fO, i0, cy, cG, dJ, ej, nm, seval] <;> rfl) | rfl) ?_
             rintro tm ⟨nL, nM, nN, nO, nP, nQ, nR, nS, nT, nU, qy, qz, q9, qA, qB, _⟩
             cases jc : (AS)
             ·simp only [jc, hs] at h
              replace h := lx _ h
              try dsimp only at h
              try simp only [hs] at h
              simp only [vz, tyf, cw, (aw gp), cy, cG, (aw kU), dJ, (aw mh), (aw mi), ej, (aM qx), nL, nM, nN, nO, nP, nQ, nR, nS, nT, nU, qy, qz, q9, qA, qB, jc, nm, seval]
              rw [wF]
              refine ⟨rfl, (by dsimp only; omega), ?_, ?_, ?_, ?_, ?_, ?_, ?_, h⟩ <;> first | assumption | (simp only [ua, cw, cy, cG, dJ, ej, jc, nL, nM, nN, nO, nP, nQ, nR, nS, nT, nU, qy, qz, q9, qA, qB, nm, seval] <;> rfl) | rfl
             simp only [jc, hs] at h
             simp only [vz, tyf, cw, (aw gp), cy, cG, (aw kU), dJ, (aw mh), (aw mi), ej, (aM qx), nL, nM, nN, nO, nP, nQ, nR, nS, nT, nU, qy, qz, q9, qA, qB, jc, nm, seval]
             refine j3 (fun tm => tm 1 = .sl (ae eI aq) (List.length aq) false ∧ tm 2 = .sl (ae eI au) (List.length au) false ∧ tm 3 = .lit (.int .i64 bh) ∧ tm 4 = .ptr 0 0 ∧ tm 9 = .sl (ae eI cA.1) (List.length cA.1) false ∧ tm 13 = .lit (.int .i64 cm.1) ∧ tm 16 = .lit (.int .i64 bA) ∧ tm 19 = .lit (.int .i64 bI) ∧ tm 20 = .lit (.bool bJ) ∧ tm 21 = .lit (.int .i64 bB) ∧ True) (by refine ⟨nL, nM, nN, nO, nP, nQ, nR, nS, nT, nU, trivial⟩ <;> first | (simp only [ua, cw, cy, cG, dJ, ej, nL, nM, nN, nO, nP, nQ, nR, nS, nT, nU, qy, qz, q9, qA, qB, jc, nm, seval] <;> rfl) | rfl) ?_
             rintro tm ⟨uO, uP, uQ, uR, uS, uT, uU, AT, uW, AU, _⟩
             simp only [vz, tyf, cw, (aw gp), cy, cG, (aw kU), dJ, (aw mh), (aw mi), ej, (aM qx), jc, uO, uP, uQ, uR, uS, uT, uU, AT, uW, AU, nm, seval]
             exact ⟨List.length gn, Nat.lt_succ_self _, by rw [jP]; refine ⟨gn, bB + 1, i64.wrap (bI + N1.Hours.High), bJ, rfl, Int.le_trans eu (Int.le_add_one (Int.le_refl _)), cC eu gS, rfl, (show 87 ≤ ly + 79 by omega), ?_, uO, uP, uQ, uR, uS, uT, uU, ?_, uW, ?_, (by first | exact h | (simp only [cw, cy, cG, dJ, ej, jc]; exact h))⟩ <;> first | (simp only [ua, cw, cy, cG, dJ, ej, jc, uO, uP, uQ, uR, uS, uT, uU, AT, uW, AU, nm, seval] <;> rfl) | rfl⟩
            simp only [dJ, hs] at h
            replace h := lx _ h
            try dsimp only at h
            try simp only [hs] at h
            simp only [vz, tyf, cw, (aw gp), fF, fG, fH, fI, fJ, fK, fL, fM, fN, fO, i0, cy, cG, (aw kU), dJ, nm, seval]
            rw [wF]
            refine ⟨rfl, (by dsimp only; omega), ?_, ?_, ?_, ?_, ?_, ?_, ?_, h⟩ <;> first | assumption | (simp only [ua, cw, cy, cG, dJ, fF, fG, fH, fI, fJ, fK, fL, fM, fN, fO, i0, nm, seval] <;> rfl) | rfl
          ·rintro ⟨tm, H, AV, df⟩ hst
           rw [wF] at hst
           obtain ⟨hdf, AW, AX, fD, eT, eU, fE, eW, eX, h⟩ := hst
           simp only at hdf AW AX fD eT eU fE eW eX
           subst hdf
           have dT := And.intro AX (fb (m := 87) (b := AV) (by omega))
           simp only [w8] at h
           obtain ⟨AY, N3, h⟩ := optI h kN
           try simp only [hs] at h
           simp only [vz, tyf, dT, fD, eT, eU, fE, eW, eX, nm, seval]
           refine ktA (RY _ _ _ _ N3) ?_
           refine bM (fun tm => tm 2 = .sl (ae eI au) (List.length au) false ∧ tm 3 = .lit (.int .i64 bh) ∧ tm 9 = .sl (ae eI cA.1) (List.length cA.1) false ∧ tm 13 = .lit (.int .i64 cm.1) ∧ tm 229 = .lit (.bool AY) ∧ True) (by refine ⟨eT, eU, eW, eX, ?_, trivial⟩ <;> first | (simp only [ua, dT, fD, eT, eU, fE, eW, eX, nm, seval] <;> rfl) | rfl) ?_
           rintro tm ⟨nV, nW, qC, nX, qD, _⟩
           cases eY : (AY)
           ·simp only [eY, hs] at h
            simp only [vz, tyf, dT, nV, nW, qC, nX, qD, eY, nm, seval]
            refine ktree0 rV ?_
            try simp only [vz, tyf, dT, nV, nW, qC, nX, qD, eY, nm, seval]
            obtain rfl := kF _ h
            exact bz Tryz.results8 rfl
           simp only [eY, hs] at h
           obtain ⟨AZ, N4, h⟩ := optI h kN
           try simp only [hs] at h
           simp only [vz, tyf, dT, nV, nW, qC, nX, qD, eY, nm, seval]
           refine ktA (Xf _ _ _ N4) ?_
           refine bM (fun tm => tm 2 = .sl (ae eI au) (List.length au) false ∧ tm 3 = .lit (.int .i64 bh) ∧ tm 13 = .lit (.int .i64 cm.1) ∧ tm 232 = .lit (.bool false) ∧ tm 235 = .lit (.bool AZ) ∧ True) (by refine ⟨nV, nW, nX, ?_, ?_, trivial⟩ <;> first | (simp only [ua, dT, nV, nW, qC, nX, qD, eY, nm, seval] <;> rfl) | rfl) ?_
           rintro tm ⟨uX, uY, qE, uZ, va, _⟩
           cases i5 : (AZ)
           ·simp only [i5, hs] at h
            obtain ⟨Ba, N5, h⟩ := optI h kN
            try simp only [hs] at h
            simp only [vz, tyf, dT, eY, uX, uY, qE, uZ, va, i5, nm, seval]
            refine ktA (CY _ _ _ N5) ?_
            refine bM (fun tm => tm 13 = .lit (.int .i64 cm.1) ∧ tm 232 = .lit (.bool false) ∧ tm 237 = .lit (.bool true) ∧ tm 240 = .lit (.bool Ba) ∧ True) (by refine ⟨qE, ?_, ?_, ?_, trivial⟩ <;> first | (simp only [ua, dT, eY, uX, uY, qE, uZ, va, i5, nm, seval] <;> rfl) | rfl) ?_
            rintro tm ⟨nY, nZ, oa, oc, _⟩
            cases kV : (Ba)
            ·simp only [kV, hs] at h
             simp only [vz, tyf, dT, eY, i5, nY, nZ, oa, oc, kV, nm, seval]
             refine ktree0 rV ?_
             try simp only [vz, tyf, dT, eY, i5, nY, nZ, oa, oc, kV, nm, seval]
             obtain rfl := kF _ h
             exact bz Tryz.results8 rfl
            simp only [kV, hs] at h
            cases od : (cm.1 == 0)
            ·simp only [od, hs] at h
             try simp only [vz, tyf, dT, eY, i5, nY, nZ, oa, oc, kV, od, nm, seval]
             obtain rfl := kF _ h
             exact bz Tryz.results8 rfl
            simp only [od, hs] at h
            simp only [vz, tyf, dT, eY, i5, nY, nZ, oa, oc, kV, od, nm, seval]
            refine ktree0 rV ?_
            try simp only [vz, tyf, dT, eY, i5, nY, nZ, oa, oc, kV, od, nm, seval]
            obtain rfl := kF _ h
            exact bz Tryz.results8 rfl
           simp only [i5, hs] at h
           try simp only [vz, tyf, dT, eY, uX, uY, qE, uZ, va, i5, nm, seval]
           obtain rfl := kF _ h
           exact bz Tryz.results8 rfl
        | cons Bc jG =>
         have vb : (decide (cX < (List.length hU.1 : Int))) = true := fe iI jH
         have N6 := dD iI jH
         have Bd := eG iI jH kP
         simp only [tY, hs, reduceCtorEq] at h
         simp only [vz, tyf, dw, cQ, dc, dp, dx, ei, iq, iX, kO, kP, qs, qt, jI, jJ, jK, jL, jM, kQ, jN, kR, kS, mf, nG, vb, (Ig N6), Bd, nm, seval]
         exact ⟨List.length jG, Nat.lt_succ_self _, by rw [nD]; refine ⟨jG, cX + 1, (if bA < Bc.High then Bc.High else bA), rfl, Int.le_trans iI (Int.le_add_one (Int.le_refl _)), cC iI jH, rfl, (show gR + 5 ≤ nE + 15 by omega), ?_, jI, jJ, jK, jL, jM, kQ, jN, kR, ?_, ?_, (by first | exact h | (simp only [dw, cQ, dc, dp, dx, ei, kO, vb]; exact h))⟩ <;> first | (simp only [ua, dw, cQ, dc, dp, dx, ei, iX, kO, qs, qt, jI, jJ, jK, jL, jM, kQ, jN, kR, kS, mf, nG, vb, Bd, nm, seval] <;> rfl) | rfl⟩
       | cons Xg jE =>
        have vc : (decide (c8 < (List.length cA.1 : Int))) = true := fe iH jF
        have Be := dD iH jF
        have vd := eG iH jF iq
        simp only [tZ, hs, reduceCtorEq] at h
        simp only [vz, tyf, dw, cQ, dc, dp, dx, ei, iq, iX, kD, kE, kG, kH, kI, kJ, kK, kL, kM, me, md, vc, (aw Be), vd, nm, seval]
        refine j3 (fun tm => tm 1 = .sl (ae eI aq) (List.length aq) false ∧ tm 2 = .sl (ae eI au) (List.length au) false ∧ tm 3 = .lit (.int .i64 bh) ∧ tm 4 = .ptr 0 0 ∧ tm 9 = .sl (ae eI cA.1) (List.length cA.1) false ∧ tm 11 = .sl (ae cGSpan hU.1) (List.length hU.1) false ∧ tm 13 = .lit (.int .i64 cm.1) ∧ tm 15 = .lit (.int .i64 dy) ∧ tm 16 = .lit (.int .i64 0) ∧ tm 17 = .lit (.int .i64 c8) ∧ True) (by refine ⟨kD, kE, kG, kH, kI, kJ, kK, kM, kL, me, trivial⟩ <;> first | (simp only [ua, dw, cQ, dc, dp, dx, ei, iX, kD, kE, kG, kH, kI, kJ, kK, kL, kM, me, md, vc, vd, nm, seval] <;> rfl) | rfl) ?_
        rintro tm ⟨vf, vg, vh, vi, vj, vk, vl, Bf, vm, Bh, _⟩
        have vn := And.intro dw (And.intro cQ (And.intro dc (And.intro dp (And.intro dx (And.intro ei (And.intro iq (And.intro iX (And.intro md (And.intro vc vd)))))))))
        obtain ⟨N7, N8, h⟩ := optI h Ay
        try simp only [hs] at h
        simp only [vz, tyf, vn, (aw Be), vf, vg, vh, vi, vj, vk, vl, Bf, vm, Bh, (aM N8), nm, seval]
        exact ⟨List.length jE, Nat.lt_succ_self _, by rw [nC]; refine ⟨jE, c8 + 1, i64.wrap (dy + N7.Hours.High), rfl, Int.le_trans iH (Int.le_add_one (Int.le_refl _)), cC iH jF, rfl, (show 87 ≤ gR + 20 by omega), ?_, vf, vg, vh, vi, vj, vk, vl, vm, ?_, ?_, (by first | exact h | (simp only [vn]; exact h))⟩ <;> first | (simp only [ua, vn, vf, vg, vh, vi, vj, vk, vl, Bf, vm, Bh, nm, seval] <;> rfl) | rfl⟩
      simp only [dx, hs] at h
      try simp only [vz, tyf, dw, iR, iS, iT, iU, iV, jB, iW, jC, jD, cQ, dc, dp, dx, nm, seval]
      obtain rfl := kF _ h
      exact bz Tryz.results8 rfl
     simp only [dp, hs] at h
     try simp only [vz, tyf, dw, iR, iS, iT, iU, iV, jB, iW, jC, jD, cQ, dc, dp, nm, seval]
     obtain rfl := kF _ h
     exact bz Tryz.results8 rfl
    simp only [dc, hs] at h
    try simp only [vz, tyf, dw, iR, iS, iT, iU, iV, jB, iW, jC, jD, cQ, dc, nm, seval]
    obtain rfl := kF _ h
    exact bz Tryz.results8 rfl
   simp only [cQ, hs] at h
   try simp only [vz, tyf, dw, iR, iS, iT, iU, iV, jB, iW, jC, jD, cQ, nm, seval]
   obtain rfl := kF _ h
   exact bz Tryz.results8 rfl
  simp only [qi, hs] at h
  have N9 := And.intro dN (And.intro dh (And.intro im (And.intro jA (And.intro mc (And.intro n7 qi)))))
  try simp only [vz, tyf, N9, iR, iS, iT, iU, iV, jB, iW, jC, jD, nm, seval]
  obtain rfl := kF _ h
  exact bz Tryz.results8 rfl
 simp only [n7, hs] at h
 try simp only [vz, tyf, dN, dh, im, jA, mc, iR, iS, iT, iU, iV, jB, iW, jC, jD, n7, nm, seval]
 obtain rfl := kF _ h
 exact bz Tryz.results8 rfl
theorem Bi {b : GBk} (hB : BOk b) : ∀ (p : List Int) (c a : Int), (∀ y ∈ p, 0 ≤ y ∧ y < b.Strokes.length) → 0 ≤ a → a + 15 * (p.length : Int) < 1000000 → tZ b p c a = some (.go (a + sumD b p))
 | [], c, a, _, _, _ => by simp [tZ, sumD]
 | e :: p, c, a, h, h0, h1 => by
  have he := h e (List.mem_cons_self ..)
  obtain ⟨x, g1, g2⟩ := getS (b := b) (s := e) he.1 (by omega)
  have hd := hB.h.d 1 e.toNat
  have hx := Bj g1
  simp only [List.length_cons] at h1
  simp only [tZ, g1, Option.bind_some, sumD]
  rw [← hx, gy (by omega) (by omega), Bi hB p (c + 1) _ (fun y hy => h y (List.mem_cons_of_mem _ hy)) (by omega) (by omega), Int.add_assoc]
theorem Bk {b : GBk} {pl : List Int} : ∀ (k i : Nat) (c : Int), tY ((List.range' i k).map (endS b pl)) c (tkF (EE b pl 1) i) = some (.go (tkF (EE b pl 1) (i + k)))
 | 0, i, c => rfl
 | k + 1, i, c => by
  have := Bk (b := b) (pl := pl) k (i + 1) (c + 1)
  simp only [List.range'_succ, List.map_cons, tY]
  have e : (if tkF (EE b pl 1) i < (endS b pl i).High then (endS b pl i).High else tkF (EE b pl 1) i) = tkF (EE b pl 1) (i + 1) := by
   show (if tkF (EE b pl 1) i < EE b pl 1 i then EE b pl 1 i else tkF (EE b pl 1) i) = max (tkF (EE b pl 1) i) (EE b pl 1 i)
   split <;> omega
  rw [e, this]
  congr 3
  omega
theorem Bl {b : GBk} (h : Len b) (hB : BOk b) {pl : List Int} (hp : pl.length = b.Strokes.length) {q : List Int} (hq : q.length ≤ 1000) : ∀ (p : List Int) (c : Nat) (a : Int) (pr : Option Int), q.drop c = p → (c = 0 ∧ pr = none ∨ 0 < c ∧ (∃ x, pr = some x ∧ 0 ≤ x ∧ x.toNat < b.Strokes.length ∧ getI q ((c : Int) - 1) = some x)) → 0 ≤ a → a + 15 * (p.length : Int) < 1000000 →
  ∃ r w, qe b pl q p c a true = some (.go (r, w)) ∧ (w = true → lnk b pl pr p = true ∧ r = a + sumD b p)
 | [], c, a, pr, _, _, _, _ => ⟨a, true, rfl, fun _ => ⟨rfl, by simp [sumD]⟩⟩
 | e :: p, c, a, pr, hd, hpr, h0, h1 => by
  have hn := hB.ns
  have hg : getI q (c : Int) = some e := dD (by omega) (by simpa using hd)
  have hclt := (ta hg).2
  have h2 : q.drop (c + 1) = p := by have := cC (i := (c : Int)) (by omega) (by simpa using hd); simpa using this
  simp only [List.length_cons] at h1
  simp only [qe, tE h, Option.bind_some]
  cases hI : inB 0 ((b.Strokes.length : Int) - 1) e with
  | false => exact ⟨a, false, rfl, fun h => by cases h⟩
  | true =>
   have hi := my.1 hI
   have he : e.toNat < b.Strokes.length := by omega
   obtain ⟨x, g1, g2⟩ := getS (b := b) (s := e) hi.1 he
   have hx := Bj g1
   have hdd := hB.h.d 1 e.toNat
   obtain ⟨r, w, e1, e2⟩ := Bl h hB hp hq p (c + 1) (a + dF b 1 e.toNat) (some e) h2 (.inr ⟨by omega, e, rfl, hi.1, he, by rw [show (((c + 1 : Nat) : Int) - 1) = c by omega]; exact hg⟩) (by omega) (by omega)
   rw [show ((c + 1 : Nat) : Int) = (c : Int) + 1 by omega] at e1
   have hw : i64.wrap (a + x.Hours.High) = a + dF b 1 e.toNat := by rw [hx, gy (by omega) (by omega)]
   have hnF : nF b e.toNat = x.Needs := by unfold nF; rw [g2]
   have hnl : x.Needs.length < 9223372036854775808 := h.nd x (List.mem_of_getElem? g2)
   rcases hpr with ⟨rfl, rfl⟩ | ⟨hc, y, rfl, Dk, hyn, hgy⟩
   ·rw [show decide (((0 : Nat) : Int) > 0) = false from rfl]
    simp only [cond_true, cond_false, g1, Option.bind_some, hw]
    refine ⟨r, w, e1, fun hw => ?_⟩
    obtain ⟨k1, k2⟩ := e2 hw
    refine ⟨by unfold lnk oB; rw [hI, k1]; rfl, ?_⟩
    simp only [sumD]; omega
   ·rw [decide_eq_true (show (c : Int) > 0 by omega)]
    simp only [cond_true]
    rw [gy (by omega) (by omega), hgy, Option.bind_some]
    by_cases hle : e ≤ y
    ·rw [decide_eq_true hle]
     exact ⟨a, false, rfl, fun h => by cases h⟩
    ·rw [decide_eq_false hle, cond_false, getP hp Dk hyn, getP hp hi.1 he]
     simp only [Option.bind_some, g1, hw]
     have fin : foB b pl e.toNat y.toNat = true → w = true → lnk b pl (some y) (e :: p) = true ∧ r = a + sumD b (e :: p) := by
      intro hf hw
      obtain ⟨k1, k2⟩ := e2 hw
      refine ⟨by unfold lnk oB; dsimp only; rw [hI, k1, hf, decide_eq_true (show y < e by omega)]; rfl, ?_⟩
      simp only [sumD]; omega
     by_cases hh : hF pl y.toNat = hF pl e.toNat
     ·rw [show (hF pl y.toNat != hF pl e.toNat) = false by simp [hh], cond_false]
      exact ⟨r, w, e1, fin (by unfold foB; simp [hh])⟩
     ·rw [show (hF pl y.toNat != hF pl e.toNat) = true by simp [hh], cond_true, qF hnl, Option.bind_some]
      by_cases hl : y ∈ x.Needs
      ·rw [decide_eq_true hl, cond_true]
       exact ⟨r, w, e1, fin (by unfold foB; rw [hnF, Int.toNat_of_nonneg Dk]; simp [hl])⟩
      ·rw [decide_eq_false hl]
       exact ⟨a, false, rfl, fun h => by cases h⟩
theorem Wh (b : GBk) (pl other : List Int) (s : Int) (hb : aF b.Boards = true ∧ aF b.Strokes = true ∧ ∀ y ∈ b.Strokes, aF y.Needs = true) (hp : aF pl = true) (ho : aF other = true) : Dl b pl other s = some true := by
 have hL := Len.of hb
 have hol := Cb ho
 unfold Dl
 rcases Ei hL with e | ⟨e, hB⟩
 ·rw [e]; rfl
 have hns := hB.ns
 simp only [e, Option.bind_some, cond_true, zB, Ks hL, tE hL]
 cases (decide ((pl.length : Int) ≤ 9)) with
 | false => rfl
 | true =>
 cases Sg : (decide ((other.length : Int) ≤ 9)) with
 | false => rfl
 | true =>
 have Sg := of_decide_eq_true Sg
 cases hP : planB b pl with
 | false => rfl
 | true =>
 cases hI : inB 0 ((b.Strokes.length : Int) - 1) s with
 | false => rfl
 | true =>
 have hi := my.1 hI
 have hBb := vC.2 hB
 have hlen := (BS.1 hP).len
 obtain ⟨x, g1, hx⟩ := getS (b := b) (s := s) hi.1 (by omega)
 obtain ⟨c, hc, hcne, hcs, hcf⟩ := NA hB pl
 obtain ⟨hlk, hsum⟩ := Dm hB.h c _ _ _ hcs
 have hinc := (Bm c none hlk).1
 have hcl : (c.length : Int) ≤ b.Strokes.length := by
  have := vo c 0 b.Strokes.length (Bm c none hlk).2 (fun x hx => (hinc x hx).1) (by omega)
  omega
 have hsp := spF_b (b := b) (pl := pl) (s := s.toNat) (x := x) 9 0
 have hcB : chB b pl c = true := (Bn hB).2 ⟨hcne, hcs⟩
 simp only [cond_true, NB hL hB hP hc, DH hL, hBb, hP, Bool.and_self, if_true, DQ hL hBb hP hi.1 hx, Option.bind_some, bne_self_eq_false, cond_false]
 rw [decide_eq_false (show ¬ spF b pl s.toNat x 9 0 < 0 by omega), decide_eq_false (show ¬ spF b pl s.toNat x 9 0 > 9 by omega), show (((endsL b pl).length : Int) != (pl.length : Int)) = false by rw [Pz, hlen]; simp]
 simp only [cond_false, Sh hL hB hlen (show c.length < 9223372036854775808 by omega), Option.bind_some, hcB, cond_true]
 rw [fU (show c.length < 9223372036854775808 by omega), cond_true, Bi hB c 0 0 (fun y hy => (hinc y hy).1) (Int.le_refl _) (by omega)]
 simp only [aT]
 have e1 := Bk (b := b) (pl := pl) b.Strokes.length 0 0
 rw [← List.range_eq_range'] at e1
 have e1' : tY (endsL b pl) 0 0 = some (.go (TK b pl)) := by
  unfold endsL TK
  rw [show tkF (EE b pl 1) b.Strokes.length = tkF (EE b pl 1) (0 + b.Strokes.length) by rw [Nat.zero_add]]
  exact e1
 rw [fU (show (endsL b pl).length < 9223372036854775808 by rw [Pz]; omega), cond_true, e1']
 simp only [aT]
 rw [show ((0 + sumD b c) != TK b pl) = false by rw [← hsum]; simp, cond_false, qF (show c.length < 9223372036854775808 by omega), Option.bind_some]
 obtain ⟨r, w, l1, l2⟩ := Bl hL hB hlen (q := other) (by omega) other 0 0 none rfl (.inl ⟨rfl, rfl⟩) (Int.le_refl _) (by omega)
 have l1' : qe b pl other other 0 0 true = some (.go (r, w)) := l1
 have s1 : ((s.toNat : Nat) : Int) = s := Int.toNat_of_nonneg hi.1
 have tail : (w8 b pl other s c (spF b pl s.toNat x 9 0)) = some true := by
  rw [w8, Sh hL hB hlen hol, Option.bind_some]
  cases hco : chB b pl other with
  | false => rfl
  | true =>
   obtain ⟨k1, k2⟩ := (Bn hB).1 hco
   rw [cond_true, NC hol, hcf other k1 k2]
   simp only [Option.bind_some, cond_false, qF hol]
   by_cases hm : s ∈ other
   ·have := Si hB hx k2 (by rw [s1]; exact hm)
    rw [decide_eq_true hm, this]; rfl
   ·rw [decide_eq_false hm]; rfl
 have rest : wD b pl other s c (spF b pl s.toNat x 9 0) (TK b pl) = some true := by
  rw [wD, fU hol, cond_true, l1']
  simp only [aT]
  cases w with
  | false => exact tail
  | true =>
   obtain ⟨k1, k2⟩ := l2 rfl
   have := vp hB.h (pl := pl) other none 0 k1 (fun y hy => by cases hy) (fun _ => Int.le_refl _) (pE _ _)
   rw [cond_true, decide_eq_false (show ¬ r > TK b pl by omega), cond_false]
   exact tail
 by_cases hm : s ∈ c
 ·have hz := Si hB hx hcs (by rw [s1]; exact hm)
  rw [decide_eq_true hm, cond_true, show (spF b pl s.toNat x 9 0 != 0) = false by rw [hz]; rfl, cond_false]
  exact rest
 ·rw [decide_eq_false hm, cond_false]
  exact rest
end Go.V
end
