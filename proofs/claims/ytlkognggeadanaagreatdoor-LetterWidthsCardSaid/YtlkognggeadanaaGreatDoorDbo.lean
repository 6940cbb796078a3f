/- Part of a proof. -/
import Derived.Test.YtlkognggeadanaaGreatDoorDbj
set_option linter.all false
set_option maxRecDepth 4000
set_option maxHeartbeats 40000000
section
namespace Go.V
open Go Go.Proofs IntKind
theorem TU {P : Program} {G : Glob} {n k : Nat} {x a b c d : Code} {Q K2 : VExit → St → Prop} {st : St} (I1 I2 I3 : St → Prop) (hv : st.tm k = .lit (.bool false)) (h1 : CWp P G n a (VExit.then I1 Q) st) (h2 : ∀ s, I1 s → CWp P G n b (VExit.then I2 Q) s) (h3 : ∀ s, I2 s → CWp P G n c (VExit.then I3 Q) s) (h4 : ∀ s, I3 s → CWp P G n d Q s) :
    CWp P G n (.cond (.tmp k) x .skip) (VExit.then (CWp P G n (.seq a (.seq b (.seq c d))) Q) K2) st := by
  have h : CWp P G n .skip (VExit.then (CWp P G n (.seq a (.seq b (.seq c d))) Q) K2) st := xr I1 h1 fun s hs => xr I2 (h2 s hs) fun s hs => xr I3 (h3 s hs) h4
  obtain ⟨tm, H, nx, df⟩ := st
  have e : ev G tm (.tmp k) = .lit (.bool false) := by rw [qd]; exact hv
  rw [CQ, e, L1]
  exact ⟨fun hh => (by cases hh), fun _ => h⟩
def qp (cR : Int) (x2 : GLw) : Nat → Int → (List Grl) → Option (LOut (List Grl) ((List Grl)))
 | 0, sy, ue => some (.go ue)
 | k1 + 1, sy, ue => Option.bind (getI x2.Signs sy) (fun x3 => cond (av 16 (List.length (ue ++ [(Grl.mk cR x3)]))) (qp cR x2 k1 (sy + 1) (ue ++ [(Grl.mk cR x3)])) none)
def t8 (ad : GLs) (aj : List Int) (aZ : GLe) (b3 : GLe) : Nat → (List Grl) → Int → Option (LOut (List Grl) ((List Grl) × Int))
 | 0, _, _ => none
 | k0 + 1, jI, cR => cond (decide (cR ≤ b3.Word)) (Option.bind (uf aj cR) (fun r1 => cond (r1) (t8 ad aj aZ b3 k0 jI (i64.wrap (cR + 1))) (Option.bind (getI ad.Words cR) (fun x2 => cond (boundOk (cond (cR == b3.Word) b3.Letters (List.length x2.Signs : Int))) (cond (loOk (cond (cR == aZ.Word) aZ.Letters 0)) (lbind (qp cR x2 (Int.toNat ((cond (cR == b3.Word) b3.Letters (List.length x2.Signs : Int)) - (cond (cR == aZ.Word) aZ.Letters 0))) (cond (cR == aZ.Word) aZ.Letters 0) jI) (fun r5 => some (.ret r5)) (fun c4 => t8 ad aj aZ b3 k0 c4 (i64.wrap (cR + 1))) (fun _ _ => none)) none) none)))) (some (.go (jI, cR)))
def CS (ad : GLs) (aj : List Int) (aZ : GLe) (b3 : GLe) : Option (List Grl) := lbind (t8 ad aj aZ b3 1000000 ([] : List Grl) aZ.Word) (fun xt => some xt) (fun yR => Option.bind (getI ad.Words b3.Word) (fun XJ => cond (decide (b3.Letters < (List.length XJ.Signs : Int))) (cond (av 16 (List.length (yR.1 ++ [(Grl.mk b3.Word (-1))]))) (some (yR.1 ++ [(Grl.mk b3.Word (-1))])) none) (some yR.1))) (fun _ _ => none)
theorem TV (ad : GLs) (aj : List Int) (aZ : GLe) (b3 : GLe) (R : List Grl) (h : CS ad aj aZ b3 = some R) : ag Tryz.prog G0 82 [.agg (cGLs ad), .sl (aa eI aj) (List.length aj) false, .agg (cGLe aZ), .agg (cGLe b3)] (.tree (.sl (aa cGrl R) (List.length R) false)) := by
 refine ag.runR mixed Tryz.call82 Tryz.func82 rfl (by simp [Tryz.ntmps82]; kernel_rfl) ?_
 obtain ⟨KF, h, kF, kN⟩ := eC h
 simp only [CS] at h
 simp only [vz, tyf, nm, seval]
 obtain ⟨XK, h, XL, CT, XM, jL⟩ := gp h kN
 obtain ⟨XN, L2, h⟩ := call3 h
 obtain ⟨XO, nk⟩ : ∃ I : Nat → St → Prop, I = (fun m st => ∃ (mc : Nat) (bA : List Grl) (aF : Int) (pg : VV), mc = m ∧ st.df = [] ∧ 8 ≤ st.nx ∧ st.H 0 = some (.cells (some 28) (cGLs ad)) ∧ st.H 1 = some (.cells (some 100) (cGLe aZ)) ∧ st.H 2 = some (.cells (some 100) (cGLe b3)) ∧ st.tm 1 = .sl (aa eI aj) (List.length aj) false ∧ st.tm 4 = .ptr 0 0 ∧ st.tm 6 = .ptr 1 0 ∧ st.tm 7 = .ptr 2 0 ∧ st.tm 9 = pg ∧ st.tm 10 = .lit (.int .i64 aF) ∧ ((∃ (β : Nat) (el : Option TypeId), pg = .ref β 0 (List.length bA) 2 (List.length bA) ∧ β < st.nx ∧ β ≠ 0 ∧ β ≠ 1 ∧ β ≠ 2 ∧ st.H β = some (.cells el (aa cGrl bA))) ∨ (pg = .lit (.slice none 0 0) ∧ bA = [])) ∧ XK (XN mc bA aF)) := ⟨_, rfl⟩
 refine loopK mixed (by kernel_rfl) XO 1000000 (by rw [nk]; refine ⟨1000000, ([] : List Grl), aZ.Word, .lit (.slice none 0 0), rfl, rfl, (show 8 ≤ 8 by omega), ?_, ?_, ?_, ?_, ?_, ?_, ?_, ?_, ?_, Or.inr ⟨rfl, rfl⟩, h⟩ <;> first | (simp only [ua, nm, seval] <;> rfl) | rfl) ?_
 rintro m ⟨tm, H, ku, df⟩ hinv
 rw [nk] at hinv
 obtain ⟨mc, bA, aF, pg, rfl, hdf, L3, bC, cg, cj, ez, cn, bJ, cm, cu, cN, s5, h⟩ := hinv
 simp only at hdf L3 bC cg cj ez cn bJ cm cu cN s5
 have cJ := gq (m := 8) (b := ku) (by omega)
 subst hdf L2
 rcases s5 with ⟨gP, o5, rfl, L4, L5, L6, L7, TW⟩ | ⟨rfl, rfl⟩
 ·have TX := qa L4
  have TY := ne_f L5
  have TZ := ne_f L6
  have Ua := ne_f L7
  cases mc with
  | zero =>
   simp only [t8, hs, reduceCtorEq] at h
   exact absurd h jL
  | succ mc =>
   simp only [t8, hs, reduceCtorEq] at h
   cases fj : (decide (aF ≤ b3.Word))
   ·simp only [fj, hs] at h
    have iF := And.intro cJ (And.intro bC (And.intro cg (And.intro cj (And.intro TX (And.intro TW (And.intro TY (And.intro TZ (And.intro Ua fj))))))))
    replace h := CT _ h
    try dsimp only at h
    try simp only [hs] at h
    simp only [vz, tyf, iF, ez, cn, bJ, cm, cu, cN, nm, seval]
    refine km (fun tm => tm 4 = .ptr 0 0 ∧ tm 7 = .ptr 2 0 ∧ tm 9 = .ref gP 0 (List.length bA) 2 (List.length bA) ∧ True) (by refine ⟨cn, cm, cu, trivial⟩ <;> first | (simp only [ua, iF, ez, cn, bJ, cm, cu, cN, nm, seval] <;> rfl) | rfl) ?_
    rintro tm ⟨eQ, eX, bM, _⟩
    obtain ⟨qb, lE, h⟩ := optI h kN
    try simp only [hs] at h
    cases s6 : (decide (b3.Letters < (List.length qb.Signs : Int)))
    ·simp only [s6, hs] at h
     try simp only [vz, tyf, iF, eQ, eX, bM, (aq lE), s6, nm, seval]
     refine eh (x := (.ref gP 0 (List.length bA) 2 (List.length bA))) (by first | (simp only [Tryz.results82, resV, resL, aR, ei, ej, uw, cr, tyf, iF, (aq lE), s6, nm, seval] <;> rfl) | rfl) ?_
     obtain rfl := kF _ h
     refine eD ?_ ?_
     ·simp only [tre, aG, Bool.and_self]
     ·first | (simp only [outV, uw, ep, cr, tyf, nrm, aE, iF, eQ, eX, bM, (aq lE), s6, nm, seval] <;> rfl) | rfl
    simp only [s6, hs] at h
    cases ug : (av 16 (List.length (bA ++ [(Grl.mk b3.Word (-1))])))
    ·simp only [ug, hs] at h
     exact absurd h kN
    simp only [ug, hs] at h
    simp only [vz, tyf, iF, eQ, eX, bM, (aq lE), s6, ug, nm, seval]
    refine k_app (w := 2) (enc := cGrl) (xs := bA) (ys := ([(Grl.mk b3.Word (-1))])) (el := o5) (gg := (some 51)) (fun _ => rfl) pV pU Tryz.underlying49 (by first | rfl | assumption | (simp only [bw, bx, kZ, iF, nm, seval] <;> rfl) | (simp only [bw, bx, dj, d6, dp, dq, tyf, iF, eQ, eX, bM, (aq lE), s6, ug, nm, seval]; done)) (by first | rfl | assumption | (simp only [bw, bx, kZ, iF, nm, seval] <;> rfl) | (simp only [bw, bx, dj, d6, dp, dq, tyf, iF, eQ, eX, bM, (aq lE), s6, ug, nm, seval]; done)) (Nat.zero_lt_succ _) ug ?_
    try simp only [vz, tyf, iF, eQ, eX, bM, (aq lE), s6, ug, nm, seval]
    refine eh (x := (.ref (ku + 20) 0 (List.length (bA ++ [(Grl.mk b3.Word (-1))])) 2 (List.length (bA ++ [(Grl.mk b3.Word (-1))])))) (by first | (simp only [Tryz.results82, resV, resL, aR, ei, ej, uw, cr, tyf, iF, (aq lE), s6, ug, nm, seval] <;> rfl) | rfl) ?_
    obtain rfl := kF _ h
    refine eD ?_ ?_
    ·simp only [tre, aG, Bool.and_self]
    ·first | (simp only [outV, uw, ep, cr, tyf, nrm, aE, iF, eQ, eX, bM, (aq lE), s6, ug, nm, seval] <;> rfl) | rfl
   simp only [fj, hs] at h
   have dh := And.intro cJ (And.intro bC (And.intro cg (And.intro cj (And.intro TX (And.intro TW (And.intro TY (And.intro TZ (And.intro Ua fj))))))))
   obtain ⟨CU, ri, h⟩ := optI h jL
   try simp only [hs] at h
   simp only [vz, tyf, dh, ez, cn, bJ, cm, cu, cN, nm, seval]
   refine ktA (zw _ _ _ ri) ?_
   refine b5 (fun tm => tm 1 = .sl (aa eI aj) (List.length aj) false ∧ tm 4 = .ptr 0 0 ∧ tm 6 = .ptr 1 0 ∧ tm 7 = .ptr 2 0 ∧ tm 9 = .ref gP 0 (List.length bA) 2 (List.length bA) ∧ tm 10 = .lit (.int .i64 aF) ∧ tm 24 = .lit (.bool CU) ∧ True) (by refine ⟨ez, cn, bJ, cm, cu, cN, ?_, trivial⟩ <;> first | (simp only [ua, dh, ez, cn, bJ, cm, cu, cN, nm, seval] <;> rfl) | rfl) ?_
   rintro tm ⟨ca, fB, fC, gM, fD, fv, il, _⟩
   cases gN : (CU)
   ·simp only [gN, hs] at h
    obtain ⟨L8, s7, h⟩ := optI h jL
    try simp only [hs] at h
    obtain ⟨hi, hhi⟩ : ∃ v, v = cond (aF == b3.Word) b3.Letters (List.length L8.Signs : Int) := ⟨_, rfl⟩
    obtain ⟨lo, hlo⟩ : ∃ v, v = cond (aF == aZ.Word) aZ.Letters 0 := ⟨_, rfl⟩
    rw [← hhi, ← hlo] at h
    cases iI : (boundOk hi)
    ·simp only [iI, hs] at h
     exact absurd h jL
    simp only [iI, hs] at h
    cases jo : (loOk lo)
    ·simp only [jo, hs] at h
     exact absurd h jL
    simp only [jo, hs] at h
    rw [gN] at il
    obtain ⟨J1, CV⟩ : ∃ J : St → Prop, J = (fun s => ∃ (tm : Nat → VV) (nxA : Nat), s = ⟨tm, H, nxA, []⟩ ∧ ku ≤ nxA ∧ tm 1 = .sl (aa eI aj) (List.length aj) false ∧ tm 4 = .ptr 0 0 ∧ tm 6 = .ptr 1 0 ∧ tm 7 = .ptr 2 0 ∧ tm 9 = .ref gP 0 (List.length bA) 2 (List.length bA) ∧ tm 10 = .lit (.int .i64 aF) ∧ tm 11 = .lit (.int .i64 0) ∧ tm 12 = .lit (.int .i64 (List.length L8.Signs : Int))) := ⟨_, rfl⟩
    obtain ⟨J2, xu⟩ : ∃ J : St → Prop, J = (fun s => ∃ (tm : Nat → VV) (nxA : Nat), s = ⟨tm, H, nxA, []⟩ ∧ ku ≤ nxA ∧ tm 1 = .sl (aa eI aj) (List.length aj) false ∧ tm 4 = .ptr 0 0 ∧ tm 6 = .ptr 1 0 ∧ tm 7 = .ptr 2 0 ∧ tm 9 = .ref gP 0 (List.length bA) 2 (List.length bA) ∧ tm 10 = .lit (.int .i64 aF) ∧ tm 11 = .lit (.int .i64 lo) ∧ tm 12 = .lit (.int .i64 (List.length L8.Signs : Int))) := ⟨_, rfl⟩
    obtain ⟨J3, xv⟩ : ∃ J : St → Prop, J = (fun s => ∃ (tm : Nat → VV) (nxA : Nat), s = ⟨tm, H, nxA, []⟩ ∧ ku ≤ nxA ∧ tm 1 = .sl (aa eI aj) (List.length aj) false ∧ tm 4 = .ptr 0 0 ∧ tm 6 = .ptr 1 0 ∧ tm 7 = .ptr 2 0 ∧ tm 9 = .ref gP 0 (List.length bA) 2 (List.length bA) ∧ tm 10 = .lit (.int .i64 aF) ∧ tm 11 = .lit (.int .i64 lo) ∧ tm 12 = .lit (.int .i64 hi)) := ⟨_, rfl⟩
    refine TU J1 J2 J3 il ?_ ?_ ?_ ?_
    ·refine km (fun tm => tm 1 = .sl (aa eI aj) (List.length aj) false ∧ tm 4 = .ptr 0 0 ∧ tm 6 = .ptr 1 0 ∧ tm 7 = .ptr 2 0 ∧ tm 9 = .ref gP 0 (List.length bA) 2 (List.length bA) ∧ tm 10 = .lit (.int .i64 aF) ∧ True) (by refine ⟨ca, fB, fC, gM, fD, fv, trivial⟩ <;> first | (simp only [ua, dh, ca, fB, fC, gM, fD, fv, il, nm, seval] <;> rfl) | rfl) ?_
     rintro tm ⟨fm, gx, cE, cF, cC, cG, _⟩
     simp only [vz, tyf, dh, fm, gx, cE, cF, cC, cG, (aq s7), nm, seval]
     rw [CV]
     refine ⟨_, _, rfl, ?_, ?_, ?_, ?_, ?_, ?_, ?_, ?_, ?_⟩ <;> first | omega | (simp only [ua, dh, fm, gx, cE, cF, cC, cG, nm, seval] <;> rfl) | rfl | (simp only [ua, dh, fm, gx, cE, cF, cC, cG, nm, seval, cond_true, cond_false] <;> rfl)
    ·intro s jM
     rw [CV] at jM
     obtain ⟨tm, nxA, rfl, hA, fm, gx, cE, cF, cC, cG, eL, eH⟩ := jM
     cases lL : (aF == aZ.Word)
     ·simp only [vz, tyf, dh, fm, gx, cE, cF, cC, cG, eL, eH, lL, nm, seval]
      rw [xu]
      rw [lL] at hlo
      refine ⟨_, _, rfl, ?_, ?_, ?_, ?_, ?_, ?_, ?_, ?_, ?_⟩ <;> first | omega | (simp only [ua, dh, fm, gx, cE, cF, cC, cG, eL, eH, lL, hlo, nm, seval] <;> rfl) | rfl | (simp only [ua, dh, fm, gx, cE, cF, cC, cG, eL, eH, lL, hlo, nm, seval, cond_true, cond_false] <;> rfl)
     ·simp only [vz, tyf, dh, fm, gx, cE, cF, cC, cG, eL, eH, lL, nm, seval]
      rw [xu]
      rw [lL] at hlo
      refine ⟨_, _, rfl, ?_, ?_, ?_, ?_, ?_, ?_, ?_, ?_, ?_⟩ <;> first | omega | (simp only [ua, dh, fm, gx, cE, cF, cC, cG, eL, eH, lL, hlo, nm, seval] <;> rfl) | rfl | (simp only [ua, dh, fm, gx, cE, cF, cC, cG, eL, eH, lL, hlo, nm, seval, cond_true, cond_false] <;> rfl)
    ·intro s jM
     rw [xu] at jM
     obtain ⟨tm, nxA, rfl, hA, fm, gx, cE, cF, cC, cG, eL, eH⟩ := jM
     cases nn : (aF == b3.Word)
     ·simp only [vz, tyf, dh, fm, gx, cE, cF, cC, cG, eL, eH, nn, nm, seval]
      rw [xv]
      rw [nn] at hhi
      refine ⟨_, _, rfl, ?_, ?_, ?_, ?_, ?_, ?_, ?_, ?_, ?_⟩ <;> first | omega | (simp only [ua, dh, fm, gx, cE, cF, cC, cG, eL, eH, nn, hhi, nm, seval] <;> rfl) | rfl | (simp only [ua, dh, fm, gx, cE, cF, cC, cG, eL, eH, nn, hhi, nm, seval, cond_true, cond_false] <;> rfl)
     ·simp only [vz, tyf, dh, fm, gx, cE, cF, cC, cG, eL, eH, nn, nm, seval]
      rw [xv]
      rw [nn] at hhi
      refine ⟨_, _, rfl, ?_, ?_, ?_, ?_, ?_, ?_, ?_, ?_, ?_⟩ <;> first | omega | (simp only [ua, dh, fm, gx, cE, cF, cC, cG, eL, eH, nn, hhi, nm, seval] <;> rfl) | rfl | (simp only [ua, dh, fm, gx, cE, cF, cC, cG, eL, eH, nn, hhi, nm, seval, cond_true, cond_false] <;> rfl)
    ·intro s jM
     rw [xv] at jM
     obtain ⟨tm, nxA, rfl, hA, fm, gx, cE, cF, cC, cG, eL, eH⟩ := jM
     simp only [vz, tyf, dh, fm, gx, cE, cF, cC, cG, eL, eH, (aq s7), iI, jo, nm, seval]
     obtain ⟨L9, h, Ub, vD, Uc, ph⟩ := gp h jL
     obtain ⟨LA, CW, h⟩ := call3 h
     obtain ⟨LB, pj⟩ : ∃ I : Nat → St → Prop, I = (fun m st => ∃ (jN : Nat) (cS : Int) (cT : List Grl) (md : VV), jN = m ∧ loOk cS = true ∧ Int.toNat (hi - cS) = jN ∧ st.df = [] ∧ nxA ≤ st.nx ∧ st.H 0 = some (.cells (some 28) (cGLs ad)) ∧ st.H 1 = some (.cells (some 100) (cGLe aZ)) ∧ st.H 2 = some (.cells (some 100) (cGLe b3)) ∧ st.tm 1 = .sl (aa eI aj) (List.length aj) false ∧ st.tm 4 = .ptr 0 0 ∧ st.tm 6 = .ptr 1 0 ∧ st.tm 7 = .ptr 2 0 ∧ st.tm 10 = .lit (.int .i64 aF) ∧ st.tm 12 = .lit (.int .i64 hi) ∧ st.tm 9 = md ∧ st.tm 13 = .lit (.int .i64 cS) ∧ ((∃ (β : Nat) (el : Option TypeId), md = .ref β 0 (List.length cT) 2 (List.length cT) ∧ β < st.nx ∧ β ≠ 0 ∧ β ≠ 1 ∧ β ≠ 2 ∧ st.H β = some (.cells el (aa cGrl cT))) ∨ (md = .lit (.slice none 0 0) ∧ cT = [])) ∧ L9 (LA jN cS cT)) := ⟨_, rfl⟩
     refine loopK mixed (by kernel_rfl) LB (Int.toNat (hi - lo)) (by rw [pj]; refine ⟨Int.toNat (hi - lo), lo, bA, .ref gP 0 (List.length bA) 2 (List.length bA), rfl, jo, rfl, rfl, (by first | omega | (dsimp only; omega)), ?_, ?_, ?_, fm, gx, cE, cF, cG, ?_, ?_, ?_, Or.inl ⟨gP, o5, rfl, (by first | omega | (simp only [nm, seval]; done) | (simp only [nm, seval]; omega)), (by first | omega | (intro hh; simp only [dh, reduceCtorEq] at hh)), (by first | omega | (intro hh; simp only [dh, reduceCtorEq] at hh)), (by first | omega | (intro hh; simp only [dh, reduceCtorEq] at hh)), ?_⟩, h⟩ <;> first | (simp only [ua, dh, fm, gx, cE, cF, cC, cG, eL, eH, nm, seval] <;> rfl) | rfl) ?_
     rintro m ⟨tm, H, iJ, df⟩ hinv
     rw [pj] at hinv
     obtain ⟨jN, cS, cT, md, rfl, pk, jC, hdf, CX, gQ, fp, gR, gy, gz, g0, gA, hX, hY, iK, iL, pn, h⟩ := hinv
     simp only at hdf CX gQ fp gR gy gz g0 gA hX hY iK iL pn
     have eE := gq (m := 8) (b := iJ) (by omega)
     subst hdf CW
     rcases pn with ⟨s8, me, rfl, CY, CZ, Da, Db, mf⟩ | ⟨rfl, rfl⟩
     ·have iu := qa CY
      have iv := ne_f CZ
      have iw := ne_f Da
      have ix := ne_f Db
      cases jN with
      | zero =>
       have xw : (decide (cS < hi)) = false := FK jC
       simp only [qp, hs, reduceCtorEq] at h
       replace h := vD _ h
       try dsimp only at h
       try simp only [hs] at h
       simp only [vz, tyf, dh, (aq s7), iI, jo, eE, gy, gz, g0, gA, hX, hY, iK, iL, gQ, fp, gR, iu, mf, iv, iw, ix, xw, nm, seval]
       exact ⟨mc, qZc _, by rw [nk]; refine ⟨mc, cT, i64.wrap (aF + 1), .ref s8 0 (List.length cT) 2 (List.length cT), rfl, rfl, (show 8 ≤ iJ + 6 by omega), ?_, ?_, ?_, gy, gz, g0, gA, ?_, ?_, Or.inl ⟨s8, me, rfl, (by first | omega | (simp only [nm, seval]; done) | (simp only [nm, seval]; omega)), (by first | omega | (intro hh; simp only [dh, eE, iu, iv, iw, ix, reduceCtorEq] at hh)), (by first | omega | (intro hh; simp only [dh, eE, iu, iv, iw, ix, reduceCtorEq] at hh)), (by first | omega | (intro hh; simp only [dh, eE, iu, iv, iw, ix, reduceCtorEq] at hh)), ?_⟩, (by first | exact h | (simp only [dh, xw]; exact h))⟩ <;> first | (simp only [ua, dh, eE, gy, gz, g0, gA, hX, hY, iK, iL, gQ, fp, gR, iu, mf, iv, iw, ix, xw, nm, seval] <;> rfl) | rfl⟩
      | succ jN =>
       have ln : (decide (cS < hi)) = true := uh jC
       have s9 := FM pk jC iI
       simp only [qp, hs, reduceCtorEq] at h
       obtain ⟨sA, ky, h⟩ := optI h ph
       try simp only [hs] at h
       cases o6 : (av 16 (List.length (cT ++ [(Grl.mk aF sA)])))
       ·simp only [o6, hs] at h
        exact absurd h ph
       simp only [o6, hs] at h
       simp only [vz, tyf, dh, (aq s7), iI, jo, eE, gy, gz, g0, gA, hX, hY, iK, iL, gQ, fp, gR, iu, mf, iv, iw, ix, ln, s9, (au ky), o6, nm, seval]
       refine k_app (w := 2) (enc := cGrl) (xs := cT) (ys := ([(Grl.mk aF sA)])) (el := me) (gg := (some 51)) (fun _ => rfl) pV pU Tryz.underlying49 (by first | rfl | assumption | (simp only [bw, bx, kZ, dh, eE, gQ, fp, gR, iu, mf, iv, iw, ix, nm, seval] <;> rfl) | (simp only [bw, bx, dj, d6, dp, dq, tyf, dh, (aq s7), iI, jo, eE, gy, gz, g0, gA, hX, hY, iK, iL, gQ, fp, gR, iu, mf, iv, iw, ix, ln, s9, (au ky), o6, nm, seval]; done)) (by first | rfl | assumption | (simp only [bw, bx, kZ, dh, eE, gQ, fp, gR, iu, mf, iv, iw, ix, nm, seval] <;> rfl) | (simp only [bw, bx, dj, d6, dp, dq, tyf, dh, (aq s7), iI, jo, eE, gy, gz, g0, gA, hX, hY, iK, iL, gQ, fp, gR, iu, mf, iv, iw, ix, ln, s9, (au ky), o6, nm, seval]; done)) (Nat.zero_lt_succ _) o6 ?_
       simp only [vz, tyf, dh, (aq s7), iI, jo, eE, gy, gz, g0, gA, hX, hY, iK, iL, gQ, fp, gR, iu, mf, iv, iw, ix, ln, s9, (au ky), o6, nm, seval]
       exact ⟨jN, qZc _, by rw [pj]; refine ⟨jN, cS + 1, (cT ++ [(Grl.mk aF sA)]), .ref (iJ + 16) 0 (List.length (cT ++ [(Grl.mk aF sA)])) 2 (List.length (cT ++ [(Grl.mk aF sA)])), rfl, ui pk, FN jC, rfl, (show nxA ≤ iJ + 21 by omega), ?_, ?_, ?_, gy, gz, g0, gA, hX, hY, ?_, ?_, Or.inl ⟨iJ + 16, (sameEl me 51), rfl, (by first | omega | (simp only [nm, seval]; done) | (simp only [nm, seval]; omega)), (by first | omega | (intro hh; simp only [dh, eE, iu, iv, iw, ix, reduceCtorEq] at hh)), (by first | omega | (intro hh; simp only [dh, eE, iu, iv, iw, ix, reduceCtorEq] at hh)), (by first | omega | (intro hh; simp only [dh, eE, iu, iv, iw, ix, reduceCtorEq] at hh)), ?_⟩, (by first | exact h | (simp only [dh, ln]; exact h))⟩ <;> first | (simp only [ua, dh, eE, gy, gz, g0, gA, hX, hY, iK, iL, gQ, fp, gR, iu, mf, iv, iw, ix, ln, s9, nm, seval] <;> rfl) | rfl⟩
     ·cases jN with
      | zero =>
       have xx : (decide (cS < hi)) = false := FK jC
       simp only [qp, hs, reduceCtorEq] at h
       replace h := vD _ h
       try dsimp only at h
       try simp only [hs] at h
       simp only [vz, tyf, dh, (aq s7), iI, jo, eE, gy, gz, g0, gA, hX, hY, iK, iL, gQ, fp, gR, xx, nm, seval]
       exact ⟨mc, qZc _, by rw [nk]; refine ⟨mc, ([] : List Grl), i64.wrap (aF + 1), .lit (.slice none 0 0), rfl, rfl, (show 8 ≤ iJ + 6 by omega), ?_, ?_, ?_, gy, gz, g0, gA, ?_, ?_, Or.inr ⟨rfl, rfl⟩, (by first | exact h | (simp only [dh, xx]; exact h))⟩ <;> first | (simp only [ua, dh, eE, gy, gz, g0, gA, hX, hY, iK, iL, gQ, fp, gR, xx, nm, seval] <;> rfl) | rfl⟩
      | succ jN =>
       have lp : (decide (cS < hi)) = true := uh jC
       have uj := FM pk jC iI
       simp only [qp, hs, reduceCtorEq] at h
       obtain ⟨sB, xy, h⟩ := optI h ph
       try simp only [hs] at h
       cases jq : (av 16 (List.length (([] : List Grl) ++ [(Grl.mk aF sB)])))
       ·simp only [jq, hs] at h
        exact absurd h ph
       simp only [jq, hs] at h
       simp only [vz, tyf, dh, (aq s7), iI, jo, eE, gy, gz, g0, gA, hX, hY, iK, iL, gQ, fp, gR, lp, uj, (au xy), jq, nm, seval]
       refine nc (w := 2) (enc := cGrl) (ys := ([(Grl.mk aF sB)])) (gg := (some 51)) (fun _ => rfl) pV pU Tryz.underlying49 (by first | rfl | assumption | (simp only [bw, bx, kZ, dh, eE, gQ, fp, gR, nm, seval] <;> rfl) | (simp only [bw, bx, dj, d6, dp, dq, tyf, dh, (aq s7), iI, jo, eE, gy, gz, g0, gA, hX, hY, iK, iL, gQ, fp, gR, lp, uj, (au xy), jq, nm, seval]; done)) (Nat.zero_lt_succ _) jq ?_
       simp only [vz, tyf, dh, (aq s7), iI, jo, eE, gy, gz, g0, gA, hX, hY, iK, iL, gQ, fp, gR, lp, uj, (au xy), jq, nm, seval]
       exact ⟨jN, qZc _, by rw [pj]; refine ⟨jN, cS + 1, (([] : List Grl) ++ [(Grl.mk aF sB)]), .ref (iJ + 16) 0 (List.length (([] : List Grl) ++ [(Grl.mk aF sB)])) 2 (List.length (([] : List Grl) ++ [(Grl.mk aF sB)])), rfl, ui pk, FN jC, rfl, (show nxA ≤ iJ + 21 by omega), ?_, ?_, ?_, gy, gz, g0, gA, hX, hY, ?_, ?_, Or.inl ⟨iJ + 16, (some 51), rfl, (by first | omega | (simp only [nm, seval]; done) | (simp only [nm, seval]; omega)), (by first | omega | (intro hh; simp only [dh, eE, reduceCtorEq] at hh)), (by first | omega | (intro hh; simp only [dh, eE, reduceCtorEq] at hh)), (by first | omega | (intro hh; simp only [dh, eE, reduceCtorEq] at hh)), ?_⟩, (by first | exact h | (simp only [dh, lp]; exact h))⟩ <;> first | (simp only [ua, dh, eE, gy, gz, g0, gA, hX, hY, iK, iL, gQ, fp, gR, lp, uj, nm, seval] <;> rfl) | rfl⟩
   simp only [gN, hs] at h
   simp only [vz, tyf, dh, ca, fB, fC, gM, fD, fv, il, gN, nm, seval]
   exact ⟨mc, qZc _, by rw [nk]; refine ⟨mc, bA, i64.wrap (aF + 1), .ref gP 0 (List.length bA) 2 (List.length bA), rfl, rfl, (show 8 ≤ ku + 10 by omega), ?_, ?_, ?_, ca, fB, fC, gM, ?_, ?_, Or.inl ⟨gP, o5, rfl, (by first | omega | (simp only [nm, seval]; done) | (simp only [nm, seval]; omega)), (by first | omega | (intro hh; simp only [dh, reduceCtorEq] at hh)), (by first | omega | (intro hh; simp only [dh, reduceCtorEq] at hh)), (by first | omega | (intro hh; simp only [dh, reduceCtorEq] at hh)), ?_⟩, (by first | exact h | (simp only [dh, gN]; exact h))⟩ <;> first | (simp only [ua, dh, ca, fB, fC, gM, fD, fv, il, gN, nm, seval] <;> rfl) | rfl⟩
 ·cases mc with
  | zero =>
   simp only [t8, hs, reduceCtorEq] at h
   exact absurd h jL
  | succ mc =>
   simp only [t8, hs, reduceCtorEq] at h
   cases bf : (decide (aF ≤ b3.Word))
   ·simp only [bf, hs] at h
    replace h := CT _ h
    try dsimp only at h
    try simp only [hs] at h
    simp only [vz, tyf, cJ, ez, cn, bJ, cm, cu, cN, bC, cg, cj, bf, nm, seval]
    refine km (fun tm => tm 4 = .ptr 0 0 ∧ tm 7 = .ptr 2 0 ∧ tm 9 = .lit (.slice none 0 0) ∧ True) (by refine ⟨cn, cm, cu, trivial⟩ <;> first | (simp only [ua, cJ, ez, cn, bJ, cm, cu, cN, bC, cg, cj, bf, nm, seval] <;> rfl) | rfl) ?_
    rintro tm ⟨qs, qt, qu, _⟩
    obtain ⟨LC, np, h⟩ := optI h kN
    try simp only [hs] at h
    cases lq : (decide (b3.Letters < (List.length LC.Signs : Int)))
    ·simp only [lq, hs] at h
     try simp only [vz, tyf, cJ, bC, cg, cj, bf, qs, qt, qu, (aq np), lq, nm, seval]
     refine eh (x := (.lit (.slice none 0 0))) (by first | (simp only [Tryz.results82, resV, resL, aR, ei, ej, uw, cr, tyf, cJ, bC, cg, cj, bf, (aq np), lq, nm, seval] <;> rfl) | rfl) ?_
     obtain rfl := kF _ h
     refine eD ?_ ?_
     ·simp only [tre, aG, Bool.and_self]
     ·first | (simp only [outV, uw, ep, cr, tyf, nrm, aE, cJ, bC, cg, cj, bf, qs, qt, qu, (aq np), lq, nm, seval] <;> rfl) | rfl
    simp only [lq, hs] at h
    cases nq : (av 16 (List.length (([] : List Grl) ++ [(Grl.mk b3.Word (-1))])))
    ·simp only [nq, hs] at h
     exact absurd h kN
    simp only [nq, hs] at h
    simp only [vz, tyf, cJ, bC, cg, cj, bf, qs, qt, qu, (aq np), lq, nq, nm, seval]
    refine nc (w := 2) (enc := cGrl) (ys := ([(Grl.mk b3.Word (-1))])) (gg := (some 51)) (fun _ => rfl) pV pU Tryz.underlying49 (by first | rfl | assumption | (simp only [bw, bx, kZ, cJ, bC, cg, cj, nm, seval] <;> rfl) | (simp only [bw, bx, dj, d6, dp, dq, tyf, cJ, bC, cg, cj, bf, qs, qt, qu, (aq np), lq, nq, nm, seval]; done)) (Nat.zero_lt_succ _) nq ?_
    try simp only [vz, tyf, cJ, bC, cg, cj, bf, qs, qt, qu, (aq np), lq, nq, nm, seval]
    refine eh (x := (.ref (ku + 20) 0 (List.length (([] : List Grl) ++ [(Grl.mk b3.Word (-1))])) 2 (List.length (([] : List Grl) ++ [(Grl.mk b3.Word (-1))])))) (by first | (simp only [Tryz.results82, resV, resL, aR, ei, ej, uw, cr, tyf, cJ, bC, cg, cj, bf, (aq np), lq, nq, nm, seval] <;> rfl) | rfl) ?_
    obtain rfl := kF _ h
    refine eD ?_ ?_
    ·simp only [tre, aG, Bool.and_self]
    ·first | (simp only [outV, uw, ep, cr, tyf, nrm, aE, cJ, bC, cg, cj, bf, qs, qt, qu, (aq np), lq, nq, nm, seval] <;> rfl) | rfl
   simp only [bf, hs] at h
   obtain ⟨Dc, LD, h⟩ := optI h jL
   try simp only [hs] at h
   simp only [vz, tyf, cJ, ez, cn, bJ, cm, cu, cN, bC, cg, cj, bf, nm, seval]
   refine ktA (zw _ _ _ LD) ?_
   refine b5 (fun tm => tm 1 = .sl (aa eI aj) (List.length aj) false ∧ tm 4 = .ptr 0 0 ∧ tm 6 = .ptr 1 0 ∧ tm 7 = .ptr 2 0 ∧ tm 9 = .lit (.slice none 0 0) ∧ tm 10 = .lit (.int .i64 aF) ∧ tm 24 = .lit (.bool Dc) ∧ True) (by refine ⟨ez, cn, bJ, cm, cu, cN, ?_, trivial⟩ <;> first | (simp only [ua, cJ, ez, cn, bJ, cm, cu, cN, bC, cg, cj, bf, nm, seval] <;> rfl) | rfl) ?_
   rintro tm ⟨sC, sD, sE, sF, uk, um, sG, _⟩
   cases qv : (Dc)
   ·simp only [qv, hs] at h
    obtain ⟨xz, kz, h⟩ := optI h jL
    try simp only [hs] at h
    obtain ⟨hi, hhi⟩ : ∃ v, v = cond (aF == b3.Word) b3.Letters (List.length xz.Signs : Int) := ⟨_, rfl⟩
    obtain ⟨lo, hlo⟩ : ∃ v, v = cond (aF == aZ.Word) aZ.Letters 0 := ⟨_, rfl⟩
    rw [← hhi, ← hlo] at h
    cases iM : (boundOk hi)
    ·simp only [iM, hs] at h
     exact absurd h jL
    simp only [iM, hs] at h
    cases jr : (loOk lo)
    ·simp only [jr, hs] at h
     exact absurd h jL
    simp only [jr, hs] at h
    rw [qv] at sG
    obtain ⟨J1, CV⟩ : ∃ J : St → Prop, J = (fun s => ∃ (tm : Nat → VV) (nxA : Nat), s = ⟨tm, H, nxA, []⟩ ∧ ku ≤ nxA ∧ tm 1 = .sl (aa eI aj) (List.length aj) false ∧ tm 4 = .ptr 0 0 ∧ tm 6 = .ptr 1 0 ∧ tm 7 = .ptr 2 0 ∧ tm 9 = .lit (.slice none 0 0) ∧ tm 10 = .lit (.int .i64 aF) ∧ tm 11 = .lit (.int .i64 0) ∧ tm 12 = .lit (.int .i64 (List.length xz.Signs : Int))) := ⟨_, rfl⟩
    obtain ⟨J2, xu⟩ : ∃ J : St → Prop, J = (fun s => ∃ (tm : Nat → VV) (nxA : Nat), s = ⟨tm, H, nxA, []⟩ ∧ ku ≤ nxA ∧ tm 1 = .sl (aa eI aj) (List.length aj) false ∧ tm 4 = .ptr 0 0 ∧ tm 6 = .ptr 1 0 ∧ tm 7 = .ptr 2 0 ∧ tm 9 = .lit (.slice none 0 0) ∧ tm 10 = .lit (.int .i64 aF) ∧ tm 11 = .lit (.int .i64 lo) ∧ tm 12 = .lit (.int .i64 (List.length xz.Signs : Int))) := ⟨_, rfl⟩
    obtain ⟨J3, xv⟩ : ∃ J : St → Prop, J = (fun s => ∃ (tm : Nat → VV) (nxA : Nat), s = ⟨tm, H, nxA, []⟩ ∧ ku ≤ nxA ∧ tm 1 = .sl (aa eI aj) (List.length aj) false ∧ tm 4 = .ptr 0 0 ∧ tm 6 = .ptr 1 0 ∧ tm 7 = .ptr 2 0 ∧ tm 9 = .lit (.slice none 0 0) ∧ tm 10 = .lit (.int .i64 aF) ∧ tm 11 = .lit (.int .i64 lo) ∧ tm 12 = .lit (.int .i64 hi)) := ⟨_, rfl⟩
    refine TU J1 J2 J3 sG ?_ ?_ ?_ ?_
    ·refine km (fun tm => tm 1 = .sl (aa eI aj) (List.length aj) false ∧ tm 4 = .ptr 0 0 ∧ tm 6 = .ptr 1 0 ∧ tm 7 = .ptr 2 0 ∧ tm 9 = .lit (.slice none 0 0) ∧ tm 10 = .lit (.int .i64 aF) ∧ True) (by refine ⟨sC, sD, sE, sF, uk, um, trivial⟩ <;> first | (simp only [ua, cJ, bC, cg, cj, bf, sC, sD, sE, sF, uk, um, sG, nm, seval] <;> rfl) | rfl) ?_
     rintro tm ⟨fF, fG, fH, fI, fP, fJ, _⟩
     simp only [vz, tyf, cJ, bC, cg, cj, bf, fF, fG, fH, fI, fP, fJ, (aq kz), nm, seval]
     rw [CV]
     refine ⟨_, _, rfl, ?_, ?_, ?_, ?_, ?_, ?_, ?_, ?_, ?_⟩ <;> first | omega | (simp only [ua, cJ, bC, cg, cj, bf, fF, fG, fH, fI, fP, fJ, nm, seval] <;> rfl) | rfl | (simp only [ua, cJ, bC, cg, cj, bf, fF, fG, fH, fI, fP, fJ, nm, seval, cond_true, cond_false] <;> rfl)
    ·intro s jM
     rw [CV] at jM
     obtain ⟨tm, nxA, rfl, hA, fF, fG, fH, fI, fP, fJ, eL, eH⟩ := jM
     cases nr : (aF == aZ.Word)
     ·simp only [vz, tyf, cJ, bC, cg, cj, bf, fF, fG, fH, fI, fP, fJ, eL, eH, nr, nm, seval]
      rw [xu]
      rw [nr] at hlo
      refine ⟨_, _, rfl, ?_, ?_, ?_, ?_, ?_, ?_, ?_, ?_, ?_⟩ <;> first | omega | (simp only [ua, cJ, bC, cg, cj, bf, fF, fG, fH, fI, fP, fJ, eL, eH, nr, hlo, nm, seval] <;> rfl) | rfl | (simp only [ua, cJ, bC, cg, cj, bf, fF, fG, fH, fI, fP, fJ, eL, eH, nr, hlo, nm, seval, cond_true, cond_false] <;> rfl)
     ·simp only [vz, tyf, cJ, bC, cg, cj, bf, fF, fG, fH, fI, fP, fJ, eL, eH, nr, nm, seval]
      rw [xu]
      rw [nr] at hlo
      refine ⟨_, _, rfl, ?_, ?_, ?_, ?_, ?_, ?_, ?_, ?_, ?_⟩ <;> first | omega | (simp only [ua, cJ, bC, cg, cj, bf, fF, fG, fH, fI, fP, fJ, eL, eH, nr, hlo, nm, seval] <;> rfl) | rfl | (simp only [ua, cJ, bC, cg, cj, bf, fF, fG, fH, fI, fP, fJ, eL, eH, nr, hlo, nm, seval, cond_true, cond_false] <;> rfl)
    ·intro s jM
     rw [xu] at jM
     obtain ⟨tm, nxA, rfl, hA, fF, fG, fH, fI, fP, fJ, eL, eH⟩ := jM
     cases ns : (aF == b3.Word)
     ·simp only [vz, tyf, cJ, bC, cg, cj, bf, fF, fG, fH, fI, fP, fJ, eL, eH, ns, nm, seval]
      rw [xv]
      rw [ns] at hhi
      refine ⟨_, _, rfl, ?_, ?_, ?_, ?_, ?_, ?_, ?_, ?_, ?_⟩ <;> first | omega | (simp only [ua, cJ, bC, cg, cj, bf, fF, fG, fH, fI, fP, fJ, eL, eH, ns, hhi, nm, seval] <;> rfl) | rfl | (simp only [ua, cJ, bC, cg, cj, bf, fF, fG, fH, fI, fP, fJ, eL, eH, ns, hhi, nm, seval, cond_true, cond_false] <;> rfl)
     ·simp only [vz, tyf, cJ, bC, cg, cj, bf, fF, fG, fH, fI, fP, fJ, eL, eH, ns, nm, seval]
      rw [xv]
      rw [ns] at hhi
      refine ⟨_, _, rfl, ?_, ?_, ?_, ?_, ?_, ?_, ?_, ?_, ?_⟩ <;> first | omega | (simp only [ua, cJ, bC, cg, cj, bf, fF, fG, fH, fI, fP, fJ, eL, eH, ns, hhi, nm, seval] <;> rfl) | rfl | (simp only [ua, cJ, bC, cg, cj, bf, fF, fG, fH, fI, fP, fJ, eL, eH, ns, hhi, nm, seval, cond_true, cond_false] <;> rfl)
    ·intro s jM
     rw [xv] at jM
     obtain ⟨tm, nxA, rfl, hA, fF, fG, fH, fI, fP, fJ, eL, eH⟩ := jM
     simp only [vz, tyf, cJ, bC, cg, cj, bf, fF, fG, fH, fI, fP, fJ, eL, eH, (aq kz), iM, jr, nm, seval]
     obtain ⟨LF, h, Ud, vE, Ue, po⟩ := gp h jL
     obtain ⟨LG, Dd, h⟩ := call3 h
     obtain ⟨LH, pq⟩ : ∃ I : Nat → St → Prop, I = (fun m st => ∃ (jO : Nat) (cU : Int) (cV : List Grl) (mg : VV), jO = m ∧ loOk cU = true ∧ Int.toNat (hi - cU) = jO ∧ st.df = [] ∧ nxA ≤ st.nx ∧ st.H 0 = some (.cells (some 28) (cGLs ad)) ∧ st.H 1 = some (.cells (some 100) (cGLe aZ)) ∧ st.H 2 = some (.cells (some 100) (cGLe b3)) ∧ st.tm 1 = .sl (aa eI aj) (List.length aj) false ∧ st.tm 4 = .ptr 0 0 ∧ st.tm 6 = .ptr 1 0 ∧ st.tm 7 = .ptr 2 0 ∧ st.tm 10 = .lit (.int .i64 aF) ∧ st.tm 12 = .lit (.int .i64 hi) ∧ st.tm 9 = mg ∧ st.tm 13 = .lit (.int .i64 cU) ∧ ((∃ (β : Nat) (el : Option TypeId), mg = .ref β 0 (List.length cV) 2 (List.length cV) ∧ β < st.nx ∧ β ≠ 0 ∧ β ≠ 1 ∧ β ≠ 2 ∧ st.H β = some (.cells el (aa cGrl cV))) ∨ (mg = .lit (.slice none 0 0) ∧ cV = [])) ∧ LF (LG jO cU cV)) := ⟨_, rfl⟩
     refine loopK mixed (by kernel_rfl) LH (Int.toNat (hi - lo)) (by rw [pq]; refine ⟨Int.toNat (hi - lo), lo, ([] : List Grl), .lit (.slice none 0 0), rfl, jr, rfl, rfl, (by first | omega | (dsimp only; omega)), ?_, ?_, ?_, fF, fG, fH, fI, fJ, ?_, ?_, ?_, Or.inr ⟨rfl, rfl⟩, h⟩ <;> first | (simp only [ua, cJ, bC, cg, cj, bf, fF, fG, fH, fI, fP, fJ, eL, eH, nm, seval] <;> rfl) | rfl) ?_
     rintro m ⟨tm, H, iN, df⟩ hinv
     rw [pq] at hinv
     obtain ⟨jO, cU, cV, mg, rfl, pr, jD, hdf, De, gS, gT, gU, gB, gC, gD, gE, hZ, ia, iO, iP, pv, h⟩ := hinv
     simp only at hdf De gS gT gU gB gC gD gE hZ ia iO iP pv
     have eF := gq (m := 8) (b := iN) (by omega)
     subst hdf Dd
     rcases pv with ⟨sH, mh, rfl, Df, Dg, Dh, Di, mi⟩ | ⟨rfl, rfl⟩
     ·have iy := qa Df
      have iz := ne_f Dg
      have iA := ne_f Dh
      have iB := ne_f Di
      cases jO with
      | zero =>
       have x9 : (decide (cU < hi)) = false := FK jD
       simp only [qp, hs, reduceCtorEq] at h
       replace h := vE _ h
       try dsimp only at h
       try simp only [hs] at h
       simp only [vz, tyf, cJ, bC, cg, cj, bf, (aq kz), iM, jr, eF, gB, gC, gD, gE, hZ, ia, iO, iP, gS, gT, gU, iy, mi, iz, iA, iB, x9, nm, seval]
       exact ⟨mc, qZc _, by rw [nk]; refine ⟨mc, cV, i64.wrap (aF + 1), .ref sH 0 (List.length cV) 2 (List.length cV), rfl, rfl, (show 8 ≤ iN + 6 by omega), ?_, ?_, ?_, gB, gC, gD, gE, ?_, ?_, Or.inl ⟨sH, mh, rfl, (by first | omega | (simp only [nm, seval]; done) | (simp only [nm, seval]; omega)), (by first | omega | (intro hh; simp only [cJ, bC, cg, cj, bf, eF, iy, iz, iA, iB, reduceCtorEq] at hh)), (by first | omega | (intro hh; simp only [cJ, bC, cg, cj, bf, eF, iy, iz, iA, iB, reduceCtorEq] at hh)), (by first | omega | (intro hh; simp only [cJ, bC, cg, cj, bf, eF, iy, iz, iA, iB, reduceCtorEq] at hh)), ?_⟩, (by first | exact h | (simp only [cJ, bC, cg, cj, bf, x9]; exact h))⟩ <;> first | (simp only [ua, cJ, bC, cg, cj, bf, eF, gB, gC, gD, gE, hZ, ia, iO, iP, gS, gT, gU, iy, mi, iz, iA, iB, x9, nm, seval] <;> rfl) | rfl⟩
      | succ jO =>
       have qw : (decide (cU < hi)) = true := uh jD
       have sI := FM pr jD iM
       simp only [qp, hs, reduceCtorEq] at h
       obtain ⟨sJ, uo, h⟩ := optI h po
       try simp only [hs] at h
       cases oA : (av 16 (List.length (cV ++ [(Grl.mk aF sJ)])))
       ·simp only [oA, hs] at h
        exact absurd h po
       simp only [oA, hs] at h
       simp only [vz, tyf, cJ, bC, cg, cj, bf, (aq kz), iM, jr, eF, gB, gC, gD, gE, hZ, ia, iO, iP, gS, gT, gU, iy, mi, iz, iA, iB, qw, sI, (au uo), oA, nm, seval]
       refine k_app (w := 2) (enc := cGrl) (xs := cV) (ys := ([(Grl.mk aF sJ)])) (el := mh) (gg := (some 51)) (fun _ => rfl) pV pU Tryz.underlying49 (by first | rfl | assumption | (simp only [bw, bx, kZ, cJ, bC, cg, cj, bf, eF, gS, gT, gU, iy, mi, iz, iA, iB, nm, seval] <;> rfl) | (simp only [bw, bx, dj, d6, dp, dq, tyf, cJ, bC, cg, cj, bf, (aq kz), iM, jr, eF, gB, gC, gD, gE, hZ, ia, iO, iP, gS, gT, gU, iy, mi, iz, iA, iB, qw, sI, (au uo), oA, nm, seval]; done)) (by first | rfl | assumption | (simp only [bw, bx, kZ, cJ, bC, cg, cj, bf, eF, gS, gT, gU, iy, mi, iz, iA, iB, nm, seval] <;> rfl) | (simp only [bw, bx, dj, d6, dp, dq, tyf, cJ, bC, cg, cj, bf, (aq kz), iM, jr, eF, gB, gC, gD, gE, hZ, ia, iO, iP, gS, gT, gU, iy, mi, iz, iA, iB, qw, sI, (au uo), oA, nm, seval]; done)) (Nat.zero_lt_succ _) oA ?_
       simp only [vz, tyf, cJ, bC, cg, cj, bf, (aq kz), iM, jr, eF, gB, gC, gD, gE, hZ, ia, iO, iP, gS, gT, gU, iy, mi, iz, iA, iB, qw, sI, (au uo), oA, nm, seval]
       exact ⟨jO, qZc _, by rw [pq]; refine ⟨jO, cU + 1, (cV ++ [(Grl.mk aF sJ)]), .ref (iN + 16) 0 (List.length (cV ++ [(Grl.mk aF sJ)])) 2 (List.length (cV ++ [(Grl.mk aF sJ)])), rfl, ui pr, FN jD, rfl, (show nxA ≤ iN + 21 by omega), ?_, ?_, ?_, gB, gC, gD, gE, hZ, ia, ?_, ?_, Or.inl ⟨iN + 16, (sameEl mh 51), rfl, (by first | omega | (simp only [nm, seval]; done) | (simp only [nm, seval]; omega)), (by first | omega | (intro hh; simp only [cJ, bC, cg, cj, bf, eF, iy, iz, iA, iB, reduceCtorEq] at hh)), (by first | omega | (intro hh; simp only [cJ, bC, cg, cj, bf, eF, iy, iz, iA, iB, reduceCtorEq] at hh)), (by first | omega | (intro hh; simp only [cJ, bC, cg, cj, bf, eF, iy, iz, iA, iB, reduceCtorEq] at hh)), ?_⟩, (by first | exact h | (simp only [cJ, bC, cg, cj, bf, qw]; exact h))⟩ <;> first | (simp only [ua, cJ, bC, cg, cj, bf, eF, gB, gC, gD, gE, hZ, ia, iO, iP, gS, gT, gU, iy, mi, iz, iA, iB, qw, sI, nm, seval] <;> rfl) | rfl⟩
     ·cases jO with
      | zero =>
       have xA : (decide (cU < hi)) = false := FK jD
       simp only [qp, hs, reduceCtorEq] at h
       replace h := vE _ h
       try dsimp only at h
       try simp only [hs] at h
       simp only [vz, tyf, cJ, bC, cg, cj, bf, (aq kz), iM, jr, eF, gB, gC, gD, gE, hZ, ia, iO, iP, gS, gT, gU, xA, nm, seval]
       exact ⟨mc, qZc _, by rw [nk]; refine ⟨mc, ([] : List Grl), i64.wrap (aF + 1), .lit (.slice none 0 0), rfl, rfl, (show 8 ≤ iN + 6 by omega), ?_, ?_, ?_, gB, gC, gD, gE, ?_, ?_, Or.inr ⟨rfl, rfl⟩, (by first | exact h | (simp only [cJ, bC, cg, cj, bf, xA]; exact h))⟩ <;> first | (simp only [ua, cJ, bC, cg, cj, bf, eF, gB, gC, gD, gE, hZ, ia, iO, iP, gS, gT, gU, xA, nm, seval] <;> rfl) | rfl⟩
      | succ jO =>
       have sK : (decide (cU < hi)) = true := uh jD
       have uq := FM pr jD iM
       simp only [qp, hs, reduceCtorEq] at h
       obtain ⟨sL, xB, h⟩ := optI h po
       try simp only [hs] at h
       cases qx : (av 16 (List.length (([] : List Grl) ++ [(Grl.mk aF sL)])))
       ·simp only [qx, hs] at h
        exact absurd h po
       simp only [qx, hs] at h
       simp only [vz, tyf, cJ, bC, cg, cj, bf, (aq kz), iM, jr, eF, gB, gC, gD, gE, hZ, ia, iO, iP, gS, gT, gU, sK, uq, (au xB), qx, nm, seval]
       refine nc (w := 2) (enc := cGrl) (ys := ([(Grl.mk aF sL)])) (gg := (some 51)) (fun _ => rfl) pV pU Tryz.underlying49 (by first | rfl | assumption | (simp only [bw, bx, kZ, cJ, bC, cg, cj, bf, eF, gS, gT, gU, nm, seval] <;> rfl) | (simp only [bw, bx, dj, d6, dp, dq, tyf, cJ, bC, cg, cj, bf, (aq kz), iM, jr, eF, gB, gC, gD, gE, hZ, ia, iO, iP, gS, gT, gU, sK, uq, (au xB), qx, nm, seval]; done)) (Nat.zero_lt_succ _) qx ?_
       simp only [vz, tyf, cJ, bC, cg, cj, bf, (aq kz), iM, jr, eF, gB, gC, gD, gE, hZ, ia, iO, iP, gS, gT, gU, sK, uq, (au xB), qx, nm, seval]
       exact ⟨jO, qZc _, by rw [pq]; refine ⟨jO, cU + 1, (([] : List Grl) ++ [(Grl.mk aF sL)]), .ref (iN + 16) 0 (List.length (([] : List Grl) ++ [(Grl.mk aF sL)])) 2 (List.length (([] : List Grl) ++ [(Grl.mk aF sL)])), rfl, ui pr, FN jD, rfl, (show nxA ≤ iN + 21 by omega), ?_, ?_, ?_, gB, gC, gD, gE, hZ, ia, ?_, ?_, Or.inl ⟨iN + 16, (some 51), rfl, (by first | omega | (simp only [nm, seval]; done) | (simp only [nm, seval]; omega)), (by first | omega | (intro hh; simp only [cJ, bC, cg, cj, bf, eF, reduceCtorEq] at hh)), (by first | omega | (intro hh; simp only [cJ, bC, cg, cj, bf, eF, reduceCtorEq] at hh)), (by first | omega | (intro hh; simp only [cJ, bC, cg, cj, bf, eF, reduceCtorEq] at hh)), ?_⟩, (by first | exact h | (simp only [cJ, bC, cg, cj, bf, sK]; exact h))⟩ <;> first | (simp only [ua, cJ, bC, cg, cj, bf, eF, gB, gC, gD, gE, hZ, ia, iO, iP, gS, gT, gU, sK, uq, nm, seval] <;> rfl) | rfl⟩
   simp only [qv, hs] at h
   simp only [vz, tyf, cJ, bC, cg, cj, bf, sC, sD, sE, sF, uk, um, sG, qv, nm, seval]
   exact ⟨mc, qZc _, by rw [nk]; refine ⟨mc, ([] : List Grl), i64.wrap (aF + 1), .lit (.slice none 0 0), rfl, rfl, (show 8 ≤ ku + 10 by omega), ?_, ?_, ?_, sC, sD, sE, sF, ?_, ?_, Or.inr ⟨rfl, rfl⟩, (by first | exact h | (simp only [bf, qv]; exact h))⟩ <;> first | (simp only [ua, cJ, bC, cg, cj, bf, sC, sD, sE, sF, uk, um, sG, qv, nm, seval] <;> rfl) | rfl⟩
def tB (ad : GLs) (bm : GLx) : List GLe → Int → (List (List Grl)) → Int → Int → Option (LOut (List (List Grl)) ((List (List Grl)) × Int × Int))
 | [], gO, bB, gi, sM => some (.go (bB, gi, sM))
 | e0 :: p0, gO, bB, gi, sM => Option.bind (CS ad bm.Out (GLe.mk gi sM) e0) (fun r2 => cond (av 24 (List.length (bB ++ [r2]))) (tB ad bm p0 (gO + 1) (bB ++ [r2]) e0.Word e0.Letters) none)
def Cs (ad : GLs) (bm : GLx) : Option (List (List Grl)) := cond (lenOk bm.Ends) (lbind (tB ad bm bm.Ends 0 ([] : List (List Grl)) 0 0) (fun r4 => some r4) (fun c3 => some c3.1) (fun _ _ => none)) none
theorem Wu (ad : GLs) (bm : GLx) (R : List (List Grl)) (h : Cs ad bm = some R) : ag Tryz.prog G0 29 [.agg (cGLs ad), .agg (cGLx bm)] (.tree (.sl (aa (eSl cGrl) R) (List.length R) false)) := by
 refine ag.runR mixed Tryz.call29 Tryz.func29 rfl (by simp [Tryz.ntmps29]; kernel_rfl) ?_
 obtain ⟨KF, h, kF, kN⟩ := eC h
 simp only [Cs] at h
 cases g6 : (lenOk bm.Ends)
 ·simp only [g6, hs] at h
  exact absurd h kN
 simp only [g6, hs] at h
 simp only [vz, tyf, g6, nm, seval]
 obtain ⟨K5, h, zm, v7, JT, sv⟩ := gp h kN
 obtain ⟨f5, xg, h⟩ := call5 h
 obtain ⟨I5, nM⟩ : ∃ I : Nat → St → Prop, I = (fun m st => ∃ (p5 : List GLe) (eG : Int) (dB : List (List Grl)) (sN : Int) (sO : Int) (ur : VV), m = List.length p5 ∧ 0 ≤ eG ∧ List.drop (Int.toNat eG) bm.Ends = p5 ∧ st.df = [] ∧ 6 ≤ st.nx ∧ st.H 0 = some (.cells (some 28) (cGLs ad)) ∧ st.H 1 = some (.cells (some 31) (cGLx bm)) ∧ st.H 4 = some (.cells (some 100) ([.lit (.int .i64 sN)] ++ [.lit (.int .i64 sO)])) ∧ st.tm 2 = .ptr 0 0 ∧ st.tm 3 = .ptr 1 0 ∧ st.tm 6 = .ptr 4 0 ∧ st.tm 5 = ur ∧ st.tm 7 = .lit (.int .i64 eG) ∧ ((∃ (β : Nat) (el : Option TypeId), ur = .ref β 0 (List.length dB) 1 (List.length dB) ∧ β < st.nx ∧ β ≠ 0 ∧ β ≠ 1 ∧ β ≠ 4 ∧ st.H β = some (.cells el (aa (eSl cGrl) dB))) ∨ (ur = .lit (.slice none 0 0) ∧ dB = [])) ∧ K5 (f5 p5 eG dB sN sO)) := ⟨_, rfl⟩
 refine loopK mixed (by kernel_rfl) I5 (List.length bm.Ends) (by rw [nM]; refine ⟨bm.Ends, 0, ([] : List (List Grl)), 0, 0, .lit (.slice none 0 0), rfl, qZe _, rfl, rfl, (show 6 ≤ 6 by omega), ?_, ?_, ?_, ?_, ?_, ?_, ?_, ?_, Or.inr ⟨rfl, rfl⟩, h⟩ <;> first | (simp only [ua, nm, seval] <;> rfl) | rfl) ?_
 rintro m ⟨tm, H, nN, df⟩ hinv
 rw [nM] at hinv
 obtain ⟨p5, eG, dB, sN, sO, ur, rfl, hU, jf, hdf, xh, H7, H8, H9, aW, bc, bu, bj, bn, vF, h⟩ := hinv
 simp only at hdf xh H7 H8 H9 aW bc bu bj bn vF
 have fu := gq (m := 6) (b := nN) (by omega)
 subst hdf xg
 rcases vF with ⟨xC, vG, rfl, sc, sd, wQ, LI, lD⟩ | ⟨rfl, rfl⟩
 ·have la := qa sc
  have jH := ne_f sd
  have ng := ne_f wQ
  have zx := ne_f LI
  cases p5 with
  | nil =>
   have gj : (decide (eG < (List.length bm.Ends : Int))) = false := fy hU jf
   simp only [tB, hs, reduceCtorEq] at h
   replace h := v7 _ h
   try dsimp only at h
   try simp only [hs] at h
   try simp only [vz, tyf, g6, fu, aW, bc, bu, bj, bn, H7, H8, H9, la, lD, jH, ng, zx, gj, nm, seval]
   refine eh (x := (.ref xC 0 (List.length dB) 1 (List.length dB))) (by first | (simp only [Tryz.results29, resV, resL, aR, ei, ej, uw, cr, tyf, g6, fu, H7, H8, H9, la, lD, jH, ng, zx, gj, nm, seval] <;> rfl) | rfl) ?_
   obtain rfl := kF _ h
   refine eD ?_ ?_
   ·simp only [tre, aG, Bool.and_self]
   ·first | (simp only [outV, uw, ep, cr, tyf, nrm, aE, g6, fu, aW, bc, bu, bj, bn, H7, H8, H9, la, lD, jH, ng, zx, gj, nm, seval] <;> rfl) | rfl
  | cons e5 p5 =>
   have nK : (decide (eG < (List.length bm.Ends : Int))) = true := fz hU jf
   have jA := eg hU jf
   have tW := f2 hU jf g6
   simp only [tB, hs, reduceCtorEq] at h
   simp only [vz, tyf, g6, fu, aW, bc, bu, bj, bn, H7, H8, H9, la, lD, jH, ng, zx, nK, (aV jA), tW, nm, seval]
   refine vl (fun tm => tm 2 = .ptr 0 0 ∧ tm 3 = .ptr 1 0 ∧ tm 5 = .ref xC 0 (List.length dB) 1 (List.length dB) ∧ tm 6 = .ptr 4 0 ∧ tm 7 = .lit (.int .i64 eG) ∧ True) (by refine ⟨aW, bc, bj, bu, bn, trivial⟩ <;> first | (simp only [ua, fu, aW, bc, bu, bj, bn, H7, H8, H9, la, lD, jH, ng, zx, nK, tW, nm, seval] <;> rfl) | rfl) ?_
   rintro tm ⟨cN, dI, dm, dJ, eW, _⟩
   have nO := And.intro g6 (And.intro fu (And.intro H7 (And.intro H8 (And.intro H9 (And.intro la (And.intro lD (And.intro jH (And.intro ng (And.intro zx (And.intro nK tW))))))))))
   obtain ⟨im, rj, h⟩ := optI h sv
   try simp only [hs] at h
   simp only [vz, tyf, nO, (aV jA), cN, dI, dm, dJ, eW, nm, seval]
   refine dktA (TV _ _ _ _ _ rj) ?_
   refine b5 (fun tm => tm 2 = .ptr 0 0 ∧ tm 3 = .ptr 1 0 ∧ tm 6 = .ptr 4 0 ∧ tm 7 = .lit (.int .i64 eG) ∧ tm 15 = .ref xC 0 (List.length dB) 1 (List.length dB) ∧ tm 25 = .sl (aa cGrl im) (List.length im) false ∧ True) (by refine ⟨cN, dI, dJ, eW, ?_, ?_, trivial⟩ <;> first | (simp only [ua, nO, cN, dI, dm, dJ, eW, nm, seval] <;> rfl) | rfl) ?_
   rintro tm ⟨fA, eQ, eX, bM, bW, bH, _⟩
   cases vH : (av 24 (List.length (dB ++ [im])))
   ·simp only [vH, hs] at h
    exact absurd h sv
   simp only [vH, hs] at h
   simp only [vz, tyf, nO, (aV jA), fA, eQ, eX, bM, bW, bH, vH, nm, seval]
   refine k_app (w := 1) (enc := (eSl cGrl)) (xs := dB) (ys := ([im])) (el := vG) (gg := (some 49)) (fun _ => rfl) Bk Bj Tryz.underlying47 (by first | rfl | assumption | (simp only [bw, bx, tM, nO, nm, seval] <;> rfl) | (simp only [bw, bx, dj, d6, dp, dq, tyf, nO, (aV jA), fA, eQ, eX, bM, bW, bH, vH, nm, seval]; done)) (by first | rfl | assumption | (simp only [bw, bx, tM, nO, nm, seval] <;> rfl) | (simp only [bw, bx, dj, d6, dp, dq, tyf, nO, (aV jA), fA, eQ, eX, bM, bW, bH, vH, nm, seval]; done)) (Nat.zero_lt_succ _) vH ?_
   simp only [vz, tyf, nO, (aV jA), fA, eQ, eX, bM, bW, bH, vH, nm, seval]
   refine vm ⟨?_, ?_⟩
   ·simp only [vn, vo, nH, vp, and_true, true_and]
    repeat' (first | exact trivial | refine And.intro ?_ ?_ | rw [nH] | rw [vq] | exact Or.inl (by decide +kernel) | exact Or.inl (by dsimp only; decide +kernel) | (refine Or.inr ⟨?_, ?_⟩ <;> simp; done) | (refine Or.inr ⟨?_, ?_⟩ <;> simp <;> omega) | (refine Or.inr ⟨?_, ?_⟩ <;> simp [VEff.wr] <;> omega))
   simp only [vz, tyf, nO, (aV jA), fA, eQ, eX, bM, bW, bH, vH, nm, seval]
   exact ⟨List.length p5, qZc _, by rw [nM]; refine ⟨p5, eG + 1, (dB ++ [im]), e5.Word, e5.Letters, .ref (nN + 17) 0 (List.length (dB ++ [im])) 1 (List.length (dB ++ [im])), rfl, Int.le_trans hU (Int.le_add_one (qZe _)), bK hU jf, rfl, (show 6 ≤ nN + 28 by omega), ?_, ?_, ?_, fA, eQ, eX, ?_, ?_, Or.inl ⟨nN + 17, (sameEl vG 49), rfl, (by first | omega | (simp only [nm, seval]; done) | (simp only [nm, seval]; omega)), (by first | omega | (intro hh; simp only [nO, reduceCtorEq] at hh)), (by first | omega | (intro hh; simp only [nO, reduceCtorEq] at hh)), (by first | omega | (intro hh; simp only [nO, reduceCtorEq] at hh)), ?_⟩, (by first | exact h | (simp only [nO]; exact h))⟩ <;> first | (simp only [ua, nO, fA, eQ, eX, bM, bW, bH, nm, seval] <;> rfl) | rfl⟩
 ·cases p5 with
  | nil =>
   have LJ : (decide (eG < (List.length bm.Ends : Int))) = false := fy hU jf
   simp only [tB, hs, reduceCtorEq] at h
   replace h := v7 _ h
   try dsimp only at h
   try simp only [hs] at h
   try simp only [vz, tyf, g6, fu, aW, bc, bu, bj, bn, H7, H8, H9, LJ, nm, seval]
   refine eh (x := (.lit (.slice none 0 0))) (by first | (simp only [Tryz.results29, resV, resL, aR, ei, ej, uw, cr, tyf, g6, fu, H7, H8, H9, LJ, nm, seval] <;> rfl) | rfl) ?_
   obtain rfl := kF _ h
   refine eD ?_ ?_
   ·simp only [tre, aG, Bool.and_self]
   ·first | (simp only [outV, uw, ep, cr, tyf, nrm, aE, g6, fu, aW, bc, bu, bj, bn, H7, H8, H9, LJ, nm, seval] <;> rfl) | rfl
  | cons e5 p5 =>
   have eU : (decide (eG < (List.length bm.Ends : Int))) = true := fz hU jf
   have ri := eg hU jf
   have LK := f2 hU jf g6
   simp only [tB, hs, reduceCtorEq] at h
   simp only [vz, tyf, g6, fu, aW, bc, bu, bj, bn, H7, H8, H9, eU, (aV ri), LK, nm, seval]
   refine vl (fun tm => tm 2 = .ptr 0 0 ∧ tm 3 = .ptr 1 0 ∧ tm 5 = .lit (.slice none 0 0) ∧ tm 6 = .ptr 4 0 ∧ tm 7 = .lit (.int .i64 eG) ∧ True) (by refine ⟨aW, bc, bj, bu, bn, trivial⟩ <;> first | (simp only [ua, fu, aW, bc, bu, bj, bn, H7, H8, H9, eU, LK, nm, seval] <;> rfl) | rfl) ?_
   rintro tm ⟨ca, fB, fC, gM, fD, _⟩
   have rk := And.intro g6 (And.intro fu (And.intro H7 (And.intro H8 (And.intro H9 (And.intro eU LK)))))
   obtain ⟨xD, t7, h⟩ := optI h sv
   try simp only [hs] at h
   simp only [vz, tyf, rk, (aV ri), ca, fB, fC, gM, fD, nm, seval]
   refine dktA (TV _ _ _ _ _ t7) ?_
   refine b5 (fun tm => tm 2 = .ptr 0 0 ∧ tm 3 = .ptr 1 0 ∧ tm 6 = .ptr 4 0 ∧ tm 7 = .lit (.int .i64 eG) ∧ tm 15 = .lit (.slice none 0 0) ∧ tm 25 = .sl (aa cGrl xD) (List.length xD) false ∧ True) (by refine ⟨ca, fB, gM, fD, ?_, ?_, trivial⟩ <;> first | (simp only [ua, rk, ca, fB, fC, gM, fD, nm, seval] <;> rfl) | rfl) ?_
   rintro tm ⟨fm, gx, cE, cF, cC, cG, _⟩
   cases xE : (av 24 (List.length (([] : List (List Grl)) ++ [xD])))
   ·simp only [xE, hs] at h
    exact absurd h sv
   simp only [xE, hs] at h
   simp only [vz, tyf, rk, (aV ri), fm, gx, cE, cF, cC, cG, xE, nm, seval]
   refine nc (w := 1) (enc := (eSl cGrl)) (ys := ([xD])) (gg := (some 49)) (fun _ => rfl) Bk Bj Tryz.underlying47 (by first | rfl | assumption | (simp only [bw, bx, tM, rk, nm, seval] <;> rfl) | (simp only [bw, bx, dj, d6, dp, dq, tyf, rk, (aV ri), fm, gx, cE, cF, cC, cG, xE, nm, seval]; done)) (Nat.zero_lt_succ _) xE ?_
   simp only [vz, tyf, rk, (aV ri), fm, gx, cE, cF, cC, cG, xE, nm, seval]
   refine vm ⟨?_, ?_⟩
   ·simp only [vn, vo, nH, vp, and_true, true_and]
    repeat' (first | exact trivial | refine And.intro ?_ ?_ | rw [nH] | rw [vq] | exact Or.inl (by decide +kernel) | exact Or.inl (by dsimp only; decide +kernel) | (refine Or.inr ⟨?_, ?_⟩ <;> simp; done) | (refine Or.inr ⟨?_, ?_⟩ <;> simp <;> omega) | (refine Or.inr ⟨?_, ?_⟩ <;> simp [VEff.wr] <;> omega))
   simp only [vz, tyf, rk, (aV ri), fm, gx, cE, cF, cC, cG, xE, nm, seval]
   exact ⟨List.length p5, qZc _, by rw [nM]; refine ⟨p5, eG + 1, (([] : List (List Grl)) ++ [xD]), e5.Word, e5.Letters, .ref (nN + 17) 0 (List.length (([] : List (List Grl)) ++ [xD])) 1 (List.length (([] : List (List Grl)) ++ [xD])), rfl, Int.le_trans hU (Int.le_add_one (qZe _)), bK hU jf, rfl, (show 6 ≤ nN + 28 by omega), ?_, ?_, ?_, fm, gx, cE, ?_, ?_, Or.inl ⟨nN + 17, (some 49), rfl, (by first | omega | (simp only [nm, seval]; done) | (simp only [nm, seval]; omega)), (by first | omega | (intro hh; simp only [rk, reduceCtorEq] at hh)), (by first | omega | (intro hh; simp only [rk, reduceCtorEq] at hh)), (by first | omega | (intro hh; simp only [rk, reduceCtorEq] at hh)), ?_⟩, (by first | exact h | (simp only [rk]; exact h))⟩ <;> first | (simp only [ua, rk, fm, gx, cE, cF, cC, cG, nm, seval] <;> rfl) | rfl⟩
def xd (fW : Grl) (jP : Grl) : List GLp → Int → Option (LOut (GSpan) (Unit))
 | [], gO => some (.go ())
 | e0 :: p0, gO => cond (e0.Left == fW.Sign) (cond (e0.Right == jP.Sign) (some (.ret e0.Space)) (xd fW jP p0 (gO + 1))) (xd fW jP p0 (gO + 1))
def Ck (ad : GLs) (fW : Grl) (jP : Grl) : Option (GSpan) := cond (fW.Word != jP.Word) (some ad.Gap) (cond (lenOk ad.Pairs) (lbind (xd fW jP ad.Pairs 0) (fun r2 => some r2) (fun c1 => some ad.Other) (fun _ _ => none)) none)
theorem SY (ad : GLs) (fW : Grl) (jP : Grl) (R : GSpan) (h : Ck ad fW jP = some R) : ag Tryz.prog G0 30 [.agg (cGLs ad), .agg (cGrl fW), .agg (cGrl jP)] (.tree (.agg (cGSpan R))) := by
 refine ag.runR mixed Tryz.call30 Tryz.func30 rfl (by simp [Tryz.ntmps30]; kernel_rfl) ?_
 obtain ⟨KF, h, kF, kN⟩ := eC h
 simp only [Ck] at h
 cases d3 : (fW.Word != jP.Word)
 ·simp only [d3, hs] at h
  cases g5 : (lenOk ad.Pairs)
  ·simp only [g5, hs] at h
   exact absurd h kN
  simp only [g5, hs] at h
  simp only [vz, tyf, d3, g5, nm, seval]
  obtain ⟨K4, h, FO, Dj, Uf, Dk⟩ := gp h kN
  obtain ⟨f4, Dl, h⟩ := call2 h
  obtain ⟨I4, rl⟩ : ∃ I : Nat → St → Prop, I = (fun m st => ∃ (p4 : List GLp) (lr : Int), m = List.length p4 ∧ 0 ≤ lr ∧ List.drop (Int.toNat lr) ad.Pairs = p4 ∧ st.df = [] ∧ 10 ≤ st.nx ∧ st.H 0 = some (.cells (some 28) (cGLs ad)) ∧ st.H 1 = some (.cells (some 51) (cGrl fW)) ∧ st.H 2 = some (.cells (some 51) (cGrl jP)) ∧ st.H 3 = some (.cells (some 25) ([.lit (.int .i64 0)] ++ [.lit (.int .i64 0)])) ∧ st.tm 3 = .ptr 0 0 ∧ st.tm 4 = .ptr 1 0 ∧ st.tm 5 = .ptr 2 0 ∧ st.tm 6 = .ptr 3 0 ∧ st.tm 7 = .lit (.int .i64 lr) ∧ K4 (f4 p4 lr)) := ⟨_, rfl⟩
  refine loopK mixed (by kernel_rfl) I4 (List.length ad.Pairs) (by rw [rl]; refine ⟨ad.Pairs, 0, rfl, qZe _, rfl, rfl, (show 10 ≤ 10 by omega), ?_, ?_, ?_, ?_, ?_, ?_, ?_, ?_, ?_, h⟩ <;> first | (simp only [ua, d3, nm, seval] <;> rfl) | rfl) ?_
  rintro m ⟨tm, H, uu, df⟩ hinv
  rw [rl] at hinv
  obtain ⟨p4, lr, rfl, oB, rn, hdf, Dm, H6, H7, H8, H9, aW, bc, bu, bj, bn, h⟩ := hinv
  simp only at hdf Dm H6 H7 H8 H9 aW bc bu bj bn
  have fu := gq (m := 10) (b := uu) (by omega)
  subst hdf Dl
  cases p4 with
  | nil =>
   have eA : (decide (lr < (List.length ad.Pairs : Int))) = false := fy oB rn
   simp only [xd, hs, reduceCtorEq] at h
   replace h := Dj _ h
   try dsimp only at h
   try simp only [hs] at h
   try simp only [vz, tyf, d3, g5, fu, aW, bc, bu, bj, bn, H6, H7, H8, H9, eA, nm, seval]
   refine eh (x := (.agg (cGSpan ad.Other))) (by first | (simp only [Tryz.results30, resV, resL, aR, ei, ej, uw, cr, tyf, d3, g5, fu, aW, bc, bu, bj, bn, H6, H7, H8, H9, eA, nm, seval] <;> rfl) | rfl) ?_
   obtain rfl := kF _ h
   refine eD ?_ ?_
   ·simp only [tre, aG, Bool.and_self]
   ·first | (simp only [outV, uw, ep, cr, tyf, nrm, aE, d3, g5, fu, aW, bc, bu, bj, bn, H6, H7, H8, H9, eA, nm, seval] <;> rfl) | rfl
  | cons e4 p4 =>
   have iG : (decide (lr < (List.length ad.Pairs : Int))) = true := fz oB rn
   have qq := eg oB rn
   have uv := f2 oB rn g5
   simp only [xd, hs, reduceCtorEq] at h
   simp only [vz, tyf, d3, g5, fu, aW, bc, bu, bj, bn, H6, H7, H8, H9, iG, (bY qq), uv, nm, seval]
   refine km (fun tm => tm 3 = .ptr 0 0 ∧ tm 4 = .ptr 1 0 ∧ tm 5 = .ptr 2 0 ∧ tm 6 = .ptr 3 0 ∧ tm 7 = .lit (.int .i64 lr) ∧ True) (by refine ⟨aW, bc, bu, bj, bn, trivial⟩ <;> first | (simp only [ua, d3, fu, aW, bc, bu, bj, bn, H6, H7, H8, H9, iG, uv, nm, seval] <;> rfl) | rfl) ?_
   rintro tm ⟨ez, cn, bJ, cm, cu, _⟩
   have ux := And.intro d3 (And.intro g5 (And.intro fu (And.intro H6 (And.intro H7 (And.intro H8 (And.intro H9 (And.intro iG uv)))))))
   cases jW : (e4.Left == fW.Sign)
   ·simp only [jW, hs] at h
    simp only [vz, tyf, ux, (bY qq), ez, cn, bJ, cm, cu, jW, nm, seval]
    exact ⟨List.length p4, qZc _, by rw [rl]; refine ⟨p4, lr + 1, rfl, Int.le_trans oB (Int.le_add_one (qZe _)), bK oB rn, rfl, (show 10 ≤ uu + 28 by omega), ?_, ?_, ?_, ?_, ez, cn, bJ, cm, ?_, (by first | exact h | (simp only [ux, jW]; exact h))⟩ <;> first | (simp only [ua, ux, ez, cn, bJ, cm, cu, jW, nm, seval] <;> rfl) | rfl⟩
   simp only [jW, hs] at h
   cases mD : (e4.Right == jP.Sign)
   ·simp only [mD, hs] at h
    simp only [vz, tyf, ux, (bY qq), ez, cn, bJ, cm, cu, jW, mD, nm, seval]
    exact ⟨List.length p4, qZc _, by rw [rl]; refine ⟨p4, lr + 1, rfl, Int.le_trans oB (Int.le_add_one (qZe _)), bK oB rn, rfl, (show 10 ≤ uu + 28 by omega), ?_, ?_, ?_, ?_, ez, cn, bJ, cm, ?_, (by first | exact h | (simp only [ux, jW, mD]; exact h))⟩ <;> first | (simp only [ua, ux, ez, cn, bJ, cm, cu, jW, mD, nm, seval] <;> rfl) | rfl⟩
   simp only [mD, hs] at h
   try simp only [vz, tyf, ux, (bY qq), ez, cn, bJ, cm, cu, jW, mD, nm, seval]
   refine eh (x := (.agg (cGSpan e4.Space))) (by first | (simp only [Tryz.results30, resV, resL, aR, ei, ej, uw, cr, tyf, ux, (bY qq), ez, cn, bJ, cm, cu, jW, mD, nm, seval] <;> rfl) | rfl) ?_
   replace h := FO _ h
   try dsimp only at h
   obtain rfl := kF _ h
   refine eD ?_ ?_
   ·simp only [tre, aG, Bool.and_self]
   ·first | (simp only [outV, uw, ep, cr, tyf, nrm, aE, ux, (bY qq), ez, cn, bJ, cm, cu, jW, mD, nm, seval] <;> rfl) | rfl
 simp only [d3, hs] at h
 try simp only [vz, tyf, d3, nm, seval]
 refine eh (x := (.agg (cGSpan ad.Gap))) (by first | (simp only [Tryz.results30, resV, resL, aR, ei, ej, uw, cr, tyf, d3, nm, seval] <;> rfl) | rfl) ?_
 obtain rfl := kF _ h
 refine eD ?_ ?_
 ·simp only [tre, aG, Bool.and_self]
 ·first | (simp only [outV, uw, ep, cr, tyf, nrm, aE, d3, nm, seval] <;> rfl) | rfl
def zb (ad : GLs) (fW : Grl) : Option (Int) := cond (decide (fW.Sign < 0)) (some ad.Hyphen) (Option.bind (getI ad.Widths fW.Sign) (fun x1 => some x1))
theorem F3 (ad : GLs) (fW : Grl) (R : Int) (h : zb ad fW = some R) : ag Tryz.prog G0 120 [.agg (cGLs ad), .agg (cGrl fW)] (.tree (.lit (.int .i64 R))) := by
 refine ag.runR mixed Tryz.call120 Tryz.func120 rfl (by simp [Tryz.ntmps120]; kernel_rfl) ?_
 obtain ⟨KF, h, kF, kN⟩ := eC h
 simp only [zb] at h
 cases d2 : (decide (fW.Sign < 0))
 ·simp only [d2, hs] at h
  obtain ⟨x3, o4, h⟩ := optI h kN
  try simp only [hs] at h
  try simp only [vz, tyf, d2, (au o4), nm, seval]
  refine eh (x := (.lit (.int .i64 x3))) (by first | (simp only [Tryz.results120, resV, resL, aR, ei, ej, uw, cr, tyf, d2, (au o4), nm, seval] <;> rfl) | rfl) ?_
  obtain rfl := kF _ h
  refine eD ?_ ?_
  ·simp only [tre, aG, Bool.and_self]
  ·first | (simp only [outV, uw, ep, cr, tyf, nrm, aE, d2, (au o4), nm, seval] <;> rfl) | rfl
 simp only [d2, hs] at h
 try simp only [vz, tyf, d2, nm, seval]
 refine eh (x := (.lit (.int .i64 ad.Hyphen))) (by first | (simp only [Tryz.results120, resV, resL, aR, ei, ej, uw, cr, tyf, d2, nm, seval] <;> rfl) | rfl) ?_
 obtain rfl := kF _ h
 refine eD ?_ ?_
 ·simp only [tre, aG, Bool.and_self]
 ·first | (simp only [outV, uw, ep, cr, tyf, nrm, aE, d2, nm, seval] <;> rfl) | rfl
end Go.V
end
