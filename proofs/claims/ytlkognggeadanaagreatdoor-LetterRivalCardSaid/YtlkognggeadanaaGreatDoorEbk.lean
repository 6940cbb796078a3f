/- Part of a proof. -/
import Derived.Test.YtlkognggeadanaaGreatDoorEbj
set_option linter.all false
set_option maxRecDepth 4000
set_option maxHeartbeats 40000000
section
namespace Go.V
open Go Go.Proofs IntKind
def oD (dp : Int) : List Int → Int → (List GLe) → Option (LOut (List GLe) ((List GLe)))
 | [], tF, sB => some (.go sB)
 | e1 :: p1, tF, sB => cond (aB 16 (List.length (sB ++ [(GLe.mk dp e1)]))) (oD dp p1 (tF + 1) (sB ++ [(GLe.mk dp e1)])) none
def qX (aC : List Int) : List GLw → Int → (List GLe) → Option (LOut (List GLe) ((List GLe)))
 | [], dp, bB => some (.go bB)
 | e0 :: p0, dp, bB => Option.bind (xv aC dp) (fun r1 => cond (r1) (qX aC p0 (dp + 1) bB) (cond (lenOk e0.Cuts) (lbind (oD dp e0.Cuts 0 bB) (fun r3 => some (.ret r3)) (fun c2 => cond (aB 16 (List.length (c2 ++ [(GLe.mk dp (List.length e0.Signs : Int))]))) (qX aC p0 (dp + 1) (c2 ++ [(GLe.mk dp (List.length e0.Signs : Int))])) none) (fun _ _ => none)) none))
def u5 (ag : GLs) (aC : List Int) : Option (List GLe) := cond (lenOk ag.Words) (lbind (qX aC ag.Words 0 ([] : List GLe)) (fun r5 => some r5) (fun c4 => some c4) (fun _ _ => none)) none
theorem Ro (ag : GLs) (aC : List Int) (R : List GLe) (h : u5 ag aC = some R) : ad Tryz.prog G0 116 [.agg (cGLs ag), .sl (aa eI aC) (List.length aC) false] (.tree (.sl (aa cGLe R) (List.length R) false)) := by
 refine ad.runR mixed Tryz.call116 Tryz.func116 rfl (by simp [Tryz.ntmps116]; kernel_rfl) ?_
 obtain ⟨KF, h, kF, kN⟩ := dZ h
 simp only [u5] at h
 cases g7 : (lenOk ag.Words)
 ·simp only [g7, hs] at h
  exact absurd h kN
 simp only [g7, hs] at h
 simp only [vz, tyf, g7, nm, seval]
 obtain ⟨K6, h, v5, s5, OA, iC⟩ := gu h kN
 obtain ⟨f6, v7, h⟩ := call3 h
 obtain ⟨I6, iw⟩ : ∃ I : Nat → St → Prop, I = (fun m st => ∃ (p6 : List GLw) (aI : Int) (bm : List GLe) (kE : VV), m = List.length p6 ∧ 0 ≤ aI ∧ List.drop (Int.toNat aI) ag.Words = p6 ∧ st.df = [] ∧ 7 ≤ st.nx ∧ st.H 0 = some (.cells (some 28) (cGLs ag)) ∧ st.tm 1 = .sl (aa eI aC) (List.length aC) false ∧ st.tm 2 = .ptr 0 0 ∧ st.tm 11 = .lit (.int .i64 (List.length ag.Words : Int)) ∧ st.tm 5 = kE ∧ st.tm 12 = .lit (.int .i64 aI) ∧ ((∃ (β : Nat) (el : Option TypeId), kE = .ref β 0 (List.length bm) 2 (List.length bm) ∧ β < st.nx ∧ β ≠ 0 ∧ st.H β = some (.cells el (aa cGLe bm))) ∨ (kE = .lit (.slice none 0 0) ∧ bm = [])) ∧ K6 (f6 p6 aI bm)) := ⟨_, rfl⟩
 refine loopK mixed (by kernel_rfl) I6 (List.length ag.Words) (by rw [iw]; refine ⟨ag.Words, 0, ([] : List GLe), .lit (.slice none 0 0), rfl, Int.le_refl _, rfl, rfl, (show 7 ≤ 7 by omega), ?_, ?_, ?_, ?_, ?_, ?_, Or.inr ⟨rfl, rfl⟩, h⟩ <;> first | (simp only [ua, nm, seval] <;> rfl) | rfl) ?_
 rintro m ⟨tm, H, eD, df⟩ hinv
 rw [iw] at hinv
 obtain ⟨p6, aI, bm, kE, rfl, cN, eE, hdf, oS, H8, e9, bh, bj, bR, bz, lH, h⟩ := hinv
 simp only at hdf oS H8 e9 bh bj bR bz lH
 have cO := gv (m := 7) (b := eD) (by omega)
 subst hdf v7
 rcases lH with ⟨ju, ix, rfl, Ph, v8, qA⟩ | ⟨rfl, rfl⟩
 ·have xI := ub Ph
  have nk := ne_f v8
  cases p6 with
  | nil =>
   have d6 : (decide (aI < (List.length ag.Words : Int))) = false := fj cN eE
   simp only [qX, hs, reduceCtorEq] at h
   replace h := s5 _ h
   try dsimp only at h
   try simp only [hs] at h
   try simp only [vz, tyf, g7, cO, e9, bh, bj, bR, bz, H8, xI, qA, nk, d6, nm, seval]
   refine d4 (x := (.ref ju 0 (List.length bm) 2 (List.length bm))) (by first | (simp only [Tryz.results116, resV, resL, aJ, dU, dT, uw, cr, tyf, g7, cO, H8, xI, qA, nk, d6, nm, seval] <;> rfl) | rfl) ?_
   obtain rfl := kF _ h
   refine dW ?_ ?_
   ·simp only [tre, aw, Bool.and_self]
   ·first | (simp only [outV, uw, fu, cr, tyf, nrm, ar, g7, cO, e9, bh, bj, bR, bz, H8, xI, qA, nk, d6, nm, seval] <;> rfl) | rfl
  | cons e6 p6 =>
   have fH : (decide (aI < (List.length ag.Words : Int))) = true := fk cN eE
   have jd := eg cN eE
   have Pj := fm cN eE g7
   simp only [qX, hs, reduceCtorEq] at h
   obtain ⟨BN, qc, h⟩ := optI h iC
   try simp only [hs] at h
   simp only [vz, tyf, g7, cO, e9, bh, bj, bR, bz, H8, xI, qA, nk, fH, (aE jd), Pj, nm, seval]
   refine ktA (Dt _ _ _ qc) ?_
   refine bt (fun tm => tm 1 = .sl (aa eI aC) (List.length aC) false ∧ tm 2 = .ptr 0 0 ∧ tm 5 = .ref ju 0 (List.length bm) 2 (List.length bm) ∧ tm 6 = .lit (.int .i64 aI) ∧ tm 11 = .lit (.int .i64 (List.length ag.Words : Int)) ∧ tm 12 = .lit (.int .i64 aI) ∧ tm 17 = .lit (.bool BN) ∧ True) (by refine ⟨e9, bh, bR, ?_, bj, bz, ?_, trivial⟩ <;> first | (simp only [ua, cO, e9, bh, bj, bR, bz, H8, xI, qA, nk, fH, Pj, nm, seval] <;> rfl) | rfl) ?_
   rintro tm ⟨ej, eW, dI, ec, eG, gf, bQ, _⟩
   have dH := And.intro g7 (And.intro cO (And.intro H8 (And.intro xI (And.intro qA (And.intro nk (And.intro fH Pj))))))
   cases eT : (BN)
   ·simp only [eT, hs] at h
    cases kG : (lenOk e6.Cuts)
    ·simp only [kG, hs] at h
     exact absurd h iC
    simp only [kG, hs] at h
    simp only [vz, tyf, dH, (aE jd), ej, eW, dI, ec, eG, gf, bQ, eT, kG, nm, seval]
    obtain ⟨XL, h, XM, BW, XN, BX⟩ := gu h iC
    obtain ⟨XO, Pk, h⟩ := call3 h
    obtain ⟨XP, sC⟩ : ∃ I : Nat → St → Prop, I = (fun m st => ∃ (oU : List Int) (dR : Int) (dB : List GLe) (nq : VV), m = List.length oU ∧ 0 ≤ dR ∧ List.drop (Int.toNat dR) e6.Cuts = oU ∧ st.df = [] ∧ eD + 14 ≤ st.nx ∧ st.H 0 = some (.cells (some 28) (cGLs ag)) ∧ st.tm 1 = .sl (aa eI aC) (List.length aC) false ∧ st.tm 2 = .ptr 0 0 ∧ st.tm 6 = .lit (.int .i64 aI) ∧ st.tm 11 = .lit (.int .i64 (List.length ag.Words : Int)) ∧ st.tm 12 = .lit (.int .i64 aI) ∧ st.tm 23 = .sl (aa eI e6.Cuts) (List.length e6.Cuts) false ∧ st.tm 24 = .lit (.int .i64 (List.length e6.Cuts : Int)) ∧ st.tm 5 = nq ∧ st.tm 25 = .lit (.int .i64 dR) ∧ ((∃ (β : Nat) (el : Option TypeId), nq = .ref β 0 (List.length dB) 2 (List.length dB) ∧ β < st.nx ∧ β ≠ 0 ∧ st.H β = some (.cells el (aa cGLe dB))) ∨ (nq = .lit (.slice none 0 0) ∧ dB = [])) ∧ XL (XO oU dR dB)) := ⟨_, rfl⟩
    refine loopK mixed (by kernel_rfl) XP (List.length e6.Cuts) (by rw [sC]; refine ⟨e6.Cuts, 0, bm, .ref ju 0 (List.length bm) 2 (List.length bm), rfl, Int.le_refl _, rfl, rfl, (show eD + 14 ≤ eD + 14 by omega), ?_, ej, eW, ec, eG, gf, ?_, ?_, ?_, ?_, Or.inl ⟨ju, ix, rfl, (by first | omega | (simp only [nm, seval]; done) | (simp only [nm, seval]; omega)), (by first | omega | (intro hh; simp only [dH, reduceCtorEq] at hh)), ?_⟩, h⟩ <;> first | (simp only [ua, dH, ej, eW, dI, ec, eG, gf, bQ, eT, nm, seval] <;> rfl) | rfl) ?_
    rintro m ⟨tm, H, gJ, df⟩ hinv
    rw [sC] at hinv
    obtain ⟨oU, dR, dB, nq, rfl, iD, jK, hdf, Pl, fb, cq, bT, bC, bG, bE, cm, bP, cw, dE, qB, h⟩ := hinv
    simp only at hdf Pl fb cq bT bC bG bE cm bP cw dE qB
    have eQ := gv (m := 7) (b := gJ) (by omega)
    have gR := rH (a := eD) (m := 14) (b := gJ) (by omega)
    subst hdf Pk
    rcases qB with ⟨Tl, kH, rfl, vo, vp, nr⟩ | ⟨rfl, rfl⟩
    ·have jl := ub vo
     have jm := ne_f vp
     cases oU with
     | nil =>
      have nR : (decide (dR < (List.length e6.Cuts : Int))) = false := fj iD jK
      simp only [oD, hs, reduceCtorEq] at h
      replace h := BW _ h
      try dsimp only at h
      try simp only [hs] at h
      cases vL : (aB 16 (List.length (dB ++ [(GLe.mk aI (List.length e6.Signs : Int))])))
      ·simp only [vL, hs] at h
       exact absurd h iC
      simp only [vL, hs] at h
      simp only [vz, tyf, dH, (aE jd), eT, kG, eQ, gR, cq, bT, bC, bG, bE, cm, bP, cw, dE, fb, jl, nr, jm, nR, vL, nm, seval]
      refine k_app (w := 2) (enc := cGLe) (xs := dB) (ys := ([(GLe.mk aI (List.length e6.Signs : Int))])) (el := kH) (fZ := (some 100)) (fun _ => rfl) gk gj Tryz.underlying29 (by first | rfl | assumption | (simp only [br, bW, gW, dH, eQ, gR, fb, jl, nr, jm, nm, seval] <;> rfl) | (simp only [br, bW, fX, fJ, fT, fU, tyf, dH, (aE jd), eT, kG, eQ, gR, cq, bT, bC, bG, bE, cm, bP, cw, dE, fb, jl, nr, jm, nR, vL, nm, seval]; done)) (by first | rfl | assumption | (simp only [br, bW, gW, dH, eQ, gR, fb, jl, nr, jm, nm, seval] <;> rfl) | (simp only [br, bW, fX, fJ, fT, fU, tyf, dH, (aE jd), eT, kG, eQ, gR, cq, bT, bC, bG, bE, cm, bP, cw, dE, fb, jl, nr, jm, nR, vL, nm, seval]; done)) (Nat.zero_lt_succ _) vL ?_
      simp only [vz, tyf, dH, (aE jd), eT, kG, eQ, gR, cq, bT, bC, bG, bE, cm, bP, cw, dE, fb, jl, nr, jm, nR, vL, nm, seval]
      exact ⟨List.length p6, Nat.lt_succ_self _, by rw [iw]; refine ⟨p6, aI + 1, (dB ++ [(GLe.mk aI (List.length e6.Signs : Int))]), .ref (gJ + 12) 0 (List.length (dB ++ [(GLe.mk aI (List.length e6.Signs : Int))])) 2 (List.length (dB ++ [(GLe.mk aI (List.length e6.Signs : Int))])), rfl, Int.le_trans cN (Int.le_add_one (Int.le_refl _)), bS cN eE, rfl, (show 7 ≤ gJ + 16 by omega), ?_, cq, bT, bG, ?_, ?_, Or.inl ⟨gJ + 12, (sameEl kH 100), rfl, (by first | omega | (simp only [nm, seval]; done) | (simp only [nm, seval]; omega)), (by first | omega | (intro hh; simp only [dH, eQ, gR, jl, jm, reduceCtorEq] at hh)), ?_⟩, (by first | exact h | (simp only [dH, eT, nR]; exact h))⟩ <;> first | (simp only [ua, dH, eT, eQ, gR, cq, bT, bC, bG, bE, cm, bP, cw, dE, fb, jl, nr, jm, nR, nm, seval] <;> rfl) | rfl⟩
     | cons ed oU =>
      have xJ : (decide (dR < (List.length e6.Cuts : Int))) = true := fk iD jK
      have DF := eg iD jK
      have BY := fm iD jK kG
      simp only [oD, hs, reduceCtorEq] at h
      cases vM : (aB 16 (List.length (dB ++ [(GLe.mk aI ed)])))
      ·simp only [vM, hs] at h
       exact absurd h BX
      simp only [vM, hs] at h
      simp only [vz, tyf, dH, (aE jd), eT, kG, eQ, gR, cq, bT, bC, bG, bE, cm, bP, cw, dE, fb, jl, nr, jm, xJ, (aD DF), BY, vM, nm, seval]
      refine k_app (w := 2) (enc := cGLe) (xs := dB) (ys := ([(GLe.mk aI ed)])) (el := kH) (fZ := (some 100)) (fun _ => rfl) gk gj Tryz.underlying29 (by first | rfl | assumption | (simp only [br, bW, gW, dH, eQ, gR, fb, jl, nr, jm, nm, seval] <;> rfl) | (simp only [br, bW, fX, fJ, fT, fU, tyf, dH, (aE jd), eT, kG, eQ, gR, cq, bT, bC, bG, bE, cm, bP, cw, dE, fb, jl, nr, jm, xJ, (aD DF), BY, vM, nm, seval]; done)) (by first | rfl | assumption | (simp only [br, bW, gW, dH, eQ, gR, fb, jl, nr, jm, nm, seval] <;> rfl) | (simp only [br, bW, fX, fJ, fT, fU, tyf, dH, (aE jd), eT, kG, eQ, gR, cq, bT, bC, bG, bE, cm, bP, cw, dE, fb, jl, nr, jm, xJ, (aD DF), BY, vM, nm, seval]; done)) (Nat.zero_lt_succ _) vM ?_
      simp only [vz, tyf, dH, (aE jd), eT, kG, eQ, gR, cq, bT, bC, bG, bE, cm, bP, cw, dE, fb, jl, nr, jm, xJ, (aD DF), BY, vM, nm, seval]
      exact ⟨List.length oU, Nat.lt_succ_self _, by rw [sC]; refine ⟨oU, dR + 1, (dB ++ [(GLe.mk aI ed)]), .ref (gJ + 9) 0 (List.length (dB ++ [(GLe.mk aI ed)])) 2 (List.length (dB ++ [(GLe.mk aI ed)])), rfl, Int.le_trans iD (Int.le_add_one (Int.le_refl _)), bS iD jK, rfl, (show eD + 14 ≤ gJ + 13 by omega), ?_, cq, bT, bC, bG, bE, cm, bP, ?_, ?_, Or.inl ⟨gJ + 9, (sameEl kH 100), rfl, (by first | omega | (simp only [nm, seval]; done) | (simp only [nm, seval]; omega)), (by first | omega | (intro hh; simp only [dH, eQ, gR, jl, jm, reduceCtorEq] at hh)), ?_⟩, (by first | exact h | (simp only [dH, eT, xJ]; exact h))⟩ <;> first | (simp only [ua, dH, eT, eQ, gR, cq, bT, bC, bG, bE, cm, bP, cw, dE, fb, jl, nr, jm, xJ, BY, nm, seval] <;> rfl) | rfl⟩
    ·cases oU with
     | nil =>
      have BZ : (decide (dR < (List.length e6.Cuts : Int))) = false := fj iD jK
      simp only [oD, hs, reduceCtorEq] at h
      replace h := BW _ h
      try dsimp only at h
      try simp only [hs] at h
      cases xK : (aB 16 (List.length (([] : List GLe) ++ [(GLe.mk aI (List.length e6.Signs : Int))])))
      ·simp only [xK, hs] at h
       exact absurd h iC
      simp only [xK, hs] at h
      simp only [vz, tyf, dH, (aE jd), eT, kG, eQ, gR, cq, bT, bC, bG, bE, cm, bP, cw, dE, fb, BZ, xK, nm, seval]
      refine oM (w := 2) (enc := cGLe) (ys := ([(GLe.mk aI (List.length e6.Signs : Int))])) (fZ := (some 100)) (fun _ => rfl) gk gj Tryz.underlying29 (by first | rfl | assumption | (simp only [br, bW, gW, dH, eQ, gR, fb, nm, seval] <;> rfl) | (simp only [br, bW, fX, fJ, fT, fU, tyf, dH, (aE jd), eT, kG, eQ, gR, cq, bT, bC, bG, bE, cm, bP, cw, dE, fb, BZ, xK, nm, seval]; done)) (Nat.zero_lt_succ _) xK ?_
      simp only [vz, tyf, dH, (aE jd), eT, kG, eQ, gR, cq, bT, bC, bG, bE, cm, bP, cw, dE, fb, BZ, xK, nm, seval]
      exact ⟨List.length p6, Nat.lt_succ_self _, by rw [iw]; refine ⟨p6, aI + 1, (([] : List GLe) ++ [(GLe.mk aI (List.length e6.Signs : Int))]), .ref (gJ + 12) 0 (List.length (([] : List GLe) ++ [(GLe.mk aI (List.length e6.Signs : Int))])) 2 (List.length (([] : List GLe) ++ [(GLe.mk aI (List.length e6.Signs : Int))])), rfl, Int.le_trans cN (Int.le_add_one (Int.le_refl _)), bS cN eE, rfl, (show 7 ≤ gJ + 16 by omega), ?_, cq, bT, bG, ?_, ?_, Or.inl ⟨gJ + 12, (some 100), rfl, (by first | omega | (simp only [nm, seval]; done) | (simp only [nm, seval]; omega)), (by first | omega | (intro hh; simp only [dH, eQ, gR, reduceCtorEq] at hh)), ?_⟩, (by first | exact h | (simp only [dH, eT, BZ]; exact h))⟩ <;> first | (simp only [ua, dH, eT, eQ, gR, cq, bT, bC, bG, bE, cm, bP, cw, dE, fb, BZ, nm, seval] <;> rfl) | rfl⟩
     | cons ed oU =>
      have jg : (decide (dR < (List.length e6.Cuts : Int))) = true := fk iD jK
      have mH := eg iD jK
      have lZ := fm iD jK kG
      simp only [oD, hs, reduceCtorEq] at h
      cases xL : (aB 16 (List.length (([] : List GLe) ++ [(GLe.mk aI ed)])))
      ·simp only [xL, hs] at h
       exact absurd h BX
      simp only [xL, hs] at h
      simp only [vz, tyf, dH, (aE jd), eT, kG, eQ, gR, cq, bT, bC, bG, bE, cm, bP, cw, dE, fb, jg, (aD mH), lZ, xL, nm, seval]
      refine oM (w := 2) (enc := cGLe) (ys := ([(GLe.mk aI ed)])) (fZ := (some 100)) (fun _ => rfl) gk gj Tryz.underlying29 (by first | rfl | assumption | (simp only [br, bW, gW, dH, eQ, gR, fb, nm, seval] <;> rfl) | (simp only [br, bW, fX, fJ, fT, fU, tyf, dH, (aE jd), eT, kG, eQ, gR, cq, bT, bC, bG, bE, cm, bP, cw, dE, fb, jg, (aD mH), lZ, xL, nm, seval]; done)) (Nat.zero_lt_succ _) xL ?_
      simp only [vz, tyf, dH, (aE jd), eT, kG, eQ, gR, cq, bT, bC, bG, bE, cm, bP, cw, dE, fb, jg, (aD mH), lZ, xL, nm, seval]
      exact ⟨List.length oU, Nat.lt_succ_self _, by rw [sC]; refine ⟨oU, dR + 1, (([] : List GLe) ++ [(GLe.mk aI ed)]), .ref (gJ + 9) 0 (List.length (([] : List GLe) ++ [(GLe.mk aI ed)])) 2 (List.length (([] : List GLe) ++ [(GLe.mk aI ed)])), rfl, Int.le_trans iD (Int.le_add_one (Int.le_refl _)), bS iD jK, rfl, (show eD + 14 ≤ gJ + 13 by omega), ?_, cq, bT, bC, bG, bE, cm, bP, ?_, ?_, Or.inl ⟨gJ + 9, (some 100), rfl, (by first | omega | (simp only [nm, seval]; done) | (simp only [nm, seval]; omega)), (by first | omega | (intro hh; simp only [dH, eQ, gR, reduceCtorEq] at hh)), ?_⟩, (by first | exact h | (simp only [dH, eT, jg]; exact h))⟩ <;> first | (simp only [ua, dH, eT, eQ, gR, cq, bT, bC, bG, bE, cm, bP, cw, dE, fb, jg, lZ, nm, seval] <;> rfl) | rfl⟩
   simp only [eT, hs] at h
   simp only [vz, tyf, dH, (aE jd), ej, eW, dI, ec, eG, gf, bQ, eT, nm, seval]
   exact ⟨List.length p6, Nat.lt_succ_self _, by rw [iw]; refine ⟨p6, aI + 1, bm, .ref ju 0 (List.length bm) 2 (List.length bm), rfl, Int.le_trans cN (Int.le_add_one (Int.le_refl _)), bS cN eE, rfl, (show 7 ≤ eD + 8 by omega), ?_, ej, eW, eG, ?_, ?_, Or.inl ⟨ju, ix, rfl, (by first | omega | (simp only [nm, seval]; done) | (simp only [nm, seval]; omega)), (by first | omega | (intro hh; simp only [dH, reduceCtorEq] at hh)), ?_⟩, (by first | exact h | (simp only [dH, eT]; exact h))⟩ <;> first | (simp only [ua, dH, ej, eW, dI, ec, eG, gf, bQ, eT, nm, seval] <;> rfl) | rfl⟩
 ·cases p6 with
  | nil =>
   have Pm : (decide (aI < (List.length ag.Words : Int))) = false := fj cN eE
   simp only [qX, hs, reduceCtorEq] at h
   replace h := s5 _ h
   try dsimp only at h
   try simp only [hs] at h
   try simp only [vz, tyf, g7, cO, e9, bh, bj, bR, bz, H8, Pm, nm, seval]
   refine d4 (x := (.lit (.slice none 0 0))) (by first | (simp only [Tryz.results116, resV, resL, aJ, dU, dT, uw, cr, tyf, g7, cO, H8, Pm, nm, seval] <;> rfl) | rfl) ?_
   obtain rfl := kF _ h
   refine dW ?_ ?_
   ·simp only [tre, aw, Bool.and_self]
   ·first | (simp only [outV, uw, fu, cr, tyf, nrm, ar, g7, cO, e9, bh, bj, bR, bz, H8, Pm, nm, seval] <;> rfl) | rfl
  | cons e6 p6 =>
   have gL : (decide (aI < (List.length ag.Words : Int))) = true := fk cN eE
   have lJ := eg cN eE
   have iM := fm cN eE g7
   simp only [qX, hs, reduceCtorEq] at h
   obtain ⟨Tm, Af, h⟩ := optI h iC
   try simp only [hs] at h
   simp only [vz, tyf, g7, cO, e9, bh, bj, bR, bz, H8, gL, (aE lJ), iM, nm, seval]
   refine ktA (Dt _ _ _ Af) ?_
   refine bt (fun tm => tm 1 = .sl (aa eI aC) (List.length aC) false ∧ tm 2 = .ptr 0 0 ∧ tm 5 = .lit (.slice none 0 0) ∧ tm 6 = .lit (.int .i64 aI) ∧ tm 11 = .lit (.int .i64 (List.length ag.Words : Int)) ∧ tm 12 = .lit (.int .i64 aI) ∧ tm 17 = .lit (.bool Tm) ∧ True) (by refine ⟨e9, bh, bR, ?_, bj, bz, ?_, trivial⟩ <;> first | (simp only [ua, cO, e9, bh, bj, bR, bz, H8, gL, iM, nm, seval] <;> rfl) | rfl) ?_
   rintro tm ⟨qU, qV, fy, mV, m3, jA, fF, _⟩
   cases gM : (Tm)
   ·simp only [gM, hs] at h
    cases kI : (lenOk e6.Cuts)
    ·simp only [kI, hs] at h
     exact absurd h iC
    simp only [kI, hs] at h
    simp only [vz, tyf, g7, cO, H8, gL, (aE lJ), iM, qU, qV, fy, mV, m3, jA, fF, gM, kI, nm, seval]
    obtain ⟨XQ, h, XR, Ca, XS, Cb⟩ := gu h iC
    obtain ⟨XT, Pn, h⟩ := call3 h
    obtain ⟨XU, sD⟩ : ∃ I : Nat → St → Prop, I = (fun m st => ∃ (oV : List Int) (dS : Int) (dC : List GLe) (nt : VV), m = List.length oV ∧ 0 ≤ dS ∧ List.drop (Int.toNat dS) e6.Cuts = oV ∧ st.df = [] ∧ eD + 14 ≤ st.nx ∧ st.H 0 = some (.cells (some 28) (cGLs ag)) ∧ st.tm 1 = .sl (aa eI aC) (List.length aC) false ∧ st.tm 2 = .ptr 0 0 ∧ st.tm 6 = .lit (.int .i64 aI) ∧ st.tm 11 = .lit (.int .i64 (List.length ag.Words : Int)) ∧ st.tm 12 = .lit (.int .i64 aI) ∧ st.tm 23 = .sl (aa eI e6.Cuts) (List.length e6.Cuts) false ∧ st.tm 24 = .lit (.int .i64 (List.length e6.Cuts : Int)) ∧ st.tm 5 = nt ∧ st.tm 25 = .lit (.int .i64 dS) ∧ ((∃ (β : Nat) (el : Option TypeId), nt = .ref β 0 (List.length dC) 2 (List.length dC) ∧ β < st.nx ∧ β ≠ 0 ∧ st.H β = some (.cells el (aa cGLe dC))) ∨ (nt = .lit (.slice none 0 0) ∧ dC = [])) ∧ XQ (XT oV dS dC)) := ⟨_, rfl⟩
    refine loopK mixed (by kernel_rfl) XU (List.length e6.Cuts) (by rw [sD]; refine ⟨e6.Cuts, 0, ([] : List GLe), .lit (.slice none 0 0), rfl, Int.le_refl _, rfl, rfl, (show eD + 14 ≤ eD + 14 by omega), ?_, qU, qV, mV, m3, jA, ?_, ?_, ?_, ?_, Or.inr ⟨rfl, rfl⟩, h⟩ <;> first | (simp only [ua, cO, H8, gL, iM, qU, qV, fy, mV, m3, jA, fF, gM, nm, seval] <;> rfl) | rfl) ?_
    rintro m ⟨tm, H, gN, df⟩ hinv
    rw [sD] at hinv
    obtain ⟨oV, dS, dC, nt, rfl, iE, jL, hdf, Po, iF, bF, cj, cg, bZ, dy, dF, cM, cy, cH, qC, h⟩ := hinv
    simp only at hdf Po iF bF cj cg bZ dy dF cM cy cH qC
    have gS := gv (m := 7) (b := gN) (by omega)
    have eC := rH (a := eD) (m := 14) (b := gN) (by omega)
    subst hdf Pn
    rcases qC with ⟨Tn, kJ, rfl, Pp, Pq, nu⟩ | ⟨rfl, rfl⟩
    ·have mb := ub Pp
     have md := ne_f Pq
     cases oV with
     | nil =>
      have pd : (decide (dS < (List.length e6.Cuts : Int))) = false := fj iE jL
      simp only [oD, hs, reduceCtorEq] at h
      replace h := Ca _ h
      try dsimp only at h
      try simp only [hs] at h
      cases vN : (aB 16 (List.length (dC ++ [(GLe.mk aI (List.length e6.Signs : Int))])))
      ·simp only [vN, hs] at h
       exact absurd h iC
      simp only [vN, hs] at h
      simp only [vz, tyf, g7, cO, gL, (aE lJ), iM, gM, kI, gS, eC, bF, cj, cg, bZ, dy, dF, cM, cy, cH, iF, mb, nu, md, pd, vN, nm, seval]
      refine k_app (w := 2) (enc := cGLe) (xs := dC) (ys := ([(GLe.mk aI (List.length e6.Signs : Int))])) (el := kJ) (fZ := (some 100)) (fun _ => rfl) gk gj Tryz.underlying29 (by first | rfl | assumption | (simp only [br, bW, gW, cO, gS, eC, iF, mb, nu, md, nm, seval] <;> rfl) | (simp only [br, bW, fX, fJ, fT, fU, tyf, g7, cO, gL, (aE lJ), iM, gM, kI, gS, eC, bF, cj, cg, bZ, dy, dF, cM, cy, cH, iF, mb, nu, md, pd, vN, nm, seval]; done)) (by first | rfl | assumption | (simp only [br, bW, gW, cO, gS, eC, iF, mb, nu, md, nm, seval] <;> rfl) | (simp only [br, bW, fX, fJ, fT, fU, tyf, g7, cO, gL, (aE lJ), iM, gM, kI, gS, eC, bF, cj, cg, bZ, dy, dF, cM, cy, cH, iF, mb, nu, md, pd, vN, nm, seval]; done)) (Nat.zero_lt_succ _) vN ?_
      simp only [vz, tyf, g7, cO, gL, (aE lJ), iM, gM, kI, gS, eC, bF, cj, cg, bZ, dy, dF, cM, cy, cH, iF, mb, nu, md, pd, vN, nm, seval]
      exact ⟨List.length p6, Nat.lt_succ_self _, by rw [iw]; refine ⟨p6, aI + 1, (dC ++ [(GLe.mk aI (List.length e6.Signs : Int))]), .ref (gN + 12) 0 (List.length (dC ++ [(GLe.mk aI (List.length e6.Signs : Int))])) 2 (List.length (dC ++ [(GLe.mk aI (List.length e6.Signs : Int))])), rfl, Int.le_trans cN (Int.le_add_one (Int.le_refl _)), bS cN eE, rfl, (show 7 ≤ gN + 16 by omega), ?_, bF, cj, bZ, ?_, ?_, Or.inl ⟨gN + 12, (sameEl kJ 100), rfl, (by first | omega | (simp only [nm, seval]; done) | (simp only [nm, seval]; omega)), (by first | omega | (intro hh; simp only [cO, gS, eC, mb, md, reduceCtorEq] at hh)), ?_⟩, (by first | exact h | (simp only [gL, gM, pd]; exact h))⟩ <;> first | (simp only [ua, cO, gL, iM, gM, gS, eC, bF, cj, cg, bZ, dy, dF, cM, cy, cH, iF, mb, nu, md, pd, nm, seval] <;> rfl) | rfl⟩
     | cons dX oV =>
      have ma : (decide (dS < (List.length e6.Cuts : Int))) = true := fk iE jL
      have xF := eg iE jL
      have Cc := fm iE jL kI
      simp only [oD, hs, reduceCtorEq] at h
      cases vO : (aB 16 (List.length (dC ++ [(GLe.mk aI dX)])))
      ·simp only [vO, hs] at h
       exact absurd h Cb
      simp only [vO, hs] at h
      simp only [vz, tyf, g7, cO, gL, (aE lJ), iM, gM, kI, gS, eC, bF, cj, cg, bZ, dy, dF, cM, cy, cH, iF, mb, nu, md, ma, (aD xF), Cc, vO, nm, seval]
      refine k_app (w := 2) (enc := cGLe) (xs := dC) (ys := ([(GLe.mk aI dX)])) (el := kJ) (fZ := (some 100)) (fun _ => rfl) gk gj Tryz.underlying29 (by first | rfl | assumption | (simp only [br, bW, gW, cO, gS, eC, iF, mb, nu, md, nm, seval] <;> rfl) | (simp only [br, bW, fX, fJ, fT, fU, tyf, g7, cO, gL, (aE lJ), iM, gM, kI, gS, eC, bF, cj, cg, bZ, dy, dF, cM, cy, cH, iF, mb, nu, md, ma, (aD xF), Cc, vO, nm, seval]; done)) (by first | rfl | assumption | (simp only [br, bW, gW, cO, gS, eC, iF, mb, nu, md, nm, seval] <;> rfl) | (simp only [br, bW, fX, fJ, fT, fU, tyf, g7, cO, gL, (aE lJ), iM, gM, kI, gS, eC, bF, cj, cg, bZ, dy, dF, cM, cy, cH, iF, mb, nu, md, ma, (aD xF), Cc, vO, nm, seval]; done)) (Nat.zero_lt_succ _) vO ?_
      simp only [vz, tyf, g7, cO, gL, (aE lJ), iM, gM, kI, gS, eC, bF, cj, cg, bZ, dy, dF, cM, cy, cH, iF, mb, nu, md, ma, (aD xF), Cc, vO, nm, seval]
      exact ⟨List.length oV, Nat.lt_succ_self _, by rw [sD]; refine ⟨oV, dS + 1, (dC ++ [(GLe.mk aI dX)]), .ref (gN + 9) 0 (List.length (dC ++ [(GLe.mk aI dX)])) 2 (List.length (dC ++ [(GLe.mk aI dX)])), rfl, Int.le_trans iE (Int.le_add_one (Int.le_refl _)), bS iE jL, rfl, (show eD + 14 ≤ gN + 13 by omega), ?_, bF, cj, cg, bZ, dy, dF, cM, ?_, ?_, Or.inl ⟨gN + 9, (sameEl kJ 100), rfl, (by first | omega | (simp only [nm, seval]; done) | (simp only [nm, seval]; omega)), (by first | omega | (intro hh; simp only [cO, gS, eC, mb, md, reduceCtorEq] at hh)), ?_⟩, (by first | exact h | (simp only [gL, gM, ma]; exact h))⟩ <;> first | (simp only [ua, cO, gL, iM, gM, gS, eC, bF, cj, cg, bZ, dy, dF, cM, cy, cH, iF, mb, nu, md, ma, Cc, nm, seval] <;> rfl) | rfl⟩
    ·cases oV with
     | nil =>
      have so : (decide (dS < (List.length e6.Cuts : Int))) = false := fj iE jL
      simp only [oD, hs, reduceCtorEq] at h
      replace h := Ca _ h
      try dsimp only at h
      try simp only [hs] at h
      cases oE : (aB 16 (List.length (([] : List GLe) ++ [(GLe.mk aI (List.length e6.Signs : Int))])))
      ·simp only [oE, hs] at h
       exact absurd h iC
      simp only [oE, hs] at h
      simp only [vz, tyf, g7, cO, gL, (aE lJ), iM, gM, kI, gS, eC, bF, cj, cg, bZ, dy, dF, cM, cy, cH, iF, so, oE, nm, seval]
      refine oM (w := 2) (enc := cGLe) (ys := ([(GLe.mk aI (List.length e6.Signs : Int))])) (fZ := (some 100)) (fun _ => rfl) gk gj Tryz.underlying29 (by first | rfl | assumption | (simp only [br, bW, gW, cO, gS, eC, iF, nm, seval] <;> rfl) | (simp only [br, bW, fX, fJ, fT, fU, tyf, g7, cO, gL, (aE lJ), iM, gM, kI, gS, eC, bF, cj, cg, bZ, dy, dF, cM, cy, cH, iF, so, oE, nm, seval]; done)) (Nat.zero_lt_succ _) oE ?_
      simp only [vz, tyf, g7, cO, gL, (aE lJ), iM, gM, kI, gS, eC, bF, cj, cg, bZ, dy, dF, cM, cy, cH, iF, so, oE, nm, seval]
      exact ⟨List.length p6, Nat.lt_succ_self _, by rw [iw]; refine ⟨p6, aI + 1, (([] : List GLe) ++ [(GLe.mk aI (List.length e6.Signs : Int))]), .ref (gN + 12) 0 (List.length (([] : List GLe) ++ [(GLe.mk aI (List.length e6.Signs : Int))])) 2 (List.length (([] : List GLe) ++ [(GLe.mk aI (List.length e6.Signs : Int))])), rfl, Int.le_trans cN (Int.le_add_one (Int.le_refl _)), bS cN eE, rfl, (show 7 ≤ gN + 16 by omega), ?_, bF, cj, bZ, ?_, ?_, Or.inl ⟨gN + 12, (some 100), rfl, (by first | omega | (simp only [nm, seval]; done) | (simp only [nm, seval]; omega)), (by first | omega | (intro hh; simp only [cO, gS, eC, reduceCtorEq] at hh)), ?_⟩, (by first | exact h | (simp only [gL, gM, so]; exact h))⟩ <;> first | (simp only [ua, cO, gL, iM, gM, gS, eC, bF, cj, cg, bZ, dy, dF, cM, cy, cH, iF, so, nm, seval] <;> rfl) | rfl⟩
     | cons dX oV =>
      have qD : (decide (dS < (List.length e6.Cuts : Int))) = true := fk iE jL
      have vP := eg iE jL
      have sF := fm iE jL kI
      simp only [oD, hs, reduceCtorEq] at h
      cases oF : (aB 16 (List.length (([] : List GLe) ++ [(GLe.mk aI dX)])))
      ·simp only [oF, hs] at h
       exact absurd h Cb
      simp only [oF, hs] at h
      simp only [vz, tyf, g7, cO, gL, (aE lJ), iM, gM, kI, gS, eC, bF, cj, cg, bZ, dy, dF, cM, cy, cH, iF, qD, (aD vP), sF, oF, nm, seval]
      refine oM (w := 2) (enc := cGLe) (ys := ([(GLe.mk aI dX)])) (fZ := (some 100)) (fun _ => rfl) gk gj Tryz.underlying29 (by first | rfl | assumption | (simp only [br, bW, gW, cO, gS, eC, iF, nm, seval] <;> rfl) | (simp only [br, bW, fX, fJ, fT, fU, tyf, g7, cO, gL, (aE lJ), iM, gM, kI, gS, eC, bF, cj, cg, bZ, dy, dF, cM, cy, cH, iF, qD, (aD vP), sF, oF, nm, seval]; done)) (Nat.zero_lt_succ _) oF ?_
      simp only [vz, tyf, g7, cO, gL, (aE lJ), iM, gM, kI, gS, eC, bF, cj, cg, bZ, dy, dF, cM, cy, cH, iF, qD, (aD vP), sF, oF, nm, seval]
      exact ⟨List.length oV, Nat.lt_succ_self _, by rw [sD]; refine ⟨oV, dS + 1, (([] : List GLe) ++ [(GLe.mk aI dX)]), .ref (gN + 9) 0 (List.length (([] : List GLe) ++ [(GLe.mk aI dX)])) 2 (List.length (([] : List GLe) ++ [(GLe.mk aI dX)])), rfl, Int.le_trans iE (Int.le_add_one (Int.le_refl _)), bS iE jL, rfl, (show eD + 14 ≤ gN + 13 by omega), ?_, bF, cj, cg, bZ, dy, dF, cM, ?_, ?_, Or.inl ⟨gN + 9, (some 100), rfl, (by first | omega | (simp only [nm, seval]; done) | (simp only [nm, seval]; omega)), (by first | omega | (intro hh; simp only [cO, gS, eC, reduceCtorEq] at hh)), ?_⟩, (by first | exact h | (simp only [gL, gM, qD]; exact h))⟩ <;> first | (simp only [ua, cO, gL, iM, gM, gS, eC, bF, cj, cg, bZ, dy, dF, cM, cy, cH, iF, qD, sF, nm, seval] <;> rfl) | rfl⟩
   simp only [gM, hs] at h
   simp only [vz, tyf, g7, cO, H8, gL, (aE lJ), iM, qU, qV, fy, mV, m3, jA, fF, gM, nm, seval]
   exact ⟨List.length p6, Nat.lt_succ_self _, by rw [iw]; refine ⟨p6, aI + 1, ([] : List GLe), .lit (.slice none 0 0), rfl, Int.le_trans cN (Int.le_add_one (Int.le_refl _)), bS cN eE, rfl, (show 7 ≤ eD + 8 by omega), ?_, qU, qV, m3, ?_, ?_, Or.inr ⟨rfl, rfl⟩, (by first | exact h | (simp only [gL, gM]; exact h))⟩ <;> first | (simp only [ua, cO, H8, gL, iM, qU, qV, fy, mV, m3, jA, fF, gM, nm, seval] <;> rfl) | rfl⟩
def sG (dr : GLe) : List GLe → Int → Option (LOut (Int) (Unit))
 | [], gZ => some (.go ())
 | e0 :: p0, gZ => cond (dr.Word == e0.Word && (dr.Letters == e0.Letters)) (some (.ret gZ)) (sG dr p0 (gZ + 1))
def DG (ag : List GLe) (dr : GLe) : Option (Int) := cond (lenOk ag) (lbind (sG dr ag 0) (fun r2 => some r2) (fun c1 => some (-1)) (fun _ _ => none)) none
theorem XV (ag : List GLe) (dr : GLe) (R : Int) (h : DG ag dr = some R) : ad Tryz.prog G0 150 [.sl (aa cGLe ag) (List.length ag) false, .agg (cGLe dr)] (.tree (.lit (.int .i64 R))) := by
 refine ad.runR mixed Tryz.call150 Tryz.func150 rfl (by simp [Tryz.ntmps150]; kernel_rfl) ?_
 obtain ⟨KF, h, kF, kN⟩ := dZ h
 simp only [DG] at h
 cases g4 : (lenOk ag)
 ·simp only [g4, hs] at h
  exact absurd h kN
 simp only [g4, hs] at h
 simp only [vz, tyf, g4, nm, seval]
 obtain ⟨K3, h, pV, oN, Aa, Ab⟩ := gu h kN
 obtain ⟨f3, pW, h⟩ := call2 h
 obtain ⟨I3, ja⟩ : ∃ I : Nat → St → Prop, I = (fun m st => ∃ (p3 : List GLe) (bM : Int), m = List.length p3 ∧ 0 ≤ bM ∧ List.drop (Int.toNat bM) ag = p3 ∧ st.df = [] ∧ 5 ≤ st.nx ∧ st.H 0 = some (.cells (some 100) (cGLe dr)) ∧ st.tm 0 = .sl (aa cGLe ag) (List.length ag) false ∧ st.tm 3 = .ptr 0 0 ∧ st.tm 7 = .lit (.int .i64 (List.length ag : Int)) ∧ st.tm 8 = .lit (.int .i64 bM) ∧ K3 (f3 p3 bM)) := ⟨_, rfl⟩
 refine loopK mixed (by kernel_rfl) I3 (List.length ag) (by rw [ja]; refine ⟨ag, 0, rfl, Int.le_refl _, rfl, rfl, (show 5 ≤ 5 by omega), ?_, ?_, ?_, ?_, ?_, h⟩ <;> first | (simp only [ua, nm, seval] <;> rfl) | rfl) ?_
 rintro m ⟨tm, H, lk, df⟩ hinv
 rw [ja] at hinv
 obtain ⟨p3, bM, rfl, eM, fx, hdf, pZ, H5, e6, e7, e8, e9, h⟩ := hinv
 simp only at hdf pZ H5 e6 e7 e8 e9
 have jw := gv (m := 5) (b := lk) (by omega)
 subst hdf pW
 cases p3 with
 | nil =>
  have fg : (decide (bM < (List.length ag : Int))) = false := fj eM fx
  simp only [sG, hs, reduceCtorEq] at h
  replace h := oN _ h
  try dsimp only at h
  try simp only [hs] at h
  try simp only [vz, tyf, g4, jw, e6, e7, e8, e9, H5, fg, nm, seval]
  refine d4 (x := (.lit (.int .i64 (-1)))) (by first | (simp only [Tryz.results150, resV, resL, aJ, dU, dT, uw, cr, tyf, g4, jw, H5, fg, nm, seval] <;> rfl) | rfl) ?_
  obtain rfl := kF _ h
  refine dW ?_ ?_
  ·simp only [tre, aw, Bool.and_self]
  ·first | (simp only [outV, uw, fu, cr, tyf, nrm, ar, g4, jw, e6, e7, e8, e9, H5, fg, nm, seval] <;> rfl) | rfl
 | cons e3 p3 =>
  have dt : (decide (bM < (List.length ag : Int))) = true := fk eM fx
  have ka := eg eM fx
  have iP := fm eM fx g4
  simp only [sG, hs, reduceCtorEq] at h
  simp only [vz, tyf, g4, jw, e6, e7, e8, e9, H5, dt, (aG ka), iP, nm, seval]
  refine mO (fun tm => tm 0 = .sl (aa cGLe ag) (List.length ag) false ∧ tm 3 = .ptr 0 0 ∧ tm 5 = .lit (.int .i64 bM) ∧ tm 7 = .lit (.int .i64 (List.length ag : Int)) ∧ tm 8 = .lit (.int .i64 bM) ∧ True) (by refine ⟨e6, e7, ?_, e8, e9, trivial⟩ <;> first | (simp only [ua, jw, e6, e7, e8, e9, H5, dt, iP, nm, seval] <;> rfl) | rfl) ?_
  rintro tm ⟨eU, dK, dV, cl, dM, _⟩
  cases gQ : (dr.Word == e3.Word && (dr.Letters == e3.Letters))
  ·simp only [gQ, hs] at h
   simp only [vz, tyf, g4, jw, H5, dt, (aG ka), iP, eU, dK, dV, cl, dM, gQ, nm, seval]
   exact ⟨List.length p3, Nat.lt_succ_self _, by rw [ja]; refine ⟨p3, bM + 1, rfl, Int.le_trans eM (Int.le_add_one (Int.le_refl _)), bS eM fx, rfl, (show 5 ≤ lk + 11 by omega), ?_, eU, dK, cl, ?_, (by first | exact h | (simp only [dt, gQ]; exact h))⟩ <;> first | (simp only [ua, jw, H5, dt, iP, eU, dK, dV, cl, dM, gQ, nm, seval] <;> rfl) | rfl⟩
  simp only [gQ, hs] at h
  try simp only [vz, tyf, g4, jw, H5, dt, (aG ka), iP, eU, dK, dV, cl, dM, gQ, nm, seval]
  refine d4 (x := (.lit (.int .i64 bM))) (by first | (simp only [Tryz.results150, resV, resL, aJ, dU, dT, uw, cr, tyf, g4, jw, H5, dt, (aG ka), iP, gQ, nm, seval] <;> rfl) | rfl) ?_
  replace h := pV _ h
  try dsimp only at h
  obtain rfl := kF _ h
  refine dW ?_ ?_
  ·simp only [tre, aw, Bool.and_self]
  ·first | (simp only [outV, uw, fu, cr, tyf, nrm, ar, g4, jw, H5, dt, (aG ka), iP, eU, dK, dV, cl, dM, gQ, nm, seval] <;> rfl) | rfl
def vQ  : List GLe → Int → (List GLe) → Option (LOut (Bool) ((List GLe)))
 | [], tG, qE => some (.go qE)
 | e0 :: p0, tG, qE => Option.bind (DG qE e0) (fun r1 => cond (decide (r1 < 0)) (some (.ret false)) (Option.bind (sliceO qE (i64.wrap (r1 + 1)) (List.length qE : Int)) (fun s2 => vQ p0 (tG + 1) s2)))
def Cd (bw : List GLe) (cu : List GLe) : Option (Bool) := cond (lenOk bw) (lbind (vQ bw 0 cu) (fun r4 => some r4) (fun c3 => some ((List.length c3 : Int) == 0)) (fun _ _ => none)) none
theorem XW (bw : List GLe) (cu : List GLe) (R : Bool) (h : Cd bw cu = some R) : ad Tryz.prog G0 115 [.sl (aa cGLe bw) (List.length bw) false, .sl (aa cGLe cu) (List.length cu) false] (.tree (.lit (.bool R))) := by
 refine ad.runR mixed Tryz.call115 Tryz.func115 rfl (by simp [Tryz.ntmps115]; kernel_rfl) ?_
 obtain ⟨KF, h, kF, kN⟩ := dZ h
 simp only [Cd] at h
 cases g6 : (lenOk bw)
 ·simp only [g6, hs] at h
  exact absurd h kN
 simp only [g6, hs] at h
 simp only [vz, tyf, g6, nm, seval]
 obtain ⟨K5, h, yi, wg, Qd, tO⟩ := gu h kN
 obtain ⟨f5, yj, h⟩ := call3 h
 obtain ⟨I5, pb⟩ : ∃ I : Nat → St → Prop, I = (fun m st => ∃ (p5 : List GLe) (gO : Int) (mJ : List GLe), m = List.length p5 ∧ 0 ≤ gO ∧ List.drop (Int.toNat gO) bw = p5 ∧ st.df = [] ∧ 4 ≤ st.nx ∧ st.tm 8 = .sl (aa cGLe bw) (List.length bw) false ∧ st.tm 9 = .lit (.int .i64 (List.length bw : Int)) ∧ st.tm 1 = .sl (aa cGLe mJ) (List.length mJ) false ∧ st.tm 10 = .lit (.int .i64 gO) ∧ K5 (f5 p5 gO mJ)) := ⟨_, rfl⟩
 refine loopK mixed (by kernel_rfl) I5 (List.length bw) (by rw [pb]; refine ⟨bw, 0, cu, rfl, Int.le_refl _, rfl, rfl, (show 4 ≤ 4 by omega), ?_, ?_, ?_, ?_, h⟩ <;> first | (simp only [ua, nm, seval] <;> rfl) | rfl) ?_
 rintro m ⟨tm, H, sQ, df⟩ hinv
 rw [pb] at hinv
 obtain ⟨p5, gO, mJ, rfl, jM, kR, hdf, oH, e7, e8, e9, bh, h⟩ := hinv
 simp only at hdf oH e7 e8 e9 bh
 have lO := gv (m := 4) (b := sQ) (by omega)
 subst hdf yj
 cases p5 with
 | nil =>
  have dt : (decide (gO < (List.length bw : Int))) = false := fj jM kR
  simp only [vQ, hs, reduceCtorEq] at h
  replace h := wg _ h
  try dsimp only at h
  try simp only [hs] at h
  try simp only [vz, tyf, g6, lO, e7, e8, e9, bh, dt, nm, seval]
  obtain rfl := kF _ h
  exact bc Tryz.results115 rfl
 | cons e5 p5 =>
  have bx : (decide (gO < (List.length bw : Int))) = true := fk jM kR
  have mQ := eg jM kR
  have mR := fm jM kR g6
  simp only [vQ, hs, reduceCtorEq] at h
  obtain ⟨tf, z8, h⟩ := optI h tO
  try simp only [hs] at h
  simp only [vz, tyf, g6, lO, e7, e8, e9, bh, bx, (aG mQ), mR, nm, seval]
  refine ktA (XV _ _ _ z8) ?_
  refine bt (fun tm => tm 1 = .sl (aa cGLe mJ) (List.length mJ) false ∧ tm 8 = .sl (aa cGLe bw) (List.length bw) false ∧ tm 9 = .lit (.int .i64 (List.length bw : Int)) ∧ tm 10 = .lit (.int .i64 gO) ∧ tm 16 = .lit (.int .i64 tf) ∧ True) (by refine ⟨e9, e7, e8, bh, ?_, trivial⟩ <;> first | (simp only [ua, lO, e7, e8, e9, bh, bx, mR, nm, seval] <;> rfl) | rfl) ?_
  rintro tm ⟨cl, dM, gP, dL, bX, _⟩
  cases lr : (decide (tf < 0))
  ·simp only [lr, hs] at h
   obtain ⟨XX, qG, h⟩ := optI h tO
   try simp only [hs] at h
   try simp only [vz, tyf, g6, lO, bx, (aG mQ), mR, cl, dM, gP, dL, bX, lr, nm, seval]
   refine k_slT (w := 2) (enc := cGLe) (xs := mJ) Tryz.underlying29 (by kernel_rfl) (fun _ => rfl) (by first | (simp only [qh, AA, uZ, xk, g6, lO, bx, (aG mQ), mR, cl, dM, gP, dL, bX, lr, nm, seval] <;> rfl) | rfl) (.inr ⟨.i64, by simp only [Option.map_some]; exact congrArg some (by first | (simp only [qh, AA, uZ, xk, g6, lO, bx, (aG mQ), mR, cl, dM, gP, dL, bX, lr, nm, seval] <;> rfl) | rfl)⟩) (.inl ⟨rfl, rfl⟩) qG ?_
   simp only [vz, tyf, g6, lO, bx, (aG mQ), mR, cl, dM, gP, dL, bX, lr, nm, seval]
   exact ⟨List.length p5, Nat.lt_succ_self _, by rw [pb]; refine ⟨p5, gO + 1, XX, rfl, Int.le_trans jM (Int.le_add_one (Int.le_refl _)), bS jM kR, rfl, (show 4 ≤ sQ + 18 by omega), dM, gP, ?_, ?_, (by first | exact h | (simp only [bx, lr]; exact h))⟩ <;> first | (simp only [ua, lO, bx, mR, cl, dM, gP, dL, bX, lr, nm, seval] <;> rfl) | rfl⟩
  simp only [lr, hs] at h
  try simp only [vz, tyf, g6, lO, bx, (aG mQ), mR, cl, dM, gP, dL, bX, lr, nm, seval]
  replace h := yi _ h
  try dsimp only at h
  obtain rfl := kF _ h
  exact bc Tryz.results115 rfl
def u6 (ag : GLs) (bU : GLx) : Option (Bool) := Option.bind (BV ag bU.Out) (fun r1 => cond (r1) (Option.bind (u5 ag bU.Out) (fun r2 => Option.bind (Cd bU.Ends r2) (fun r3 => some r3))) (some false))
theorem Vh (ag : GLs) (bU : GLx) (R : Bool) (h : u6 ag bU = some R) : ad Tryz.prog G0 69 [.agg (cGLs ag), .agg (cGLx bU)] (.tree (.lit (.bool R))) := by
 refine ad.runR mixed Tryz.call69 Tryz.func69 rfl (by simp [Tryz.ntmps69]; kernel_rfl) ?_
 obtain ⟨KF, h, kF, kN⟩ := dZ h
 simp only [u6] at h
 simp only [vz, tyf, nm, seval]
 refine mO (fun tm => tm 2 = .ptr 0 0 ∧ tm 3 = .ptr 1 0 ∧ True) (by refine ⟨?_, ?_, trivial⟩ <;> first | (simp only [ua, nm, seval] <;> rfl) | rfl) ?_
 rintro tm ⟨e4, e5, _⟩
 obtain ⟨r6, o7, h⟩ := optI h kN
 try simp only [hs] at h
 simp only [vz, tyf, e4, e5, nm, seval]
 refine dktA (XI _ _ _ o7) ?_
 refine bt (fun tm => tm 2 = .ptr 0 0 ∧ tm 3 = .ptr 1 0 ∧ tm 8 = .lit (.bool r6) ∧ True) (by refine ⟨e4, e5, ?_, trivial⟩ <;> first | (simp only [ua, e4, e5, nm, seval] <;> rfl) | rfl) ?_
 rintro tm ⟨e8, e9, bh, _⟩
 cases fg : (r6)
 ·simp only [fg, hs] at h
  try simp only [vz, tyf, e8, e9, bh, fg, nm, seval]
  obtain rfl := kF _ h
  exact bc Tryz.results69 rfl
 simp only [fg, hs] at h
 obtain ⟨rj, ml, h⟩ := optI h kN
 try simp only [hs] at h
 simp only [vz, tyf, e8, e9, bh, fg, nm, seval]
 refine dktA (Ro _ _ _ ml) ?_
 refine bt (fun tm => tm 9 = .lit (.bool true) ∧ tm 11 = .sl (aa cGLe bU.Ends) (List.length bU.Ends) false ∧ tm 15 = .sl (aa cGLe rj) (List.length rj) false ∧ True) (by refine ⟨?_, ?_, ?_, trivial⟩ <;> first | (simp only [ua, e8, e9, bh, fg, nm, seval] <;> rfl) | rfl) ?_
 rintro tm ⟨ca, eU, dK, _⟩
 obtain ⟨Dc, qf, h⟩ := optI h kN
 try simp only [hs] at h
 simp only [vz, tyf, fg, ca, eU, dK, nm, seval]
 refine dktA (XW _ _ _ qf) ?_
 refine bt (fun tm => tm 9 = .lit (.bool true) ∧ tm 16 = .lit (.bool Dc) ∧ True) (by refine ⟨?_, ?_, trivial⟩ <;> first | (simp only [ua, fg, ca, eU, dK, nm, seval] <;> rfl) | rfl) ?_
 rintro tm ⟨dM, gP, _⟩
 try simp only [vz, tyf, fg, dM, gP, nm, seval]
 obtain rfl := kF _ h
 exact bc Tryz.results69 rfl
theorem To (n : Int) : ∀ (p : List Int) (i : Int), xC n p i = cond (p.contains n) (some (.ret true)) (some (.go ()))
 | [], _ => rfl
 | e :: p, i => by
  simp only [xC, To n p, List.contains_cons]
  by_cases h : e = n
  ·subst h; simp
  ·have h1 : (e == n) = false := by simpa using h
   have h2 : (n == e) = false := by simpa using fun h' => h h'.symm
   rw [h1, h2]; simp
theorem Bh (l : List Int) (n : Int) (h : lenOk l = true) : tE l n = some (l.contains n) := by
 simp only [tE, h, cond_true, To]
 cases l.contains n <;> rfl
theorem Ce (n : Int) : ∀ (p : List Int) (i : Int), 0 ≤ i → ∃ r, xH n p i = some r ∧ ((p.contains n = true ∧ ∃ j, r = .ret j ∧ 0 ≤ j) ∨ (p.contains n = false ∧ r = .go ()))
 | [], _, _ => ⟨_, rfl, .inr ⟨rfl, rfl⟩⟩
 | e :: p, i, hi => by
  simp only [xH, List.contains_cons]
  cases h : (n == e) with
  | true => exact ⟨_, rfl, .inl ⟨by simp, i, rfl, hi⟩⟩
  | false =>
   obtain ⟨r, h1, h2⟩ := Ce n p (i + 1) (by omega)
   exact ⟨r, h1, by simpa using h2⟩
theorem SD (l : List Int) (n : Int) (h : lenOk l = true) : xv l n = some (l.contains n) := by
 obtain ⟨r, h1, h2⟩ := Ce n l 0 (by omega)
 simp only [xv, DE, h, cond_true, h1]
 rcases h2 with ⟨h2, j, rfl, hj⟩ | ⟨h2, rfl⟩
 ·simp only [Ol, Option.bind_some, h2]
  rw [decide_eq_true (show j ≥ 0 from hj)]
 ·simp only [pn, Option.bind_some, h2]
  rfl
def freeB (s : GLs) (i : Int) : Bool := match getI s.Words i with | some w => w.Free | none => false
def outB (s : GLs) (out : List Int) : Bool := decide ((out.length : Int) < s.Words.length) && ((incrL out && out.all (inB 0 ((s.Words.length : Int) - 1))) && out.all (freeB s))
theorem Bg {s : GLs} {i : Int} (h : inB 0 ((s.Words.length : Int) - 1) i = true) : ∃ w, getI s.Words i = some w ∧ w ∈ s.Words := by
 rw [rM] at h
 exact Rc h.1 (by omega)
theorem Cf (s : GLs) : ∀ (p : List Int) (i : Int), p.all (inB 0 ((s.Words.length : Int) - 1)) = true → xG s p i = goB (p.all (freeB s))
 | [], _, _ => rfl
 | e :: p, i, h => by
  simp only [List.all_cons, Bool.and_eq_true] at h
  obtain ⟨w, hw, _⟩ := Bg h.1
  have hf : freeB s e = w.Free := by simp [freeB, hw]
  simp only [xG, hw, Option.bind_some, Cf s p (i + 1) h.2, List.all_cons, hf, lN]
theorem Pr (s : GLs) (out : List Int) (hl : lenOk out = true) (hw : (s.Words.length : Int) < 1000) : BV s out = some (outB s out) := by
 unfold BV outB
 by_cases h : (out.length : Int) < s.Words.length
 ·rw [decide_eq_false (show ¬ ((out.length : Int) ≥ s.Words.length) by omega), decide_eq_true h, cond_false, kf (by omega) (by omega), SZ _ _ _ hl, Option.bind_some]
  cases hb : (incrL out && out.all (inB 0 ((s.Words.length : Int) - 1))) with
  | false => rfl
  | true =>
   have h2 := (Bool.and_eq_true _ _ ▸ hb).2
   simp only [cond_true, hl, Cf s out 0 h2, te, Bool.true_and]
   cases out.all (freeB s) <;> rfl
 ·rw [decide_eq_true (show ((out.length : Int) ≥ s.Words.length) by omega), decide_eq_false h]
  rfl
def outG (s : GLs) : Option Int → List Int → Bool
 | _, [] => true
 | none, e :: p => inB 0 ((s.Words.length : Int) - 1) e && (freeB s e && outG s (some e) p)
 | some q, e :: p => inB 0 ((s.Words.length : Int) - 1) e && (freeB s e && (!decide (e ≤ q) && outG s (some e) p))
theorem Tp (s : GLs) : ∀ (p : List Int) (q : Int), outG s (some q) p = ((incr q p && p.all (inB 0 ((s.Words.length : Int) - 1))) && p.all (freeB s))
 | [], _ => rfl
 | e :: p, q => by
  simp only [outG, Tp s p e, incr, List.all_cons]
  cases inB 0 ((s.Words.length : Int) - 1) e <;> cases freeB s e <;> cases decide (e ≤ q) <;> cases incr e p <;> simp
theorem Ps (s : GLs) : ∀ (p : List Int), outG s none p = ((incrL p && p.all (inB 0 ((s.Words.length : Int) - 1))) && p.all (freeB s))
 | [] => rfl
 | e :: p => by
  simp only [outG, Tp s p e, incrL, List.all_cons]
  cases inB 0 ((s.Words.length : Int) - 1) e <;> cases freeB s e <;> cases incr e p <;> simp
theorem Cg (s : GLs) (hw : (s.Words.length : Int) < 1000) (xs : List Int) (hl : lenOk xs = true) : ∀ (p : List Int) (q i : Int), 1 ≤ i → xs.drop (i - 1).toNat = q :: p → s9 s xs p i = goB (outG s (some q) p)
 | [], _, _, _, _ => rfl
 | e :: p, q, i, h0, h => by
  have hb := uj hl
  have hle := xr h
  simp only [List.length_cons] at hle
  have hi : i < 9223372036854775808 := by
   rcases hle with hle | hle
   ·omega
   ·cases hle
  have hn : xs.drop (i + 1 - 1).toNat = e :: p := by
   have := bS (i := i - 1) (by omega) h
   rwa [show i - 1 + 1 = i + 1 - 1 by omega] at this
  have hp : decide (i > 0) = true := by simp; omega
  simp only [s9, in_eq, Option.bind_some]
  rw [kf (by omega) (by omega)]
  cases hin : inB 0 ((s.Words.length : Int) - 1) e with
  | false => simp only [cond_false, outG, hin, Bool.false_and]; rfl
  | true =>
   obtain ⟨w, hw', _⟩ := Bg hin
   have hf : freeB s e = w.Free := by simp [freeB, hw']
   simp only [cond_true, hw', Option.bind_some, hp, xt h0 hi h, Cg s hw xs hl p e (i + 1) (by omega) hn, outG, hin, hf, Bool.true_and, lN, cnot]
theorem Pt (s : GLs) (hw : (s.Words.length : Int) < 1000) (xs : List Int) (hl : lenOk xs = true) : s9 s xs xs 0 = goB (outG s none xs) := by
 cases xs with
 | nil => rfl
 | cons e p =>
  have := Cg s hw (e :: p) hl p e (0 + 1) (by omega) rfl
  simp only [s9, in_eq, Option.bind_some]
  rw [kf (by omega) (by omega)]
  cases hin : inB 0 ((s.Words.length : Int) - 1) e with
  | false => simp only [cond_false, outG, hin, Bool.false_and]; rfl
  | true =>
   obtain ⟨w, hw', _⟩ := Bg hin
   have hf : freeB s e = w.Free := by simp [freeB, hw']
   simp only [cond_true, hw', Option.bind_some, show decide ((0 : Int) > 0) = false from rfl, cond_false, this, outG, hin, hf, Bool.true_and, lN]
theorem NF (s : GLs) (out : List Int) (hl : lenOk out = true) (hw : (s.Words.length : Int) < 1000) : BU s out = some (outB s out) := by
 simp only [BU, hl, cond_true, Pt s hw out hl, te, Ps, outB]
 cases ((incrL out && out.all (inB 0 ((s.Words.length : Int) - 1))) && out.all (freeB s)) <;> simp
structure Sh (s : GLs) : Prop where
 nwid : 1 ≤ s.Widths.length ∧ s.Widths.length ≤ 6
 wid : ∀ x ∈ s.Widths, 1 ≤ x ∧ x ≤ 20
 npair : s.Pairs.length ≤ 6
 pair : ∀ p ∈ s.Pairs, 0 ≤ p.Left ∧ 0 ≤ p.Right ∧ 0 ≤ p.Space.Low ∧ p.Space.Low ≤ p.Space.High ∧ p.Space.High ≤ 9
 other : 0 ≤ s.Other.Low ∧ s.Other.Low ≤ s.Other.High ∧ s.Other.High ≤ 9
 gap : 0 ≤ s.Gap.Low ∧ s.Gap.Low ≤ s.Gap.High ∧ s.Gap.High ≤ 20
 hyp : 1 ≤ s.Hyphen ∧ s.Hyphen ≤ 20
 nw : 1 ≤ s.Words.length ∧ s.Words.length ≤ 4
 wlen : ∀ w ∈ s.Words, 1 ≤ w.Signs.length ∧ w.Signs.length ≤ 6
 wsign : ∀ w ∈ s.Words, ∀ c ∈ w.Signs, 0 ≤ c ∧ c < s.Widths.length
 wcut : ∀ w ∈ s.Words, incrL w.Cuts = true ∧ (∀ c ∈ w.Cuts, 1 ≤ c ∧ c < w.Signs.length) ∧ w.Cuts.length ≤ 5
 wide : 1 ≤ s.Wide ∧ s.Wide ≤ 400
 rows : 1 ≤ s.Rows ∧ s.Rows ≤ 3
theorem Ch {hi : Int} : ∀ (p : List Int) (q : Int), incr q p = true → p.all (inB 1 hi) = true → q ≤ hi → q + p.length ≤ hi
 | [], q, _, _, h => by simpa using h
 | e :: p, q, h1, h2, h3 => by
  simp only [incr, Bool.and_eq_true, Bool.not_eq_true', decide_eq_false_iff_not] at h1
  simp only [List.all_cons, Bool.and_eq_true, rM] at h2
  have := Ch p e h1.2 h2.2 h2.1.2
  simp only [List.length_cons]
  omega
theorem Pu {m : Int} : ∀ (p : List GLp) (q : Option GLp), pairsG m q p = true → ∀ x ∈ p, pairB m x = true
 | [], _, _, x, hx => by cases hx
 | e :: p, none, h, x, hx => by
  simp only [pairsG, Bool.and_eq_true] at h
  rcases List.mem_cons.1 hx with rfl | hx
  ·exact h.1
  ·exact Pu p _ h.2 x hx
 | e :: p, some q, h, x, hx => by
  simp only [pairsG, Bool.and_eq_true] at h
  rcases List.mem_cons.1 hx with rfl | hx
  ·exact h.1
  ·exact Pu p _ h.2.2 x hx
theorem sh_of {s : GLs} (h : sheetB s = true) : Sh s := by
 unfold sheetB at h
 simp only [Bool.and_eq_true, rM, List.all_eq_true, decide_eq_true_eq] at h
 obtain ⟨⟨⟨⟨⟨⟨⟨⟨⟨h1, h1'⟩, h2⟩, h3, h3'⟩, h4⟩, h5⟩, h6⟩, h7, h7'⟩, h8⟩, h9⟩ := h
 have hw : i64.wrap ((s.Widths.length : Int) - 1) = (s.Widths.length : Int) - 1 := kf (by omega) (by omega)
 rw [hw] at h3' h7'
 have hsp : ∀ {m : Int} {x : GSpan}, spanB m x = true → 0 ≤ x.Low ∧ x.Low ≤ x.High ∧ x.High ≤ m := by
  intro m x h
  simpa [spanB] using h
 have hwd : ∀ w ∈ s.Words, (1 ≤ w.Signs.length ∧ w.Signs.length ≤ 6) ∧ (∀ c ∈ w.Signs, 0 ≤ c ∧ c < s.Widths.length) ∧ incrL w.Cuts = true ∧ (w.Cuts.all (inB 1 ((w.Signs.length : Int) - 1)) = true) := by
  intro w hw
  have := h7' w hw
  simp only [wordB, Bool.and_eq_true, rM] at this
  obtain ⟨a, b, c, d⟩ := this
  rw [kf (by omega) (by omega)] at d
  refine ⟨by omega, fun x hx => ?_, c, d⟩
  have := List.all_eq_true.1 b x hx
  rw [rM] at this
  omega
 refine ⟨by omega, h2, by omega, fun p hp => ?_, hsp h4, hsp h5, h6, by omega, fun w hw => (hwd w hw).1, fun w hw => (hwd w hw).2.1, fun w hw => ?_, h8, h9⟩
 ·have := Pu _ _ h3' p hp
  simp only [pairB, Bool.and_eq_true, rM] at this
  have h := hsp this.2.2
  omega
 ·obtain ⟨⟨a, a'⟩, b, c, d⟩ := hwd w hw
  have d' : ∀ x ∈ w.Cuts, 1 ≤ x ∧ x < w.Signs.length := by
   intro x hx
   have := List.all_eq_true.1 d x hx
   rw [rM] at this
   omega
  refine ⟨c, d', ?_⟩
  cases hc : w.Cuts with
  | nil => simp
  | cons e p =>
   rw [hc] at c d d'
   have h1 := d' e (List.mem_cons_self ..)
   simp only [List.all_cons, Bool.and_eq_true] at d
   have := Ch p e c d.2 (by omega)
   simp only [List.length_cons]
   omega
def befE (a b : GLe) : Prop := a.Word < b.Word ∨ a.Word = b.Word ∧ a.Letters < b.Letters
theorem lY {a : GLe} : ¬ befE a a := by unfold befE; omega
theorem Be {a b c : GLe} (h : befE a b) (k : befE b c) : befE a c := by unfold befE at *; omega
def posW (i : Int) (w : GLw) : List GLe := w.Cuts.map (GLe.mk i) ++ [GLe.mk i (w.Signs.length : Int)]
def possL (out : List Int) : List GLw → Int → List GLe
 | [], _ => []
 | w :: ws, i => cond (out.contains i) (possL out ws (i + 1)) (posW i w ++ possL out ws (i + 1))
theorem roomOk16 {n : Nat} (h : n ≤ 1000) : aB 16 n = true := by simp [aB]; omega
theorem Ci (i : Int) : ∀ (p : List Int) (c : Int) (acc : List GLe), acc.length + p.length ≤ 1000 → oD i p c acc = some (.go (acc ++ p.map (GLe.mk i)))
 | [], _, acc, _ => by simp [oD]
 | e :: p, c, acc, h => by
  simp only [List.length_cons] at h
  simp only [oD]
  rw [roomOk16 (by simp; omega), cond_true, Ci i p (c + 1) _ (by simp; omega)]
  simp
theorem Tq (out : List Int) : ∀ (ws : List GLw) (i : Int), (∀ w ∈ ws, w.Cuts.length ≤ 5) → (possL out ws i).length ≤ 6 * ws.length
 | [], _, _ => by simp [possL]
 | w :: ws, i, h => by
  have h1 := Tq out ws (i + 1) fun x hx => h x (List.mem_cons_of_mem _ hx)
  have h2 := h w (List.mem_cons_self ..)
  unfold possL
  cases out.contains i <;> simp [posW] <;> omega
theorem vR (out : List Int) (hl : lenOk out = true) : ∀ (ws : List GLw) (i : Int) (acc : List GLe), (∀ w ∈ ws, w.Cuts.length ≤ 5) → acc.length + 6 * ws.length ≤ 1000 → qX out ws i acc = some (.go (acc ++ possL out ws i))
 | [], _, acc, _, _ => by simp [qX, possL]
 | w :: ws, i, acc, h, hn => by
  have h1 : ∀ x ∈ ws, x.Cuts.length ≤ 5 := fun x hx => h x (List.mem_cons_of_mem _ hx)
  have h2 := h w (List.mem_cons_self ..)
  simp only [List.length_cons] at hn
  simp only [qX, SD _ _ hl, Option.bind_some, possL]
  cases out.contains i with
  | true => simp only [cond_true]; exact vR out hl ws (i + 1) acc h1 (by omega)
  | false =>
   simp only [cond_false]
   rw [oJ (by omega), cond_true, Ci i w.Cuts 0 acc (by omega), pn, roomOk16 (by simp; omega), cond_true, vR out hl ws (i + 1) _ h1 (by simp; omega)]
   simp [posW]
theorem Cj {s : GLs} (h : Sh s) (out : List Int) (hl : lenOk out = true) : u5 s out = some (possL out s.Words 0) := by
 simp only [u5]
 have := h.nw
 rw [oJ (by omega), cond_true, vR out hl s.Words 0 [] (fun w hw => (h.wcut w hw).2.2) (by simp; omega), List.nil_append]
 rfl
theorem vl : ∀ (p : List Int) (q : Int), incr q p = true → (q :: p).Pairwise (· < ·)
 | [], q, _ => List.pairwise_singleton _ _
 | e :: p, q, h => by
  simp only [incr, Bool.and_eq_true, Bool.not_eq_true', decide_eq_false_iff_not] at h
  have ih := vl p e h.2
  rw [List.pairwise_cons]
  refine ⟨fun x hx => ?_, ih⟩
  rcases List.mem_cons.1 hx with rfl | hx
  ·omega
  ·have := (List.pairwise_cons.1 ih).1 x hx
   omega
theorem Pv : ∀ (p : List Int), incrL p = true → p.Pairwise (· < ·)
 | [], _ => List.Pairwise.nil
 | e :: p, h => vl p e h
theorem xq {i : Int} {w : GLw} {e : GLe} : e ∈ posW i w ↔ e.Word = i ∧ (e.Letters ∈ w.Cuts ∨ e.Letters = w.Signs.length) := by
 obtain ⟨a, b⟩ := e
 simp only [posW, List.mem_append, List.mem_map, List.mem_singleton, GLe.mk.injEq]
 constructor
 ·rintro (⟨c, hc, rfl, rfl⟩ | ⟨rfl, rfl⟩)
  ·exact ⟨rfl, .inl hc⟩
  ·exact ⟨rfl, .inr rfl⟩
 ·rintro ⟨rfl, h | rfl⟩
  ·exact .inl ⟨b, h, rfl, rfl⟩
  ·exact .inr ⟨rfl, rfl⟩
theorem Dr (out : List Int) : ∀ (ws : List GLw) (i : Int) (e : GLe), e ∈ possL out ws i ↔ ∃ k : Nat, ∃ w, ws[k]? = some w ∧ out.contains (i + k) = false ∧ e ∈ posW (i + k) w
 | [], i, e => by simp [possL]
 | w :: ws, i, e => by
  have ih := Dr out ws (i + 1) e
  have hsh : (∃ k : Nat, ∃ x, (w :: ws)[k]? = some x ∧ out.contains (i + k) = false ∧ e ∈ posW (i + k) x) ↔ (out.contains i = false ∧ e ∈ posW i w) ∨ ∃ k : Nat, ∃ x, ws[k]? = some x ∧ out.contains (i + 1 + k) = false ∧ e ∈ posW (i + 1 + k) x := by
   constructor
   ·rintro ⟨k, x, h1, h2, h3⟩
    cases k with
    | zero =>
     simp only [List.getElem?_cons_zero, Option.some.injEq] at h1
     subst h1
     simp only [Int.natCast_zero, Int.add_zero] at h2 h3
     exact .inl ⟨h2, h3⟩
    | succ k =>
     have e1 : i + ((k + 1 : Nat) : Int) = i + 1 + k := by omega
     rw [e1] at h2 h3
     exact .inr ⟨k, x, by simpa using h1, h2, h3⟩
   ·rintro (⟨h2, h3⟩ | ⟨k, x, h1, h2, h3⟩)
    ·exact ⟨0, w, rfl, by simpa using h2, by simpa using h3⟩
    ·have e1 : i + ((k + 1 : Nat) : Int) = i + 1 + k := by omega
     exact ⟨k + 1, x, by simpa using h1, by rw [e1]; exact h2, by rw [e1]; exact h3⟩
  rw [hsh]
  unfold possL
  cases hc : out.contains i with
  | true => simp only [cond_true]; rw [ih]; simp
  | false => simp only [cond_false, List.mem_append, ih]; simp
theorem Pw {i : Int} {w : GLw} (h : incrL w.Cuts = true) (h2 : ∀ c ∈ w.Cuts, 1 ≤ c ∧ c < (w.Signs.length : Int)) : (posW i w).Pairwise befE := by
 unfold posW
 rw [List.pairwise_append]
 refine ⟨?_, List.pairwise_singleton _ _, ?_⟩
 ·rw [List.pairwise_map]
  exact (Pv _ h).imp fun h => .inr ⟨rfl, h⟩
 ·intro a ha b hb
  obtain ⟨c, hc, rfl⟩ := List.mem_map.1 ha
  rw [List.mem_singleton.1 hb]
  exact .inr ⟨rfl, (h2 c hc).2⟩
theorem Ck (out : List Int) : ∀ (ws : List GLw) (i : Int), (∀ w ∈ ws, incrL w.Cuts = true ∧ ∀ c ∈ w.Cuts, 1 ≤ c ∧ c < (w.Signs.length : Int)) → (possL out ws i).Pairwise befE
 | [], _, _ => List.Pairwise.nil
 | w :: ws, i, h => by
  have ih := Ck out ws (i + 1) fun x hx => h x (List.mem_cons_of_mem _ hx)
  have hw := h w (List.mem_cons_self ..)
  unfold possL
  cases out.contains i with
  | true => exact ih
  | false =>
   simp only [cond_false]
   rw [List.pairwise_append]
   refine ⟨Pw hw.1 hw.2, ih, fun a ha b hb => ?_⟩
   obtain ⟨ha, _⟩ := xq.1 ha
   obtain ⟨k, x, _, _, hb⟩ := (Dr out ws (i + 1) b).1 hb
   obtain ⟨hb, _⟩ := xq.1 hb
   left
   omega
def dropTo (e : GLe) : List GLe → Option (List GLe)
 | [] => none
 | f :: r => if e = f then some r else dropTo e r
def areE : List GLe → List GLe → Bool
 | [], r => r.isEmpty
 | e :: p, r => match dropTo e r with
  | none => false
  | some r' => areE p r'
theorem wq (a b : GLe) : (a.Word == b.Word && (a.Letters == b.Letters)) = decide (a = b) := by
 obtain ⟨a1, a2⟩ := a
 obtain ⟨b1, b2⟩ := b
 simp only [GLe.mk.injEq]
 by_cases h1 : a1 = b1 <;> by_cases h2 : a2 = b2 <;> simp [h1, h2]
theorem Ts (e : GLe) : ∀ (p : List GLe) (i : Int), match dropTo e p with
  | none => sG e p i = some (.go ())
  | some r => ∃ k : Nat, sG e p i = some (.ret (i + k)) ∧ k < p.length ∧ r = p.drop (k + 1)
 | [], i => rfl
 | f :: p, i => by
  unfold dropTo
  by_cases h : e = f
  ·simp only [h, if_true]
   exact ⟨0, by simp [sG, wq], by simp, by simp⟩
  ·rw [if_neg h]
   have ih := Ts e p (i + 1)
   cases hd : dropTo e p with
   | none =>
    rw [hd] at ih
    simp only at ih ⊢
    simp only [sG, wq, decide_eq_false h, cond_false, ih]
   | some r =>
    rw [hd] at ih
    simp only at ih ⊢
    obtain ⟨k, h1, h2, h3⟩ := ih
    refine ⟨k + 1, ?_, by simpa using h2, by simpa using h3⟩
    simp only [sG, wq, decide_eq_false h, cond_false, h1]
    congr 2
    omega
theorem Tt : ∀ (p : List GLe) (i : Int) (r : List GLe), r.length ≤ 1000 → (vQ p i r = some (.ret false) ∧ areE p r = false) ∨ ∃ r', vQ p i r = some (.go r') ∧ areE p r = r'.isEmpty
 | [], i, r, _ => .inr ⟨r, rfl, rfl⟩
 | e :: p, i, r, h => by
  have hx := Ts e r 0
  have hl := oJ (xs := r) (by omega)
  unfold areE
  simp only [vQ, DG, hl, cond_true]
  cases hd : dropTo e r with
  | none =>
   rw [hd] at hx
   simp only at hx ⊢
   left
   rw [hx]
   simp [lbind]
  | some r' =>
   rw [hd] at hx
   simp only at hx ⊢
   obtain ⟨k, h1, h2, h3⟩ := hx
   rw [h1, Ol, Option.bind_some, decide_eq_false (show ¬ ((0 : Int) + k < 0) by omega), cond_false, kf (by omega) (by omega)]
   have hs : sliceO r (0 + (k : Int) + 1) (r.length : Int) = some r' := by
    unfold sliceO
    rw [if_pos (by omega)]
    congr 1
    rw [show ((0 : Int) + k + 1).toNat = k + 1 by omega, h3]
    exact List.take_of_length_le (by simp; omega)
   rw [hs, Option.bind_some]
   exact Tt p (i + 1) r' (by rw [h3]; simp; omega)
theorem Px (ends r : List GLe) (hl : lenOk ends = true) (hr : r.length ≤ 1000) : Cd ends r = some (areE ends r) := by
 simp only [Cd, hl, cond_true]
 rcases Tt ends 0 r hr with ⟨h1, h2⟩ | ⟨r', h1, h2⟩
 ·rw [h1, h2]; rfl
 ·rw [h1, h2, pn]
  cases r' with
  | nil => rfl
  | cons a l => simp; omega
def IsS (poss ends : List GLe) : Prop := ends.Pairwise befE ∧ (∀ e ∈ ends, e ∈ poss) ∧ ends.getLast? = poss.getLast?
theorem Py {e : GLe} : ∀ {r r' : List GLe}, dropTo e r = some r' → ∃ a, r = a ++ e :: r'
 | [], _, h => by cases h
 | f :: r, r', h => by
  unfold dropTo at h
  split at h
  ·rename_i hf
   simp only [Option.some.injEq] at h
   subst h hf
   exact ⟨[], rfl⟩
  ·obtain ⟨a, ha⟩ := Py h
   exact ⟨f :: a, by rw [ha]; rfl⟩
theorem Tu {e : GLe} : ∀ {r : List GLe}, e ∈ r → ∃ r', dropTo e r = some r'
 | [], h => by cases h
 | f :: r, h => by
  unfold dropTo
  split
  ·exact ⟨r, rfl⟩
  ·rename_i hf
   rcases List.mem_cons.1 h with h | h
   ·exact absurd h hf
   ·exact Tu h
theorem wu : ∀ (p r : List GLe), r.Pairwise befE → (areE p r = true ↔ IsS r p)
 | [], r, _ => by
  unfold areE IsS
  cases r with
  | nil => simp
  | cons a l =>
   simp only [List.isEmpty_cons, Bool.false_eq_true, false_iff]
   rintro ⟨_, _, h⟩
   simp [List.getLast?_cons] at h
 | e :: p, r, hr => by
  unfold areE
  constructor
  ·intro h
   cases hd : dropTo e r with
   | none => rw [hd] at h; cases h
   | some r' =>
    rw [hd] at h
    obtain ⟨a, rfl⟩ := Py hd
    rw [List.pairwise_append] at hr
    obtain ⟨_, mu, _⟩ := hr
    rw [List.pairwise_cons] at mu
    obtain ⟨h1, h2, h3⟩ := (wu p r' mu.2).1 h
    refine ⟨List.pairwise_cons.2 ⟨fun x hx => mu.1 x (h2 x hx), h1⟩, fun x hx => ?_, ?_⟩
    ·rcases List.mem_cons.1 hx with rfl | hx
     ·simp
     ·have := h2 x hx
      simp [this]
    ·rw [List.getLast?_append, List.getLast?_cons, List.getLast?_cons, h3]
     simp
  ·rintro ⟨h1, h2, h3⟩
   obtain ⟨r', hd⟩ := Tu (h2 e (List.mem_cons_self ..))
   rw [hd]
   obtain ⟨a, rfl⟩ := Py hd
   rw [List.pairwise_append] at hr
   obtain ⟨hra, mu, Pz⟩ := hr
   rw [List.pairwise_cons] at mu h1
   refine (wu p r' mu.2).2 ⟨h1.2, fun x hx => ?_, ?_⟩
   ·have hb := h1.1 x hx
    rcases List.mem_append.1 (h2 x (List.mem_cons_of_mem _ hx)) with hx' | hx'
    ·exact absurd (Be hb (Pz x hx' e (List.mem_cons_self ..))) lY
    ·rcases List.mem_cons.1 hx' with rfl | hx'
     ·exact absurd hb lY
     ·exact hx'
   ·rw [List.getLast?_append, List.getLast?_cons, List.getLast?_cons] at h3
    simp only [Option.some_or, Option.some.injEq] at h3
    cases hp : p.getLast? with
    | none =>
     rw [hp] at h3
     cases hr' : r'.getLast? with
     | none => rfl
     | some y =>
      rw [hr'] at h3
      simp only [Option.getD_none, Option.getD_some] at h3
      subst h3
      exact absurd (mu.1 _ (List.mem_of_getLast? hr')) lY
    | some z =>
     rw [hp] at h3
     cases hr' : r'.getLast? with
     | none =>
      rw [hr'] at h3
      simp only [Option.getD_none, Option.getD_some] at h3
      subst h3
      exact absurd (h1.1 _ (List.mem_of_getLast? hp)) lY
     | some y =>
      rw [hr'] at h3
      simp only [Option.getD_some] at h3
      rw [h3]
abbrev poss (s : GLs) (out : List Int) : List GLe := possL out s.Words 0
theorem yr {s : GLs} (h : Sh s) (out : List Int) : (poss s out).Pairwise befE := Ck out _ _ fun w hw => ⟨(h.wcut w hw).1, (h.wcut w hw).2.1⟩
theorem Cl {s : GLs} (h : Sh s) (out : List Int) : (possL out s.Words 0).length ≤ 24 := by
 have := Tq out s.Words 0 fun w hw => (h.wcut w hw).2.2
 have := h.nw
 omega
theorem Vi {s : GLs} (h : Sh s) (x : GLx) (hl : lenOk x.Out = true) (he : lenOk x.Ends = true) : u6 s x = some (outB s x.Out && areE x.Ends (poss s x.Out)) := by
 have := h.nw
 have hn := Cl h x.Out
 simp only [u6, Pr s _ hl (by omega), Cj h _ hl, Option.bind_some]
 rw [Px _ _ he (by omega), Option.bind_some, csome]
end Go.V
end
