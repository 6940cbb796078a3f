/- Part of a proof. -/
import Derived.Test.YtlkognggeadanaaGreatDoorDbj
set_option linter.all false
set_option maxRecDepth 4000
set_option maxHeartbeats 40000000
section
namespace Go.V
open Go Go.Proofs IntKind
def qR (ec : Int) : List Int → Int → (List GLe) → Option (LOut (List GLe) ((List GLe)))
 | [], vV, uT => some (.go uT)
 | e1 :: p1, vV, uT => cond (av 16 (List.length (uT ++ [(GLe.mk ec e1)]))) (qR ec p1 (vV + 1) (uT ++ [(GLe.mk ec e1)])) none
def tI (aD : List Int) : List GLw → Int → (List GLe) → Option (LOut (List GLe) ((List GLe)))
 | [], ec, bB => some (.go bB)
 | e0 :: p0, ec, bB => Option.bind (z7 aD ec) (fun r1 => cond (r1) (tI aD p0 (ec + 1) bB) (cond (lenOk e0.Cuts) (lbind (qR ec e0.Cuts 0 bB) (fun r3 => some (.ret r3)) (fun c2 => cond (av 16 (List.length (c2 ++ [(GLe.mk ec (List.length e0.Signs : Int))]))) (tI aD p0 (ec + 1) (c2 ++ [(GLe.mk ec (List.length e0.Signs : Int))])) none) (fun _ _ => none)) none))
def EI (ad : GLs) (aD : List Int) : Option (List GLe) := cond (lenOk ad.Words) (lbind (tI aD ad.Words 0 ([] : List GLe)) (fun r5 => some r5) (fun c4 => some c4) (fun _ _ => none)) none
theorem zis (ad : GLs) (aD : List Int) (R : List GLe) (h : EI ad aD = some R) : ag Tryz.prog G0 116 [.agg (cGLs ad), .sl (aa eI aD) (List.length aD) false] (.tree (.sl (aa cGLe R) (List.length R) false)) := by
 refine ag.runR mixed Tryz.call116 Tryz.func116 rfl (by simp [Tryz.ntmps116]; kernel_rfl) ?_
 obtain ⟨KF, h, kF, kN⟩ := eC h
 simp only [EI] at h
 cases g7 : (lenOk ad.Words)
 ·simp only [g7, hs] at h
  exact absurd h kN
 simp only [g7, hs] at h
 simp only [vz, tyf, g7, nm, seval]
 obtain ⟨K6, h, BU, wI, SO, kh⟩ := gp h kN
 obtain ⟨f6, BV, h⟩ := call3 h
 obtain ⟨I6, kR⟩ : ∃ I : Nat → St → Prop, I = (fun m st => ∃ (p6 : List GLw) (aI : Int) (b4 : List GLe) (lV : VV), m = List.length p6 ∧ 0 ≤ aI ∧ List.drop (Int.toNat aI) ad.Words = p6 ∧ st.df = [] ∧ 7 ≤ st.nx ∧ st.H 0 = some (.cells (some 28) (cGLs ad)) ∧ st.tm 1 = .sl (aa eI aD) (List.length aD) false ∧ st.tm 2 = .ptr 0 0 ∧ st.tm 11 = .lit (.int .i64 (List.length ad.Words : Int)) ∧ st.tm 5 = lV ∧ st.tm 12 = .lit (.int .i64 aI) ∧ ((∃ (β : Nat) (el : Option TypeId), lV = .ref β 0 (List.length b4) 2 (List.length b4) ∧ β < st.nx ∧ β ≠ 0 ∧ st.H β = some (.cells el (aa cGLe b4))) ∨ (lV = .lit (.slice none 0 0) ∧ b4 = [])) ∧ K6 (f6 p6 aI b4)) := ⟨_, rfl⟩
 refine loopK mixed (by kernel_rfl) I6 (List.length ad.Words) (by rw [kR]; refine ⟨ad.Words, 0, ([] : List GLe), .lit (.slice none 0 0), rfl, qZe _, rfl, rfl, (show 7 ≤ 7 by omega), ?_, ?_, ?_, ?_, ?_, ?_, Or.inr ⟨rfl, rfl⟩, h⟩ <;> first | (simp only [ua, nm, seval] <;> rfl) | rfl) ?_
 rintro m ⟨tm, H, fV, df⟩ hinv
 rw [kR] at hinv
 obtain ⟨p6, aI, b4, lV, rfl, eK, gF, hdf, BW, H8, e9, aW, bc, bu, bj, nb, h⟩ := hinv
 simp only at hdf BW H8 e9 aW bc bu bj nb
 have fL := gq (m := 7) (b := fV) (by omega)
 subst hdf BV
 rcases nb with ⟨ki, j6, rfl, R4, sc, th⟩ | ⟨rfl, rfl⟩
 ·have Al := qa R4
  have la := ne_f sc
  cases p6 with
  | nil =>
   have lS : (decide (aI < (List.length ad.Words : Int))) = false := fy eK gF
   simp only [tI, hs, reduceCtorEq] at h
   replace h := wI _ h
   try dsimp only at h
   try simp only [hs] at h
   try simp only [vz, tyf, g7, fL, e9, aW, bc, bu, bj, H8, Al, th, la, lS, nm, seval]
   refine eh (x := (.ref ki 0 (List.length b4) 2 (List.length b4))) (by first | (simp only [Tryz.results116, resV, resL, aR, ei, ej, uw, cr, tyf, g7, fL, H8, Al, th, la, lS, nm, seval] <;> rfl) | rfl) ?_
   obtain rfl := kF _ h
   refine eD ?_ ?_
   ·simp only [tre, aG, Bool.and_self]
   ·first | (simp only [outV, uw, ep, cr, tyf, nrm, aE, g7, fL, e9, aW, bc, bu, bj, H8, Al, th, la, lS, nm, seval] <;> rfl) | rfl
  | cons e6 p6 =>
   have hD : (decide (aI < (List.length ad.Words : Int))) = true := fz eK gF
   have kj := eg eK gF
   have R5 := f2 eK gF g7
   simp only [tI, hs, reduceCtorEq] at h
   obtain ⟨BP, nG, h⟩ := optI h kh
   try simp only [hs] at h
   simp only [vz, tyf, g7, fL, e9, aW, bc, bu, bj, H8, Al, th, la, hD, (aq kj), R5, nm, seval]
   refine ktA (Gb _ _ _ nG) ?_
   refine b5 (fun tm => tm 1 = .sl (aa eI aD) (List.length aD) false ∧ tm 2 = .ptr 0 0 ∧ tm 5 = .ref ki 0 (List.length b4) 2 (List.length b4) ∧ tm 6 = .lit (.int .i64 aI) ∧ tm 11 = .lit (.int .i64 (List.length ad.Words : Int)) ∧ tm 12 = .lit (.int .i64 aI) ∧ tm 17 = .lit (.bool BP) ∧ True) (by refine ⟨e9, aW, bu, ?_, bc, bj, ?_, trivial⟩ <;> first | (simp only [ua, fL, e9, aW, bc, bu, bj, H8, Al, th, la, hD, R5, nm, seval] <;> rfl) | rfl) ?_
   rintro tm ⟨cu, cN, dI, dm, dJ, eW, bI, _⟩
   have dv := And.intro g7 (And.intro fL (And.intro H8 (And.intro Al (And.intro th (And.intro la (And.intro hD R5))))))
   cases fj : (BP)
   ·simp only [fj, hs] at h
    cases m7 : (lenOk e6.Cuts)
    ·simp only [m7, hs] at h
     exact absurd h kh
    simp only [m7, hs] at h
    simp only [vz, tyf, dv, (aq kj), cu, cN, dI, dm, dJ, eW, bI, fj, m7, nm, seval]
    obtain ⟨K33, h, kR33, EJ, kB33, EK⟩ := gp h kh
    obtain ⟨f33, R6, h⟩ := call3 h
    obtain ⟨I33, uU⟩ : ∃ I : Nat → St → Prop, I = (fun m st => ∃ (ry : List Int) (ff : Int) (eO : List GLe) (pM : VV), m = List.length ry ∧ 0 ≤ ff ∧ List.drop (Int.toNat ff) e6.Cuts = ry ∧ st.df = [] ∧ fV + 14 ≤ st.nx ∧ st.H 0 = some (.cells (some 28) (cGLs ad)) ∧ st.tm 1 = .sl (aa eI aD) (List.length aD) false ∧ st.tm 2 = .ptr 0 0 ∧ st.tm 6 = .lit (.int .i64 aI) ∧ st.tm 11 = .lit (.int .i64 (List.length ad.Words : Int)) ∧ st.tm 12 = .lit (.int .i64 aI) ∧ st.tm 23 = .sl (aa eI e6.Cuts) (List.length e6.Cuts) false ∧ st.tm 24 = .lit (.int .i64 (List.length e6.Cuts : Int)) ∧ st.tm 5 = pM ∧ st.tm 25 = .lit (.int .i64 ff) ∧ ((∃ (β : Nat) (el : Option TypeId), pM = .ref β 0 (List.length eO) 2 (List.length eO) ∧ β < st.nx ∧ β ≠ 0 ∧ st.H β = some (.cells el (aa cGLe eO))) ∨ (pM = .lit (.slice none 0 0) ∧ eO = [])) ∧ K33 (f33 ry ff eO)) := ⟨_, rfl⟩
    refine loopK mixed (by kernel_rfl) I33 (List.length e6.Cuts) (by rw [uU]; refine ⟨e6.Cuts, 0, b4, .ref ki 0 (List.length b4) 2 (List.length b4), rfl, qZe _, rfl, rfl, (show fV + 14 ≤ fV + 14 by omega), ?_, cu, cN, dm, dJ, eW, ?_, ?_, ?_, ?_, Or.inl ⟨ki, j6, rfl, (by first | omega | (simp only [nm, seval]; done) | (simp only [nm, seval]; omega)), (by first | omega | (intro hh; simp only [dv, reduceCtorEq] at hh)), ?_⟩, h⟩ <;> first | (simp only [ua, dv, cu, cN, dI, dm, dJ, eW, bI, fj, nm, seval] <;> rfl) | rfl) ?_
    rintro m ⟨tm, H, iZ, df⟩ hinv
    rw [uU] at hinv
    obtain ⟨ry, ff, eO, pM, rfl, jR, lA, hdf, R7, fY, bM, bW, bH, bX, bF, bN, b9, cq, ca, tl, h⟩ := hinv
    simp only at hdf R7 fY bM bW bH bX bF bN b9 cq ca tl
    have fT := gq (m := 7) (b := iZ) (by omega)
    have jg := u2 (a := fV) (m := 14) (b := iZ) (by omega)
    subst hdf R6
    rcases tl with ⟨V3, m8, rfl, xS, xT, pN⟩ | ⟨rfl, rfl⟩
    ·have kE := qa xS
     have kG := ne_f xT
     cases ry with
     | nil =>
      have ml : (decide (ff < (List.length e6.Cuts : Int))) = false := fy jR lA
      simp only [qR, hs, reduceCtorEq] at h
      replace h := EJ _ h
      try dsimp only at h
      try simp only [hs] at h
      cases yB : (av 16 (List.length (eO ++ [(GLe.mk aI (List.length e6.Signs : Int))])))
      ·simp only [yB, hs] at h
       exact absurd h kh
      simp only [yB, hs] at h
      simp only [vz, tyf, dv, (aq kj), fj, m7, fT, jg, bM, bW, bH, bX, bF, bN, b9, cq, ca, fY, kE, pN, kG, ml, yB, nm, seval]
      refine k_app (w := 2) (enc := cGLe) (xs := eO) (ys := ([(GLe.mk aI (List.length e6.Signs : Int))])) (el := m8) (gg := (some 100)) (fun _ => rfl) mV mU Tryz.underlying29 (by first | rfl | assumption | (simp only [bw, bx, jj, dv, fT, jg, fY, kE, pN, kG, nm, seval] <;> rfl) | (simp only [bw, bx, dj, d6, dp, dq, tyf, dv, (aq kj), fj, m7, fT, jg, bM, bW, bH, bX, bF, bN, b9, cq, ca, fY, kE, pN, kG, ml, yB, nm, seval]; done)) (by first | rfl | assumption | (simp only [bw, bx, jj, dv, fT, jg, fY, kE, pN, kG, nm, seval] <;> rfl) | (simp only [bw, bx, dj, d6, dp, dq, tyf, dv, (aq kj), fj, m7, fT, jg, bM, bW, bH, bX, bF, bN, b9, cq, ca, fY, kE, pN, kG, ml, yB, nm, seval]; done)) (Nat.zero_lt_succ _) yB ?_
      simp only [vz, tyf, dv, (aq kj), fj, m7, fT, jg, bM, bW, bH, bX, bF, bN, b9, cq, ca, fY, kE, pN, kG, ml, yB, nm, seval]
      exact ⟨List.length p6, qZc _, by rw [kR]; refine ⟨p6, aI + 1, (eO ++ [(GLe.mk aI (List.length e6.Signs : Int))]), .ref (iZ + 12) 0 (List.length (eO ++ [(GLe.mk aI (List.length e6.Signs : Int))])) 2 (List.length (eO ++ [(GLe.mk aI (List.length e6.Signs : Int))])), rfl, Int.le_trans eK (Int.le_add_one (qZe _)), bK eK gF, rfl, (show 7 ≤ iZ + 16 by omega), ?_, bM, bW, bX, ?_, ?_, Or.inl ⟨iZ + 12, (sameEl m8 100), rfl, (by first | omega | (simp only [nm, seval]; done) | (simp only [nm, seval]; omega)), (by first | omega | (intro hh; simp only [dv, fT, jg, kE, kG, reduceCtorEq] at hh)), ?_⟩, (by first | exact h | (simp only [dv, fj, ml]; exact h))⟩ <;> first | (simp only [ua, dv, fj, fT, jg, bM, bW, bH, bX, bF, bN, b9, cq, ca, fY, kE, pN, kG, ml, nm, seval] <;> rfl) | rfl⟩
     | cons fA ry =>
      have Am : (decide (ff < (List.length e6.Cuts : Int))) = true := fz jR lA
      have zi := eg jR lA
      have EL := f2 jR lA m7
      simp only [qR, hs, reduceCtorEq] at h
      cases yC : (av 16 (List.length (eO ++ [(GLe.mk aI fA)])))
      ·simp only [yC, hs] at h
       exact absurd h EK
      simp only [yC, hs] at h
      simp only [vz, tyf, dv, (aq kj), fj, m7, fT, jg, bM, bW, bH, bX, bF, bN, b9, cq, ca, fY, kE, pN, kG, Am, (au zi), EL, yC, nm, seval]
      refine k_app (w := 2) (enc := cGLe) (xs := eO) (ys := ([(GLe.mk aI fA)])) (el := m8) (gg := (some 100)) (fun _ => rfl) mV mU Tryz.underlying29 (by first | rfl | assumption | (simp only [bw, bx, jj, dv, fT, jg, fY, kE, pN, kG, nm, seval] <;> rfl) | (simp only [bw, bx, dj, d6, dp, dq, tyf, dv, (aq kj), fj, m7, fT, jg, bM, bW, bH, bX, bF, bN, b9, cq, ca, fY, kE, pN, kG, Am, (au zi), EL, yC, nm, seval]; done)) (by first | rfl | assumption | (simp only [bw, bx, jj, dv, fT, jg, fY, kE, pN, kG, nm, seval] <;> rfl) | (simp only [bw, bx, dj, d6, dp, dq, tyf, dv, (aq kj), fj, m7, fT, jg, bM, bW, bH, bX, bF, bN, b9, cq, ca, fY, kE, pN, kG, Am, (au zi), EL, yC, nm, seval]; done)) (Nat.zero_lt_succ _) yC ?_
      simp only [vz, tyf, dv, (aq kj), fj, m7, fT, jg, bM, bW, bH, bX, bF, bN, b9, cq, ca, fY, kE, pN, kG, Am, (au zi), EL, yC, nm, seval]
      exact ⟨List.length ry, qZc _, by rw [uU]; refine ⟨ry, ff + 1, (eO ++ [(GLe.mk aI fA)]), .ref (iZ + 9) 0 (List.length (eO ++ [(GLe.mk aI fA)])) 2 (List.length (eO ++ [(GLe.mk aI fA)])), rfl, Int.le_trans jR (Int.le_add_one (qZe _)), bK jR lA, rfl, (show fV + 14 ≤ iZ + 13 by omega), ?_, bM, bW, bH, bX, bF, bN, b9, ?_, ?_, Or.inl ⟨iZ + 9, (sameEl m8 100), rfl, (by first | omega | (simp only [nm, seval]; done) | (simp only [nm, seval]; omega)), (by first | omega | (intro hh; simp only [dv, fT, jg, kE, kG, reduceCtorEq] at hh)), ?_⟩, (by first | exact h | (simp only [dv, fj, Am]; exact h))⟩ <;> first | (simp only [ua, dv, fj, fT, jg, bM, bW, bH, bX, bF, bN, b9, cq, ca, fY, kE, pN, kG, Am, EL, nm, seval] <;> rfl) | rfl⟩
    ·cases ry with
     | nil =>
      have EM : (decide (ff < (List.length e6.Cuts : Int))) = false := fy jR lA
      simp only [qR, hs, reduceCtorEq] at h
      replace h := EJ _ h
      try dsimp only at h
      try simp only [hs] at h
      cases An : (av 16 (List.length (([] : List GLe) ++ [(GLe.mk aI (List.length e6.Signs : Int))])))
      ·simp only [An, hs] at h
       exact absurd h kh
      simp only [An, hs] at h
      simp only [vz, tyf, dv, (aq kj), fj, m7, fT, jg, bM, bW, bH, bX, bF, bN, b9, cq, ca, fY, EM, An, nm, seval]
      refine nc (w := 2) (enc := cGLe) (ys := ([(GLe.mk aI (List.length e6.Signs : Int))])) (gg := (some 100)) (fun _ => rfl) mV mU Tryz.underlying29 (by first | rfl | assumption | (simp only [bw, bx, jj, dv, fT, jg, fY, nm, seval] <;> rfl) | (simp only [bw, bx, dj, d6, dp, dq, tyf, dv, (aq kj), fj, m7, fT, jg, bM, bW, bH, bX, bF, bN, b9, cq, ca, fY, EM, An, nm, seval]; done)) (Nat.zero_lt_succ _) An ?_
      simp only [vz, tyf, dv, (aq kj), fj, m7, fT, jg, bM, bW, bH, bX, bF, bN, b9, cq, ca, fY, EM, An, nm, seval]
      exact ⟨List.length p6, qZc _, by rw [kR]; refine ⟨p6, aI + 1, (([] : List GLe) ++ [(GLe.mk aI (List.length e6.Signs : Int))]), .ref (iZ + 12) 0 (List.length (([] : List GLe) ++ [(GLe.mk aI (List.length e6.Signs : Int))])) 2 (List.length (([] : List GLe) ++ [(GLe.mk aI (List.length e6.Signs : Int))])), rfl, Int.le_trans eK (Int.le_add_one (qZe _)), bK eK gF, rfl, (show 7 ≤ iZ + 16 by omega), ?_, bM, bW, bX, ?_, ?_, Or.inl ⟨iZ + 12, (some 100), rfl, (by first | omega | (simp only [nm, seval]; done) | (simp only [nm, seval]; omega)), (by first | omega | (intro hh; simp only [dv, fT, jg, reduceCtorEq] at hh)), ?_⟩, (by first | exact h | (simp only [dv, fj, EM]; exact h))⟩ <;> first | (simp only [ua, dv, fj, fT, jg, bM, bW, bH, bX, bF, bN, b9, cq, ca, fY, EM, nm, seval] <;> rfl) | rfl⟩
     | cons fA ry =>
      have kl : (decide (ff < (List.length e6.Cuts : Int))) = true := fz jR lA
      have om := eg jR lA
      have nI := f2 jR lA m7
      simp only [qR, hs, reduceCtorEq] at h
      cases nL : (av 16 (List.length (([] : List GLe) ++ [(GLe.mk aI fA)])))
      ·simp only [nL, hs] at h
       exact absurd h EK
      simp only [nL, hs] at h
      simp only [vz, tyf, dv, (aq kj), fj, m7, fT, jg, bM, bW, bH, bX, bF, bN, b9, cq, ca, fY, kl, (au om), nI, nL, nm, seval]
      refine nc (w := 2) (enc := cGLe) (ys := ([(GLe.mk aI fA)])) (gg := (some 100)) (fun _ => rfl) mV mU Tryz.underlying29 (by first | rfl | assumption | (simp only [bw, bx, jj, dv, fT, jg, fY, nm, seval] <;> rfl) | (simp only [bw, bx, dj, d6, dp, dq, tyf, dv, (aq kj), fj, m7, fT, jg, bM, bW, bH, bX, bF, bN, b9, cq, ca, fY, kl, (au om), nI, nL, nm, seval]; done)) (Nat.zero_lt_succ _) nL ?_
      simp only [vz, tyf, dv, (aq kj), fj, m7, fT, jg, bM, bW, bH, bX, bF, bN, b9, cq, ca, fY, kl, (au om), nI, nL, nm, seval]
      exact ⟨List.length ry, qZc _, by rw [uU]; refine ⟨ry, ff + 1, (([] : List GLe) ++ [(GLe.mk aI fA)]), .ref (iZ + 9) 0 (List.length (([] : List GLe) ++ [(GLe.mk aI fA)])) 2 (List.length (([] : List GLe) ++ [(GLe.mk aI fA)])), rfl, Int.le_trans jR (Int.le_add_one (qZe _)), bK jR lA, rfl, (show fV + 14 ≤ iZ + 13 by omega), ?_, bM, bW, bH, bX, bF, bN, b9, ?_, ?_, Or.inl ⟨iZ + 9, (some 100), rfl, (by first | omega | (simp only [nm, seval]; done) | (simp only [nm, seval]; omega)), (by first | omega | (intro hh; simp only [dv, fT, jg, reduceCtorEq] at hh)), ?_⟩, (by first | exact h | (simp only [dv, fj, kl]; exact h))⟩ <;> first | (simp only [ua, dv, fj, fT, jg, bM, bW, bH, bX, bF, bN, b9, cq, ca, fY, kl, nI, nm, seval] <;> rfl) | rfl⟩
   simp only [fj, hs] at h
   simp only [vz, tyf, dv, (aq kj), cu, cN, dI, dm, dJ, eW, bI, fj, nm, seval]
   exact ⟨List.length p6, qZc _, by rw [kR]; refine ⟨p6, aI + 1, b4, .ref ki 0 (List.length b4) 2 (List.length b4), rfl, Int.le_trans eK (Int.le_add_one (qZe _)), bK eK gF, rfl, (show 7 ≤ fV + 8 by omega), ?_, cu, cN, dJ, ?_, ?_, Or.inl ⟨ki, j6, rfl, (by first | omega | (simp only [nm, seval]; done) | (simp only [nm, seval]; omega)), (by first | omega | (intro hh; simp only [dv, reduceCtorEq] at hh)), ?_⟩, (by first | exact h | (simp only [dv, fj]; exact h))⟩ <;> first | (simp only [ua, dv, cu, cN, dI, dm, dJ, eW, bI, fj, nm, seval] <;> rfl) | rfl⟩
 ·cases p6 with
  | nil =>
   have vJ : (decide (aI < (List.length ad.Words : Int))) = false := fy eK gF
   simp only [tI, hs, reduceCtorEq] at h
   replace h := wI _ h
   try dsimp only at h
   try simp only [hs] at h
   try simp only [vz, tyf, g7, fL, e9, aW, bc, bu, bj, H8, vJ, nm, seval]
   refine eh (x := (.lit (.slice none 0 0))) (by first | (simp only [Tryz.results116, resV, resL, aR, ei, ej, uw, cr, tyf, g7, fL, H8, vJ, nm, seval] <;> rfl) | rfl) ?_
   obtain rfl := kF _ h
   refine eD ?_ ?_
   ·simp only [tre, aG, Bool.and_self]
   ·first | (simp only [outV, uw, ep, cr, tyf, nrm, aE, g7, fL, e9, aW, bc, bu, bj, H8, vJ, nm, seval] <;> rfl) | rfl
  | cons e6 p6 =>
   have ja : (decide (aI < (List.length ad.Words : Int))) = true := fz eK gF
   have nD := eg eK gF
   have ka := f2 eK gF g7
   simp only [tI, hs, reduceCtorEq] at h
   obtain ⟨V4, E9, h⟩ := optI h kh
   try simp only [hs] at h
   simp only [vz, tyf, g7, fL, e9, aW, bc, bu, bj, H8, ja, (aq nD), ka, nm, seval]
   refine ktA (Gb _ _ _ E9) ?_
   refine b5 (fun tm => tm 1 = .sl (aa eI aD) (List.length aD) false ∧ tm 2 = .ptr 0 0 ∧ tm 5 = .lit (.slice none 0 0) ∧ tm 6 = .lit (.int .i64 aI) ∧ tm 11 = .lit (.int .i64 (List.length ad.Words : Int)) ∧ tm 12 = .lit (.int .i64 aI) ∧ tm 17 = .lit (.bool V4) ∧ True) (by refine ⟨e9, aW, bu, ?_, bc, bj, ?_, trivial⟩ <;> first | (simp only [ua, fL, e9, aW, bc, bu, bj, H8, ja, ka, nm, seval] <;> rfl) | rfl) ?_
   rintro tm ⟨mG, mH, eZ, jB, jn, ld, j7, _⟩
   cases hL : (V4)
   ·simp only [hL, hs] at h
    cases m9 : (lenOk e6.Cuts)
    ·simp only [m9, hs] at h
     exact absurd h kh
    simp only [m9, hs] at h
    simp only [vz, tyf, g7, fL, H8, ja, (aq nD), ka, mG, mH, eZ, jB, jn, ld, j7, hL, m9, nm, seval]
    obtain ⟨K76, h, kR76, EN, kB76, EO⟩ := gp h kh
    obtain ⟨f76, R8, h⟩ := call3 h
    obtain ⟨I76, uW⟩ : ∃ I : Nat → St → Prop, I = (fun m st => ∃ (rz : List Int) (fg : Int) (eP : List GLe) (pO : VV), m = List.length rz ∧ 0 ≤ fg ∧ List.drop (Int.toNat fg) e6.Cuts = rz ∧ st.df = [] ∧ fV + 14 ≤ st.nx ∧ st.H 0 = some (.cells (some 28) (cGLs ad)) ∧ st.tm 1 = .sl (aa eI aD) (List.length aD) false ∧ st.tm 2 = .ptr 0 0 ∧ st.tm 6 = .lit (.int .i64 aI) ∧ st.tm 11 = .lit (.int .i64 (List.length ad.Words : Int)) ∧ st.tm 12 = .lit (.int .i64 aI) ∧ st.tm 23 = .sl (aa eI e6.Cuts) (List.length e6.Cuts) false ∧ st.tm 24 = .lit (.int .i64 (List.length e6.Cuts : Int)) ∧ st.tm 5 = pO ∧ st.tm 25 = .lit (.int .i64 fg) ∧ ((∃ (β : Nat) (el : Option TypeId), pO = .ref β 0 (List.length eP) 2 (List.length eP) ∧ β < st.nx ∧ β ≠ 0 ∧ st.H β = some (.cells el (aa cGLe eP))) ∨ (pO = .lit (.slice none 0 0) ∧ eP = [])) ∧ K76 (f76 rz fg eP)) := ⟨_, rfl⟩
    refine loopK mixed (by kernel_rfl) I76 (List.length e6.Cuts) (by rw [uW]; refine ⟨e6.Cuts, 0, ([] : List GLe), .lit (.slice none 0 0), rfl, qZe _, rfl, rfl, (show fV + 14 ≤ fV + 14 by omega), ?_, mG, mH, jB, jn, ld, ?_, ?_, ?_, ?_, Or.inr ⟨rfl, rfl⟩, h⟩ <;> first | (simp only [ua, fL, H8, ja, ka, mG, mH, eZ, jB, jn, ld, j7, hL, nm, seval] <;> rfl) | rfl) ?_
    rintro m ⟨tm, H, jb, df⟩ hinv
    rw [uW] at hinv
    obtain ⟨rz, fg, eP, pO, rfl, jS, lB, hdf, R9, jT, ck, cz, cA, ct, eJ, dw, cI, cw, cK, tn, h⟩ := hinv
    simp only at hdf R9 jT ck cz cA ct eJ dw cI cw cK tn
    have jh := gq (m := 7) (b := jb) (by omega)
    have fM := u2 (a := fV) (m := 14) (b := jb) (by omega)
    subst hdf R8
    rcases tn with ⟨V5, mA, rfl, RA, RB, pP⟩ | ⟨rfl, rfl⟩
    ·have nW := qa RA
     have nX := ne_f RB
     cases rz with
     | nil =>
      have Ao : (decide (fg < (List.length e6.Cuts : Int))) = false := fy jS lB
      simp only [qR, hs, reduceCtorEq] at h
      replace h := EN _ h
      try dsimp only at h
      try simp only [hs] at h
      cases yD : (av 16 (List.length (eP ++ [(GLe.mk aI (List.length e6.Signs : Int))])))
      ·simp only [yD, hs] at h
       exact absurd h kh
      simp only [yD, hs] at h
      simp only [vz, tyf, g7, fL, ja, (aq nD), ka, hL, m9, jh, fM, ck, cz, cA, ct, eJ, dw, cI, cw, cK, jT, nW, pP, nX, Ao, yD, nm, seval]
      refine k_app (w := 2) (enc := cGLe) (xs := eP) (ys := ([(GLe.mk aI (List.length e6.Signs : Int))])) (el := mA) (gg := (some 100)) (fun _ => rfl) mV mU Tryz.underlying29 (by first | rfl | assumption | (simp only [bw, bx, jj, fL, jh, fM, jT, nW, pP, nX, nm, seval] <;> rfl) | (simp only [bw, bx, dj, d6, dp, dq, tyf, g7, fL, ja, (aq nD), ka, hL, m9, jh, fM, ck, cz, cA, ct, eJ, dw, cI, cw, cK, jT, nW, pP, nX, Ao, yD, nm, seval]; done)) (by first | rfl | assumption | (simp only [bw, bx, jj, fL, jh, fM, jT, nW, pP, nX, nm, seval] <;> rfl) | (simp only [bw, bx, dj, d6, dp, dq, tyf, g7, fL, ja, (aq nD), ka, hL, m9, jh, fM, ck, cz, cA, ct, eJ, dw, cI, cw, cK, jT, nW, pP, nX, Ao, yD, nm, seval]; done)) (Nat.zero_lt_succ _) yD ?_
      simp only [vz, tyf, g7, fL, ja, (aq nD), ka, hL, m9, jh, fM, ck, cz, cA, ct, eJ, dw, cI, cw, cK, jT, nW, pP, nX, Ao, yD, nm, seval]
      exact ⟨List.length p6, qZc _, by rw [kR]; refine ⟨p6, aI + 1, (eP ++ [(GLe.mk aI (List.length e6.Signs : Int))]), .ref (jb + 12) 0 (List.length (eP ++ [(GLe.mk aI (List.length e6.Signs : Int))])) 2 (List.length (eP ++ [(GLe.mk aI (List.length e6.Signs : Int))])), rfl, Int.le_trans eK (Int.le_add_one (qZe _)), bK eK gF, rfl, (show 7 ≤ jb + 16 by omega), ?_, ck, cz, ct, ?_, ?_, Or.inl ⟨jb + 12, (sameEl mA 100), rfl, (by first | omega | (simp only [nm, seval]; done) | (simp only [nm, seval]; omega)), (by first | omega | (intro hh; simp only [fL, jh, fM, nW, nX, reduceCtorEq] at hh)), ?_⟩, (by first | exact h | (simp only [ja, hL, Ao]; exact h))⟩ <;> first | (simp only [ua, fL, ja, ka, hL, jh, fM, ck, cz, cA, ct, eJ, dw, cI, cw, cK, jT, nW, pP, nX, Ao, nm, seval] <;> rfl) | rfl⟩
     | cons gh rz =>
      have nS : (decide (fg < (List.length e6.Cuts : Int))) = true := fz jS lB
      have zU := eg jS lB
      have EP := f2 jS lB m9
      simp only [qR, hs, reduceCtorEq] at h
      cases yE : (av 16 (List.length (eP ++ [(GLe.mk aI gh)])))
      ·simp only [yE, hs] at h
       exact absurd h EO
      simp only [yE, hs] at h
      simp only [vz, tyf, g7, fL, ja, (aq nD), ka, hL, m9, jh, fM, ck, cz, cA, ct, eJ, dw, cI, cw, cK, jT, nW, pP, nX, nS, (au zU), EP, yE, nm, seval]
      refine k_app (w := 2) (enc := cGLe) (xs := eP) (ys := ([(GLe.mk aI gh)])) (el := mA) (gg := (some 100)) (fun _ => rfl) mV mU Tryz.underlying29 (by first | rfl | assumption | (simp only [bw, bx, jj, fL, jh, fM, jT, nW, pP, nX, nm, seval] <;> rfl) | (simp only [bw, bx, dj, d6, dp, dq, tyf, g7, fL, ja, (aq nD), ka, hL, m9, jh, fM, ck, cz, cA, ct, eJ, dw, cI, cw, cK, jT, nW, pP, nX, nS, (au zU), EP, yE, nm, seval]; done)) (by first | rfl | assumption | (simp only [bw, bx, jj, fL, jh, fM, jT, nW, pP, nX, nm, seval] <;> rfl) | (simp only [bw, bx, dj, d6, dp, dq, tyf, g7, fL, ja, (aq nD), ka, hL, m9, jh, fM, ck, cz, cA, ct, eJ, dw, cI, cw, cK, jT, nW, pP, nX, nS, (au zU), EP, yE, nm, seval]; done)) (Nat.zero_lt_succ _) yE ?_
      simp only [vz, tyf, g7, fL, ja, (aq nD), ka, hL, m9, jh, fM, ck, cz, cA, ct, eJ, dw, cI, cw, cK, jT, nW, pP, nX, nS, (au zU), EP, yE, nm, seval]
      exact ⟨List.length rz, qZc _, by rw [uW]; refine ⟨rz, fg + 1, (eP ++ [(GLe.mk aI gh)]), .ref (jb + 9) 0 (List.length (eP ++ [(GLe.mk aI gh)])) 2 (List.length (eP ++ [(GLe.mk aI gh)])), rfl, Int.le_trans jS (Int.le_add_one (qZe _)), bK jS lB, rfl, (show fV + 14 ≤ jb + 13 by omega), ?_, ck, cz, cA, ct, eJ, dw, cI, ?_, ?_, Or.inl ⟨jb + 9, (sameEl mA 100), rfl, (by first | omega | (simp only [nm, seval]; done) | (simp only [nm, seval]; omega)), (by first | omega | (intro hh; simp only [fL, jh, fM, nW, nX, reduceCtorEq] at hh)), ?_⟩, (by first | exact h | (simp only [ja, hL, nS]; exact h))⟩ <;> first | (simp only [ua, fL, ja, ka, hL, jh, fM, ck, cz, cA, ct, eJ, dw, cI, cw, cK, jT, nW, pP, nX, nS, EP, nm, seval] <;> rfl) | rfl⟩
    ·cases rz with
     | nil =>
      have uF : (decide (fg < (List.length e6.Cuts : Int))) = false := fy jS lB
      simp only [qR, hs, reduceCtorEq] at h
      replace h := EN _ h
      try dsimp only at h
      try simp only [hs] at h
      cases qS : (av 16 (List.length (([] : List GLe) ++ [(GLe.mk aI (List.length e6.Signs : Int))])))
      ·simp only [qS, hs] at h
       exact absurd h kh
      simp only [qS, hs] at h
      simp only [vz, tyf, g7, fL, ja, (aq nD), ka, hL, m9, jh, fM, ck, cz, cA, ct, eJ, dw, cI, cw, cK, jT, uF, qS, nm, seval]
      refine nc (w := 2) (enc := cGLe) (ys := ([(GLe.mk aI (List.length e6.Signs : Int))])) (gg := (some 100)) (fun _ => rfl) mV mU Tryz.underlying29 (by first | rfl | assumption | (simp only [bw, bx, jj, fL, jh, fM, jT, nm, seval] <;> rfl) | (simp only [bw, bx, dj, d6, dp, dq, tyf, g7, fL, ja, (aq nD), ka, hL, m9, jh, fM, ck, cz, cA, ct, eJ, dw, cI, cw, cK, jT, uF, qS, nm, seval]; done)) (Nat.zero_lt_succ _) qS ?_
      simp only [vz, tyf, g7, fL, ja, (aq nD), ka, hL, m9, jh, fM, ck, cz, cA, ct, eJ, dw, cI, cw, cK, jT, uF, qS, nm, seval]
      exact ⟨List.length p6, qZc _, by rw [kR]; refine ⟨p6, aI + 1, (([] : List GLe) ++ [(GLe.mk aI (List.length e6.Signs : Int))]), .ref (jb + 12) 0 (List.length (([] : List GLe) ++ [(GLe.mk aI (List.length e6.Signs : Int))])) 2 (List.length (([] : List GLe) ++ [(GLe.mk aI (List.length e6.Signs : Int))])), rfl, Int.le_trans eK (Int.le_add_one (qZe _)), bK eK gF, rfl, (show 7 ≤ jb + 16 by omega), ?_, ck, cz, ct, ?_, ?_, Or.inl ⟨jb + 12, (some 100), rfl, (by first | omega | (simp only [nm, seval]; done) | (simp only [nm, seval]; omega)), (by first | omega | (intro hh; simp only [fL, jh, fM, reduceCtorEq] at hh)), ?_⟩, (by first | exact h | (simp only [ja, hL, uF]; exact h))⟩ <;> first | (simp only [ua, fL, ja, ka, hL, jh, fM, ck, cz, cA, ct, eJ, dw, cI, cw, cK, jT, uF, nm, seval] <;> rfl) | rfl⟩
     | cons gh rz =>
      have tq : (decide (fg < (List.length e6.Cuts : Int))) = true := fz jS lB
      have yF := eg jS lB
      have uX := f2 jS lB m9
      simp only [qR, hs, reduceCtorEq] at h
      cases qT : (av 16 (List.length (([] : List GLe) ++ [(GLe.mk aI gh)])))
      ·simp only [qT, hs] at h
       exact absurd h EO
      simp only [qT, hs] at h
      simp only [vz, tyf, g7, fL, ja, (aq nD), ka, hL, m9, jh, fM, ck, cz, cA, ct, eJ, dw, cI, cw, cK, jT, tq, (au yF), uX, qT, nm, seval]
      refine nc (w := 2) (enc := cGLe) (ys := ([(GLe.mk aI gh)])) (gg := (some 100)) (fun _ => rfl) mV mU Tryz.underlying29 (by first | rfl | assumption | (simp only [bw, bx, jj, fL, jh, fM, jT, nm, seval] <;> rfl) | (simp only [bw, bx, dj, d6, dp, dq, tyf, g7, fL, ja, (aq nD), ka, hL, m9, jh, fM, ck, cz, cA, ct, eJ, dw, cI, cw, cK, jT, tq, (au yF), uX, qT, nm, seval]; done)) (Nat.zero_lt_succ _) qT ?_
      simp only [vz, tyf, g7, fL, ja, (aq nD), ka, hL, m9, jh, fM, ck, cz, cA, ct, eJ, dw, cI, cw, cK, jT, tq, (au yF), uX, qT, nm, seval]
      exact ⟨List.length rz, qZc _, by rw [uW]; refine ⟨rz, fg + 1, (([] : List GLe) ++ [(GLe.mk aI gh)]), .ref (jb + 9) 0 (List.length (([] : List GLe) ++ [(GLe.mk aI gh)])) 2 (List.length (([] : List GLe) ++ [(GLe.mk aI gh)])), rfl, Int.le_trans jS (Int.le_add_one (qZe _)), bK jS lB, rfl, (show fV + 14 ≤ jb + 13 by omega), ?_, ck, cz, cA, ct, eJ, dw, cI, ?_, ?_, Or.inl ⟨jb + 9, (some 100), rfl, (by first | omega | (simp only [nm, seval]; done) | (simp only [nm, seval]; omega)), (by first | omega | (intro hh; simp only [fL, jh, fM, reduceCtorEq] at hh)), ?_⟩, (by first | exact h | (simp only [ja, hL, tq]; exact h))⟩ <;> first | (simp only [ua, fL, ja, ka, hL, jh, fM, ck, cz, cA, ct, eJ, dw, cI, cw, cK, jT, tq, uX, nm, seval] <;> rfl) | rfl⟩
   simp only [hL, hs] at h
   simp only [vz, tyf, g7, fL, H8, ja, (aq nD), ka, mG, mH, eZ, jB, jn, ld, j7, hL, nm, seval]
   exact ⟨List.length p6, qZc _, by rw [kR]; refine ⟨p6, aI + 1, ([] : List GLe), .lit (.slice none 0 0), rfl, Int.le_trans eK (Int.le_add_one (qZe _)), bK eK gF, rfl, (show 7 ≤ fV + 8 by omega), ?_, mG, mH, jn, ?_, ?_, Or.inr ⟨rfl, rfl⟩, (by first | exact h | (simp only [ja, hL]; exact h))⟩ <;> first | (simp only [ua, fL, H8, ja, ka, mG, mH, eZ, jB, jn, ld, j7, hL, nm, seval] <;> rfl) | rfl⟩
def uY (dZ : GLe) : List GLe → Int → Option (LOut (Int) (Unit))
 | [], dz => some (.go ())
 | e0 :: p0, dz => cond (dZ.Word == e0.Word && (dZ.Letters == e0.Letters)) (some (.ret dz)) (uY dZ p0 (dz + 1))
def Gr (ad : List GLe) (dZ : GLe) : Option (Int) := cond (lenOk ad) (lbind (uY dZ ad 0) (fun r2 => some r2) (fun c1 => some (-1)) (fun _ _ => none)) none
theorem zeb (ad : List GLe) (dZ : GLe) (R : Int) (h : Gr ad dZ = some R) : ag Tryz.prog G0 150 [.sl (aa cGLe ad) (List.length ad) false, .agg (cGLe dZ)] (.tree (.lit (.int .i64 R))) := by
 refine ag.runR mixed Tryz.call150 Tryz.func150 rfl (by simp [Tryz.ntmps150]; kernel_rfl) ?_
 obtain ⟨KF, h, kF, kN⟩ := eC h
 simp only [Gr] at h
 cases g4 : (lenOk ad)
 ·simp only [g4, hs] at h
  exact absurd h kN
 simp only [g4, hs] at h
 simp only [vz, tyf, g4, nm, seval]
 obtain ⟨K3, h, rY, qW, BR, BS⟩ := gp h kN
 obtain ⟨f3, rZ, h⟩ := call2 h
 obtain ⟨I3, kf⟩ : ∃ I : Nat → St → Prop, I = (fun m st => ∃ (p3 : List GLe) (bS : Int), m = List.length p3 ∧ 0 ≤ bS ∧ List.drop (Int.toNat bS) ad = p3 ∧ st.df = [] ∧ 5 ≤ st.nx ∧ st.H 0 = some (.cells (some 100) (cGLe dZ)) ∧ st.tm 0 = .sl (aa cGLe ad) (List.length ad) false ∧ st.tm 3 = .ptr 0 0 ∧ st.tm 7 = .lit (.int .i64 (List.length ad : Int)) ∧ st.tm 8 = .lit (.int .i64 bS) ∧ K3 (f3 p3 bS)) := ⟨_, rfl⟩
 refine loopK mixed (by kernel_rfl) I3 (List.length ad) (by rw [kf]; refine ⟨ad, 0, rfl, qZe _, rfl, rfl, (show 5 ≤ 5 by omega), ?_, ?_, ?_, ?_, ?_, h⟩ <;> first | (simp only [ua, nm, seval] <;> rfl) | rfl) ?_
 rintro m ⟨tm, H, na, df⟩ hinv
 rw [kf] at hinv
 obtain ⟨p3, bS, rfl, fN, gL, hdf, sa, H5, e6, e7, e8, e9, h⟩ := hinv
 simp only at hdf sa H5 e6 e7 e8 e9
 have nj := gq (m := 5) (b := na) (by omega)
 subst hdf rZ
 cases p3 with
 | nil =>
  have gu : (decide (bS < (List.length ad : Int))) = false := fy fN gL
  simp only [uY, hs, reduceCtorEq] at h
  replace h := qW _ h
  try dsimp only at h
  try simp only [hs] at h
  try simp only [vz, tyf, g4, nj, e6, e7, e8, e9, H5, gu, nm, seval]
  refine eh (x := (.lit (.int .i64 (-1)))) (by first | (simp only [Tryz.results150, resV, resL, aR, ei, ej, uw, cr, tyf, g4, nj, H5, gu, nm, seval] <;> rfl) | rfl) ?_
  obtain rfl := kF _ h
  refine eD ?_ ?_
  ·simp only [tre, aG, Bool.and_self]
  ·first | (simp only [outV, uw, ep, cr, tyf, nrm, aE, g4, nj, e6, e7, e8, e9, H5, gu, nm, seval] <;> rfl) | rfl
 | cons e3 p3 =>
  have cl : (decide (bS < (List.length ad : Int))) = true := fz fN gL
  have mK := eg fN gL
  have mM := f2 fN gL g4
  simp only [uY, hs, reduceCtorEq] at h
  simp only [vz, tyf, g4, nj, e6, e7, e8, e9, H5, cl, (aV mK), mM, nm, seval]
  refine km (fun tm => tm 0 = .sl (aa cGLe ad) (List.length ad) false ∧ tm 3 = .ptr 0 0 ∧ tm 5 = .lit (.int .i64 bS) ∧ tm 7 = .lit (.int .i64 (List.length ad : Int)) ∧ tm 8 = .lit (.int .i64 bS) ∧ True) (by refine ⟨e6, e7, ?_, e8, e9, trivial⟩ <;> first | (simp only [ua, nj, e6, e7, e8, e9, H5, cl, mM, nm, seval] <;> rfl) | rfl) ?_
  rintro tm ⟨bE, de, cH, bL, dg, _⟩
  cases cB : (dZ.Word == e3.Word && (dZ.Letters == e3.Letters))
  ·simp only [cB, hs] at h
   simp only [vz, tyf, g4, nj, H5, cl, (aV mK), mM, bE, de, cH, bL, dg, cB, nm, seval]
   exact ⟨List.length p3, qZc _, by rw [kf]; refine ⟨p3, bS + 1, rfl, Int.le_trans fN (Int.le_add_one (qZe _)), bK fN gL, rfl, (show 5 ≤ na + 11 by omega), ?_, bE, de, bL, ?_, (by first | exact h | (simp only [cl, cB]; exact h))⟩ <;> first | (simp only [ua, nj, H5, cl, mM, bE, de, cH, bL, dg, cB, nm, seval] <;> rfl) | rfl⟩
  simp only [cB, hs] at h
  try simp only [vz, tyf, g4, nj, H5, cl, (aV mK), mM, bE, de, cH, bL, dg, cB, nm, seval]
  refine eh (x := (.lit (.int .i64 bS))) (by first | (simp only [Tryz.results150, resV, resL, aR, ei, ej, uw, cr, tyf, g4, nj, H5, cl, (aV mK), mM, cB, nm, seval] <;> rfl) | rfl) ?_
  replace h := rY _ h
  try dsimp only at h
  obtain rfl := kF _ h
  refine eD ?_ ?_
  ·simp only [tre, aG, Bool.and_self]
  ·first | (simp only [outV, uw, ep, cr, tyf, nrm, aE, g4, nj, H5, cl, (aV mK), mM, bE, de, cH, bL, dg, cB, nm, seval] <;> rfl) | rfl
def yG  : List GLe → Int → (List GLe) → Option (LOut (Bool) ((List GLe)))
 | [], cR, tt => some (.go tt)
 | e0 :: p0, cR, tt => Option.bind (Gr tt e0) (fun r1 => cond (decide (r1 < 0)) (some (.ret false)) (Option.bind (sliceO tt (i64.wrap (r1 + 1)) (List.length tt : Int)) (fun s2 => yG p0 (cR + 1) s2)))
def ES (b8 : List GLe) (cM : List GLe) : Option (Bool) := cond (lenOk b8) (lbind (yG b8 0 cM) (fun r4 => some r4) (fun c3 => some ((List.length c3 : Int) == 0)) (fun _ _ => none)) none
theorem zlh (b8 : List GLe) (cM : List GLe) (R : Bool) (h : ES b8 cM = some R) : ag Tryz.prog G0 115 [.sl (aa cGLe b8) (List.length b8) false, .sl (aa cGLe cM) (List.length cM) false] (.tree (.lit (.bool R))) := by
 refine ag.runR mixed Tryz.call115 Tryz.func115 rfl (by simp [Tryz.ntmps115]; kernel_rfl) ?_
 obtain ⟨KF, h, kF, kN⟩ := eC h
 simp only [ES] at h
 cases g6 : (lenOk b8)
 ·simp only [g6, hs] at h
  exact absurd h kN
 simp only [g6, hs] at h
 simp only [vz, tyf, g6, nm, seval]
 obtain ⟨K5, h, zm, v7, JT, sv⟩ := gp h kN
 obtain ⟨f5, xg, h⟩ := call3 h
 obtain ⟨I5, nM⟩ : ∃ I : Nat → St → Prop, I = (fun m st => ∃ (p5 : List GLe) (jc : Int) (oS : List GLe), m = List.length p5 ∧ 0 ≤ jc ∧ List.drop (Int.toNat jc) b8 = p5 ∧ st.df = [] ∧ 4 ≤ st.nx ∧ st.tm 8 = .sl (aa cGLe b8) (List.length b8) false ∧ st.tm 9 = .lit (.int .i64 (List.length b8 : Int)) ∧ st.tm 1 = .sl (aa cGLe oS) (List.length oS) false ∧ st.tm 10 = .lit (.int .i64 jc) ∧ K5 (f5 p5 jc oS)) := ⟨_, rfl⟩
 refine loopK mixed (by kernel_rfl) I5 (List.length b8) (by rw [nM]; refine ⟨b8, 0, cM, rfl, qZe _, rfl, rfl, (show 4 ≤ 4 by omega), ?_, ?_, ?_, ?_, h⟩ <;> first | (simp only [ua, nm, seval] <;> rfl) | rfl) ?_
 rintro m ⟨tm, H, nN, df⟩ hinv
 rw [nM] at hinv
 obtain ⟨p5, jc, oS, rfl, hU, jf, hdf, xh, e7, e8, e9, aW, h⟩ := hinv
 simp only at hdf xh e7 e8 e9 aW
 have nT := gq (m := 4) (b := nN) (by omega)
 subst hdf xg
 cases p5 with
 | nil =>
  have cl : (decide (jc < (List.length b8 : Int))) = false := fy hU jf
  simp only [yG, hs, reduceCtorEq] at h
  replace h := v7 _ h
  try dsimp only at h
  try simp only [hs] at h
  try simp only [vz, tyf, g6, nT, e7, e8, e9, aW, cl, nm, seval]
  obtain rfl := kF _ h
  exact bz Tryz.results115 rfl
 | cons e5 p5 =>
  have bD : (decide (jc < (List.length b8 : Int))) = true := fz hU jf
  have pJ := eg hU jf
  have pK := f2 hU jf g6
  simp only [yG, hs, reduceCtorEq] at h
  obtain ⟨vi, BO, h⟩ := optI h sv
  try simp only [hs] at h
  simp only [vz, tyf, g6, nT, e7, e8, e9, aW, bD, (aV pJ), pK, nm, seval]
  refine ktA (zeb _ _ _ BO) ?_
  refine b5 (fun tm => tm 1 = .sl (aa cGLe oS) (List.length oS) false ∧ tm 8 = .sl (aa cGLe b8) (List.length b8) false ∧ tm 9 = .lit (.int .i64 (List.length b8 : Int)) ∧ tm 10 = .lit (.int .i64 jc) ∧ tm 16 = .lit (.int .i64 vi) ∧ True) (by refine ⟨e9, e7, e8, aW, ?_, trivial⟩ <;> first | (simp only [ua, nT, e7, e8, e9, aW, bD, pK, nm, seval] <;> rfl) | rfl) ?_
  rintro tm ⟨bL, dg, ez, cn, bJ, _⟩
  cases lk : (decide (vi < 0))
  ·simp only [lk, hs] at h
   obtain ⟨s24, vS, h⟩ := optI h sv
   try simp only [hs] at h
   try simp only [vz, tyf, g6, nT, bD, (aV pJ), pK, bL, dg, ez, cn, bJ, lk, nm, seval]
   refine k_slT (w := 2) (enc := cGLe) (xs := oS) Tryz.underlying29 (by kernel_rfl) (fun _ => rfl) (by first | (simp only [qd, Ca, si, yX, g6, nT, bD, (aV pJ), pK, bL, dg, ez, cn, bJ, lk, nm, seval] <;> rfl) | rfl) (.inr ⟨.i64, by simp only [Option.map_some]; exact congrArg some (by first | (simp only [qd, Ca, si, yX, g6, nT, bD, (aV pJ), pK, bL, dg, ez, cn, bJ, lk, nm, seval] <;> rfl) | rfl)⟩) (.inl ⟨rfl, rfl⟩) vS ?_
   simp only [vz, tyf, g6, nT, bD, (aV pJ), pK, bL, dg, ez, cn, bJ, lk, nm, seval]
   exact ⟨List.length p5, qZc _, by rw [nM]; refine ⟨p5, jc + 1, s24, rfl, Int.le_trans hU (Int.le_add_one (qZe _)), bK hU jf, rfl, (show 4 ≤ nN + 18 by omega), dg, ez, ?_, ?_, (by first | exact h | (simp only [bD, lk]; exact h))⟩ <;> first | (simp only [ua, nT, bD, pK, bL, dg, ez, cn, bJ, lk, nm, seval] <;> rfl) | rfl⟩
  simp only [lk, hs] at h
  try simp only [vz, tyf, g6, nT, bD, (aV pJ), pK, bL, dg, ez, cn, bJ, lk, nm, seval]
  replace h := zm _ h
  try dsimp only at h
  obtain rfl := kF _ h
  exact bz Tryz.results115 rfl
def zq (ad : GLs) (bm : GLx) : Option (Bool) := Option.bind (E8 ad bm.Out) (fun r1 => cond (r1) (Option.bind (EI ad bm.Out) (fun r2 => Option.bind (ES bm.Ends r2) (fun r3 => some r3))) (some false))
theorem XD (ad : GLs) (bm : GLx) (R : Bool) (h : zq ad bm = some R) : ag Tryz.prog G0 69 [.agg (cGLs ad), .agg (cGLx bm)] (.tree (.lit (.bool R))) := by
 refine ag.runR mixed Tryz.call69 Tryz.func69 rfl (by simp [Tryz.ntmps69]; kernel_rfl) ?_
 obtain ⟨KF, h, kF, kN⟩ := eC h
 simp only [zq] at h
 simp only [vz, tyf, nm, seval]
 refine km (fun tm => tm 2 = .ptr 0 0 ∧ tm 3 = .ptr 1 0 ∧ True) (by refine ⟨?_, ?_, trivial⟩ <;> first | (simp only [ua, nm, seval] <;> rfl) | rfl) ?_
 rintro tm ⟨e4, e5, _⟩
 obtain ⟨r6, o7, h⟩ := optI h kN
 try simp only [hs] at h
 simp only [vz, tyf, e4, e5, nm, seval]
 refine dktA (ZZ _ _ _ o7) ?_
 refine b5 (fun tm => tm 2 = .ptr 0 0 ∧ tm 3 = .ptr 1 0 ∧ tm 8 = .lit (.bool r6) ∧ True) (by refine ⟨e4, e5, ?_, trivial⟩ <;> first | (simp only [ua, e4, e5, nm, seval] <;> rfl) | rfl) ?_
 rintro tm ⟨e8, e9, aW, _⟩
 cases gu : (r6)
 ·simp only [gu, hs] at h
  try simp only [vz, tyf, e8, e9, aW, gu, nm, seval]
  obtain rfl := kF _ h
  exact bz Tryz.results69 rfl
 simp only [gu, hs] at h
 obtain ⟨z8, pZ, h⟩ := optI h kN
 try simp only [hs] at h
 simp only [vz, tyf, e8, e9, aW, gu, nm, seval]
 refine dktA (zis _ _ _ pZ) ?_
 refine b5 (fun tm => tm 9 = .lit (.bool true) ∧ tm 11 = .sl (aa cGLe bm.Ends) (List.length bm.Ends) false ∧ tm 15 = .sl (aa cGLe z8) (List.length z8) false ∧ True) (by refine ⟨?_, ?_, ?_, trivial⟩ <;> first | (simp only [ua, e8, e9, aW, gu, nm, seval] <;> rfl) | rfl) ?_
 rintro tm ⟨bn, bE, de, _⟩
 obtain ⟨xO, D3, h⟩ := optI h kN
 try simp only [hs] at h
 simp only [vz, tyf, gu, bn, bE, de, nm, seval]
 refine dktA (zlh _ _ _ D3) ?_
 refine b5 (fun tm => tm 9 = .lit (.bool true) ∧ tm 16 = .lit (.bool xO) ∧ True) (by refine ⟨?_, ?_, trivial⟩ <;> first | (simp only [ua, gu, bn, bE, de, nm, seval] <;> rfl) | rfl) ?_
 rintro tm ⟨dg, ez, _⟩
 try simp only [vz, tyf, gu, dg, ez, nm, seval]
 obtain rfl := kF _ h
 exact bz Tryz.results69 rfl
theorem V6 (n : Int) : ∀ (p : List Int) (i : Int), zQ n p i = cond (p.contains n) (some (.ret true)) (some (.go ()))
 | [], _ => rfl
 | e :: p, i => by
  simp only [zQ, V6 n p, List.contains_cons]
  by_cases h : e = n
  ·subst h; simp
  ·have h1 : (e == n) = false := by simpa using h
   have h2 : (n == e) = false := by simpa using fun h' => h h'.symm
   rw [h1, h2]; simp
theorem zl (l : List Int) (n : Int) (h : lenOk l = true) : uf l n = some (l.contains n) := by
 simp only [uf, h, cond_true, V6]
 cases l.contains n <;> rfl
theorem ET (n : Int) : ∀ (p : List Int) (i : Int), 0 ≤ i → ∃ r, Ad n p i = some r ∧ ((p.contains n = true ∧ ∃ j, r = .ret j ∧ 0 ≤ j) ∨ (p.contains n = false ∧ r = .go ()))
 | [], _, _ => ⟨_, rfl, .inr ⟨rfl, rfl⟩⟩
 | e :: p, i, hi => by
  simp only [Ad, List.contains_cons]
  cases h : (n == e) with
  | true => exact ⟨_, rfl, .inl ⟨by simp, i, rfl, hi⟩⟩
  | false =>
   obtain ⟨r, h1, h2⟩ := ET n p (i + 1) (by omega)
   exact ⟨r, h1, by simpa using h2⟩
theorem SH (l : List Int) (n : Int) (h : lenOk l = true) : z7 l n = some (l.contains n) := by
 obtain ⟨r, h1, h2⟩ := ET n l 0 (by omega)
 simp only [z7, Gp, h, cond_true, h1]
 rcases h2 with ⟨h2, j, rfl, hj⟩ | ⟨h2, rfl⟩
 ·simp only [Qn, Option.bind_some, h2]
  rw [decide_eq_true (show j ≥ 0 from hj)]
 ·simp only [mY, Option.bind_some, h2]
  rfl
def freeB (s : GLs) (i : Int) : Bool := match getI s.Words i with | some w => w.Free | none => false
def outB (s : GLs) (out : List Int) : Bool := decide ((out.length : Int) < s.Words.length) && ((incrL out && out.all (inB 0 ((s.Words.length : Int) - 1))) && out.all (freeB s))
theorem D9 {s : GLs} {i : Int} (h : inB 0 ((s.Words.length : Int) - 1) i = true) : ∃ w, getI s.Words i = some w ∧ w ∈ s.Words := by
 rw [tx] at h
 exact SE h.1 (by omega)
theorem EU (s : GLs) : ∀ (p : List Int) (i : Int), p.all (inB 0 ((s.Words.length : Int) - 1)) = true → Ab s p i = goB (p.all (freeB s))
 | [], _, _ => rfl
 | e :: p, i, h => by
  simp only [List.all_cons, Bool.and_eq_true] at h
  obtain ⟨w, hw, _⟩ := D9 h.1
  have hf : freeB s e = w.Free := by simp [freeB, hw]
  simp only [Ab, hw, Option.bind_some, EU s p (i + 1) h.2, List.all_cons, hf, oh]
theorem RC (s : GLs) (out : List Int) (hl : lenOk out = true) (hw : (s.Words.length : Int) < 1000) : E8 s out = some (outB s out) := by
 unfold E8 outB
 by_cases h : (out.length : Int) < s.Words.length
 ·rw [decide_eq_false (show ¬ ((out.length : Int) ≥ s.Words.length) by omega), decide_eq_true h, cond_false, jd (by omega) (by omega), Vm _ _ _ hl, Option.bind_some]
  cases hb : (incrL out && out.all (inB 0 ((s.Words.length : Int) - 1))) with
  | false => rfl
  | true =>
   have h2 := (Bool.and_eq_true _ _ ▸ hb).2
   simp only [cond_true, hl, EU s out 0 h2, w6, Bool.true_and]
   cases out.all (freeB s) <;> rfl
 ·rw [decide_eq_true (show ((out.length : Int) ≥ s.Words.length) by omega), decide_eq_false h]
  rfl
def outG (s : GLs) : Option Int → List Int → Bool
 | _, [] => true
 | none, e :: p => inB 0 ((s.Words.length : Int) - 1) e && (freeB s e && outG s (some e) p)
 | some q, e :: p => inB 0 ((s.Words.length : Int) - 1) e && (freeB s e && (!decide (e ≤ q) && outG s (some e) p))
theorem V7 (s : GLs) : ∀ (p : List Int) (q : Int), outG s (some q) p = ((incr q p && p.all (inB 0 ((s.Words.length : Int) - 1))) && p.all (freeB s))
 | [], _ => rfl
 | e :: p, q => by
  simp only [outG, V7 s p e, incr, List.all_cons]
  cases inB 0 ((s.Words.length : Int) - 1) e <;> cases freeB s e <;> cases decide (e ≤ q) <;> cases incr e p <;> simp
theorem RE (s : GLs) : ∀ (p : List Int), outG s none p = ((incrL p && p.all (inB 0 ((s.Words.length : Int) - 1))) && p.all (freeB s))
 | [] => rfl
 | e :: p => by
  simp only [outG, V7 s p e, incrL, List.all_cons]
  cases inB 0 ((s.Words.length : Int) - 1) e <;> cases freeB s e <;> cases incr e p <;> simp
theorem EV (s : GLs) (hw : (s.Words.length : Int) < 1000) (xs : List Int) (hl : lenOk xs = true) : ∀ (p : List Int) (q i : Int), 1 ≤ i → xs.drop (i - 1).toNat = q :: p → uM s xs p i = goB (outG s (some q) p)
 | [], _, _, _, _ => rfl
 | e :: p, q, i, h0, h => by
  have hb := w7 hl
  have hle := vy h
  simp only [List.length_cons] at hle
  have hi : i < 9223372036854775808 := by
   rcases hle with hle | hle
   ·omega
   ·cases hle
  have hn : xs.drop (i + 1 - 1).toNat = e :: p := by
   have := bK (i := i - 1) (by omega) h
   rwa [show i - 1 + 1 = i + 1 - 1 by omega] at this
  have hp : decide (i > 0) = true := by simp; omega
  simp only [uM, in_eq, Option.bind_some]
  rw [jd (by omega) (by omega)]
  cases hin : inB 0 ((s.Words.length : Int) - 1) e with
  | false => simp only [cond_false, outG, hin, Bool.false_and]; rfl
  | true =>
   obtain ⟨w, hw', _⟩ := D9 hin
   have hf : freeB s e = w.Free := by simp [freeB, hw']
   simp only [cond_true, hw', Option.bind_some, hp, xe h0 hi h, EV s hw xs hl p e (i + 1) (by omega) hn, outG, hin, hf, Bool.true_and, oh, cnot]
theorem RF (s : GLs) (hw : (s.Words.length : Int) < 1000) (xs : List Int) (hl : lenOk xs = true) : uM s xs xs 0 = goB (outG s none xs) := by
 cases xs with
 | nil => rfl
 | cons e p =>
  have := EV s hw (e :: p) hl p e (0 + 1) (by omega) rfl
  simp only [uM, in_eq, Option.bind_some]
  rw [jd (by omega) (by omega)]
  cases hin : inB 0 ((s.Words.length : Int) - 1) e with
  | false => simp only [cond_false, outG, hin, Bool.false_and]; rfl
  | true =>
   obtain ⟨w, hw', _⟩ := D9 hin
   have hf : freeB s e = w.Free := by simp [freeB, hw']
   simp only [cond_true, hw', Option.bind_some, show decide ((0 : Int) > 0) = false from rfl, cond_false, this, outG, hin, hf, Bool.true_and, oh]
theorem MF (s : GLs) (out : List Int) (hl : lenOk out = true) (hw : (s.Words.length : Int) < 1000) : Ez s out = some (outB s out) := by
 simp only [Ez, hl, cond_true, RF s hw out hl, w6, RE, outB]
 cases ((incrL out && out.all (inB 0 ((s.Words.length : Int) - 1))) && out.all (freeB s)) <;> simp
structure Sh (s : GLs) : Prop where
 nwid : 1 ≤ s.Widths.length ∧ s.Widths.length ≤ 6
 wid : ∀ x ∈ s.Widths, 1 ≤ x ∧ x ≤ 20
 npair : s.Pairs.length ≤ 6
 pair : ∀ p ∈ s.Pairs, 0 ≤ p.Left ∧ 0 ≤ p.Right ∧ 0 ≤ p.Space.Low ∧ p.Space.Low ≤ p.Space.High ∧ p.Space.High ≤ 9
 other : 0 ≤ s.Other.Low ∧ s.Other.Low ≤ s.Other.High ∧ s.Other.High ≤ 9
 gap : 0 ≤ s.Gap.Low ∧ s.Gap.Low ≤ s.Gap.High ∧ s.Gap.High ≤ 20
 hyp : 1 ≤ s.Hyphen ∧ s.Hyphen ≤ 20
 nw : 1 ≤ s.Words.length ∧ s.Words.length ≤ 4
 wlen : ∀ w ∈ s.Words, 1 ≤ w.Signs.length ∧ w.Signs.length ≤ 6
 wsign : ∀ w ∈ s.Words, ∀ c ∈ w.Signs, 0 ≤ c ∧ c < s.Widths.length
 wcut : ∀ w ∈ s.Words, incrL w.Cuts = true ∧ (∀ c ∈ w.Cuts, 1 ≤ c ∧ c < w.Signs.length) ∧ w.Cuts.length ≤ 5
 wide : 1 ≤ s.Wide ∧ s.Wide ≤ 400
 rows : 1 ≤ s.Rows ∧ s.Rows ≤ 3
theorem EW {hi : Int} : ∀ (p : List Int) (q : Int), incr q p = true → p.all (inB 1 hi) = true → q ≤ hi → q + p.length ≤ hi
 | [], q, _, _, h => by simpa using h
 | e :: p, q, h1, h2, h3 => by
  simp only [incr, Bool.and_eq_true, Bool.not_eq_true', decide_eq_false_iff_not] at h1
  simp only [List.all_cons, Bool.and_eq_true, tx] at h2
  have := EW p e h1.2 h2.2 h2.1.2
  simp only [List.length_cons]
  omega
theorem RG {m : Int} : ∀ (p : List GLp) (q : Option GLp), pairsG m q p = true → ∀ x ∈ p, pairB m x = true
 | [], _, _, x, hx => by cases hx
 | e :: p, none, h, x, hx => by
  simp only [pairsG, Bool.and_eq_true] at h
  rcases List.mem_cons.1 hx with rfl | hx
  ·exact h.1
  ·exact RG p _ h.2 x hx
 | e :: p, some q, h, x, hx => by
  simp only [pairsG, Bool.and_eq_true] at h
  rcases List.mem_cons.1 hx with rfl | hx
  ·exact h.1
  ·exact RG p _ h.2.2 x hx
theorem sh_of {s : GLs} (h : sheetB s = true) : Sh s := by
 unfold sheetB at h
 simp only [Bool.and_eq_true, tx, List.all_eq_true, decide_eq_true_eq] at h
 obtain ⟨⟨⟨⟨⟨⟨⟨⟨⟨h1, h1'⟩, h2⟩, h3, h3'⟩, h4⟩, h5⟩, h6⟩, h7, h7'⟩, h8⟩, h9⟩ := h
 have hw : i64.wrap ((s.Widths.length : Int) - 1) = (s.Widths.length : Int) - 1 := jd (by omega) (by omega)
 rw [hw] at h3' h7'
 have hsp : ∀ {m : Int} {x : GSpan}, spanB m x = true → 0 ≤ x.Low ∧ x.Low ≤ x.High ∧ x.High ≤ m := by
  intro m x h
  simpa [spanB] using h
 have hwd : ∀ w ∈ s.Words, (1 ≤ w.Signs.length ∧ w.Signs.length ≤ 6) ∧ (∀ c ∈ w.Signs, 0 ≤ c ∧ c < s.Widths.length) ∧ incrL w.Cuts = true ∧ (w.Cuts.all (inB 1 ((w.Signs.length : Int) - 1)) = true) := by
  intro w hw
  have := h7' w hw
  simp only [wordB, Bool.and_eq_true, tx] at this
  obtain ⟨a, b, c, d⟩ := this
  rw [jd (by omega) (by omega)] at d
  refine ⟨by omega, fun x hx => ?_, c, d⟩
  have := List.all_eq_true.1 b x hx
  rw [tx] at this
  omega
 refine ⟨by omega, h2, by omega, fun p hp => ?_, hsp h4, hsp h5, h6, by omega, fun w hw => (hwd w hw).1, fun w hw => (hwd w hw).2.1, fun w hw => ?_, h8, h9⟩
 ·have := RG _ _ h3' p hp
  simp only [pairB, Bool.and_eq_true, tx] at this
  have h := hsp this.2.2
  omega
 ·obtain ⟨⟨a, a'⟩, b, c, d⟩ := hwd w hw
  have d' : ∀ x ∈ w.Cuts, 1 ≤ x ∧ x < w.Signs.length := by
   intro x hx
   have := List.all_eq_true.1 d x hx
   rw [tx] at this
   omega
  refine ⟨c, d', ?_⟩
  cases hc : w.Cuts with
  | nil => simp
  | cons e p =>
   rw [hc] at c d d'
   have h1 := d' e (qZb ..)
   simp only [List.all_cons, Bool.and_eq_true] at d
   have := EW p e c d.2 (by omega)
   simp only [List.length_cons]
   omega
def befE (a b : GLe) : Prop := a.Word < b.Word ∨ a.Word = b.Word ∧ a.Letters < b.Letters
theorem t4 {a : GLe} : ¬ befE a a := by unfold befE; omega
theorem BK {a b c : GLe} (h : befE a b) (k : befE b c) : befE a c := by unfold befE at *; omega
def posW (i : Int) (w : GLw) : List GLe := w.Cuts.map (GLe.mk i) ++ [GLe.mk i (w.Signs.length : Int)]
def possL (out : List Int) : List GLw → Int → List GLe
 | [], _ => []
 | w :: ws, i => cond (out.contains i) (possL out ws (i + 1)) (posW i w ++ possL out ws (i + 1))
theorem roomOk16 {n : Nat} (h : n ≤ 1000) : av 16 n = true := by simp [av]; omega
theorem EX (i : Int) : ∀ (p : List Int) (c : Int) (acc : List GLe), acc.length + p.length ≤ 1000 → qR i p c acc = some (.go (acc ++ p.map (GLe.mk i)))
 | [], _, acc, _ => by simp [qR]
 | e :: p, c, acc, h => by
  simp only [List.length_cons] at h
  simp only [qR]
  rw [roomOk16 (by simp; omega), cond_true, EX i p (c + 1) _ (by simp; omega)]
  simp
theorem V8 (out : List Int) : ∀ (ws : List GLw) (i : Int), (∀ w ∈ ws, w.Cuts.length ≤ 5) → (possL out ws i).length ≤ 6 * ws.length
 | [], _, _ => by simp [possL]
 | w :: ws, i, h => by
  have h1 := V8 out ws (i + 1) fun x hx => h x (qZa _ hx)
  have h2 := h w (qZb ..)
  unfold possL
  cases out.contains i <;> simp [posW] <;> omega
theorem yH (out : List Int) (hl : lenOk out = true) : ∀ (ws : List GLw) (i : Int) (acc : List GLe), (∀ w ∈ ws, w.Cuts.length ≤ 5) → acc.length + 6 * ws.length ≤ 1000 → tI out ws i acc = some (.go (acc ++ possL out ws i))
 | [], _, acc, _, _ => by simp [tI, possL]
 | w :: ws, i, acc, h, hn => by
  have h1 : ∀ x ∈ ws, x.Cuts.length ≤ 5 := fun x hx => h x (qZa _ hx)
  have h2 := h w (qZb ..)
  simp only [List.length_cons] at hn
  simp only [tI, SH _ _ hl, Option.bind_some, possL]
  cases out.contains i with
  | true => simp only [cond_true]; exact yH out hl ws (i + 1) acc h1 (by omega)
  | false =>
   simp only [cond_false]
   rw [oV (by omega), cond_true, EX i w.Cuts 0 acc (by omega), mY, roomOk16 (by simp; omega), cond_true, yH out hl ws (i + 1) _ h1 (by simp; omega)]
   simp [posW]
theorem RH {s : GLs} (h : Sh s) (out : List Int) (hl : lenOk out = true) : EI s out = some (possL out s.Words 0) := by
 simp only [EI]
 have := h.nw
 rw [oV (by omega), cond_true, yH out hl s.Words 0 [] (fun w hw => (h.wcut w hw).2.2) (by simp; omega), List.nil_append]
 rfl
theorem xQ : ∀ (p : List Int) (q : Int), incr q p = true → (q :: p).Pairwise (· < ·)
 | [], q, _ => List.pairwise_singleton _ _
 | e :: p, q, h => by
  simp only [incr, Bool.and_eq_true, Bool.not_eq_true', decide_eq_false_iff_not] at h
  have ih := xQ p e h.2
  rw [List.pairwise_cons]
  refine ⟨fun x hx => ?_, ih⟩
  rcases List.mem_cons.1 hx with rfl | hx
  ·omega
  ·have := (List.pairwise_cons.1 ih).1 x hx
   omega
theorem RI : ∀ (p : List Int), incrL p = true → p.Pairwise (· < ·)
 | [], _ => List.Pairwise.nil
 | e :: p, h => xQ p e h
theorem yV {i : Int} {w : GLw} {e : GLe} : e ∈ posW i w ↔ e.Word = i ∧ (e.Letters ∈ w.Cuts ∨ e.Letters = w.Signs.length) := by
 obtain ⟨a, b⟩ := e
 simp only [posW, List.mem_append, List.mem_map, List.mem_singleton, GLe.mk.injEq]
 constructor
 ·rintro (⟨c, hc, rfl, rfl⟩ | ⟨rfl, rfl⟩)
  ·exact ⟨rfl, .inl hc⟩
  ·exact ⟨rfl, .inr rfl⟩
 ·rintro ⟨rfl, h | rfl⟩
  ·exact .inl ⟨b, h, rfl, rfl⟩
  ·exact .inr ⟨rfl, rfl⟩
theorem FZ (out : List Int) : ∀ (ws : List GLw) (i : Int) (e : GLe), e ∈ possL out ws i ↔ ∃ k : Nat, ∃ w, ws[k]? = some w ∧ out.contains (i + k) = false ∧ e ∈ posW (i + k) w
 | [], i, e => by simp [possL]
 | w :: ws, i, e => by
  have ih := FZ out ws (i + 1) e
  have hsh : (∃ k : Nat, ∃ x, (w :: ws)[k]? = some x ∧ out.contains (i + k) = false ∧ e ∈ posW (i + k) x) ↔ (out.contains i = false ∧ e ∈ posW i w) ∨ ∃ k : Nat, ∃ x, ws[k]? = some x ∧ out.contains (i + 1 + k) = false ∧ e ∈ posW (i + 1 + k) x := by
   constructor
   ·rintro ⟨k, x, h1, h2, h3⟩
    cases k with
    | zero =>
     simp only [List.getElem?_cons_zero, Option.some.injEq] at h1
     subst h1
     simp only [Int.natCast_zero, Int.add_zero] at h2 h3
     exact .inl ⟨h2, h3⟩
    | succ k =>
     have e1 : i + ((k + 1 : Nat) : Int) = i + 1 + k := by omega
     rw [e1] at h2 h3
     exact .inr ⟨k, x, by simpa using h1, h2, h3⟩
   ·rintro (⟨h2, h3⟩ | ⟨k, x, h1, h2, h3⟩)
    ·exact ⟨0, w, rfl, by simpa using h2, by simpa using h3⟩
    ·have e1 : i + ((k + 1 : Nat) : Int) = i + 1 + k := by omega
     exact ⟨k + 1, x, by simpa using h1, by rw [e1]; exact h2, by rw [e1]; exact h3⟩
  rw [hsh]
  unfold possL
  cases hc : out.contains i with
  | true => simp only [cond_true]; rw [ih]; simp
  | false => simp only [cond_false, List.mem_append, ih]; simp
theorem RJ {i : Int} {w : GLw} (h : incrL w.Cuts = true) (h2 : ∀ c ∈ w.Cuts, 1 ≤ c ∧ c < (w.Signs.length : Int)) : (posW i w).Pairwise befE := by
 unfold posW
 rw [List.pairwise_append]
 refine ⟨?_, List.pairwise_singleton _ _, ?_⟩
 ·rw [List.pairwise_map]
  exact (RI _ h).imp fun h => .inr ⟨rfl, h⟩
 ·intro a ha b hb
  obtain ⟨c, hc, rfl⟩ := List.mem_map.1 ha
  rw [List.mem_singleton.1 hb]
  exact .inr ⟨rfl, (h2 c hc).2⟩
theorem EY (out : List Int) : ∀ (ws : List GLw) (i : Int), (∀ w ∈ ws, incrL w.Cuts = true ∧ ∀ c ∈ w.Cuts, 1 ≤ c ∧ c < (w.Signs.length : Int)) → (possL out ws i).Pairwise befE
 | [], _, _ => List.Pairwise.nil
 | w :: ws, i, h => by
  have ih := EY out ws (i + 1) fun x hx => h x (qZa _ hx)
  have hw := h w (qZb ..)
  unfold possL
  cases out.contains i with
  | true => exact ih
  | false =>
   simp only [cond_false]
   rw [List.pairwise_append]
   refine ⟨RJ hw.1 hw.2, ih, fun a ha b hb => ?_⟩
   obtain ⟨ha, _⟩ := yV.1 ha
   obtain ⟨k, x, _, _, hb⟩ := (FZ out ws (i + 1) b).1 hb
   obtain ⟨hb, _⟩ := yV.1 hb
   left
   omega
def dropTo (e : GLe) : List GLe → Option (List GLe)
 | [] => none
 | f :: r => if e = f then some r else dropTo e r
def areE : List GLe → List GLe → Bool
 | [], r => r.isEmpty
 | e :: p, r => match dropTo e r with
  | none => false
  | some r' => areE p r'
theorem BG (a b : GLe) : (a.Word == b.Word && (a.Letters == b.Letters)) = decide (a = b) := by
 obtain ⟨a1, a2⟩ := a
 obtain ⟨b1, b2⟩ := b
 simp only [GLe.mk.injEq]
 by_cases h1 : a1 = b1 <;> by_cases h2 : a2 = b2 <;> simp [h1, h2]
theorem V9 (e : GLe) : ∀ (p : List GLe) (i : Int), match dropTo e p with
  | none => uY e p i = some (.go ())
  | some r => ∃ k : Nat, uY e p i = some (.ret (i + k)) ∧ k < p.length ∧ r = p.drop (k + 1)
 | [], i => rfl
 | f :: p, i => by
  unfold dropTo
  by_cases h : e = f
  ·simp only [h, if_true]
   exact ⟨0, by simp [uY, BG], by simp, by simp⟩
  ·rw [if_neg h]
   have ih := V9 e p (i + 1)
   cases hd : dropTo e p with
   | none =>
    rw [hd] at ih
    simp only at ih ⊢
    simp only [uY, BG, decide_eq_false h, cond_false, ih]
   | some r =>
    rw [hd] at ih
    simp only at ih ⊢
    obtain ⟨k, h1, h2, h3⟩ := ih
    refine ⟨k + 1, ?_, by simpa using h2, by simpa using h3⟩
    simp only [uY, BG, decide_eq_false h, cond_false, h1]
    congr 2
    omega
theorem VA : ∀ (p : List GLe) (i : Int) (r : List GLe), r.length ≤ 1000 → (yG p i r = some (.ret false) ∧ areE p r = false) ∨ ∃ r', yG p i r = some (.go r') ∧ areE p r = r'.isEmpty
 | [], i, r, _ => .inr ⟨r, rfl, rfl⟩
 | e :: p, i, r, h => by
  have hx := V9 e r 0
  have hl := oV (xs := r) (by omega)
  unfold areE
  simp only [yG, Gr, hl, cond_true]
  cases hd : dropTo e r with
  | none =>
   rw [hd] at hx
   simp only at hx ⊢
   left
   rw [hx]
   simp [lbind]
  | some r' =>
   rw [hd] at hx
   simp only at hx ⊢
   obtain ⟨k, h1, h2, h3⟩ := hx
   rw [h1, Qn, Option.bind_some, decide_eq_false (show ¬ ((0 : Int) + k < 0) by omega), cond_false, jd (by omega) (by omega)]
   have hs : sliceO r (0 + (k : Int) + 1) (r.length : Int) = some r' := by
    unfold sliceO
    rw [if_pos (by omega)]
    congr 1
    rw [show ((0 : Int) + k + 1).toNat = k + 1 by omega, h3]
    exact List.take_of_length_le (by simp; omega)
   rw [hs, Option.bind_some]
   exact VA p (i + 1) r' (by rw [h3]; simp; omega)
theorem RK (ends r : List GLe) (hl : lenOk ends = true) (hr : r.length ≤ 1000) : ES ends r = some (areE ends r) := by
 simp only [ES, hl, cond_true]
 rcases VA ends 0 r hr with ⟨h1, h2⟩ | ⟨r', h1, h2⟩
 ·rw [h1, h2]; rfl
 ·rw [h1, h2, mY]
  cases r' with
  | nil => rfl
  | cons a l => simp; omega
def IsS (poss ends : List GLe) : Prop := ends.Pairwise befE ∧ (∀ e ∈ ends, e ∈ poss) ∧ ends.getLast? = poss.getLast?
theorem RM {e : GLe} : ∀ {r r' : List GLe}, dropTo e r = some r' → ∃ a, r = a ++ e :: r'
 | [], _, h => by cases h
 | f :: r, r', h => by
  unfold dropTo at h
  split at h
  ·rename_i hf
   simp only [Option.some.injEq] at h
   subst h hf
   exact ⟨[], rfl⟩
  ·obtain ⟨a, ha⟩ := RM h
   exact ⟨f :: a, by rw [ha]; rfl⟩
theorem VB {e : GLe} : ∀ {r : List GLe}, e ∈ r → ∃ r', dropTo e r = some r'
 | [], h => by cases h
 | f :: r, h => by
  unfold dropTo
  split
  ·exact ⟨r, rfl⟩
  ·rename_i hf
   rcases List.mem_cons.1 h with h | h
   ·exact absurd h hf
   ·exact VB h
theorem CK : ∀ (p r : List GLe), r.Pairwise befE → (areE p r = true ↔ IsS r p)
 | [], r, _ => by
  unfold areE IsS
  cases r with
  | nil => simp
  | cons a l =>
   simp only [List.isEmpty_cons, Bool.false_eq_true, false_iff]
   rintro ⟨_, _, h⟩
   simp [List.getLast?_cons] at h
 | e :: p, r, hr => by
  unfold areE
  constructor
  ·intro h
   cases hd : dropTo e r with
   | none => rw [hd] at h; cases h
   | some r' =>
    rw [hd] at h
    obtain ⟨a, rfl⟩ := RM hd
    rw [List.pairwise_append] at hr
    obtain ⟨_, oD, _⟩ := hr
    rw [List.pairwise_cons] at oD
    obtain ⟨h1, h2, h3⟩ := (CK p r' oD.2).1 h
    refine ⟨List.pairwise_cons.2 ⟨fun x hx => oD.1 x (h2 x hx), h1⟩, fun x hx => ?_, ?_⟩
    ·rcases List.mem_cons.1 hx with rfl | hx
     ·simp
     ·have := h2 x hx
      simp [this]
    ·rw [List.getLast?_append, List.getLast?_cons, List.getLast?_cons, h3]
     simp
  ·rintro ⟨h1, h2, h3⟩
   obtain ⟨r', hd⟩ := VB (h2 e (qZb ..))
   rw [hd]
   obtain ⟨a, rfl⟩ := RM hd
   rw [List.pairwise_append] at hr
   obtain ⟨hra, oD, RN⟩ := hr
   rw [List.pairwise_cons] at oD h1
   refine (CK p r' oD.2).2 ⟨h1.2, fun x hx => ?_, ?_⟩
   ·have hb := h1.1 x hx
    rcases List.mem_append.1 (h2 x (qZa _ hx)) with hx' | hx'
    ·exact absurd (BK hb (RN x hx' e (qZb ..))) t4
    ·rcases List.mem_cons.1 hx' with rfl | hx'
     ·exact absurd hb t4
     ·exact hx'
   ·rw [List.getLast?_append, List.getLast?_cons, List.getLast?_cons] at h3
    simp only [Option.some_or, Option.some.injEq] at h3
    cases hp : p.getLast? with
    | none =>
     rw [hp] at h3
     cases hr' : r'.getLast? with
     | none => rfl
     | some y =>
      rw [hr'] at h3
      simp only [Option.getD_none, Option.getD_some] at h3
      subst h3
      exact absurd (oD.1 _ (List.mem_of_getLast? hr')) t4
    | some z =>
     rw [hp] at h3
     cases hr' : r'.getLast? with
     | none =>
      rw [hr'] at h3
      simp only [Option.getD_none, Option.getD_some] at h3
      subst h3
      exact absurd (h1.1 _ (List.mem_of_getLast? hp)) t4
     | some y =>
      rw [hr'] at h3
      simp only [Option.getD_some] at h3
      rw [h3]
abbrev poss (s : GLs) (out : List Int) : List GLe := possL out s.Words 0
theorem xq {s : GLs} (h : Sh s) (out : List Int) : (poss s out).Pairwise befE := EY out _ _ fun w hw => ⟨(h.wcut w hw).1, (h.wcut w hw).2.1⟩
theorem RO {s : GLs} (h : Sh s) (out : List Int) : (possL out s.Words 0).length ≤ 24 := by
 have := V8 out s.Words 0 fun w hw => (h.wcut w hw).2.2
 have := h.nw
 omega
theorem TR {s : GLs} (h : Sh s) (x : GLx) (hl : lenOk x.Out = true) (he : lenOk x.Ends = true) : zq s x = some (outB s x.Out && areE x.Ends (poss s x.Out)) := by
 have := h.nw
 have hn := RO h x.Out
 simp only [zq, RC s _ hl (by omega), RH h _ hl, Option.bind_some]
 rw [RK _ _ he (by omega), Option.bind_some, csome]
end Go.V
end
