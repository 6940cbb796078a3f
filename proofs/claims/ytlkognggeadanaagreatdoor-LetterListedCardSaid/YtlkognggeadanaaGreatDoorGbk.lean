/- Part of a proof. -/
import Derived.Test.YtlkognggeadanaaGreatDoorGbj
set_option linter.all false
set_option maxRecDepth 4000
set_option maxHeartbeats 40000000
section
namespace Go.V
open Go Go.Proofs IntKind
def nz (cY : Int) : List Int → Int → (List GLe) → Option (LOut (List GLe) ((List GLe)))
 | [], s7, qZ => some (.go qZ)
 | e1 :: p1, s7, qZ => cond (aC 16 (List.length (qZ ++ [(GLe.mk cY e1)]))) (nz cY p1 (s7 + 1) (qZ ++ [(GLe.mk cY e1)])) none
def q9 (aD : List Int) : List GLw → Int → (List GLe) → Option (LOut (List GLe) ((List GLe)))
 | [], cY, bE => some (.go bE)
 | e0 :: p0, cY, bE => Option.bind (wy aD cY) (fun r1 => cond (r1) (q9 aD p0 (cY + 1) bE) (cond (lenOk e0.Cuts) (lbind (nz cY e0.Cuts 0 bE) (fun r3 => some (.ret r3)) (fun c2 => cond (aC 16 (List.length (c2 ++ [(GLe.mk cY (List.length e0.Signs : Int))]))) (q9 aD p0 (cY + 1) (c2 ++ [(GLe.mk cY (List.length e0.Signs : Int))])) none) (fun _ _ => none)) none))
def ub (ag : GLs) (aD : List Int) : Option (List GLe) := cond (lenOk ag.Words) (lbind (q9 aD ag.Words 0 ([] : List GLe)) (fun r5 => some r5) (fun c4 => some c4) (fun _ _ => none)) none
theorem Q9 (ag : GLs) (aD : List Int) (R : List GLe) (h : ub ag aD = some R) : ad Tryz.prog G0 116 [.agg (cGLs ag), .sl (aa eI aD) (List.length aD) false] (.tree (.sl (aa cGLe R) (List.length R) false)) := by
 refine ad.runR mixed Tryz.call116 Tryz.func116 rfl (by simp [Tryz.ntmps116]; kernel_rfl) ?_
 obtain ⟨KF, h, kF, kN⟩ := dC h
 simp only [ub] at h
 cases g7 : (lenOk ag.Words)
 ·simp only [g7, hs] at h
  exact absurd h kN
 simp only [g7, hs] at h
 simp only [vz, tyf, g7, nm, seval]
 obtain ⟨K6, h, uc, ra, GR, iu⟩ := fW h kN
 obtain ⟨f6, ud, h⟩ := call3 h
 obtain ⟨I6, ik⟩ : ∃ I : Nat → St → Prop, I = (fun m st => ∃ (p6 : List GLw) (aI : Int) (bp : List GLe) (jV : VV), m = List.length p6 ∧ 0 ≤ aI ∧ List.drop (Int.toNat aI) ag.Words = p6 ∧ st.df = [] ∧ 7 ≤ st.nx ∧ st.H 0 = some (.cells (some 28) (cGLs ag)) ∧ st.tm 1 = .sl (aa eI aD) (List.length aD) false ∧ st.tm 2 = .ptr 0 0 ∧ st.tm 11 = .lit (.int .i64 (List.length ag.Words : Int)) ∧ st.tm 5 = jV ∧ st.tm 12 = .lit (.int .i64 aI) ∧ ((∃ (β : Nat) (el : Option TypeId), jV = .ref β 0 (List.length bp) 2 (List.length bp) ∧ β < st.nx ∧ β ≠ 0 ∧ st.H β = some (.cells el (aa cGLe bp))) ∨ (jV = .lit (.slice none 0 0) ∧ bp = [])) ∧ K6 (f6 p6 aI bp)) := ⟨_, rfl⟩
 refine loopK mixed (by kernel_rfl) I6 (List.length ag.Words) (by rw [ik]; refine ⟨ag.Words, 0, ([] : List GLe), .lit (.slice none 0 0), rfl, qZf _, rfl, rfl, (show 7 ≤ 7 by omega), ?_, ?_, ?_, ?_, ?_, ?_, Or.inr ⟨rfl, rfl⟩, h⟩ <;> first | (simp only [ua, nm, seval] <;> rfl) | rfl) ?_
 rintro m ⟨tm, H, ez, df⟩ hinv
 rw [ik] at hinv
 obtain ⟨p6, aI, bp, jV, rfl, cK, eA, hdf, oe, H8, e9, aZ, bc, bT, bC, kU, h⟩ := hinv
 simp only at hdf oe H8 e9 aZ bc bT bC kU
 have cL := fX (m := 7) (b := ez) (by omega)
 subst hdf ud
 rcases kU with ⟨iZ, il, rfl, GS, ue, ph⟩ | ⟨rfl, rfl⟩
 ·have wz := uf GS
  have mH := ne_f ue
  cases p6 with
  | nil =>
   have j9 : (decide (aI < (List.length ag.Words : Int))) = false := fc cK eA
   simp only [q9, hs, reduceCtorEq] at h
   replace h := ra _ h
   try dsimp only at h
   try simp only [hs] at h
   try simp only [vz, tyf, g7, cL, e9, aZ, bc, bT, bC, H8, wz, ph, mH, j9, nm, seval]
   refine cX (x := (.ref iZ 0 (List.length bp) 2 (List.length bp))) (by first | (simp only [Tryz.results116, resV, resL, aG, d6, dA, uw, cr, tyf, g7, cL, H8, wz, ph, mH, j9, nm, seval] <;> rfl) | rfl) ?_
   obtain rfl := kF _ h
   refine dB ?_ ?_
   ·simp only [tre, ar, Bool.and_self]
   ·first | (simp only [outV, uw, eF, cr, tyf, nrm, an, g7, cL, e9, aZ, bc, bT, bC, H8, wz, ph, mH, j9, nm, seval] <;> rfl) | rfl
  | cons e6 p6 =>
   have f8 : (decide (aI < (List.length ag.Words : Int))) = true := fb cK eA
   have iQ := dZ cK eA
   have GU := fe cK eA g7
   simp only [q9, hs, reduceCtorEq] at h
   obtain ⟨zb, oY, h⟩ := optI h iu
   try simp only [hs] at h
   simp only [vz, tyf, g7, cL, e9, aZ, bc, bT, bC, H8, wz, ph, mH, f8, (aE iQ), GU, nm, seval]
   refine ktA (C7 _ _ _ oY) ?_
   refine bw (fun tm => tm 1 = .sl (aa eI aD) (List.length aD) false ∧ tm 2 = .ptr 0 0 ∧ tm 5 = .ref iZ 0 (List.length bp) 2 (List.length bp) ∧ tm 6 = .lit (.int .i64 aI) ∧ tm 11 = .lit (.int .i64 (List.length ag.Words : Int)) ∧ tm 12 = .lit (.int .i64 aI) ∧ tm 17 = .lit (.bool zb) ∧ True) (by refine ⟨e9, aZ, bT, ?_, bc, bC, ?_, trivial⟩ <;> first | (simp only [ua, cL, e9, aZ, bc, bT, bC, H8, wz, ph, mH, f8, GU, nm, seval] <;> rfl) | rfl) ?_
   rintro tm ⟨dH, dN, dI, ec, eQ, fY, bU, _⟩
   have dJ := And.intro g7 (And.intro cL (And.intro H8 (And.intro wz (And.intro ph (And.intro mH (And.intro f8 GU))))))
   cases eJ : (zb)
   ·simp only [eJ, hs] at h
    cases jW : (lenOk e6.Cuts)
    ·simp only [jW, hs] at h
     exact absurd h iu
    simp only [jW, hs] at h
    simp only [vz, tyf, dJ, (aE iQ), dH, dN, dI, ec, eQ, fY, bU, eJ, jW, nm, seval]
    obtain ⟨UA, h, UB, zc, UC, zd⟩ := fW h iu
    obtain ⟨UD, GV, h⟩ := call3 h
    obtain ⟨UE, rb⟩ : ∃ I : Nat → St → Prop, I = (fun m st => ∃ (oz : List Int) (dT : Int) (dE : List GLe) (mI : VV), m = List.length oz ∧ 0 ≤ dT ∧ List.drop (Int.toNat dT) e6.Cuts = oz ∧ st.df = [] ∧ ez + 14 ≤ st.nx ∧ st.H 0 = some (.cells (some 28) (cGLs ag)) ∧ st.tm 1 = .sl (aa eI aD) (List.length aD) false ∧ st.tm 2 = .ptr 0 0 ∧ st.tm 6 = .lit (.int .i64 aI) ∧ st.tm 11 = .lit (.int .i64 (List.length ag.Words : Int)) ∧ st.tm 12 = .lit (.int .i64 aI) ∧ st.tm 23 = .sl (aa eI e6.Cuts) (List.length e6.Cuts) false ∧ st.tm 24 = .lit (.int .i64 (List.length e6.Cuts : Int)) ∧ st.tm 5 = mI ∧ st.tm 25 = .lit (.int .i64 dT) ∧ ((∃ (β : Nat) (el : Option TypeId), mI = .ref β 0 (List.length dE) 2 (List.length dE) ∧ β < st.nx ∧ β ≠ 0 ∧ st.H β = some (.cells el (aa cGLe dE))) ∨ (mI = .lit (.slice none 0 0) ∧ dE = [])) ∧ UA (UD oz dT dE)) := ⟨_, rfl⟩
    refine loopK mixed (by kernel_rfl) UE (List.length e6.Cuts) (by rw [rb]; refine ⟨e6.Cuts, 0, bp, .ref iZ 0 (List.length bp) 2 (List.length bp), rfl, qZf _, rfl, rfl, (show ez + 14 ≤ ez + 14 by omega), ?_, dH, dN, ec, eQ, fY, ?_, ?_, ?_, ?_, Or.inl ⟨iZ, il, rfl, (by first | omega | (simp only [nm, seval]; done) | (simp only [nm, seval]; omega)), (by first | omega | (intro hh; simp only [dJ, reduceCtorEq] at hh)), ?_⟩, h⟩ <;> first | (simp only [ua, dJ, dH, dN, dI, ec, eQ, fY, bU, eJ, nm, seval] <;> rfl) | rfl) ?_
    rintro m ⟨tm, H, gw, df⟩ hinv
    rw [rb] at hinv
    obtain ⟨oz, dT, dE, mI, rfl, iv, j5, hdf, GW, eV, dX, cb, bH, bR, bO, bS, bD, bV, cq, pj, h⟩ := hinv
    simp only at hdf GW eV dX cb bH bR bO bS bD bV cq pj
    have eK := fX (m := 7) (b := gw) (by omega)
    have gM := qT (a := ez) (m := 14) (b := gw) (by omega)
    subst hdf GV
    rcases pj with ⟨QA, jX, rfl, ug, uh, mJ⟩ | ⟨rfl, rfl⟩
    ·have ja := uf ug
     have jb := ne_f uh
     cases oz with
     | nil =>
      have nt : (decide (dT < (List.length e6.Cuts : Int))) = false := fc iv j5
      simp only [nz, hs, reduceCtorEq] at h
      replace h := zc _ h
      try dsimp only at h
      try simp only [hs] at h
      cases ui : (aC 16 (List.length (dE ++ [(GLe.mk aI (List.length e6.Signs : Int))])))
      ·simp only [ui, hs] at h
       exact absurd h iu
      simp only [ui, hs] at h
      simp only [vz, tyf, dJ, (aE iQ), eJ, jW, eK, gM, dX, cb, bH, bR, bO, bS, bD, bV, cq, eV, ja, mJ, jb, nt, ui, nm, seval]
      refine k_app (w := 2) (enc := cGLe) (xs := dE) (ys := ([(GLe.mk aI (List.length e6.Signs : Int))])) (el := jX) (fQ := (some 100)) (fun _ => rfl) gf gg Tryz.underlying29 (by first | rfl | assumption | (simp only [bt, bY, gW, dJ, eK, gM, eV, ja, mJ, jb, nm, seval] <;> rfl) | (simp only [bt, bY, fU, fB, fG, fH, tyf, dJ, (aE iQ), eJ, jW, eK, gM, dX, cb, bH, bR, bO, bS, bD, bV, cq, eV, ja, mJ, jb, nt, ui, nm, seval]; done)) (by first | rfl | assumption | (simp only [bt, bY, gW, dJ, eK, gM, eV, ja, mJ, jb, nm, seval] <;> rfl) | (simp only [bt, bY, fU, fB, fG, fH, tyf, dJ, (aE iQ), eJ, jW, eK, gM, dX, cb, bH, bR, bO, bS, bD, bV, cq, eV, ja, mJ, jb, nt, ui, nm, seval]; done)) (Nat.zero_lt_succ _) ui ?_
      simp only [vz, tyf, dJ, (aE iQ), eJ, jW, eK, gM, dX, cb, bH, bR, bO, bS, bD, bV, cq, eV, ja, mJ, jb, nt, ui, nm, seval]
      exact ⟨List.length p6, qZc _, by rw [ik]; refine ⟨p6, aI + 1, (dE ++ [(GLe.mk aI (List.length e6.Signs : Int))]), .ref (gw + 12) 0 (List.length (dE ++ [(GLe.mk aI (List.length e6.Signs : Int))])) 2 (List.length (dE ++ [(GLe.mk aI (List.length e6.Signs : Int))])), rfl, Int.le_trans cK (Int.le_add_one (qZf _)), bW cK eA, rfl, (show 7 ≤ gw + 16 by omega), ?_, dX, cb, bR, ?_, ?_, Or.inl ⟨gw + 12, (sameEl jX 100), rfl, (by first | omega | (simp only [nm, seval]; done) | (simp only [nm, seval]; omega)), (by first | omega | (intro hh; simp only [dJ, eK, gM, ja, jb, reduceCtorEq] at hh)), ?_⟩, (by first | exact h | (simp only [dJ, eJ, nt]; exact h))⟩ <;> first | (simp only [ua, dJ, eJ, eK, gM, dX, cb, bH, bR, bO, bS, bD, bV, cq, eV, ja, mJ, jb, nt, nm, seval] <;> rfl) | rfl⟩
     | cons ga oz =>
      have j4 : (decide (dT < (List.length e6.Cuts : Int))) = true := fb iv j5
      have C8 := dZ iv j5
      have ze := fe iv j5 jW
      simp only [nz, hs, reduceCtorEq] at h
      cases uj : (aC 16 (List.length (dE ++ [(GLe.mk aI ga)])))
      ·simp only [uj, hs] at h
       exact absurd h zd
      simp only [uj, hs] at h
      simp only [vz, tyf, dJ, (aE iQ), eJ, jW, eK, gM, dX, cb, bH, bR, bO, bS, bD, bV, cq, eV, ja, mJ, jb, j4, (aA C8), ze, uj, nm, seval]
      refine k_app (w := 2) (enc := cGLe) (xs := dE) (ys := ([(GLe.mk aI ga)])) (el := jX) (fQ := (some 100)) (fun _ => rfl) gf gg Tryz.underlying29 (by first | rfl | assumption | (simp only [bt, bY, gW, dJ, eK, gM, eV, ja, mJ, jb, nm, seval] <;> rfl) | (simp only [bt, bY, fU, fB, fG, fH, tyf, dJ, (aE iQ), eJ, jW, eK, gM, dX, cb, bH, bR, bO, bS, bD, bV, cq, eV, ja, mJ, jb, j4, (aA C8), ze, uj, nm, seval]; done)) (by first | rfl | assumption | (simp only [bt, bY, gW, dJ, eK, gM, eV, ja, mJ, jb, nm, seval] <;> rfl) | (simp only [bt, bY, fU, fB, fG, fH, tyf, dJ, (aE iQ), eJ, jW, eK, gM, dX, cb, bH, bR, bO, bS, bD, bV, cq, eV, ja, mJ, jb, j4, (aA C8), ze, uj, nm, seval]; done)) (Nat.zero_lt_succ _) uj ?_
      simp only [vz, tyf, dJ, (aE iQ), eJ, jW, eK, gM, dX, cb, bH, bR, bO, bS, bD, bV, cq, eV, ja, mJ, jb, j4, (aA C8), ze, uj, nm, seval]
      exact ⟨List.length oz, qZc _, by rw [rb]; refine ⟨oz, dT + 1, (dE ++ [(GLe.mk aI ga)]), .ref (gw + 9) 0 (List.length (dE ++ [(GLe.mk aI ga)])) 2 (List.length (dE ++ [(GLe.mk aI ga)])), rfl, Int.le_trans iv (Int.le_add_one (qZf _)), bW iv j5, rfl, (show ez + 14 ≤ gw + 13 by omega), ?_, dX, cb, bH, bR, bO, bS, bD, ?_, ?_, Or.inl ⟨gw + 9, (sameEl jX 100), rfl, (by first | omega | (simp only [nm, seval]; done) | (simp only [nm, seval]; omega)), (by first | omega | (intro hh; simp only [dJ, eK, gM, ja, jb, reduceCtorEq] at hh)), ?_⟩, (by first | exact h | (simp only [dJ, eJ, j4]; exact h))⟩ <;> first | (simp only [ua, dJ, eJ, eK, gM, dX, cb, bH, bR, bO, bS, bD, bV, cq, eV, ja, mJ, jb, j4, ze, nm, seval] <;> rfl) | rfl⟩
    ·cases oz with
     | nil =>
      have zf : (decide (dT < (List.length e6.Cuts : Int))) = false := fc iv j5
      simp only [nz, hs, reduceCtorEq] at h
      replace h := zc _ h
      try dsimp only at h
      try simp only [hs] at h
      cases w5 : (aC 16 (List.length (([] : List GLe) ++ [(GLe.mk aI (List.length e6.Signs : Int))])))
      ·simp only [w5, hs] at h
       exact absurd h iu
      simp only [w5, hs] at h
      simp only [vz, tyf, dJ, (aE iQ), eJ, jW, eK, gM, dX, cb, bH, bR, bO, bS, bD, bV, cq, eV, zf, w5, nm, seval]
      refine og (w := 2) (enc := cGLe) (ys := ([(GLe.mk aI (List.length e6.Signs : Int))])) (fQ := (some 100)) (fun _ => rfl) gf gg Tryz.underlying29 (by first | rfl | assumption | (simp only [bt, bY, gW, dJ, eK, gM, eV, nm, seval] <;> rfl) | (simp only [bt, bY, fU, fB, fG, fH, tyf, dJ, (aE iQ), eJ, jW, eK, gM, dX, cb, bH, bR, bO, bS, bD, bV, cq, eV, zf, w5, nm, seval]; done)) (Nat.zero_lt_succ _) w5 ?_
      simp only [vz, tyf, dJ, (aE iQ), eJ, jW, eK, gM, dX, cb, bH, bR, bO, bS, bD, bV, cq, eV, zf, w5, nm, seval]
      exact ⟨List.length p6, qZc _, by rw [ik]; refine ⟨p6, aI + 1, (([] : List GLe) ++ [(GLe.mk aI (List.length e6.Signs : Int))]), .ref (gw + 12) 0 (List.length (([] : List GLe) ++ [(GLe.mk aI (List.length e6.Signs : Int))])) 2 (List.length (([] : List GLe) ++ [(GLe.mk aI (List.length e6.Signs : Int))])), rfl, Int.le_trans cK (Int.le_add_one (qZf _)), bW cK eA, rfl, (show 7 ≤ gw + 16 by omega), ?_, dX, cb, bR, ?_, ?_, Or.inl ⟨gw + 12, (some 100), rfl, (by first | omega | (simp only [nm, seval]; done) | (simp only [nm, seval]; omega)), (by first | omega | (intro hh; simp only [dJ, eK, gM, reduceCtorEq] at hh)), ?_⟩, (by first | exact h | (simp only [dJ, eJ, zf]; exact h))⟩ <;> first | (simp only [ua, dJ, eJ, eK, gM, dX, cb, bH, bR, bO, bS, bD, bV, cq, eV, zf, nm, seval] <;> rfl) | rfl⟩
     | cons ga oz =>
      have iS : (decide (dT < (List.length e6.Cuts : Int))) = true := fb iv j5
      have mh := dZ iv j5
      have lB := fe iv j5 jW
      simp only [nz, hs, reduceCtorEq] at h
      cases w6 : (aC 16 (List.length (([] : List GLe) ++ [(GLe.mk aI ga)])))
      ·simp only [w6, hs] at h
       exact absurd h zd
      simp only [w6, hs] at h
      simp only [vz, tyf, dJ, (aE iQ), eJ, jW, eK, gM, dX, cb, bH, bR, bO, bS, bD, bV, cq, eV, iS, (aA mh), lB, w6, nm, seval]
      refine og (w := 2) (enc := cGLe) (ys := ([(GLe.mk aI ga)])) (fQ := (some 100)) (fun _ => rfl) gf gg Tryz.underlying29 (by first | rfl | assumption | (simp only [bt, bY, gW, dJ, eK, gM, eV, nm, seval] <;> rfl) | (simp only [bt, bY, fU, fB, fG, fH, tyf, dJ, (aE iQ), eJ, jW, eK, gM, dX, cb, bH, bR, bO, bS, bD, bV, cq, eV, iS, (aA mh), lB, w6, nm, seval]; done)) (Nat.zero_lt_succ _) w6 ?_
      simp only [vz, tyf, dJ, (aE iQ), eJ, jW, eK, gM, dX, cb, bH, bR, bO, bS, bD, bV, cq, eV, iS, (aA mh), lB, w6, nm, seval]
      exact ⟨List.length oz, qZc _, by rw [rb]; refine ⟨oz, dT + 1, (([] : List GLe) ++ [(GLe.mk aI ga)]), .ref (gw + 9) 0 (List.length (([] : List GLe) ++ [(GLe.mk aI ga)])) 2 (List.length (([] : List GLe) ++ [(GLe.mk aI ga)])), rfl, Int.le_trans iv (Int.le_add_one (qZf _)), bW iv j5, rfl, (show ez + 14 ≤ gw + 13 by omega), ?_, dX, cb, bH, bR, bO, bS, bD, ?_, ?_, Or.inl ⟨gw + 9, (some 100), rfl, (by first | omega | (simp only [nm, seval]; done) | (simp only [nm, seval]; omega)), (by first | omega | (intro hh; simp only [dJ, eK, gM, reduceCtorEq] at hh)), ?_⟩, (by first | exact h | (simp only [dJ, eJ, iS]; exact h))⟩ <;> first | (simp only [ua, dJ, eJ, eK, gM, dX, cb, bH, bR, bO, bS, bD, bV, cq, eV, iS, lB, nm, seval] <;> rfl) | rfl⟩
   simp only [eJ, hs] at h
   simp only [vz, tyf, dJ, (aE iQ), dH, dN, dI, ec, eQ, fY, bU, eJ, nm, seval]
   exact ⟨List.length p6, qZc _, by rw [ik]; refine ⟨p6, aI + 1, bp, .ref iZ 0 (List.length bp) 2 (List.length bp), rfl, Int.le_trans cK (Int.le_add_one (qZf _)), bW cK eA, rfl, (show 7 ≤ ez + 8 by omega), ?_, dH, dN, eQ, ?_, ?_, Or.inl ⟨iZ, il, rfl, (by first | omega | (simp only [nm, seval]; done) | (simp only [nm, seval]; omega)), (by first | omega | (intro hh; simp only [dJ, reduceCtorEq] at hh)), ?_⟩, (by first | exact h | (simp only [dJ, eJ]; exact h))⟩ <;> first | (simp only [ua, dJ, dH, dN, dI, ec, eQ, fY, bU, eJ, nm, seval] <;> rfl) | rfl⟩
 ·cases p6 with
  | nil =>
   have GX : (decide (aI < (List.length ag.Words : Int))) = false := fc cK eA
   simp only [q9, hs, reduceCtorEq] at h
   replace h := ra _ h
   try dsimp only at h
   try simp only [hs] at h
   try simp only [vz, tyf, g7, cL, e9, aZ, bc, bT, bC, H8, GX, nm, seval]
   refine cX (x := (.lit (.slice none 0 0))) (by first | (simp only [Tryz.results116, resV, resL, aG, d6, dA, uw, cr, tyf, g7, cL, H8, GX, nm, seval] <;> rfl) | rfl) ?_
   obtain rfl := kF _ h
   refine dB ?_ ?_
   ·simp only [tre, ar, Bool.and_self]
   ·first | (simp only [outV, uw, eF, cr, tyf, nrm, an, g7, cL, e9, aZ, bc, bT, bC, H8, GX, nm, seval] <;> rfl) | rfl
  | cons e6 p6 =>
   have gy : (decide (aI < (List.length ag.Words : Int))) = true := fb cK eA
   have kV := dZ cK eA
   have iE := fe cK eA g7
   simp only [q9, hs, reduceCtorEq] at h
   obtain ⟨QB, xP, h⟩ := optI h iu
   try simp only [hs] at h
   simp only [vz, tyf, g7, cL, e9, aZ, bc, bT, bC, H8, gy, (aE kV), iE, nm, seval]
   refine ktA (C7 _ _ _ xP) ?_
   refine bw (fun tm => tm 1 = .sl (aa eI aD) (List.length aD) false ∧ tm 2 = .ptr 0 0 ∧ tm 5 = .lit (.slice none 0 0) ∧ tm 6 = .lit (.int .i64 aI) ∧ tm 11 = .lit (.int .i64 (List.length ag.Words : Int)) ∧ tm 12 = .lit (.int .i64 aI) ∧ tm 17 = .lit (.bool QB) ∧ True) (by refine ⟨e9, aZ, bT, ?_, bc, bC, ?_, trivial⟩ <;> first | (simp only [ua, cL, e9, aZ, bc, bT, bC, H8, gy, iE, nm, seval] <;> rfl) | rfl) ?_
   rintro tm ⟨qA, qB, fk, m9, lV, qs, iL, _⟩
   cases gA : (QB)
   ·simp only [gA, hs] at h
    cases jY : (lenOk e6.Cuts)
    ·simp only [jY, hs] at h
     exact absurd h iu
    simp only [jY, hs] at h
    simp only [vz, tyf, g7, cL, H8, gy, (aE kV), iE, qA, qB, fk, m9, lV, qs, iL, gA, jY, nm, seval]
    obtain ⟨UF, h, UG, zg, UH, zh⟩ := fW h iu
    obtain ⟨UI, GY, h⟩ := call3 h
    obtain ⟨UJ, re⟩ : ∃ I : Nat → St → Prop, I = (fun m st => ∃ (oA : List Int) (dU : Int) (dF : List GLe) (mK : VV), m = List.length oA ∧ 0 ≤ dU ∧ List.drop (Int.toNat dU) e6.Cuts = oA ∧ st.df = [] ∧ ez + 14 ≤ st.nx ∧ st.H 0 = some (.cells (some 28) (cGLs ag)) ∧ st.tm 1 = .sl (aa eI aD) (List.length aD) false ∧ st.tm 2 = .ptr 0 0 ∧ st.tm 6 = .lit (.int .i64 aI) ∧ st.tm 11 = .lit (.int .i64 (List.length ag.Words : Int)) ∧ st.tm 12 = .lit (.int .i64 aI) ∧ st.tm 23 = .sl (aa eI e6.Cuts) (List.length e6.Cuts) false ∧ st.tm 24 = .lit (.int .i64 (List.length e6.Cuts : Int)) ∧ st.tm 5 = mK ∧ st.tm 25 = .lit (.int .i64 dU) ∧ ((∃ (β : Nat) (el : Option TypeId), mK = .ref β 0 (List.length dF) 2 (List.length dF) ∧ β < st.nx ∧ β ≠ 0 ∧ st.H β = some (.cells el (aa cGLe dF))) ∨ (mK = .lit (.slice none 0 0) ∧ dF = [])) ∧ UF (UI oA dU dF)) := ⟨_, rfl⟩
    refine loopK mixed (by kernel_rfl) UJ (List.length e6.Cuts) (by rw [re]; refine ⟨e6.Cuts, 0, ([] : List GLe), .lit (.slice none 0 0), rfl, qZf _, rfl, rfl, (show ez + 14 ≤ ez + 14 by omega), ?_, qA, qB, m9, lV, qs, ?_, ?_, ?_, ?_, Or.inr ⟨rfl, rfl⟩, h⟩ <;> first | (simp only [ua, cL, H8, gy, iE, qA, qB, fk, m9, lV, qs, iL, gA, nm, seval] <;> rfl) | rfl) ?_
    rintro m ⟨tm, H, gB, df⟩ hinv
    rw [re] at hinv
    obtain ⟨oA, dU, dF, mK, rfl, iw, j6, hdf, GZ, ix, bZ, cl, ck, ca, dx, dK, cM, cy, cH, pk, h⟩ := hinv
    simp only at hdf GZ ix bZ cl ck ca dx dK cM cy cH pk
    have gN := fX (m := 7) (b := gB) (by omega)
    have eC := qT (a := ez) (m := 14) (b := gB) (by omega)
    subst hdf GY
    rcases pk with ⟨QC, jZ, rfl, Hd, He, mM⟩ | ⟨rfl, rfl⟩
    ·have lC := uf Hd
     have lD := ne_f He
     cases oA with
     | nil =>
      have w7 : (decide (dU < (List.length e6.Cuts : Int))) = false := fc iw j6
      simp only [nz, hs, reduceCtorEq] at h
      replace h := zg _ h
      try dsimp only at h
      try simp only [hs] at h
      cases uk : (aC 16 (List.length (dF ++ [(GLe.mk aI (List.length e6.Signs : Int))])))
      ·simp only [uk, hs] at h
       exact absurd h iu
      simp only [uk, hs] at h
      simp only [vz, tyf, g7, cL, gy, (aE kV), iE, gA, jY, gN, eC, bZ, cl, ck, ca, dx, dK, cM, cy, cH, ix, lC, mM, lD, w7, uk, nm, seval]
      refine k_app (w := 2) (enc := cGLe) (xs := dF) (ys := ([(GLe.mk aI (List.length e6.Signs : Int))])) (el := jZ) (fQ := (some 100)) (fun _ => rfl) gf gg Tryz.underlying29 (by first | rfl | assumption | (simp only [bt, bY, gW, cL, gN, eC, ix, lC, mM, lD, nm, seval] <;> rfl) | (simp only [bt, bY, fU, fB, fG, fH, tyf, g7, cL, gy, (aE kV), iE, gA, jY, gN, eC, bZ, cl, ck, ca, dx, dK, cM, cy, cH, ix, lC, mM, lD, w7, uk, nm, seval]; done)) (by first | rfl | assumption | (simp only [bt, bY, gW, cL, gN, eC, ix, lC, mM, lD, nm, seval] <;> rfl) | (simp only [bt, bY, fU, fB, fG, fH, tyf, g7, cL, gy, (aE kV), iE, gA, jY, gN, eC, bZ, cl, ck, ca, dx, dK, cM, cy, cH, ix, lC, mM, lD, w7, uk, nm, seval]; done)) (Nat.zero_lt_succ _) uk ?_
      simp only [vz, tyf, g7, cL, gy, (aE kV), iE, gA, jY, gN, eC, bZ, cl, ck, ca, dx, dK, cM, cy, cH, ix, lC, mM, lD, w7, uk, nm, seval]
      exact ⟨List.length p6, qZc _, by rw [ik]; refine ⟨p6, aI + 1, (dF ++ [(GLe.mk aI (List.length e6.Signs : Int))]), .ref (gB + 12) 0 (List.length (dF ++ [(GLe.mk aI (List.length e6.Signs : Int))])) 2 (List.length (dF ++ [(GLe.mk aI (List.length e6.Signs : Int))])), rfl, Int.le_trans cK (Int.le_add_one (qZf _)), bW cK eA, rfl, (show 7 ≤ gB + 16 by omega), ?_, bZ, cl, ca, ?_, ?_, Or.inl ⟨gB + 12, (sameEl jZ 100), rfl, (by first | omega | (simp only [nm, seval]; done) | (simp only [nm, seval]; omega)), (by first | omega | (intro hh; simp only [cL, gN, eC, lC, lD, reduceCtorEq] at hh)), ?_⟩, (by first | exact h | (simp only [gy, gA, w7]; exact h))⟩ <;> first | (simp only [ua, cL, gy, iE, gA, gN, eC, bZ, cl, ck, ca, dx, dK, cM, cy, cH, ix, lC, mM, lD, w7, nm, seval] <;> rfl) | rfl⟩
     | cons fm oA =>
      have lE : (decide (dU < (List.length e6.Cuts : Int))) = true := fb iw j6
      have w8 := dZ iw j6
      have zi := fe iw j6 jY
      simp only [nz, hs, reduceCtorEq] at h
      cases um : (aC 16 (List.length (dF ++ [(GLe.mk aI fm)])))
      ·simp only [um, hs] at h
       exact absurd h zh
      simp only [um, hs] at h
      simp only [vz, tyf, g7, cL, gy, (aE kV), iE, gA, jY, gN, eC, bZ, cl, ck, ca, dx, dK, cM, cy, cH, ix, lC, mM, lD, lE, (aA w8), zi, um, nm, seval]
      refine k_app (w := 2) (enc := cGLe) (xs := dF) (ys := ([(GLe.mk aI fm)])) (el := jZ) (fQ := (some 100)) (fun _ => rfl) gf gg Tryz.underlying29 (by first | rfl | assumption | (simp only [bt, bY, gW, cL, gN, eC, ix, lC, mM, lD, nm, seval] <;> rfl) | (simp only [bt, bY, fU, fB, fG, fH, tyf, g7, cL, gy, (aE kV), iE, gA, jY, gN, eC, bZ, cl, ck, ca, dx, dK, cM, cy, cH, ix, lC, mM, lD, lE, (aA w8), zi, um, nm, seval]; done)) (by first | rfl | assumption | (simp only [bt, bY, gW, cL, gN, eC, ix, lC, mM, lD, nm, seval] <;> rfl) | (simp only [bt, bY, fU, fB, fG, fH, tyf, g7, cL, gy, (aE kV), iE, gA, jY, gN, eC, bZ, cl, ck, ca, dx, dK, cM, cy, cH, ix, lC, mM, lD, lE, (aA w8), zi, um, nm, seval]; done)) (Nat.zero_lt_succ _) um ?_
      simp only [vz, tyf, g7, cL, gy, (aE kV), iE, gA, jY, gN, eC, bZ, cl, ck, ca, dx, dK, cM, cy, cH, ix, lC, mM, lD, lE, (aA w8), zi, um, nm, seval]
      exact ⟨List.length oA, qZc _, by rw [re]; refine ⟨oA, dU + 1, (dF ++ [(GLe.mk aI fm)]), .ref (gB + 9) 0 (List.length (dF ++ [(GLe.mk aI fm)])) 2 (List.length (dF ++ [(GLe.mk aI fm)])), rfl, Int.le_trans iw (Int.le_add_one (qZf _)), bW iw j6, rfl, (show ez + 14 ≤ gB + 13 by omega), ?_, bZ, cl, ck, ca, dx, dK, cM, ?_, ?_, Or.inl ⟨gB + 9, (sameEl jZ 100), rfl, (by first | omega | (simp only [nm, seval]; done) | (simp only [nm, seval]; omega)), (by first | omega | (intro hh; simp only [cL, gN, eC, lC, lD, reduceCtorEq] at hh)), ?_⟩, (by first | exact h | (simp only [gy, gA, lE]; exact h))⟩ <;> first | (simp only [ua, cL, gy, iE, gA, gN, eC, bZ, cl, ck, ca, dx, dK, cM, cy, cH, ix, lC, mM, lD, lE, zi, nm, seval] <;> rfl) | rfl⟩
    ·cases oA with
     | nil =>
      have rh : (decide (dU < (List.length e6.Cuts : Int))) = false := fc iw j6
      simp only [nz, hs, reduceCtorEq] at h
      replace h := zg _ h
      try dsimp only at h
      try simp only [hs] at h
      cases n5 : (aC 16 (List.length (([] : List GLe) ++ [(GLe.mk aI (List.length e6.Signs : Int))])))
      ·simp only [n5, hs] at h
       exact absurd h iu
      simp only [n5, hs] at h
      simp only [vz, tyf, g7, cL, gy, (aE kV), iE, gA, jY, gN, eC, bZ, cl, ck, ca, dx, dK, cM, cy, cH, ix, rh, n5, nm, seval]
      refine og (w := 2) (enc := cGLe) (ys := ([(GLe.mk aI (List.length e6.Signs : Int))])) (fQ := (some 100)) (fun _ => rfl) gf gg Tryz.underlying29 (by first | rfl | assumption | (simp only [bt, bY, gW, cL, gN, eC, ix, nm, seval] <;> rfl) | (simp only [bt, bY, fU, fB, fG, fH, tyf, g7, cL, gy, (aE kV), iE, gA, jY, gN, eC, bZ, cl, ck, ca, dx, dK, cM, cy, cH, ix, rh, n5, nm, seval]; done)) (Nat.zero_lt_succ _) n5 ?_
      simp only [vz, tyf, g7, cL, gy, (aE kV), iE, gA, jY, gN, eC, bZ, cl, ck, ca, dx, dK, cM, cy, cH, ix, rh, n5, nm, seval]
      exact ⟨List.length p6, qZc _, by rw [ik]; refine ⟨p6, aI + 1, (([] : List GLe) ++ [(GLe.mk aI (List.length e6.Signs : Int))]), .ref (gB + 12) 0 (List.length (([] : List GLe) ++ [(GLe.mk aI (List.length e6.Signs : Int))])) 2 (List.length (([] : List GLe) ++ [(GLe.mk aI (List.length e6.Signs : Int))])), rfl, Int.le_trans cK (Int.le_add_one (qZf _)), bW cK eA, rfl, (show 7 ≤ gB + 16 by omega), ?_, bZ, cl, ca, ?_, ?_, Or.inl ⟨gB + 12, (some 100), rfl, (by first | omega | (simp only [nm, seval]; done) | (simp only [nm, seval]; omega)), (by first | omega | (intro hh; simp only [cL, gN, eC, reduceCtorEq] at hh)), ?_⟩, (by first | exact h | (simp only [gy, gA, rh]; exact h))⟩ <;> first | (simp only [ua, cL, gy, iE, gA, gN, eC, bZ, cl, ck, ca, dx, dK, cM, cy, cH, ix, rh, nm, seval] <;> rfl) | rfl⟩
     | cons fm oA =>
      have pn : (decide (dU < (List.length e6.Cuts : Int))) = true := fb iw j6
      have uo := dZ iw j6
      have ri := fe iw j6 jY
      simp only [nz, hs, reduceCtorEq] at h
      cases nA : (aC 16 (List.length (([] : List GLe) ++ [(GLe.mk aI fm)])))
      ·simp only [nA, hs] at h
       exact absurd h zh
      simp only [nA, hs] at h
      simp only [vz, tyf, g7, cL, gy, (aE kV), iE, gA, jY, gN, eC, bZ, cl, ck, ca, dx, dK, cM, cy, cH, ix, pn, (aA uo), ri, nA, nm, seval]
      refine og (w := 2) (enc := cGLe) (ys := ([(GLe.mk aI fm)])) (fQ := (some 100)) (fun _ => rfl) gf gg Tryz.underlying29 (by first | rfl | assumption | (simp only [bt, bY, gW, cL, gN, eC, ix, nm, seval] <;> rfl) | (simp only [bt, bY, fU, fB, fG, fH, tyf, g7, cL, gy, (aE kV), iE, gA, jY, gN, eC, bZ, cl, ck, ca, dx, dK, cM, cy, cH, ix, pn, (aA uo), ri, nA, nm, seval]; done)) (Nat.zero_lt_succ _) nA ?_
      simp only [vz, tyf, g7, cL, gy, (aE kV), iE, gA, jY, gN, eC, bZ, cl, ck, ca, dx, dK, cM, cy, cH, ix, pn, (aA uo), ri, nA, nm, seval]
      exact ⟨List.length oA, qZc _, by rw [re]; refine ⟨oA, dU + 1, (([] : List GLe) ++ [(GLe.mk aI fm)]), .ref (gB + 9) 0 (List.length (([] : List GLe) ++ [(GLe.mk aI fm)])) 2 (List.length (([] : List GLe) ++ [(GLe.mk aI fm)])), rfl, Int.le_trans iw (Int.le_add_one (qZf _)), bW iw j6, rfl, (show ez + 14 ≤ gB + 13 by omega), ?_, bZ, cl, ck, ca, dx, dK, cM, ?_, ?_, Or.inl ⟨gB + 9, (some 100), rfl, (by first | omega | (simp only [nm, seval]; done) | (simp only [nm, seval]; omega)), (by first | omega | (intro hh; simp only [cL, gN, eC, reduceCtorEq] at hh)), ?_⟩, (by first | exact h | (simp only [gy, gA, pn]; exact h))⟩ <;> first | (simp only [ua, cL, gy, iE, gA, gN, eC, bZ, cl, ck, ca, dx, dK, cM, cy, cH, ix, pn, ri, nm, seval] <;> rfl) | rfl⟩
   simp only [gA, hs] at h
   simp only [vz, tyf, g7, cL, H8, gy, (aE kV), iE, qA, qB, fk, m9, lV, qs, iL, gA, nm, seval]
   exact ⟨List.length p6, qZc _, by rw [ik]; refine ⟨p6, aI + 1, ([] : List GLe), .lit (.slice none 0 0), rfl, Int.le_trans cK (Int.le_add_one (qZf _)), bW cK eA, rfl, (show 7 ≤ ez + 8 by omega), ?_, qA, qB, lV, ?_, ?_, Or.inr ⟨rfl, rfl⟩, (by first | exact h | (simp only [gy, gA]; exact h))⟩ <;> first | (simp only [ua, cL, H8, gy, iE, qA, qB, fk, m9, lV, qs, iL, gA, nm, seval] <;> rfl) | rfl⟩
def rj (db : GLe) : List GLe → Int → Option (LOut (Int) (Unit))
 | [], gP => some (.go ())
 | e0 :: p0, gP => cond (db.Word == e0.Word && (db.Letters == e0.Letters)) (some (.ret gP)) (rj db p0 (gP + 1))
def C9 (ag : List GLe) (db : GLe) : Option (Int) := cond (lenOk ag) (lbind (rj db ag 0) (fun r2 => some r2) (fun c1 => some (-1)) (fun _ _ => none)) none
theorem UK (ag : List GLe) (db : GLe) (R : Int) (h : C9 ag db = some R) : ad Tryz.prog G0 150 [.sl (aa cGLe ag) (List.length ag) false, .agg (cGLe db)] (.tree (.lit (.int .i64 R))) := by
 refine ad.runR mixed Tryz.call150 Tryz.func150 rfl (by simp [Tryz.ntmps150]; kernel_rfl) ?_
 obtain ⟨KF, h, kF, kN⟩ := dC h
 simp only [C9] at h
 cases g4 : (lenOk ag)
 ·simp only [g4, hs] at h
  exact absurd h kN
 simp only [g4, hs] at h
 simp only [vz, tyf, g4, nm, seval]
 obtain ⟨K3, h, oP, oh, xJ, xK⟩ := fW h kN
 obtain ⟨f3, oQ, h⟩ := call2 h
 obtain ⟨I3, iJ⟩ : ∃ I : Nat → St → Prop, I = (fun m st => ∃ (p3 : List GLe) (bN : Int), m = List.length p3 ∧ 0 ≤ bN ∧ List.drop (Int.toNat bN) ag = p3 ∧ st.df = [] ∧ 5 ≤ st.nx ∧ st.H 0 = some (.cells (some 100) (cGLe db)) ∧ st.tm 0 = .sl (aa cGLe ag) (List.length ag) false ∧ st.tm 3 = .ptr 0 0 ∧ st.tm 7 = .lit (.int .i64 (List.length ag : Int)) ∧ st.tm 8 = .lit (.int .i64 bN) ∧ K3 (f3 p3 bN)) := ⟨_, rfl⟩
 refine loopK mixed (by kernel_rfl) I3 (List.length ag) (by rw [iJ]; refine ⟨ag, 0, rfl, qZf _, rfl, rfl, (show 5 ≤ 5 by omega), ?_, ?_, ?_, ?_, ?_, h⟩ <;> first | (simp only [ua, nm, seval] <;> rfl) | rfl) ?_
 rintro m ⟨tm, H, kI, df⟩ hinv
 rw [iJ] at hinv
 obtain ⟨p3, bN, rfl, eG, fj, hdf, oR, H5, e6, e7, e8, e9, h⟩ := hinv
 simp only at hdf oR H5 e6 e7 e8 e9
 have gV := fX (m := 5) (b := kI) (by omega)
 subst hdf oQ
 cases p3 with
 | nil =>
  have eR : (decide (bN < (List.length ag : Int))) = false := fc eG fj
  simp only [rj, hs, reduceCtorEq] at h
  replace h := oh _ h
  try dsimp only at h
  try simp only [hs] at h
  try simp only [vz, tyf, g4, gV, e6, e7, e8, e9, H5, eR, nm, seval]
  refine cX (x := (.lit (.int .i64 (-1)))) (by first | (simp only [Tryz.results150, resV, resL, aG, d6, dA, uw, cr, tyf, g4, gV, H5, eR, nm, seval] <;> rfl) | rfl) ?_
  obtain rfl := kF _ h
  refine dB ?_ ?_
  ·simp only [tre, ar, Bool.and_self]
  ·first | (simp only [outV, uw, eF, cr, tyf, nrm, an, g4, gV, e6, e7, e8, e9, H5, eR, nm, seval] <;> rfl) | rfl
 | cons e3 p3 =>
  have bz : (decide (bN < (List.length ag : Int))) = true := fb eG fj
  have jl := dZ eG fj
  have iD := fe eG fj g4
  simp only [rj, hs, reduceCtorEq] at h
  simp only [vz, tyf, g4, gV, e6, e7, e8, e9, H5, bz, (aJ jl), iD, nm, seval]
  refine m3 (fun tm => tm 0 = .sl (aa cGLe ag) (List.length ag) false ∧ tm 3 = .ptr 0 0 ∧ tm 5 = .lit (.int .i64 bN) ∧ tm 7 = .lit (.int .i64 (List.length ag : Int)) ∧ tm 8 = .lit (.int .i64 bN) ∧ True) (by refine ⟨e6, e7, ?_, e8, e9, trivial⟩ <;> first | (simp only [ua, gV, e6, e7, e8, e9, H5, bz, iD, nm, seval] <;> rfl) | rfl) ?_
  rintro tm ⟨dM, da, cI, cj, dv, _⟩
  cases cw : (db.Word == e3.Word && (db.Letters == e3.Letters))
  ·simp only [cw, hs] at h
   simp only [vz, tyf, g4, gV, H5, bz, (aJ jl), iD, dM, da, cI, cj, dv, cw, nm, seval]
   exact ⟨List.length p3, qZc _, by rw [iJ]; refine ⟨p3, bN + 1, rfl, Int.le_trans eG (Int.le_add_one (qZf _)), bW eG fj, rfl, (show 5 ≤ kI + 11 by omega), ?_, dM, da, cj, ?_, (by first | exact h | (simp only [bz, cw]; exact h))⟩ <;> first | (simp only [ua, gV, H5, bz, iD, dM, da, cI, cj, dv, cw, nm, seval] <;> rfl) | rfl⟩
  simp only [cw, hs] at h
  try simp only [vz, tyf, g4, gV, H5, bz, (aJ jl), iD, dM, da, cI, cj, dv, cw, nm, seval]
  refine cX (x := (.lit (.int .i64 bN))) (by first | (simp only [Tryz.results150, resV, resL, aG, d6, dA, uw, cr, tyf, g4, gV, H5, bz, (aJ jl), iD, cw, nm, seval] <;> rfl) | rfl) ?_
  replace h := oP _ h
  try dsimp only at h
  obtain rfl := kF _ h
  refine dB ?_ ?_
  ·simp only [tre, ar, Bool.and_self]
  ·first | (simp only [outV, uw, eF, cr, tyf, nrm, an, g4, gV, H5, bz, (aJ jl), iD, dM, da, cI, cj, dv, cw, nm, seval] <;> rfl) | rfl
def uq  : List GLe → Int → (List GLe) → Option (LOut (Bool) ((List GLe)))
 | [], s8, po => some (.go po)
 | e0 :: p0, s8, po => Option.bind (C9 po e0) (fun r1 => cond (decide (r1 < 0)) (some (.ret false)) (Option.bind (sliceO po (i64.wrap (r1 + 1)) (List.length po : Int)) (fun s2 => uq p0 (s8 + 1) s2)))
def zj (bB : List GLe) (cu : List GLe) : Option (Bool) := cond (lenOk bB) (lbind (uq bB 0 cu) (fun r4 => some r4) (fun c3 => some ((List.length c3 : Int) == 0)) (fun _ _ => none)) none
theorem UL (bB : List GLe) (cu : List GLe) (R : Bool) (h : zj bB cu = some R) : ad Tryz.prog G0 115 [.sl (aa cGLe bB) (List.length bB) false, .sl (aa cGLe cu) (List.length cu) false] (.tree (.lit (.bool R))) := by
 refine ad.runR mixed Tryz.call115 Tryz.func115 rfl (by simp [Tryz.ntmps115]; kernel_rfl) ?_
 obtain ⟨KF, h, kF, kN⟩ := dC h
 simp only [zj] at h
 cases g6 : (lenOk bB)
 ·simp only [g6, hs] at h
  exact absurd h kN
 simp only [g6, hs] at h
 simp only [vz, tyf, g6, nm, seval]
 obtain ⟨K5, h, tC, tD, ES, sj⟩ := fW h kN
 obtain ⟨f5, tE, h⟩ := call3 h
 obtain ⟨I5, lW⟩ : ∃ I : Nat → St → Prop, I = (fun m st => ∃ (p5 : List GLe) (gC : Int) (mi : List GLe), m = List.length p5 ∧ 0 ≤ gC ∧ List.drop (Int.toNat gC) bB = p5 ∧ st.df = [] ∧ 4 ≤ st.nx ∧ st.tm 8 = .sl (aa cGLe bB) (List.length bB) false ∧ st.tm 9 = .lit (.int .i64 (List.length bB : Int)) ∧ st.tm 1 = .sl (aa cGLe mi) (List.length mi) false ∧ st.tm 10 = .lit (.int .i64 gC) ∧ K5 (f5 p5 gC mi)) := ⟨_, rfl⟩
 refine loopK mixed (by kernel_rfl) I5 (List.length bB) (by rw [lW]; refine ⟨bB, 0, cu, rfl, qZf _, rfl, rfl, (show 4 ≤ 4 by omega), ?_, ?_, ?_, ?_, h⟩ <;> first | (simp only [ua, nm, seval] <;> rfl) | rfl) ?_
 rintro m ⟨tm, H, oU, df⟩ hinv
 rw [lW] at hinv
 obtain ⟨p5, gC, mi, rfl, gR, iN, hdf, m0, e7, e8, e9, aZ, h⟩ := hinv
 simp only at hdf m0 e7 e8 e9 aZ
 have jF := fX (m := 4) (b := oU) (by omega)
 subst hdf tE
 cases p5 with
 | nil =>
  have bz : (decide (gC < (List.length bB : Int))) = false := fc gR iN
  simp only [uq, hs, reduceCtorEq] at h
  replace h := tD _ h
  try dsimp only at h
  try simp only [hs] at h
  try simp only [vz, tyf, g6, jF, e7, e8, e9, aZ, bz, nm, seval]
  obtain rfl := kF _ h
  exact bk Tryz.results115 rfl
 | cons e5 p5 =>
  have br : (decide (gC < (List.length bB : Int))) = true := fb gR iN
  have ly := dZ gR iN
  have mN := fe gR iN g6
  simp only [uq, hs, reduceCtorEq] at h
  obtain ⟨s9, zk, h⟩ := optI h sj
  try simp only [hs] at h
  simp only [vz, tyf, g6, jF, e7, e8, e9, aZ, br, (aJ ly), mN, nm, seval]
  refine ktA (UK _ _ _ zk) ?_
  refine bw (fun tm => tm 1 = .sl (aa cGLe mi) (List.length mi) false ∧ tm 8 = .sl (aa cGLe bB) (List.length bB) false ∧ tm 9 = .lit (.int .i64 (List.length bB : Int)) ∧ tm 10 = .lit (.int .i64 gC) ∧ tm 16 = .lit (.int .i64 s9) ∧ True) (by refine ⟨e9, e7, e8, aZ, ?_, trivial⟩ <;> first | (simp only [ua, jF, e7, e8, e9, aZ, br, mN, nm, seval] <;> rfl) | rfl) ?_
  rintro tm ⟨cj, dv, gJ, dQ, cg, _⟩
  cases kP : (decide (s9 < 0))
  ·simp only [kP, hs] at h
   obtain ⟨UM, sk, h⟩ := optI h sj
   try simp only [hs] at h
   try simp only [vz, tyf, g6, jF, br, (aJ ly), mN, cj, dv, gJ, dQ, cg, kP, nm, seval]
   refine k_slT (w := 2) (enc := cGLe) (xs := mi) Tryz.underlying29 (by kernel_rfl) (fun _ => rfl) (by first | (simp only [mW, vu, ur, sZ, g6, jF, br, (aJ ly), mN, cj, dv, gJ, dQ, cg, kP, nm, seval] <;> rfl) | rfl) (.inr ⟨.i64, by simp only [Option.map_some]; exact congrArg some (by first | (simp only [mW, vu, ur, sZ, g6, jF, br, (aJ ly), mN, cj, dv, gJ, dQ, cg, kP, nm, seval] <;> rfl) | rfl)⟩) (.inl ⟨rfl, rfl⟩) sk ?_
   simp only [vz, tyf, g6, jF, br, (aJ ly), mN, cj, dv, gJ, dQ, cg, kP, nm, seval]
   exact ⟨List.length p5, qZc _, by rw [lW]; refine ⟨p5, gC + 1, UM, rfl, Int.le_trans gR (Int.le_add_one (qZf _)), bW gR iN, rfl, (show 4 ≤ oU + 18 by omega), dv, gJ, ?_, ?_, (by first | exact h | (simp only [br, kP]; exact h))⟩ <;> first | (simp only [ua, jF, br, mN, cj, dv, gJ, dQ, cg, kP, nm, seval] <;> rfl) | rfl⟩
  simp only [kP, hs] at h
  try simp only [vz, tyf, g6, jF, br, (aJ ly), mN, cj, dv, gJ, dQ, cg, kP, nm, seval]
  replace h := tC _ h
  try dsimp only at h
  obtain rfl := kF _ h
  exact bk Tryz.results115 rfl
def vt (ag : GLs) (bF : GLx) : Option (Bool) := Option.bind (zl ag bF.Out) (fun r1 => cond (r1) (Option.bind (ub ag bF.Out) (fun r2 => Option.bind (zj bF.Ends r2) (fun r3 => some r3))) (some false))
theorem UN (ag : GLs) (bF : GLx) (R : Bool) (h : vt ag bF = some R) : ad Tryz.prog G0 69 [.agg (cGLs ag), .agg (cGLx bF)] (.tree (.lit (.bool R))) := by
 refine ad.runR mixed Tryz.call69 Tryz.func69 rfl (by simp [Tryz.ntmps69]; kernel_rfl) ?_
 obtain ⟨KF, h, kF, kN⟩ := dC h
 simp only [vt] at h
 simp only [vz, tyf, nm, seval]
 refine m3 (fun tm => tm 2 = .ptr 0 0 ∧ tm 3 = .ptr 1 0 ∧ True) (by refine ⟨?_, ?_, trivial⟩ <;> first | (simp only [ua, nm, seval] <;> rfl) | rfl) ?_
 rintro tm ⟨e4, e5, _⟩
 obtain ⟨r6, o7, h⟩ := optI h kN
 try simp only [hs] at h
 simp only [vz, tyf, e4, e5, nm, seval]
 refine dktA (UO _ _ _ o7) ?_
 refine bw (fun tm => tm 2 = .ptr 0 0 ∧ tm 3 = .ptr 1 0 ∧ tm 8 = .lit (.bool r6) ∧ True) (by refine ⟨e4, e5, ?_, trivial⟩ <;> first | (simp only [ua, e4, e5, nm, seval] <;> rfl) | rfl) ?_
 rintro tm ⟨e8, e9, aZ, _⟩
 cases eR : (r6)
 ·simp only [eR, hs] at h
  try simp only [vz, tyf, e8, e9, aZ, eR, nm, seval]
  obtain rfl := kF _ h
  exact bk Tryz.results69 rfl
 simp only [eR, hs] at h
 obtain ⟨vP, nk, h⟩ := optI h kN
 try simp only [hs] at h
 simp only [vz, tyf, e8, e9, aZ, eR, nm, seval]
 refine dktA (Q9 _ _ _ nk) ?_
 refine bw (fun tm => tm 9 = .lit (.bool true) ∧ tm 11 = .sl (aa cGLe bF.Ends) (List.length bF.Ends) false ∧ tm 15 = .sl (aa cGLe vP) (List.length vP) false ∧ True) (by refine ⟨?_, ?_, ?_, trivial⟩ <;> first | (simp only [ua, e8, e9, aZ, eR, nm, seval] <;> rfl) | rfl) ?_
 rintro tm ⟨cG, dM, da, _⟩
 obtain ⟨Cq, pb, h⟩ := optI h kN
 try simp only [hs] at h
 simp only [vz, tyf, eR, cG, dM, da, nm, seval]
 refine dktA (UL _ _ _ pb) ?_
 refine bw (fun tm => tm 9 = .lit (.bool true) ∧ tm 16 = .lit (.bool Cq) ∧ True) (by refine ⟨?_, ?_, trivial⟩ <;> first | (simp only [ua, eR, cG, dM, da, nm, seval] <;> rfl) | rfl) ?_
 rintro tm ⟨dv, gJ, _⟩
 try simp only [vz, tyf, eR, dv, gJ, nm, seval]
 obtain rfl := kF _ h
 exact bk Tryz.results69 rfl
theorem zm (n : Int) : ∀ (p : List Int) (i : Int), w9 n p i = cond (p.contains n) (some (.ret true)) (some (.go ()))
 | [], _ => rfl
 | e :: p, i => by
  simp only [w9, zm n p, List.contains_cons]
  by_cases h : e = n
  ·subst h; simp
  ·have h1 : (e == n) = false := by simpa using h
   have h2 : (n == e) = false := by simpa using fun h' => h h'.symm
   rw [h1, h2]; simp
theorem zn (l : List Int) (n : Int) (h : lenOk l = true) : sA l n = some (l.contains n) := by
 simp only [sA, h, cond_true, zm]
 cases l.contains n <;> rfl
theorem zo (n : Int) : ∀ (p : List Int) (i : Int), 0 ≤ i → ∃ r, wA n p i = some r ∧ ((p.contains n = true ∧ ∃ j, r = .ret j ∧ 0 ≤ j) ∨ (p.contains n = false ∧ r = .go ()))
 | [], _, _ => ⟨_, rfl, .inr ⟨rfl, rfl⟩⟩
 | e :: p, i, hi => by
  simp only [wA, List.contains_cons]
  cases h : (n == e) with
  | true => exact ⟨_, rfl, .inl ⟨by simp, i, rfl, hi⟩⟩
  | false =>
   obtain ⟨r, h1, h2⟩ := zo n p (i + 1) (by omega)
   exact ⟨r, h1, by simpa using h2⟩
theorem QD (l : List Int) (n : Int) (h : lenOk l = true) : wy l n = some (l.contains n) := by
 obtain ⟨r, h1, h2⟩ := zo n l 0 (by omega)
 simp only [wy, CA, h, cond_true, h1]
 rcases h2 with ⟨h2, j, rfl, hj⟩ | ⟨h2, rfl⟩
 ·simp only [Eh, Option.bind_some, h2]
  rw [decide_eq_true (show j ≥ 0 from hj)]
 ·simp only [oH, Option.bind_some, h2]
  rfl
def freeB (s : GLs) (i : Int) : Bool := match getI s.Words i with | some w => w.Free | none => false
def outB (s : GLs) (out : List Int) : Bool := decide ((out.length : Int) < s.Words.length) && ((incrL out && out.all (inB 0 ((s.Words.length : Int) - 1))) && out.all (freeB s))
theorem zp {s : GLs} {i : Int} (h : inB 0 ((s.Words.length : Int) - 1) i = true) : ∃ w, getI s.Words i = some w ∧ w ∈ s.Words := by
 rw [rk] at h
 exact QE h.1 (by omega)
theorem zq (s : GLs) : ∀ (p : List Int) (i : Int), p.all (inB 0 ((s.Words.length : Int) - 1)) = true → wB s p i = goB (p.all (freeB s))
 | [], _, _ => rfl
 | e :: p, i, h => by
  simp only [List.all_cons, Bool.and_eq_true] at h
  obtain ⟨w, hw, _⟩ := zp h.1
  have hf : freeB s e = w.Free := by simp [freeB, hw]
  simp only [wB, hw, Option.bind_some, zq s p (i + 1) h.2, List.all_cons, hf, lF]
theorem Hf (s : GLs) (out : List Int) (hl : lenOk out = true) (hw : (s.Words.length : Int) < 1000) : zl s out = some (outB s out) := by
 unfold zl outB
 by_cases h : (out.length : Int) < s.Words.length
 ·rw [decide_eq_false (show ¬ ((out.length : Int) ≥ s.Words.length) by omega), decide_eq_true h, cond_false, ka (by omega) (by omega), QF _ _ _ hl, Option.bind_some]
  cases hb : (incrL out && out.all (inB 0 ((s.Words.length : Int) - 1))) with
  | false => rfl
  | true =>
   have h2 := (Bool.and_eq_true _ _ ▸ hb).2
   simp only [cond_true, hl, zq s out 0 h2, sB, Bool.true_and]
   cases out.all (freeB s) <;> rfl
 ·rw [decide_eq_true (show ((out.length : Int) ≥ s.Words.length) by omega), decide_eq_false h]
  rfl
def outG (s : GLs) : Option Int → List Int → Bool
 | _, [] => true
 | none, e :: p => inB 0 ((s.Words.length : Int) - 1) e && (freeB s e && outG s (some e) p)
 | some q, e :: p => inB 0 ((s.Words.length : Int) - 1) e && (freeB s e && (!decide (e ≤ q) && outG s (some e) p))
theorem QG (s : GLs) : ∀ (p : List Int) (q : Int), outG s (some q) p = ((incr q p && p.all (inB 0 ((s.Words.length : Int) - 1))) && p.all (freeB s))
 | [], _ => rfl
 | e :: p, q => by
  simp only [outG, QG s p e, incr, List.all_cons]
  cases inB 0 ((s.Words.length : Int) - 1) e <;> cases freeB s e <;> cases decide (e ≤ q) <;> cases incr e p <;> simp
theorem Hg (s : GLs) : ∀ (p : List Int), outG s none p = ((incrL p && p.all (inB 0 ((s.Words.length : Int) - 1))) && p.all (freeB s))
 | [] => rfl
 | e :: p => by
  simp only [outG, QG s p e, incrL, List.all_cons]
  cases inB 0 ((s.Words.length : Int) - 1) e <;> cases freeB s e <;> cases incr e p <;> simp
theorem zr (s : GLs) (hw : (s.Words.length : Int) < 1000) (xs : List Int) (hl : lenOk xs = true) : ∀ (p : List Int) (q i : Int), 1 ≤ i → xs.drop (i - 1).toNat = q :: p → rl s xs p i = goB (outG s (some q) p)
 | [], _, _, _, _ => rfl
 | e :: p, q, i, h0, h => by
  have hb := uu hl
  have hle := wC h
  simp only [List.length_cons] at hle
  have hi : i < 9223372036854775808 := by
   rcases hle with hle | hle
   ·omega
   ·cases hle
  have hn : xs.drop (i + 1 - 1).toNat = e :: p := by
   have := bW (i := i - 1) (by omega) h
   rwa [show i - 1 + 1 = i + 1 - 1 by omega] at this
  have hp : decide (i > 0) = true := by simp; omega
  simp only [rl, in_eq, Option.bind_some]
  rw [ka (by omega) (by omega)]
  cases hin : inB 0 ((s.Words.length : Int) - 1) e with
  | false => simp only [cond_false, outG, hin, Bool.false_and]; rfl
  | true =>
   obtain ⟨w, hw', _⟩ := zp hin
   have hf : freeB s e = w.Free := by simp [freeB, hw']
   simp only [cond_true, hw', Option.bind_some, hp, wD h0 hi h, zr s hw xs hl p e (i + 1) (by omega) hn, outG, hin, hf, Bool.true_and, lF, cnot]
theorem Hh (s : GLs) (hw : (s.Words.length : Int) < 1000) (xs : List Int) (hl : lenOk xs = true) : rl s xs xs 0 = goB (outG s none xs) := by
 cases xs with
 | nil => rfl
 | cons e p =>
  have := zr s hw (e :: p) hl p e (0 + 1) (by omega) rfl
  simp only [rl, in_eq, Option.bind_some]
  rw [ka (by omega) (by omega)]
  cases hin : inB 0 ((s.Words.length : Int) - 1) e with
  | false => simp only [cond_false, outG, hin, Bool.false_and]; rfl
  | true =>
   obtain ⟨w, hw', _⟩ := zp hin
   have hf : freeB s e = w.Free := by simp [freeB, hw']
   simp only [cond_true, hw', Option.bind_some, show decide ((0 : Int) > 0) = false from rfl, cond_false, this, outG, hin, hf, Bool.true_and, lF]
theorem Hi (s : GLs) (out : List Int) (hl : lenOk out = true) (hw : (s.Words.length : Int) < 1000) : zt s out = some (outB s out) := by
 simp only [zt, hl, cond_true, Hh s hw out hl, sB, Hg, outB]
 cases ((incrL out && out.all (inB 0 ((s.Words.length : Int) - 1))) && out.all (freeB s)) <;> simp
structure Sh (s : GLs) : Prop where
 nwid : 1 ≤ s.Widths.length ∧ s.Widths.length ≤ 6
 wid : ∀ x ∈ s.Widths, 1 ≤ x ∧ x ≤ 20
 npair : s.Pairs.length ≤ 6
 pair : ∀ p ∈ s.Pairs, 0 ≤ p.Left ∧ 0 ≤ p.Right ∧ 0 ≤ p.Space.Low ∧ p.Space.Low ≤ p.Space.High ∧ p.Space.High ≤ 9
 other : 0 ≤ s.Other.Low ∧ s.Other.Low ≤ s.Other.High ∧ s.Other.High ≤ 9
 gap : 0 ≤ s.Gap.Low ∧ s.Gap.Low ≤ s.Gap.High ∧ s.Gap.High ≤ 20
 hyp : 1 ≤ s.Hyphen ∧ s.Hyphen ≤ 20
 nw : 1 ≤ s.Words.length ∧ s.Words.length ≤ 4
 wlen : ∀ w ∈ s.Words, 1 ≤ w.Signs.length ∧ w.Signs.length ≤ 6
 wsign : ∀ w ∈ s.Words, ∀ c ∈ w.Signs, 0 ≤ c ∧ c < s.Widths.length
 wcut : ∀ w ∈ s.Words, incrL w.Cuts = true ∧ (∀ c ∈ w.Cuts, 1 ≤ c ∧ c < w.Signs.length) ∧ w.Cuts.length ≤ 5
 wide : 1 ≤ s.Wide ∧ s.Wide ≤ 400
 rows : 1 ≤ s.Rows ∧ s.Rows ≤ 3
theorem zu {hi : Int} : ∀ (p : List Int) (q : Int), incr q p = true → p.all (inB 1 hi) = true → q ≤ hi → q + p.length ≤ hi
 | [], q, _, _, h => by simpa using h
 | e :: p, q, h1, h2, h3 => by
  simp only [incr, Bool.and_eq_true, Bool.not_eq_true', decide_eq_false_iff_not] at h1
  simp only [List.all_cons, Bool.and_eq_true, rk] at h2
  have := zu p e h1.2 h2.2 h2.1.2
  simp only [List.length_cons]
  omega
theorem Hj {m : Int} : ∀ (p : List GLp) (q : Option GLp), pairsG m q p = true → ∀ x ∈ p, pairB m x = true
 | [], _, _, x, hx => by cases hx
 | e :: p, none, h, x, hx => by
  simp only [pairsG, Bool.and_eq_true] at h
  rcases List.mem_cons.1 hx with rfl | hx
  ·exact h.1
  ·exact Hj p _ h.2 x hx
 | e :: p, some q, h, x, hx => by
  simp only [pairsG, Bool.and_eq_true] at h
  rcases List.mem_cons.1 hx with rfl | hx
  ·exact h.1
  ·exact Hj p _ h.2.2 x hx
theorem sh_of {s : GLs} (h : sheetB s = true) : Sh s := by
 unfold sheetB at h
 simp only [Bool.and_eq_true, rk, List.all_eq_true, decide_eq_true_eq] at h
 obtain ⟨⟨⟨⟨⟨⟨⟨⟨⟨h1, h1'⟩, h2⟩, h3, h3'⟩, h4⟩, h5⟩, h6⟩, h7, h7'⟩, h8⟩, h9⟩ := h
 have hw : i64.wrap ((s.Widths.length : Int) - 1) = (s.Widths.length : Int) - 1 := ka (by omega) (by omega)
 rw [hw] at h3' h7'
 have hsp : ∀ {m : Int} {x : GSpan}, spanB m x = true → 0 ≤ x.Low ∧ x.Low ≤ x.High ∧ x.High ≤ m := by
  intro m x h
  simpa [spanB] using h
 have hwd : ∀ w ∈ s.Words, (1 ≤ w.Signs.length ∧ w.Signs.length ≤ 6) ∧ (∀ c ∈ w.Signs, 0 ≤ c ∧ c < s.Widths.length) ∧ incrL w.Cuts = true ∧ (w.Cuts.all (inB 1 ((w.Signs.length : Int) - 1)) = true) := by
  intro w hw
  have := h7' w hw
  simp only [wordB, Bool.and_eq_true, rk] at this
  obtain ⟨a, b, c, d⟩ := this
  rw [ka (by omega) (by omega)] at d
  refine ⟨by omega, fun x hx => ?_, c, d⟩
  have := List.all_eq_true.1 b x hx
  rw [rk] at this
  omega
 refine ⟨by omega, h2, by omega, fun p hp => ?_, hsp h4, hsp h5, h6, by omega, fun w hw => (hwd w hw).1, fun w hw => (hwd w hw).2.1, fun w hw => ?_, h8, h9⟩
 ·have := Hj _ _ h3' p hp
  simp only [pairB, Bool.and_eq_true, rk] at this
  have h := hsp this.2.2
  omega
 ·obtain ⟨⟨a, a'⟩, b, c, d⟩ := hwd w hw
  have d' : ∀ x ∈ w.Cuts, 1 ≤ x ∧ x < w.Signs.length := by
   intro x hx
   have := List.all_eq_true.1 d x hx
   rw [rk] at this
   omega
  refine ⟨c, d', ?_⟩
  cases hc : w.Cuts with
  | nil => simp
  | cons e p =>
   rw [hc] at c d d'
   have h1 := d' e (qZb ..)
   simp only [List.all_cons, Bool.and_eq_true] at d
   have := zu p e c d.2 (by omega)
   simp only [List.length_cons]
   omega
def befE (a b : GLe) : Prop := a.Word < b.Word ∨ a.Word = b.Word ∧ a.Letters < b.Letters
theorem od {a : GLe} : ¬ befE a a := by unfold befE; omega
theorem BY {a b c : GLe} (h : befE a b) (k : befE b c) : befE a c := by unfold befE at *; omega
def posW (i : Int) (w : GLw) : List GLe := w.Cuts.map (GLe.mk i) ++ [GLe.mk i (w.Signs.length : Int)]
def possL (out : List Int) : List GLw → Int → List GLe
 | [], _ => []
 | w :: ws, i => cond (out.contains i) (possL out ws (i + 1)) (posW i w ++ possL out ws (i + 1))
theorem roomOk16 {n : Nat} (h : n ≤ 1000) : aC 16 n = true := by simp [aC]; omega
theorem zw (i : Int) : ∀ (p : List Int) (c : Int) (acc : List GLe), acc.length + p.length ≤ 1000 → nz i p c acc = some (.go (acc ++ p.map (GLe.mk i)))
 | [], _, acc, _ => by simp [nz]
 | e :: p, c, acc, h => by
  simp only [List.length_cons] at h
  simp only [nz]
  rw [roomOk16 (by simp; omega), cond_true, zw i p (c + 1) _ (by simp; omega)]
  simp
theorem zx (out : List Int) : ∀ (ws : List GLw) (i : Int), (∀ w ∈ ws, w.Cuts.length ≤ 5) → (possL out ws i).length ≤ 6 * ws.length
 | [], _, _ => by simp [possL]
 | w :: ws, i, h => by
  have h1 := zx out ws (i + 1) fun x hx => h x (qZa _ hx)
  have h2 := h w (qZb ..)
  unfold possL
  cases out.contains i <;> simp [posW] <;> omega
theorem uv (out : List Int) (hl : lenOk out = true) : ∀ (ws : List GLw) (i : Int) (acc : List GLe), (∀ w ∈ ws, w.Cuts.length ≤ 5) → acc.length + 6 * ws.length ≤ 1000 → q9 out ws i acc = some (.go (acc ++ possL out ws i))
 | [], _, acc, _, _ => by simp [q9, possL]
 | w :: ws, i, acc, h, hn => by
  have h1 : ∀ x ∈ ws, x.Cuts.length ≤ 5 := fun x hx => h x (qZa _ hx)
  have h2 := h w (qZb ..)
  simp only [List.length_cons] at hn
  simp only [q9, QD _ _ hl, Option.bind_some, possL]
  cases out.contains i with
  | true => simp only [cond_true]; exact uv out hl ws (i + 1) acc h1 (by omega)
  | false =>
   simp only [cond_false]
   rw [ny (by omega), cond_true, zw i w.Cuts 0 acc (by omega), oH, roomOk16 (by simp; omega), cond_true, uv out hl ws (i + 1) _ h1 (by simp; omega)]
   simp [posW]
theorem xl {s : GLs} (h : Sh s) (out : List Int) (hl : lenOk out = true) : ub s out = some (possL out s.Words 0) := by
 simp only [ub]
 have := h.nw
 rw [ny (by omega), cond_true, uv out hl s.Words 0 [] (fun w hw => (h.wcut w hw).2.2) (by simp; omega), List.nil_append]
 rfl
theorem ux : ∀ (p : List Int) (q : Int), incr q p = true → (q :: p).Pairwise (· < ·)
 | [], q, _ => List.pairwise_singleton _ _
 | e :: p, q, h => by
  simp only [incr, Bool.and_eq_true, Bool.not_eq_true', decide_eq_false_iff_not] at h
  have ih := ux p e h.2
  rw [List.pairwise_cons]
  refine ⟨fun x hx => ?_, ih⟩
  rcases List.mem_cons.1 hx with rfl | hx
  ·omega
  ·have := (List.pairwise_cons.1 ih).1 x hx
   omega
theorem Hk : ∀ (p : List Int), incrL p = true → p.Pairwise (· < ·)
 | [], _ => List.Pairwise.nil
 | e :: p, h => ux p e h
theorem wE {i : Int} {w : GLw} {e : GLe} : e ∈ posW i w ↔ e.Word = i ∧ (e.Letters ∈ w.Cuts ∨ e.Letters = w.Signs.length) := by
 obtain ⟨a, b⟩ := e
 simp only [posW, List.mem_append, List.mem_map, List.mem_singleton, GLe.mk.injEq]
 constructor
 ·rintro (⟨c, hc, rfl, rfl⟩ | ⟨rfl, rfl⟩)
  ·exact ⟨rfl, .inl hc⟩
  ·exact ⟨rfl, .inr rfl⟩
 ·rintro ⟨rfl, h | rfl⟩
  ·exact .inl ⟨b, h, rfl, rfl⟩
  ·exact .inr ⟨rfl, rfl⟩
theorem CB (out : List Int) : ∀ (ws : List GLw) (i : Int) (e : GLe), e ∈ possL out ws i ↔ ∃ k : Nat, ∃ w, ws[k]? = some w ∧ out.contains (i + k) = false ∧ e ∈ posW (i + k) w
 | [], i, e => by simp [possL]
 | w :: ws, i, e => by
  have ih := CB out ws (i + 1) e
  have hsh : (∃ k : Nat, ∃ x, (w :: ws)[k]? = some x ∧ out.contains (i + k) = false ∧ e ∈ posW (i + k) x) ↔ (out.contains i = false ∧ e ∈ posW i w) ∨ ∃ k : Nat, ∃ x, ws[k]? = some x ∧ out.contains (i + 1 + k) = false ∧ e ∈ posW (i + 1 + k) x := by
   constructor
   ·rintro ⟨k, x, h1, h2, h3⟩
    cases k with
    | zero =>
     simp only [List.getElem?_cons_zero, Option.some.injEq] at h1
     subst h1
     simp only [Int.natCast_zero, Int.add_zero] at h2 h3
     exact .inl ⟨h2, h3⟩
    | succ k =>
     have e1 : i + ((k + 1 : Nat) : Int) = i + 1 + k := by omega
     rw [e1] at h2 h3
     exact .inr ⟨k, x, by simpa using h1, h2, h3⟩
   ·rintro (⟨h2, h3⟩ | ⟨k, x, h1, h2, h3⟩)
    ·exact ⟨0, w, rfl, by simpa using h2, by simpa using h3⟩
    ·have e1 : i + ((k + 1 : Nat) : Int) = i + 1 + k := by omega
     exact ⟨k + 1, x, by simpa using h1, by rw [e1]; exact h2, by rw [e1]; exact h3⟩
  rw [hsh]
  unfold possL
  cases hc : out.contains i with
  | true => simp only [cond_true]; rw [ih]; simp
  | false => simp only [cond_false, List.mem_append, ih]; simp
theorem Hl {i : Int} {w : GLw} (h : incrL w.Cuts = true) (h2 : ∀ c ∈ w.Cuts, 1 ≤ c ∧ c < (w.Signs.length : Int)) : (posW i w).Pairwise befE := by
 unfold posW
 rw [List.pairwise_append]
 refine ⟨?_, List.pairwise_singleton _ _, ?_⟩
 ·rw [List.pairwise_map]
  exact (Hk _ h).imp fun h => .inr ⟨rfl, h⟩
 ·intro a ha b hb
  obtain ⟨c, hc, rfl⟩ := List.mem_map.1 ha
  rw [List.mem_singleton.1 hb]
  exact .inr ⟨rfl, (h2 c hc).2⟩
theorem zy (out : List Int) : ∀ (ws : List GLw) (i : Int), (∀ w ∈ ws, incrL w.Cuts = true ∧ ∀ c ∈ w.Cuts, 1 ≤ c ∧ c < (w.Signs.length : Int)) → (possL out ws i).Pairwise befE
 | [], _, _ => List.Pairwise.nil
 | w :: ws, i, h => by
  have ih := zy out ws (i + 1) fun x hx => h x (qZa _ hx)
  have hw := h w (qZb ..)
  unfold possL
  cases out.contains i with
  | true => exact ih
  | false =>
   simp only [cond_false]
   rw [List.pairwise_append]
   refine ⟨Hl hw.1 hw.2, ih, fun a ha b hb => ?_⟩
   obtain ⟨ha, _⟩ := wE.1 ha
   obtain ⟨k, x, _, _, hb⟩ := (CB out ws (i + 1) b).1 hb
   obtain ⟨hb, _⟩ := wE.1 hb
   left
   omega
def dropTo (e : GLe) : List GLe → Option (List GLe)
 | [] => none
 | f :: r => if e = f then some r else dropTo e r
def areE : List GLe → List GLe → Bool
 | [], r => r.isEmpty
 | e :: p, r => match dropTo e r with
  | none => false
  | some r' => areE p r'
theorem wx (a b : GLe) : (a.Word == b.Word && (a.Letters == b.Letters)) = decide (a = b) := by
 obtain ⟨a1, a2⟩ := a
 obtain ⟨b1, b2⟩ := b
 simp only [GLe.mk.injEq]
 by_cases h1 : a1 = b1 <;> by_cases h2 : a2 = b2 <;> simp [h1, h2]
theorem QH (e : GLe) : ∀ (p : List GLe) (i : Int), match dropTo e p with
  | none => rj e p i = some (.go ())
  | some r => ∃ k : Nat, rj e p i = some (.ret (i + k)) ∧ k < p.length ∧ r = p.drop (k + 1)
 | [], i => rfl
 | f :: p, i => by
  unfold dropTo
  by_cases h : e = f
  ·simp only [h, if_true]
   exact ⟨0, by simp [rj, wx], by simp, by simp⟩
  ·rw [if_neg h]
   have ih := QH e p (i + 1)
   cases hd : dropTo e p with
   | none =>
    rw [hd] at ih
    simp only at ih ⊢
    simp only [rj, wx, decide_eq_false h, cond_false, ih]
   | some r =>
    rw [hd] at ih
    simp only at ih ⊢
    obtain ⟨k, h1, h2, h3⟩ := ih
    refine ⟨k + 1, ?_, by simpa using h2, by simpa using h3⟩
    simp only [rj, wx, decide_eq_false h, cond_false, h1]
    congr 2
    omega
theorem QI : ∀ (p : List GLe) (i : Int) (r : List GLe), r.length ≤ 1000 → (uq p i r = some (.ret false) ∧ areE p r = false) ∨ ∃ r', uq p i r = some (.go r') ∧ areE p r = r'.isEmpty
 | [], i, r, _ => .inr ⟨r, rfl, rfl⟩
 | e :: p, i, r, h => by
  have hx := QH e r 0
  have hl := ny (xs := r) (by omega)
  unfold areE
  simp only [uq, C9, hl, cond_true]
  cases hd : dropTo e r with
  | none =>
   rw [hd] at hx
   simp only at hx ⊢
   left
   rw [hx]
   simp [lbind]
  | some r' =>
   rw [hd] at hx
   simp only at hx ⊢
   obtain ⟨k, h1, h2, h3⟩ := hx
   rw [h1, Eh, Option.bind_some, decide_eq_false (show ¬ ((0 : Int) + k < 0) by omega), cond_false, ka (by omega) (by omega)]
   have hs : sliceO r (0 + (k : Int) + 1) (r.length : Int) = some r' := by
    unfold sliceO
    rw [if_pos (by omega)]
    congr 1
    rw [show ((0 : Int) + k + 1).toNat = k + 1 by omega, h3]
    exact List.take_of_length_le (by simp; omega)
   rw [hs, Option.bind_some]
   exact QI p (i + 1) r' (by rw [h3]; simp; omega)
theorem Hm (ends r : List GLe) (hl : lenOk ends = true) (hr : r.length ≤ 1000) : zj ends r = some (areE ends r) := by
 simp only [zj, hl, cond_true]
 rcases QI ends 0 r hr with ⟨h1, h2⟩ | ⟨r', h1, h2⟩
 ·rw [h1, h2]; rfl
 ·rw [h1, h2, oH]
  cases r' with
  | nil => rfl
  | cons a l => simp; omega
def IsS (poss ends : List GLe) : Prop := ends.Pairwise befE ∧ (∀ e ∈ ends, e ∈ poss) ∧ ends.getLast? = poss.getLast?
theorem Ho {e : GLe} : ∀ {r r' : List GLe}, dropTo e r = some r' → ∃ a, r = a ++ e :: r'
 | [], _, h => by cases h
 | f :: r, r', h => by
  unfold dropTo at h
  split at h
  ·rename_i hf
   simp only [Option.some.injEq] at h
   subst h hf
   exact ⟨[], rfl⟩
  ·obtain ⟨a, ha⟩ := Ho h
   exact ⟨f :: a, by rw [ha]; rfl⟩
theorem QJ {e : GLe} : ∀ {r : List GLe}, e ∈ r → ∃ r', dropTo e r = some r'
 | [], h => by cases h
 | f :: r, h => by
  unfold dropTo
  split
  ·exact ⟨r, rfl⟩
  ·rename_i hf
   rcases List.mem_cons.1 h with h | h
   ·exact absurd h hf
   ·exact QJ h
theorem xd : ∀ (p r : List GLe), r.Pairwise befE → (areE p r = true ↔ IsS r p)
 | [], r, _ => by
  unfold areE IsS
  cases r with
  | nil => simp
  | cons a l =>
   simp only [List.isEmpty_cons, Bool.false_eq_true, false_iff]
   rintro ⟨_, _, h⟩
   simp [List.getLast?_cons] at h
 | e :: p, r, hr => by
  unfold areE
  constructor
  ·intro h
   cases hd : dropTo e r with
   | none => rw [hd] at h; cases h
   | some r' =>
    rw [hd] at h
    obtain ⟨a, rfl⟩ := Ho hd
    rw [List.pairwise_append] at hr
    obtain ⟨_, lR, _⟩ := hr
    rw [List.pairwise_cons] at lR
    obtain ⟨h1, h2, h3⟩ := (xd p r' lR.2).1 h
    refine ⟨List.pairwise_cons.2 ⟨fun x hx => lR.1 x (h2 x hx), h1⟩, fun x hx => ?_, ?_⟩
    ·rcases List.mem_cons.1 hx with rfl | hx
     ·simp
     ·have := h2 x hx
      simp [this]
    ·rw [List.getLast?_append, List.getLast?_cons, List.getLast?_cons, h3]
     simp
  ·rintro ⟨h1, h2, h3⟩
   obtain ⟨r', hd⟩ := QJ (h2 e (qZb ..))
   rw [hd]
   obtain ⟨a, rfl⟩ := Ho hd
   rw [List.pairwise_append] at hr
   obtain ⟨hra, lR, Hp⟩ := hr
   rw [List.pairwise_cons] at lR h1
   refine (xd p r' lR.2).2 ⟨h1.2, fun x hx => ?_, ?_⟩
   ·have hb := h1.1 x hx
    rcases List.mem_append.1 (h2 x (qZa _ hx)) with hx' | hx'
    ·exact absurd (BY hb (Hp x hx' e (qZb ..))) od
    ·rcases List.mem_cons.1 hx' with rfl | hx'
     ·exact absurd hb od
     ·exact hx'
   ·rw [List.getLast?_append, List.getLast?_cons, List.getLast?_cons] at h3
    simp only [Option.some_or, Option.some.injEq] at h3
    cases hp : p.getLast? with
    | none =>
     rw [hp] at h3
     cases hr' : r'.getLast? with
     | none => rfl
     | some y =>
      rw [hr'] at h3
      simp only [Option.getD_none, Option.getD_some] at h3
      subst h3
      exact absurd (lR.1 _ (List.mem_of_getLast? hr')) od
    | some z =>
     rw [hp] at h3
     cases hr' : r'.getLast? with
     | none =>
      rw [hr'] at h3
      simp only [Option.getD_none, Option.getD_some] at h3
      subst h3
      exact absurd (h1.1 _ (List.mem_of_getLast? hp)) od
     | some y =>
      rw [hr'] at h3
      simp only [Option.getD_some] at h3
      rw [h3]
abbrev poss (s : GLs) (out : List Int) : List GLe := possL out s.Words 0
theorem qG {s : GLs} (h : Sh s) (out : List Int) : (poss s out).Pairwise befE := zy out _ _ fun w hw => ⟨(h.wcut w hw).1, (h.wcut w hw).2.1⟩
theorem xk {s : GLs} (h : Sh s) (out : List Int) : (possL out s.Words 0).length ≤ 24 := by
 have := zx out s.Words 0 fun w hw => (h.wcut w hw).2.2
 have := h.nw
 omega
theorem SL {s : GLs} (h : Sh s) (x : GLx) (hl : lenOk x.Out = true) (he : lenOk x.Ends = true) : vt s x = some (outB s x.Out && areE x.Ends (poss s x.Out)) := by
 have := h.nw
 have hn := xk h x.Out
 simp only [vt, Hf s _ hl (by omega), xl h _ hl, Option.bind_some]
 rw [Hm _ _ he (by omega), Option.bind_some, csome]
end Go.V
end
