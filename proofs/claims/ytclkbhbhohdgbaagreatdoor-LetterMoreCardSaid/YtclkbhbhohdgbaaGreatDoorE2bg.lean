/- Part of a proof. -/
import Derived.Test.YtclkbhbhohdgbaaGreatDoorE2bf
set_option linter.all false
set_option maxRecDepth 4000
set_option maxHeartbeats 40000000
section
namespace Go.V
open Go Go.Proofs IntKind Tryz
def qO (aY : GLx) (eR : Int) (e1 : GLw) : List Int → Int → Int → (List Glm) → Option (LOut (Gld) (Int × (List Glm)))
 | [], j4, gC, j5 => some (.go (gC, j5))
 | e2 :: p2, j4, gC, j5 => Option.bind (getI aY.Ends gC) (fun x8 => cond (x8.Word == eR && (x8.Letters == (j4 + 1))) (cond (ar 32 (List.length (j5 ++ [(Glm.mk eR e2 gC (decide ((j4 + 1) < (List.length e1.Signs : Int))))]))) (qO aY eR e1 p2 (j4 + 1) (i64.wrap (gC + 1)) (j5 ++ [(Glm.mk eR e2 gC (decide ((j4 + 1) < (List.length e1.Signs : Int))))])) none) (cond (ar 32 (List.length (j5 ++ [(Glm.mk eR e2 gC false)]))) (qO aY eR e1 p2 (j4 + 1) gC (j5 ++ [(Glm.mk eR e2 gC false)])) none))
def sk (aY : GLx) : List GLw → Int → Int → (List Glm) → Option (LOut (Gld) (Int × (List Glm)))
 | [], eR, mz, m0 => some (.go (mz, m0))
 | e1 :: p1, eR, mz, m0 => Option.bind (wj aY.Out eR) (fun r7 => cond (r7) (sk aY p1 (eR + 1) mz m0) (cond (lenOk e1.Signs) (lbind (qO aY eR e1 e1.Signs 0 mz m0) (fun nT => some (.ret nT)) (fun c9 => sk aY p1 (eR + 1) c9.1 c9.2) (fun _ _ => none)) none))
def wm  : List GLp → Int → (List (Glp × GSpan)) → Option (LOut (Gld) ((List (Glp × GSpan))))
 | [], ku, gD => some (.go gD)
 | e0 :: p0, ku, gD => wm p0 (ku + 1) (mapSet dQ gD (Glp.mk e0.Left e0.Right) e0.Space)
def t9 (ae : GLs) (aY : GLx) (bH : Int) : Option (Gld) := cond (lenOk ae.Pairs) (lbind (wm ae.Pairs 0 ([] : List (Glp × GSpan))) (fun E5 => some E5) (fun c1 => cond (lenOk ae.Words) (lbind (sk aY ae.Words 0 0 ([] : List Glm)) (fun ky => some ky) (fun C6 => some (Gld.mk ae aY bH c1 C6.2)) (fun _ _ => none)) none) (fun _ _ => none)) none
theorem Vf (ae : GLs) (aY : GLx) (bH : Int) (R : Gld) (h : t9 ae aY bH = some R) : ah prog G0 71 [.agg (cGLs ae), .agg (cGLx aY), .lit (.int .i64 bH)] (.tree (.agg (cGld R))) := by
 refine ah.runR mixed call71 func71 rfl (by simp [ntmps71]; kernel_rfl) ?_
 obtain ⟨KF, h, kF, kN⟩ := fg h
 simp only [t9] at h
 cases m3 : (lenOk ae.Pairs)
 ·simp only [m3, hs] at h
  exact absurd h kN
 simp only [m3, hs] at h
 simp only [vz, mq, mqm, tyf, mqt, m3, nm, seval]
 obtain ⟨Vg, h, Vh, E6, Vi, Vj⟩ := iy h kN
 obtain ⟨Vk, E7, h⟩ := call3 h
 obtain ⟨Vl, tA⟩ : ∃ I : Nat → St → Prop, I = (fun m st => ∃ (sm : List GLp) (fz : Int) (gp : List (Glp × GSpan)), m = List.length sm ∧ 0 ≤ fz ∧ List.drop (Int.toNat fz) ae.Pairs = sm ∧ st.df = [] ∧ 14 ≤ st.nx ∧ st.H 0 = some (.cells (some 28) (cGLs ae)) ∧ st.H 1 = some (.cells (some 31) (cGLx aY)) ∧ st.H 2 = some (.cells (some 93) ([.lit (.slice none 0 0)] ++ [.lit (.slice none 0 0)] ++ [.lit (.int .i64 0)] ++ [.lit (.int .i64 0)] ++ [.lit (.int .i64 0)] ++ [.lit (.int .i64 0)] ++ [.lit (.int .i64 0)] ++ [.lit (.slice none 0 0)] ++ [.lit (.int .i64 0)] ++ [.lit (.int .i64 0)] ++ [.lit (.slice none 0 0)] ++ [.lit (.slice none 0 0)] ++ [.lit (.int .i64 0)] ++ [.lit (.map none)] ++ [.lit (.slice none 0 0)])) ∧ st.H 6 = some (.map (encM dx f8 gp)) ∧ st.H 8 = some (.cells (some 93) ((cGLs ae) ++ (cGLx aY) ++ [.lit (.int .i64 bH)] ++ [.mp 6] ++ [.lit (.slice none 0 0)])) ∧ st.tm 3 = .ptr 0 0 ∧ st.tm 4 = .ptr 1 0 ∧ st.tm 6 = .ptr 2 0 ∧ st.tm 7 = .ptr 8 0 ∧ st.tm 22 = .sl (ad cGLp ae.Pairs) (List.length ae.Pairs) false ∧ st.tm 23 = .lit (.int .i64 (List.length ae.Pairs : Int)) ∧ st.tm 24 = .lit (.int .i64 fz) ∧ Vg (Vk sm fz gp)) := ⟨_, rfl⟩
 refine loopK mixed (by kernel_rfl) Vl (List.length ae.Pairs) (by rw [tA]; refine ⟨ae.Pairs, 0, ([] : List (Glp × GSpan)), rfl, qZf _, rfl, rfl, (show 14 ≤ 14 by omega), ?_, ?_, ?_, ?_, ?_, ?_, ?_, ?_, ?_, ?_, ?_, ?_, h⟩ <;> first | (simp only [ua, dW, nm, seval] <;> rfl) | rfl) ?_
 rintro m ⟨tm, H, jE, df⟩ ba
 rw [tA] at ba
 obtain ⟨sm, fz, gp, rfl, mV, oA, hdf, E8, ye, jZ, jg, yf, jF, dL, fM, dy, dX, dj, cK, dk, h⟩ := ba
 simp only at hdf E8 ye jZ jg yf jF dL fM dy dX dj cK dk
 have j6 := ib (m := 14) (b := jE) (by omega)
 subst hdf E7
 cases sm with
 | nil =>
  have lH : (decide (fz < (List.length ae.Pairs : Int))) = false := ic mV oA
  simp only [wm, hs, reduceCtorEq] at h
  replace h := E6 _ h
  try dsimp only at h
  try simp only [hs] at h
  cases gE : (lenOk ae.Words)
  ·simp only [gE, hs] at h
   exact absurd h kN
  simp only [gE, hs] at h
  simp only [vz, mq, mqm, tyf, mqt, m3, j6, dL, fM, dy, dX, dj, cK, dk, ye, jZ, jg, yf, jF, lH, gE, nm, seval]
  obtain ⟨Vm, h, Vn, E9, Vp, tB⟩ := iy h kN
  obtain ⟨Vq, EA, h⟩ := call4 h
  obtain ⟨Vr, qP⟩ : ∃ I : Nat → St → Prop, I = (fun m st => ∃ (qg : List GLw) (bm : Int) (gY : Int) (ej : List Glm) (j7 : VV), m = List.length qg ∧ 0 ≤ bm ∧ List.drop (Int.toNat bm) ae.Words = qg ∧ st.df = [] ∧ jE + 6 ≤ st.nx ∧ st.H 0 = some (.cells (some 28) (cGLs ae)) ∧ st.H 1 = some (.cells (some 31) (cGLx aY)) ∧ st.H 2 = some (.cells (some 93) ([.lit (.slice none 0 0)] ++ [.lit (.slice none 0 0)] ++ [.lit (.int .i64 0)] ++ [.lit (.int .i64 0)] ++ [.lit (.int .i64 0)] ++ [.lit (.int .i64 0)] ++ [.lit (.int .i64 0)] ++ [.lit (.slice none 0 0)] ++ [.lit (.int .i64 0)] ++ [.lit (.int .i64 0)] ++ [.lit (.slice none 0 0)] ++ [.lit (.slice none 0 0)] ++ [.lit (.int .i64 0)] ++ [.lit (.map none)] ++ [.lit (.slice none 0 0)])) ∧ st.H 6 = some (.map (encM dx f8 gp)) ∧ st.H 8 = some (.cells (some 93) ((cGLs ae) ++ (cGLx aY) ++ [.lit (.int .i64 bH)] ++ [.mp 6] ++ [j7])) ∧ st.tm 3 = .ptr 0 0 ∧ st.tm 4 = .ptr 1 0 ∧ st.tm 6 = .ptr 2 0 ∧ st.tm 7 = .ptr 8 0 ∧ st.tm 40 = .lit (.int .i64 (List.length ae.Words : Int)) ∧ st.tm 10 = .lit (.int .i64 gY) ∧ st.tm 41 = .lit (.int .i64 bm) ∧ ((∃ (β : Nat) (el : Option TypeId), j7 = .ref β 0 (List.length ej) 4 (List.length ej) ∧ β < st.nx ∧ β ≠ 0 ∧ β ≠ 1 ∧ β ≠ 2 ∧ β ≠ 6 ∧ β ≠ 8 ∧ st.H β = some (.cells el (ad cGlm ej))) ∨ (j7 = .lit (.slice none 0 0) ∧ ej = [])) ∧ Vm (Vq qg bm gY ej)) := ⟨_, rfl⟩
  refine loopK mixed (by kernel_rfl) Vr (List.length ae.Words) (by rw [qP]; refine ⟨ae.Words, 0, 0, ([] : List Glm), .lit (.slice none 0 0), rfl, qZf _, rfl, rfl, (show jE + 6 ≤ jE + 6 by omega), ?_, ?_, ?_, ?_, ?_, dL, fM, dy, dX, ?_, ?_, ?_, Or.inr ⟨rfl, rfl⟩, h⟩ <;> first | (simp only [ua, dW, j6, dL, fM, dy, dX, dj, cK, dk, ye, jZ, jg, yf, jF, lH, nm, seval] <;> rfl) | rfl) ?_
  rintro m ⟨tm, H, iK, df⟩ ba
  rw [qP] at ba
  obtain ⟨qg, bm, gY, ej, j7, rfl, kz, mW, hdf, EB, qh, qi, qj, fu, qk, cC, bP, cD, cP, dY, cS, dM, jG, h⟩ := ba
  simp only at hdf EB qh qi qj fu qk cC bP cD cP dY cS dM jG
  have qQ := ib (m := 14) (b := iK) (by omega)
  have fh := wo (a := jE) (m := 6) (b := iK) (by omega)
  subst hdf EA
  cases qg with
  | nil =>
   have k6 : (decide (bm < (List.length ae.Words : Int))) = false := ic kz mW
   simp only [sk, hs, reduceCtorEq] at h
   replace h := E9 _ h
   try dsimp only at h
   try simp only [hs] at h
   rcases jG with ⟨yg, EC, rfl, ED, EE, EF, tC, tD, EG, EH⟩ | ⟨rfl, rfl⟩
   ·have EI := jH ED
    have EJ := ne_f EE
    have EK := ne_f EF
    have nU := ne_f tC
    have nV := ne_f tD
    have EL := ne_f EG
    try simp only [vz, mq, mqm, tyf, mqt, m3, j6, lH, gE, qQ, fh, cC, bP, cD, cP, dY, cS, dM, qh, qi, qj, fu, qk, EI, EH, EJ, EK, nU, nV, EL, k6, nm, seval]
    refine bO (x := (.agg ((cGLs ae) ++ (cGLx aY) ++ [.lit (.int .i64 bH)] ++ [.mp 6] ++ [.ref yg 0 (List.length ej) 4 (List.length ej)]))) (by first | (simp only [results71, resV, resL, aw, cn, cq, uw, cr, tyf, mqt, m3, j6, lH, gE, qQ, fh, cC, bP, cD, cP, dY, cS, dM, qh, qi, qj, fu, qk, EI, EH, EJ, EK, nU, nV, EL, k6, nm, seval] <;> rfl) | rfl) ?_
    obtain rfl := kF _ h
    refine cm ?_ ?_
    ·simp only [tre, an, mqr, Bool.and_self]
    ·first | (simp only [outV, uw, cw, lI, ln, cr, tyf, mqt, nrm, aq, m3, j6, lH, gE, qQ, fh, cC, bP, cD, cP, dY, cS, dM, qh, qi, qj, fu, qk, EI, EH, EJ, EK, nU, nV, EL, k6, nm, seval] <;> rfl) | rfl
   try simp only [vz, mq, mqm, tyf, mqt, m3, j6, lH, gE, qQ, fh, cC, bP, cD, cP, dY, cS, dM, qh, qi, qj, fu, qk, k6, nm, seval]
   refine bO (x := (.agg ((cGLs ae) ++ (cGLx aY) ++ [.lit (.int .i64 bH)] ++ [.mp 6] ++ [.lit (.slice none 0 0)]))) (by first | (simp only [results71, resV, resL, aw, cn, cq, uw, cr, tyf, mqt, m3, j6, lH, gE, qQ, fh, cC, bP, cD, cP, dY, cS, dM, qh, qi, qj, fu, qk, k6, nm, seval] <;> rfl) | rfl) ?_
   obtain rfl := kF _ h
   refine cm ?_ ?_
   ·simp only [tre, an, mqr, Bool.and_self]
   ·first | (simp only [outV, uw, cw, lI, ln, cr, tyf, mqt, nrm, aq, m3, j6, lH, gE, qQ, fh, cC, bP, cD, cP, dY, cS, dM, qh, qi, qj, fu, qk, k6, nm, seval] <;> rfl) | rfl
  | cons dD qg =>
   have lJ : (decide (bm < (List.length ae.Words : Int))) = true := gZ kz mW
   have ie := fA kz mW
   have mX := hC kz mW gE
   simp only [sk, hs, reduceCtorEq] at h
   obtain ⟨R2, Vs, h⟩ := optI h tB
   try simp only [hs] at h
   simp only [vz, mq, mqm, tyf, mqt, m3, j6, lH, gE, qQ, fh, cC, bP, cD, cP, dY, cS, dM, qh, qi, qj, fu, qk, lJ, (aF ie), mX, nm, seval]
   refine ktree (args0 := [.sl (ad eI aY.Out) (List.length aY.Out) false, .lit (.int .i64 bm)]) (by first | (simp only [nrm, aq, mqr] <;> rfl) | rfl) (by simp only [tre, an, mqr, Bool.and_self]) (R3 _ _ _ Vs) ?_
   refine bQ (fun tm => tm 3 = .ptr 0 0 ∧ tm 4 = .ptr 1 0 ∧ tm 6 = .ptr 2 0 ∧ tm 7 = .ptr 8 0 ∧ tm 10 = .lit (.int .i64 gY) ∧ tm 11 = .lit (.int .i64 bm) ∧ tm 40 = .lit (.int .i64 (List.length ae.Words : Int)) ∧ tm 41 = .lit (.int .i64 bm) ∧ tm 47 = .lit (.bool R2) ∧ True) (by refine ⟨cC, bP, cD, cP, cS, ?_, dY, dM, ?_, trivial⟩ <;> first | (simp only [ua, dW, j6, lH, qQ, fh, cC, bP, cD, cP, dY, cS, dM, qh, qi, qj, fu, qk, lJ, mX, nm, seval] <;> rfl) | rfl) ?_
   rintro tm ⟨k7, lK, oB, ka, k8, lL, wq, yh, C7, _⟩
   have nW := qZj m3 (qZj j6 (qZj lH (qZj gE (qZj qQ (qZj fh (qZj qh (qZj qi (qZj qj (qZj fu (qZj qk (qZj lJ mX)))))))))))
   cases gF : (R2)
   ·simp only [gF, hs] at h
    cases ql : (lenOk dD.Signs)
    ·simp only [ql, hs] at h
     exact absurd h tB
    simp only [ql, hs] at h
    simp only [vz, mq, mqm, tyf, mqt, nW, (aF ie), k7, lK, oB, ka, k8, lL, wq, yh, C7, gF, ql, nm, seval]
    obtain ⟨Vt, h, Vu, EM, Vv, mY⟩ := iy h tB
    obtain ⟨Vw, EN, h⟩ := call4 h
    obtain ⟨Vy, mZ⟩ : ∃ I : Nat → St → Prop, I = (fun m st => ∃ (m4 : List Int) (bG : Int) (bz : Int) (cv : List Glm) (k9 : VV), m = List.length m4 ∧ 0 ≤ bG ∧ List.drop (Int.toNat bG) dD.Signs = m4 ∧ st.df = [] ∧ iK + 23 ≤ st.nx ∧ st.H 0 = some (.cells (some 28) (cGLs ae)) ∧ st.H 1 = some (.cells (some 31) (cGLx aY)) ∧ st.H 2 = some (.cells (some 93) ([.lit (.slice none 0 0)] ++ [.lit (.slice none 0 0)] ++ [.lit (.int .i64 0)] ++ [.lit (.int .i64 0)] ++ [.lit (.int .i64 0)] ++ [.lit (.int .i64 0)] ++ [.lit (.int .i64 0)] ++ [.lit (.slice none 0 0)] ++ [.lit (.int .i64 0)] ++ [.lit (.int .i64 0)] ++ [.lit (.slice none 0 0)] ++ [.lit (.slice none 0 0)] ++ [.lit (.int .i64 0)] ++ [.lit (.map none)] ++ [.lit (.slice none 0 0)])) ∧ st.H 6 = some (.map (encM dx f8 gp)) ∧ st.H 8 = some (.cells (some 93) ((cGLs ae) ++ (cGLx aY) ++ [.lit (.int .i64 bH)] ++ [.mp 6] ++ [k9])) ∧ st.tm 3 = .ptr 0 0 ∧ st.tm 4 = .ptr 1 0 ∧ st.tm 6 = .ptr 2 0 ∧ st.tm 7 = .ptr 8 0 ∧ st.tm 11 = .lit (.int .i64 bm) ∧ st.tm 12 = .lit (.int .i64 (List.length dD.Signs : Int)) ∧ st.tm 40 = .lit (.int .i64 (List.length ae.Words : Int)) ∧ st.tm 41 = .lit (.int .i64 bm) ∧ st.tm 60 = .sl (ad eI dD.Signs) (List.length dD.Signs) false ∧ st.tm 61 = .lit (.int .i64 (List.length dD.Signs : Int)) ∧ st.tm 10 = .lit (.int .i64 bz) ∧ st.tm 62 = .lit (.int .i64 bG) ∧ ((∃ (β : Nat) (el : Option TypeId), k9 = .ref β 0 (List.length cv) 4 (List.length cv) ∧ β < st.nx ∧ β ≠ 0 ∧ β ≠ 1 ∧ β ≠ 2 ∧ β ≠ 6 ∧ β ≠ 8 ∧ st.H β = some (.cells el (ad cGlm cv))) ∨ (k9 = .lit (.slice none 0 0) ∧ cv = [])) ∧ Vt (Vw m4 bG bz cv)) := ⟨_, rfl⟩
    refine loopK mixed (by kernel_rfl) Vy (List.length dD.Signs) (by rw [mZ]; refine ⟨dD.Signs, 0, gY, ej, j7, rfl, qZf _, rfl, rfl, (show iK + 23 ≤ iK + 23 by omega), ?_, ?_, ?_, ?_, ?_, k7, lK, oB, ka, lL, ?_, wq, yh, ?_, ?_, k8, ?_, (match jG with | Or.inl ⟨β0, m5, nd, gR, oC, kc, tE, lM, tF, kE⟩ => Or.inl ⟨β0, m5, nd, (by first | assumption | omega | (simp only [nm, seval]; done) | (simp only [nm, seval]; omega)), (by first | assumption | omega | (simp only [nm, seval]; done) | (simp only [nm, seval]; omega)), (by first | assumption | omega | (simp only [nm, seval]; done) | (simp only [nm, seval]; omega)), (by first | assumption | omega | (simp only [nm, seval]; done) | (simp only [nm, seval]; omega)), (by first | assumption | omega | (simp only [nm, seval]; done) | (simp only [nm, seval]; omega)), (by first | assumption | omega | (simp only [nm, seval]; done) | (simp only [nm, seval]; omega)), (by first | exact kE | (simp only [aQ, bp, jH gR, ne_f oC, ne_f kc, ne_f tE, ne_f lM, ne_f tF, nm, seval]; exact kE))⟩ | Or.inr lN => Or.inr lN), h⟩ <;> first | (simp only [ua, dW, nW, k7, lK, oB, ka, k8, lL, wq, yh, C7, gF, nm, seval] <;> rfl) | rfl) ?_
    rintro m ⟨tm, H, fN, df⟩ ba
    rw [mZ] at ba
    obtain ⟨m4, bG, bz, cv, k9, rfl, gq, iL, hdf, EO, tG, tH, tI, tJ, tK, ga, gG, ig, ij, fB, fC, gb, gu, gv, fv, fO, iz, lO, h⟩ := ba
    simp only at hdf EO tG tH tI tJ tK ga gG ig ij fB fC gb gu gv fv fO iz lO
    have wt := ib (m := 14) (b := fN) (by omega)
    have wu := wo (a := jE) (m := 6) (b := fN) (by omega)
    have wv := wo (a := iK) (m := 23) (b := fN) (by omega)
    subst hdf EN
    cases m4 with
    | nil =>
     have ke : (decide (bG < (List.length dD.Signs : Int))) = false := ic gq iL
     simp only [qO, hs, reduceCtorEq] at h
     replace h := EM _ h
     try dsimp only at h
     try simp only [hs] at h
     simp only [vz, mq, mqm, tyf, mqt, nW, (aF ie), gF, ql, wt, wu, wv, ga, gG, ig, ij, fB, fC, gb, gu, gv, fv, fO, iz, tG, tH, tI, tJ, tK, ke, nm, seval]
     exact ⟨List.length qg, qZc _, by rw [qP]; refine ⟨qg, bm + 1, bz, cv, k9, rfl, qZl kz (qZk (qZf _)), dm kz mW, rfl, (show jE + 6 ≤ fN + 3 by omega), ?_, ?_, ?_, ?_, ?_, ga, gG, ig, ij, gb, fO, ?_, (match lO with | Or.inl ⟨β0, m5, nd, gR, oC, kc, tE, lM, tF, kE⟩ => Or.inl ⟨β0, m5, nd, (by first | assumption | omega | (simp only [nm, seval]; done) | (simp only [nm, seval]; omega)), (by first | assumption | omega | (simp only [nm, seval]; done) | (simp only [nm, seval]; omega)), (by first | assumption | omega | (simp only [nm, seval]; done) | (simp only [nm, seval]; omega)), (by first | assumption | omega | (simp only [nm, seval]; done) | (simp only [nm, seval]; omega)), (by first | assumption | omega | (simp only [nm, seval]; done) | (simp only [nm, seval]; omega)), (by first | assumption | omega | (simp only [nm, seval]; done) | (simp only [nm, seval]; omega)), (by first | exact kE | (simp only [aQ, bp, jH gR, ne_f oC, ne_f kc, ne_f tE, ne_f lM, ne_f tF, nm, seval]; exact kE))⟩ | Or.inr lN => Or.inr lN), (by first | exact h | (simp only [nW, gF, ke]; exact h))⟩ <;> first | (simp only [ua, dW, nW, gF, wt, wu, wv, ga, gG, ig, ij, fB, fC, gb, gu, gv, fv, fO, iz, tG, tH, tI, tJ, tK, ke, nm, seval] <;> rfl) | rfl⟩
    | cons fF m4 =>
     rcases lO with ⟨R4, jI, rfl, EP, ES, ET, EU, EV, EW, R5⟩ | ⟨rfl, rfl⟩
     ·have R6 := jH EP
      have R7 := ne_f ES
      have R8 := ne_f ET
      have R9 := ne_f EU
      have RA := ne_f EV
      have RB := ne_f EW
      have yi : (decide (bG < (List.length dD.Signs : Int))) = true := gZ gq iL
      have ji := fA gq iL
      have yj := hC gq iL ql
      simp only [qO, hs, reduceCtorEq] at h
      obtain ⟨yk, kG, h⟩ := optI h mY
      try simp only [hs] at h
      cases qR : (yk.Word == bm && (yk.Letters == (bG + 1)))
      ·simp only [qR, hs] at h
       have hO := qZj nW (qZj gF (qZj ql (qZj wt (qZj wu (qZj wv (qZj tG (qZj tH (qZj tI (qZj tJ (qZj tK (qZj R6 (qZj R5 (qZj R7 (qZj R8 (qZj R9 (qZj RA (qZj RB (qZj yi (qZj yj qR)))))))))))))))))))
       cases lP : (ar 32 (List.length (cv ++ [(Glm.mk bm fF bz false)])))
       ·simp only [lP, hs] at h
        exact absurd h mY
       simp only [lP, hs] at h
       simp only [vz, mq, mqm, tyf, mqt, hO, (aF ie), ga, gG, ig, ij, fB, fC, gb, gu, gv, fv, fO, iz, (ai ji), (bS kG), lP, nm, seval]
       refine k_app (w := 4) (enc := cGlm) (xs := cv) (ys := ([(Glm.mk bm fF bz false)])) (el := jI) (fx := (some 144)) (fun _ => rfl) qS qT underlying91 (by first | rfl | assumption | (simp only [aQ, bp, lQ, hO, nm, seval] <;> rfl) | (simp only [aQ, bp, cY, cT, cW, cX, tyf, mqt, hO, (aF ie), ga, gG, ig, ij, fB, fC, gb, gu, gv, fv, fO, iz, (ai ji), (bS kG), lP, nm, seval]; done)) (by first | rfl | assumption | (simp only [aQ, bp, lQ, hO, nm, seval] <;> rfl) | (simp only [aQ, bp, cY, cT, cW, cX, tyf, mqt, hO, (aF ie), ga, gG, ig, ij, fB, fC, gb, gu, gv, fv, fO, iz, (ai ji), (bS kG), lP, nm, seval]; done)) (qZm _) lP ?_
       simp only [vz, mq, mqm, tyf, mqt, hO, (aF ie), ga, gG, ig, ij, fB, fC, gb, gu, gv, fv, fO, iz, (ai ji), (bS kG), lP, nm, seval]
       exact ⟨List.length m4, qZc _, by rw [mZ]; refine ⟨m4, bG + 1, bz, (cv ++ [(Glm.mk bm fF bz false)]), .ref (fN + 31) 0 (List.length (cv ++ [(Glm.mk bm fF bz false)])) 4 (List.length (cv ++ [(Glm.mk bm fF bz false)])), rfl, qZl gq (qZk (qZf _)), dm gq iL, rfl, (show iK + 23 ≤ fN + 37 by omega), ?_, ?_, ?_, ?_, ?_, ga, gG, ig, ij, fB, fC, gb, gu, gv, fv, fO, ?_, Or.inl ⟨fN + 31, (sameEl jI 144), rfl, (by first | omega | (simp only [nm, seval]; done) | (simp only [nm, seval]; omega)), (by first | omega | (intro hh; simp only [hO, reduceCtorEq] at hh)), (by first | omega | (intro hh; simp only [hO, reduceCtorEq] at hh)), (by first | omega | (intro hh; simp only [hO, reduceCtorEq] at hh)), (by first | omega | (intro hh; simp only [hO, reduceCtorEq] at hh)), (by first | omega | (intro hh; simp only [hO, reduceCtorEq] at hh)), ?_⟩, (by first | exact h | (simp only [hO]; exact h))⟩ <;> first | (simp only [ua, dW, hO, ga, gG, ig, ij, fB, fC, gb, gu, gv, fv, fO, iz, nm, seval] <;> rfl) | rfl⟩
      simp only [qR, hs] at h
      have hP := qZj nW (qZj gF (qZj ql (qZj wt (qZj wu (qZj wv (qZj tG (qZj tH (qZj tI (qZj tJ (qZj tK (qZj R6 (qZj R5 (qZj R7 (qZj R8 (qZj R9 (qZj RA (qZj RB (qZj yi (qZj yj qR)))))))))))))))))))
      cases lR : (ar 32 (List.length (cv ++ [(Glm.mk bm fF bz (decide ((bG + 1) < (List.length dD.Signs : Int))))])))
      ·simp only [lR, hs] at h
       exact absurd h mY
      simp only [lR, hs] at h
      simp only [vz, mq, mqm, tyf, mqt, hP, (aF ie), ga, gG, ig, ij, fB, fC, gb, gu, gv, fv, fO, iz, (ai ji), (bS kG), lR, nm, seval]
      refine k_app (w := 4) (enc := cGlm) (xs := cv) (ys := ([(Glm.mk bm fF bz (decide ((bG + 1) < (List.length dD.Signs : Int))))])) (el := jI) (fx := (some 144)) (fun _ => rfl) qS qT underlying91 (by first | rfl | assumption | (simp only [aQ, bp, lQ, hP, nm, seval] <;> rfl) | (simp only [aQ, bp, cY, cT, cW, cX, tyf, mqt, hP, (aF ie), ga, gG, ig, ij, fB, fC, gb, gu, gv, fv, fO, iz, (ai ji), (bS kG), lR, nm, seval]; done)) (by first | rfl | assumption | (simp only [aQ, bp, lQ, hP, nm, seval] <;> rfl) | (simp only [aQ, bp, cY, cT, cW, cX, tyf, mqt, hP, (aF ie), ga, gG, ig, ij, fB, fC, gb, gu, gv, fv, fO, iz, (ai ji), (bS kG), lR, nm, seval]; done)) (qZm _) lR ?_
      simp only [vz, mq, mqm, tyf, mqt, hP, (aF ie), ga, gG, ig, ij, fB, fC, gb, gu, gv, fv, fO, iz, (ai ji), (bS kG), lR, nm, seval]
      exact ⟨List.length m4, qZc _, by rw [mZ]; refine ⟨m4, bG + 1, i64.wrap (bz + 1), (cv ++ [(Glm.mk bm fF bz (decide ((bG + 1) < (List.length dD.Signs : Int))))]), .ref (fN + 31) 0 (List.length (cv ++ [(Glm.mk bm fF bz (decide ((bG + 1) < (List.length dD.Signs : Int))))])) 4 (List.length (cv ++ [(Glm.mk bm fF bz (decide ((bG + 1) < (List.length dD.Signs : Int))))])), rfl, qZl gq (qZk (qZf _)), dm gq iL, rfl, (show iK + 23 ≤ fN + 40 by omega), ?_, ?_, ?_, ?_, ?_, ga, gG, ig, ij, fB, fC, gb, gu, gv, fv, ?_, ?_, Or.inl ⟨fN + 31, (sameEl jI 144), rfl, (by first | omega | (simp only [nm, seval]; done) | (simp only [nm, seval]; omega)), (by first | omega | (intro hh; simp only [hP, reduceCtorEq] at hh)), (by first | omega | (intro hh; simp only [hP, reduceCtorEq] at hh)), (by first | omega | (intro hh; simp only [hP, reduceCtorEq] at hh)), (by first | omega | (intro hh; simp only [hP, reduceCtorEq] at hh)), (by first | omega | (intro hh; simp only [hP, reduceCtorEq] at hh)), ?_⟩, (by first | exact h | (simp only [hP]; exact h))⟩ <;> first | (simp only [ua, dW, hP, ga, gG, ig, ij, fB, fC, gb, gu, gv, fv, fO, iz, nm, seval] <;> rfl) | rfl⟩
     have ym : (decide (bG < (List.length dD.Signs : Int))) = true := gZ gq iL
     have nf := fA gq iL
     have yn := hC gq iL ql
     simp only [qO, hs, reduceCtorEq] at h
     obtain ⟨yo, ng, h⟩ := optI h mY
     try simp only [hs] at h
     cases qU : (yo.Word == bm && (yo.Letters == (bG + 1)))
     ·simp only [qU, hs] at h
      have iM := qZj nW (qZj gF (qZj ql (qZj wt (qZj wu (qZj wv (qZj tG (qZj tH (qZj tI (qZj tJ (qZj tK (qZj ym (qZj yn qU))))))))))))
      cases nh : (ar 32 (List.length (([] : List Glm) ++ [(Glm.mk bm fF bz false)])))
      ·simp only [nh, hs] at h
       exact absurd h mY
      simp only [nh, hs] at h
      simp only [vz, mq, mqm, tyf, mqt, iM, (aF ie), ga, gG, ig, ij, fB, fC, gb, gu, gv, fv, fO, iz, (ai nf), (bS ng), nh, nm, seval]
      refine ni (w := 4) (enc := cGlm) (ys := ([(Glm.mk bm fF bz false)])) (fx := (some 144)) (fun _ => rfl) qS qT underlying91 (by first | rfl | assumption | (simp only [aQ, bp, lQ, iM, nm, seval] <;> rfl) | (simp only [aQ, bp, cY, cT, cW, cX, tyf, mqt, iM, (aF ie), ga, gG, ig, ij, fB, fC, gb, gu, gv, fv, fO, iz, (ai nf), (bS ng), nh, nm, seval]; done)) (qZm _) nh ?_
      simp only [vz, mq, mqm, tyf, mqt, iM, (aF ie), ga, gG, ig, ij, fB, fC, gb, gu, gv, fv, fO, iz, (ai nf), (bS ng), nh, nm, seval]
      exact ⟨List.length m4, qZc _, by rw [mZ]; refine ⟨m4, bG + 1, bz, (([] : List Glm) ++ [(Glm.mk bm fF bz false)]), .ref (fN + 31) 0 (List.length (([] : List Glm) ++ [(Glm.mk bm fF bz false)])) 4 (List.length (([] : List Glm) ++ [(Glm.mk bm fF bz false)])), rfl, qZl gq (qZk (qZf _)), dm gq iL, rfl, (show iK + 23 ≤ fN + 37 by omega), ?_, ?_, ?_, ?_, ?_, ga, gG, ig, ij, fB, fC, gb, gu, gv, fv, fO, ?_, Or.inl ⟨fN + 31, (some 144), rfl, (by first | omega | (simp only [nm, seval]; done) | (simp only [nm, seval]; omega)), (by first | omega | (intro hh; simp only [iM, reduceCtorEq] at hh)), (by first | omega | (intro hh; simp only [iM, reduceCtorEq] at hh)), (by first | omega | (intro hh; simp only [iM, reduceCtorEq] at hh)), (by first | omega | (intro hh; simp only [iM, reduceCtorEq] at hh)), (by first | omega | (intro hh; simp only [iM, reduceCtorEq] at hh)), ?_⟩, (by first | exact h | (simp only [iM]; exact h))⟩ <;> first | (simp only [ua, dW, iM, ga, gG, ig, ij, fB, fC, gb, gu, gv, fv, fO, iz, nm, seval] <;> rfl) | rfl⟩
     simp only [qU, hs] at h
     have iN := qZj nW (qZj gF (qZj ql (qZj wt (qZj wu (qZj wv (qZj tG (qZj tH (qZj tI (qZj tJ (qZj tK (qZj ym (qZj yn qU))))))))))))
     cases nj : (ar 32 (List.length (([] : List Glm) ++ [(Glm.mk bm fF bz (decide ((bG + 1) < (List.length dD.Signs : Int))))])))
     ·simp only [nj, hs] at h
      exact absurd h mY
     simp only [nj, hs] at h
     simp only [vz, mq, mqm, tyf, mqt, iN, (aF ie), ga, gG, ig, ij, fB, fC, gb, gu, gv, fv, fO, iz, (ai nf), (bS ng), nj, nm, seval]
     refine ni (w := 4) (enc := cGlm) (ys := ([(Glm.mk bm fF bz (decide ((bG + 1) < (List.length dD.Signs : Int))))])) (fx := (some 144)) (fun _ => rfl) qS qT underlying91 (by first | rfl | assumption | (simp only [aQ, bp, lQ, iN, nm, seval] <;> rfl) | (simp only [aQ, bp, cY, cT, cW, cX, tyf, mqt, iN, (aF ie), ga, gG, ig, ij, fB, fC, gb, gu, gv, fv, fO, iz, (ai nf), (bS ng), nj, nm, seval]; done)) (qZm _) nj ?_
     simp only [vz, mq, mqm, tyf, mqt, iN, (aF ie), ga, gG, ig, ij, fB, fC, gb, gu, gv, fv, fO, iz, (ai nf), (bS ng), nj, nm, seval]
     exact ⟨List.length m4, qZc _, by rw [mZ]; refine ⟨m4, bG + 1, i64.wrap (bz + 1), (([] : List Glm) ++ [(Glm.mk bm fF bz (decide ((bG + 1) < (List.length dD.Signs : Int))))]), .ref (fN + 31) 0 (List.length (([] : List Glm) ++ [(Glm.mk bm fF bz (decide ((bG + 1) < (List.length dD.Signs : Int))))])) 4 (List.length (([] : List Glm) ++ [(Glm.mk bm fF bz (decide ((bG + 1) < (List.length dD.Signs : Int))))])), rfl, qZl gq (qZk (qZf _)), dm gq iL, rfl, (show iK + 23 ≤ fN + 40 by omega), ?_, ?_, ?_, ?_, ?_, ga, gG, ig, ij, fB, fC, gb, gu, gv, fv, ?_, ?_, Or.inl ⟨fN + 31, (some 144), rfl, (by first | omega | (simp only [nm, seval]; done) | (simp only [nm, seval]; omega)), (by first | omega | (intro hh; simp only [iN, reduceCtorEq] at hh)), (by first | omega | (intro hh; simp only [iN, reduceCtorEq] at hh)), (by first | omega | (intro hh; simp only [iN, reduceCtorEq] at hh)), (by first | omega | (intro hh; simp only [iN, reduceCtorEq] at hh)), (by first | omega | (intro hh; simp only [iN, reduceCtorEq] at hh)), ?_⟩, (by first | exact h | (simp only [iN]; exact h))⟩ <;> first | (simp only [ua, dW, iN, ga, gG, ig, ij, fB, fC, gb, gu, gv, fv, fO, iz, nm, seval] <;> rfl) | rfl⟩
   simp only [gF, hs] at h
   simp only [vz, mq, mqm, tyf, mqt, nW, (aF ie), k7, lK, oB, ka, k8, lL, wq, yh, C7, gF, nm, seval]
   exact ⟨List.length qg, qZc _, by rw [qP]; refine ⟨qg, bm + 1, gY, ej, j7, rfl, qZl kz (qZk (qZf _)), dm kz mW, rfl, (show jE + 6 ≤ iK + 9 by omega), ?_, ?_, ?_, ?_, ?_, k7, lK, oB, ka, wq, k8, ?_, (match jG with | Or.inl ⟨β0, m5, nd, gR, oC, kc, tE, lM, tF, kE⟩ => Or.inl ⟨β0, m5, nd, (by first | assumption | omega | (simp only [nm, seval]; done) | (simp only [nm, seval]; omega)), (by first | assumption | omega | (simp only [nm, seval]; done) | (simp only [nm, seval]; omega)), (by first | assumption | omega | (simp only [nm, seval]; done) | (simp only [nm, seval]; omega)), (by first | assumption | omega | (simp only [nm, seval]; done) | (simp only [nm, seval]; omega)), (by first | assumption | omega | (simp only [nm, seval]; done) | (simp only [nm, seval]; omega)), (by first | assumption | omega | (simp only [nm, seval]; done) | (simp only [nm, seval]; omega)), (by first | exact kE | (simp only [aQ, bp, jH gR, ne_f oC, ne_f kc, ne_f tE, ne_f lM, ne_f tF, nm, seval]; exact kE))⟩ | Or.inr lN => Or.inr lN), (by first | exact h | (simp only [nW, gF]; exact h))⟩ <;> first | (simp only [ua, dW, nW, k7, lK, oB, ka, k8, lL, wq, yh, C7, gF, nm, seval] <;> rfl) | rfl⟩
 | cons bN sm =>
  have tL : (decide (fz < (List.length ae.Pairs : Int))) = true := gZ mV oA
  have EX := fA mV oA
  have yp := hC mV oA m3
  simp only [wm, hs, reduceCtorEq] at h
  have tM := fun H => EY (β := 6) gp (Glp.mk bN.Left bN.Right) bN.Space H
  try simp only [dW] at tM
  simp only [vz, mq, mqm, tyf, mqt, m3, j6, dL, fM, dy, dX, dj, cK, dk, ye, jZ, jg, yf, jF, tL, (cL EX), yp, tM, nm, seval]
  exact ⟨List.length sm, qZc _, by rw [tA]; refine ⟨sm, fz + 1, (mapSet dQ gp (Glp.mk bN.Left bN.Right) bN.Space), rfl, qZl mV (qZk (qZf _)), dm mV oA, rfl, (show 14 ≤ jE + 17 by omega), ?_, ?_, ?_, ?_, ?_, dL, fM, dy, dX, dj, cK, ?_, (by first | exact h | (simp only [tL]; exact h))⟩ <;> first | (simp only [ua, dW, j6, dL, fM, dy, dX, dj, cK, dk, ye, jZ, jg, yf, jF, tL, yp, tM, nm, seval] <;> rfl) | rfl⟩
end Go.V
end
section
namespace Go.V
open Go Go.Proofs IntKind Tryz
section
variable {K V : Type} {q : K → K → Bool} {z : V}
def getR (q : K → K → Bool) (z : V) (k : K) : List (K × V) → V
 | [] => z
 | e :: l => if q k e.1 then e.2 else getR q z k l
def setR (q : K → K → Bool) (k : K) (v : V) : List (K × V) → List (K × V)
 | [] => [(k, v)]
 | e :: l => if q k e.1 then (k, v) :: l else e :: setR q k v l
theorem C8 (k : K) : ∀ (es : List K) (i : Nat), kIdx q k es (i + 1) = (kIdx q k es i).map (· + 1)
 | [], _ => rfl
 | e :: es, i => by
  unfold kIdx
  cases q k e with
  | true => rfl
  | false => exact C8 k es (i + 1)
theorem EZ (k : K) : ∀ l : List (K × V), mapGet q z l k = getR q z k l
 | [] => rfl
 | e :: l => by
  have ih := EZ k l
  unfold mapGet at ih ⊢
  rw [List.map_cons]
  unfold kIdx getR
  cases hq : q k e.1 with
  | true => rfl
  | false =>
   simp only [cond_false, Bool.false_eq_true, if_false]
   rw [C8]
   cases h : kIdx q k (l.map (·.1)) 0 with
   | none => rw [h] at ih; exact ih
   | some i => rw [h] at ih; simpa using ih
theorem C9 (k : K) (v : V) : ∀ l : List (K × V), mapSet q l k v = setR q k v l
 | [] => rfl
 | e :: l => by
  have ih := C9 k v l
  unfold mapSet at ih ⊢
  rw [List.map_cons]
  unfold kIdx setR
  cases hq : q k e.1 with
  | true => rfl
  | false =>
   simp only [cond_false, Bool.false_eq_true, if_false]
   rw [C8]
   cases h : kIdx q k (l.map (·.1)) 0 with
   | none => rw [h] at ih; simpa using ih
   | some i => rw [h] at ih; simpa using ih
theorem RC (hq : ∀ a b, q a b = true ↔ a = b) (k k' : K) (v : V) : ∀ l : List (K × V), getR q z k' (setR q k v l) = if q k' k then v else getR q z k' l
 | [] => rfl
 | e :: l => by
  have ih := RC hq k k' v l
  unfold setR
  cases he : q k e.1 with
  | true =>
   have e1 := (hq _ _).1 he
   simp only [if_true, getR, ← e1]
   split <;> rfl
  | false =>
   simp only [Bool.false_eq_true, if_false, getR, ih]
   cases h1 : q k' e.1 with
   | true =>
    have e1 := (hq _ _).1 h1
    have : q k' k = false := by
     cases h2 : q k' k with
     | false => rfl
     | true =>
      have e2 := (hq _ _).1 h2
      rw [e2] at e1
      rw [e1, (hq _ _).2 rfl] at he
      cases he
    rw [this]
    simp
   | false => simp
theorem Fa (hq : ∀ a b, q a b = true ↔ a = b) (k k' : K) (v : V) (l : List (K × V)) : mapGet q z (mapSet q l k v) k' = if q k' k then v else mapGet q z l k' := by
 rw [EZ, EZ, C9, RC hq]
end
end Go.V
end
section
namespace Go.V
open Go Go.Proofs IntKind Tryz
section
variable {K V : Type} {q : K → K → Bool} {z : V}
def hasR (q : K → K → Bool) (k : K) : List (K × V) → Bool
 | [] => false
 | e :: l => q k e.1 || hasR q k l
theorem Fb (k : K) : ∀ l : List (K × V), mapHas q l k = hasR q k l
 | [] => rfl
 | e :: l => by
  have ih := Fb k l
  unfold mapHas at ih ⊢
  rw [List.map_cons]
  unfold kIdx hasR
  cases hq : q k e.1 with
  | true => rfl
  | false =>
   simp only [cond_false, Bool.false_or]
   rw [C8, Option.isSome_map, ih]
theorem yq (hq : ∀ a b, q a b = true ↔ a = b) (k k' : K) (v : V) : ∀ l : List (K × V), hasR q k' (setR q k v l) = (q k' k || hasR q k' l)
 | [] => by simp [setR, hasR]
 | e :: l => by
  have ih := yq hq k k' v l
  unfold setR
  cases he : q k e.1 with
  | true =>
   have e1 := (hq _ _).1 he
   simp only [if_true, hasR, ← e1]
   cases q k' k <;> simp
  | false =>
   simp only [Bool.false_eq_true, if_false, hasR, ih]
   cases q k' e.1 <;> cases q k' k <;> simp
end
theorem CA (a b : Glp) : dQ a b = true ↔ a = b := ⟨sn a b, fun h => by rw [h]; exact tN b⟩
def lastP (l r : Int) : List GLp → Option GSpan → Option GSpan
 | [], a => a
 | p :: ps, a => lastP l r ps (if l = p.Left ∧ r = p.Right then some p.Space else a)
def MapOk (m : List (Glp × GSpan)) (A : Int → Int → Option GSpan) : Prop := ∀ l r, mapHas dQ m (Glp.mk l r) = (A l r).isSome ∧ ∀ v, A l r = some v → mapGet dQ (GSpan.mk 0 0) m (Glp.mk l r) = v
theorem yr : ∀ (ps : List GLp) (i : Int) (m : List (Glp × GSpan)) (A : Int → Int → Option GSpan), MapOk m A → ∃ m', wm ps i m = some (.go m') ∧ MapOk m' (fun l r => lastP l r ps (A l r))
 | [], i, m, A, h => ⟨m, rfl, h⟩
 | p :: ps, i, m, A, h => by
  simp only [wm]
  obtain ⟨m', h1, h2⟩ := yr ps (i + 1) (mapSet dQ m (Glp.mk p.Left p.Right) p.Space) (fun l r => if l = p.Left ∧ r = p.Right then some p.Space else A l r) (fun l r => by
   rw [Fb, C9, yq CA, ← Fb, (h l r).1, ← C9, Fa CA]
   by_cases hk : l = p.Left ∧ r = p.Right
   ·have : dQ (Glp.mk l r) (Glp.mk p.Left p.Right) = true := (CA _ _).2 (by rw [hk.1, hk.2])
    rw [this]
    simp only [if_pos hk]
    simp
   ·have : dQ (Glp.mk l r) (Glp.mk p.Left p.Right) = false := by
     cases hh : dQ (Glp.mk l r) (Glp.mk p.Left p.Right) with
     | false => rfl
     | true =>
      have := (CA _ _).1 hh
      simp only [Glp.mk.injEq] at this
      exact absurd this hk
    rw [this]
    simp only [if_neg hk]
    simpa using (h l r).2)
  exact ⟨m', h1, h2⟩
abbrev FL := GLe × Int × Bool
def letW (i : Int) (al : Int) : List Int → Int → List FL
 | [], _ => []
 | c :: cs, k => (GLe.mk i (k + 1), c, decide (k + 1 < al)) :: letW i al cs (k + 1)
def ltrsL (out : List Int) : List GLw → Int → List FL
 | [], _ => []
 | w :: ws, i => cond (out.contains i) (ltrsL out ws (i + 1)) (letW i (w.Signs.length : Int) w.Signs 0 ++ ltrsL out ws (i + 1))
def AL : List GLe → List FL → Prop
 | [], [] => True
 | [], _ :: _ => False
 | _ :: _, [] => False
 | e :: es, f :: fl => if e = f.1 then AL es fl else AL (e :: es) fl
def mkS : List GLe → List FL → Int → List Glm × List GLe × Int
 | es, [], r => ([], es, r)
 | [], _ :: _, r => ([], [], r)
 | e :: es, f :: fl, r => if e = f.1 then (Glm.mk f.1.Word f.2.1 r f.2.2 :: (mkS es fl (r + 1)).1, (mkS es fl (r + 1)).2) else (Glm.mk f.1.Word f.2.1 r false :: (mkS (e :: es) fl r).1, (mkS (e :: es) fl r).2)
theorem roomOk32 {n : Nat} (h : n ≤ 1000) : ar 32 n = true := by simp [ar]; omega
theorem tO (x : GLx) (hl : x.Ends.length < 1000000) (i : Int) (w : GLw) : ∀ (cs : List Int) (k r : Int) (acc : List Glm) (es : List GLe) (fl : List FL), 0 ≤ k → k + cs.length ≤ 1000 → 0 ≤ r → r + es.length = x.Ends.length → x.Ends.drop r.toNat = es → AL es (letW i (w.Signs.length : Int) cs k ++ fl) → acc.length + cs.length ≤ 1000 →
  qO x i w cs k r acc = some (.go ((mkS es (letW i (w.Signs.length : Int) cs k) r).2.2, acc ++ (mkS es (letW i (w.Signs.length : Int) cs k) r).1)) ∧ AL (mkS es (letW i (w.Signs.length : Int) cs k) r).2.1 fl ∧ 0 ≤ (mkS es (letW i (w.Signs.length : Int) cs k) r).2.2 ∧ (mkS es (letW i (w.Signs.length : Int) cs k) r).2.2 + (mkS es (letW i (w.Signs.length : Int) cs k) r).2.1.length = x.Ends.length ∧ x.Ends.drop (mkS es (letW i (w.Signs.length : Int) cs k) r).2.2.toNat = (mkS es (letW i (w.Signs.length : Int) cs k) r).2.1 ∧ (mkS es (letW i (w.Signs.length : Int) cs k) r).1.length = cs.length
 | [], k, r, acc, es, fl, _, _, h0, h1, h2, h3, _ => by
  cases es <;> exact ⟨by simp [qO, letW, mkS], h3, h0, h1, h2, rfl⟩
 | c :: cs, k, r, acc, es, fl, oD, hk, h0, h1, h2, h3, h4 => by
  simp only [List.length_cons] at h4 hk
  cases es with
  | nil => exact h3.elim
  | cons e es =>
   have hg : getI x.Ends r = some e := fA h0 h2
   simp only [List.length_cons] at h1
   simp only [qO, hg, Option.bind_some]
   rw [CB e (GLe.mk i (k + 1)), jJ (by omega) (by omega)]
   simp only [letW, List.cons_append] at h3 ⊢
   unfold AL at h3
   unfold mkS
   by_cases he : e = GLe.mk i (k + 1)
   ·simp only [he, if_true] at h3 ⊢
    simp only [decide_true, cond_true]
    rw [roomOk32 (by simp; omega), cond_true]
    obtain ⟨q1, q2, q3, q4, q5, q6⟩ := tO x hl i w cs (k + 1) (r + 1) (acc ++ [Glm.mk i c r (decide (k + 1 < (w.Signs.length : Int)))]) es fl (by omega) (by omega) (by omega) (by omega) (dm h0 h2) h3 (by simp; omega)
    refine ⟨?_, q2, q3, q4, q5, by simp [q6]⟩
    rw [q1]
    simp
   ·simp only [if_neg he] at h3 ⊢
    rw [decide_eq_false he, cond_false, roomOk32 (by simp; omega), cond_true]
    obtain ⟨q1, q2, q3, q4, q5, q6⟩ := tO x hl i w cs (k + 1) r (acc ++ [Glm.mk i c r false]) (e :: es) fl (by omega) (by omega) h0 (by simp only [List.length_cons]; omega) h2 h3 (by simp; omega)
    refine ⟨?_, q2, q3, q4, q5, by simp [q6]⟩
    rw [q1]
    simp
variable {es : List GLe} {fl : List FL}
theorem yu {e : GLe} {f : FL} {r : Int} (h : e = f.1) : mkS (e :: es) (f :: fl) r = (Glm.mk f.1.Word f.2.1 r f.2.2 :: (mkS es fl (r + 1)).1, (mkS es fl (r + 1)).2) := by
 rw [mkS, if_pos h]
theorem yv {e : GLe} {f : FL} {r : Int} (h : ¬ e = f.1) : mkS (e :: es) (f :: fl) r = (Glm.mk f.1.Word f.2.1 r false :: (mkS (e :: es) fl r).1, (mkS (e :: es) fl r).2) := by
 rw [mkS, if_neg h]
theorem tP : ∀ (a b : List FL) (es : List GLe) (r : Int), AL es (a ++ b) → (mkS es (a ++ b) r).1 = (mkS es a r).1 ++ (mkS (mkS es a r).2.1 b (mkS es a r).2.2).1 ∧ (mkS es (a ++ b) r).2 = (mkS (mkS es a r).2.1 b (mkS es a r).2.2).2
 | [], b, es, r, _ => by cases es <;> simp [mkS]
 | f :: a, b, [], r, h => h.elim
 | f :: a, b, e :: es, r, h => by
  rw [List.cons_append] at h ⊢
  unfold AL at h
  by_cases he : e = f.1
  ·rw [if_pos he] at h
   obtain ⟨h1, h2⟩ := tP a b es (r + 1) h
   rw [yu he, yu he]
   simp only [h1, h2, List.cons_append, and_self]
  ·rw [if_neg he] at h
   obtain ⟨h1, h2⟩ := tP a b (e :: es) r h
   rw [yv he, yv he]
   simp only [h1, h2, List.cons_append, and_self]
theorem yw (i al : Int) : ∀ (cs : List Int) (k : Int), (letW i al cs k).length = cs.length
 | [], _ => rfl
 | c :: cs, k => by simp [letW, yw i al cs]
theorem tQ (x : GLx) (ho : lenOk x.Out = true) (hl : x.Ends.length < 1000000) : ∀ (ws : List GLw) (i r : Int) (acc : List Glm) (es : List GLe), (∀ w ∈ ws, w.Signs.length ≤ 6) → 0 ≤ r → r + es.length = x.Ends.length → x.Ends.drop r.toNat = es → AL es (ltrsL x.Out ws i) → acc.length + 6 * ws.length ≤ 1000 →
  sk x ws i r acc = some (.go ((mkS es (ltrsL x.Out ws i) r).2.2, acc ++ (mkS es (ltrsL x.Out ws i) r).1))
 | [], i, r, acc, es, _, _, _, _, h3, _ => by
  cases es with
  | nil => simp [sk, ltrsL, mkS]
  | cons e es => exact h3.elim
 | w :: ws, i, r, acc, es, hw, h0, h1, h2, h3, h4 => by
  simp only [List.length_cons] at h4
  have CD := hw w (qZb ..)
  have RE : ∀ v ∈ ws, v.Signs.length ≤ 6 := fun v hv => hw v (qZa _ hv)
  simp only [sk, RF _ _ ho, Option.bind_some]
  unfold ltrsL at h3 ⊢
  cases hc : x.Out.contains i with
  | true =>
   rw [hc] at h3
   simp only [cond_true] at h3 ⊢
   exact tQ x ho hl ws (i + 1) r acc es RE h0 h1 h2 h3 (by omega)
  | false =>
   rw [hc] at h3
   simp only [cond_false] at h3 ⊢
   obtain ⟨q1, q2, q3, q4, q5, q6⟩ := tO x hl i w w.Signs 0 r acc es (ltrsL x.Out ws (i + 1)) (by omega) (by omega) h0 h1 h2 h3 (by omega)
   obtain ⟨a1, a2⟩ := tP _ _ es r h3
   rw [kH (by omega), cond_true, q1, my, tQ x ho hl ws (i + 1) _ _ _ RE q3 q4 q5 q2 (by simp only [List.length_append, q6]; omega), a1, a2]
   simp
theorem CE {i al : Int} {f : FL} : ∀ {cs : List Int} {k : Int}, f ∈ letW i al cs k → f.1.Word = i ∧ k + 1 ≤ f.1.Letters ∧ f.1.Letters ≤ k + cs.length ∧ f.2.1 ∈ cs ∧ f.2.2 = decide (f.1.Letters < al)
 | [], _, h => by cases h
 | c :: cs, k, h => by
  rcases List.mem_cons.1 h with rfl | h
  ·exact ⟨rfl, qZf _, by simp; omega, qZb .., rfl⟩
  ·obtain ⟨h1, h2, h3, h4, h5⟩ := CE h
   exact ⟨h1, by omega, by simp only [List.length_cons]; omega, qZa _ h4, h5⟩
theorem Fc {i al : Int} : ∀ (cs : List Int) (k : Int) (n : Int), k + 1 ≤ n → n ≤ k + cs.length → GLe.mk i n ∈ (letW i al cs k).map (·.1)
 | [], k, n, h1, h2 => by simp at h2; omega
 | c :: cs, k, n, h1, h2 => by
  simp only [List.length_cons] at h2
  simp only [letW, List.map_cons]
  by_cases h : n = k + 1
  ·rw [h]; exact qZb ..
  ·exact qZa _ (Fc cs (k + 1) n (by omega) (by omega))
theorem yx {i al : Int} : ∀ (cs : List Int) (k : Int), ((letW i al cs k).map (·.1)).Pairwise befE
 | [], _ => List.Pairwise.nil
 | c :: cs, k => by
  simp only [letW, List.map_cons, List.pairwise_cons]
  refine ⟨fun x hx => ?_, yx cs (k + 1)⟩
  obtain ⟨f, hf, rfl⟩ := List.mem_map.1 hx
  obtain ⟨h1, h2, _⟩ := CE hf
  exact .inr ⟨h1.symm, by show k + 1 < _; omega⟩
theorem CF {out : List Int} {f : FL} : ∀ {ws : List GLw} {i : Int}, f ∈ ltrsL out ws i → i ≤ f.1.Word ∧ ∃ w ∈ ws, f.2.1 ∈ w.Signs
 | [], _, h => by cases h
 | w :: ws, i, h => by
  unfold ltrsL at h
  cases hc : out.contains i with
  | true =>
   rw [hc, cond_true] at h
   obtain ⟨h1, v, h2, h3⟩ := CF h
   exact ⟨by omega, v, qZa _ h2, h3⟩
  | false =>
   rw [hc, cond_false] at h
   rcases List.mem_append.1 h with h | h
   ·obtain ⟨h1, _, _, h4, _⟩ := CE h
    exact ⟨by omega, w, qZb .., h4⟩
   ·obtain ⟨h1, v, h2, h3⟩ := CF h
    exact ⟨by omega, v, qZa _ h2, h3⟩
theorem tR (out : List Int) : ∀ (ws : List GLw) (i : Int), ((ltrsL out ws i).map (·.1)).Pairwise befE
 | [], _ => List.Pairwise.nil
 | w :: ws, i => by
  unfold ltrsL
  cases out.contains i with
  | true => exact tR out ws (i + 1)
  | false =>
   rw [cond_false, List.map_append, List.pairwise_append]
   refine ⟨yx _ _, tR out ws (i + 1), fun a ha b hb => ?_⟩
   obtain ⟨f, hf, rfl⟩ := List.mem_map.1 ha
   obtain ⟨g, hg, rfl⟩ := List.mem_map.1 hb
   have h1 := (CE hf).1
   have h2 := (CF hg).1
   left; omega
theorem yy (out : List Int) : ∀ (ws : List GLw) (i : Int), (∀ w ∈ ws, 1 ≤ w.Signs.length ∧ ∀ c ∈ w.Cuts, 1 ≤ c ∧ c < (w.Signs.length : Int)) → ∀ e ∈ possL out ws i, e ∈ (ltrsL out ws i).map (·.1)
 | [], _, _, e, he => by simp [possL] at he
 | w :: ws, i, h, e, he => by
  have hw := h w (qZb ..)
  have ih := yy out ws (i + 1) (fun v hv => h v (qZa _ hv)) e
  unfold possL at he
  unfold ltrsL
  cases hc : out.contains i with
  | true => rw [hc, cond_true] at he; exact ih he
  | false =>
   rw [hc, cond_false] at he
   rw [cond_false, List.map_append, List.mem_append]
   rcases List.mem_append.1 he with he | he
   ·left
    obtain ⟨h1, h2⟩ := CG.1 he
    obtain ⟨a, b⟩ := e
    subst h1
    rcases h2 with h2 | h2
    ·have := hw.2 _ h2
     exact Fc _ _ _ (by simp only at this ⊢; omega) (by simp only at this ⊢; omega)
    ·simp only at h2
     subst h2
     exact Fc _ _ _ (by omega) (by omega)
   ·exact .inr (ih he)
theorem yz (i al : Int) : ∀ (cs : List Int) (k : Int), cs ≠ [] → ((letW i al cs k).map (·.1)).getLast? = some (GLe.mk i (k + cs.length))
 | [], _, h => absurd rfl h
 | [c], k, _ => by simp [letW]
 | c :: d :: cs, k, _ => by
  have ih := yz i al (d :: cs) (k + 1) (by simp)
  rw [letW, List.map_cons, List.getLast?_cons, ih]
  simp only [List.length_cons, Option.getD_some, Option.some.injEq, GLe.mk.injEq, true_and]
  omega
theorem y8 (out : List Int) : ∀ (ws : List GLw) (i : Int), (∀ w ∈ ws, 1 ≤ w.Signs.length) → ((ltrsL out ws i).map (·.1)).getLast? = (possL out ws i).getLast?
 | [], _, _ => rfl
 | w :: ws, i, h => by
  have hw := h w (qZb ..)
  have ih := y8 out ws (i + 1) fun v hv => h v (qZa _ hv)
  unfold ltrsL possL
  cases out.contains i with
  | true => exact ih
  | false =>
   have hne : w.Signs ≠ [] := by intro h; rw [h] at hw; simp at hw
   simp only [cond_false, List.map_append, List.getLast?_append, ih, yz _ _ _ _ hne]
   congr 1
   simp [posW]
theorem AL_of : ∀ (es : List GLe) (fl : List FL), es.Pairwise befE → (fl.map (·.1)).Pairwise befE → (∀ e ∈ es, e ∈ fl.map (·.1)) → es.getLast? = (fl.map (·.1)).getLast? → AL es fl
 | [], [], _, _, _, _ => trivial
 | [], f :: fl, _, _, _, h => by simp [List.getLast?_cons] at h
 | e :: es, [], _, _, h, _ => by have := h e (qZb ..); cases this
 | e :: es, f :: fl, h1, h2, h3, h4 => by
  rw [List.map_cons, List.pairwise_cons] at h2
  unfold AL
  by_cases he : e = f.1
  ·rw [if_pos he]
   rw [List.pairwise_cons] at h1
   refine AL_of es fl h1.2 h2.2 (fun x hx => ?_) ?_
   ·rcases List.mem_cons.1 (h3 x (qZa _ hx)) with h | h
    ·have := h1.1 x hx
     have h' : x = f.1 := h
     rw [h', ← he] at this
     exact absurd this nX
    ·exact h
   ·rw [List.map_cons, List.getLast?_cons, List.getLast?_cons, Option.some.injEq] at h4
    cases hp : es.getLast? with
    | none =>
     rw [hp] at h4
     cases hr : (fl.map (·.1)).getLast? with
     | none => rfl
     | some y =>
      rw [hr] at h4
      simp only [Option.getD_none, Option.getD_some] at h4
      have := h2.1 _ (List.mem_of_getLast? hr)
      rw [← h4, he] at this
      exact absurd this nX
    | some z =>
     rw [hp] at h4
     cases hr : (fl.map (·.1)).getLast? with
     | none =>
      rw [hr] at h4
      simp only [Option.getD_none, Option.getD_some] at h4
      have := h1.1 _ (List.mem_of_getLast? hp)
      rw [h4, he] at this
      exact absurd this nX
     | some y =>
      rw [hr] at h4
      simp only [Option.getD_some] at h4
      rw [h4]
  ·rw [if_neg he]
   have hbe : befE f.1 e := by
    rcases List.mem_cons.1 (h3 e (qZb ..)) with h | h
    ·exact absurd h he
    ·exact h2.1 e h
   refine AL_of (e :: es) fl h1 h2.2 (fun x hx => ?_) ?_
   ·rcases List.mem_cons.1 (h3 x hx) with h | h
    ·exfalso
     rcases List.mem_cons.1 hx with hx | hx
     ·exact he (by rw [← hx, h])
     ·have := (List.pairwise_cons.1 h1).1 x hx
      rw [h] at this
      exact nX (tS hbe this)
    ·exact h
   ·rw [h4, List.map_cons, List.getLast?_cons]
    cases hr : (fl.map (·.1)).getLast? with
    | none =>
     exfalso
     have := List.getLast?_eq_none_iff.1 hr
     rcases List.mem_cons.1 (h3 e (qZb ..)) with h | h
     ·exact he h
     ·rw [this] at h; cases h
    | some y => rfl
end Go.V
end
section
namespace Go.V
open Go Go.Proofs IntKind Tryz
section
variable {P : Program} {G : Gb} {γ : Nat} {tm : Nat → VV} {H : Nat → Option Vo} {α : Type} {enc : α → List VV} {z : α} {t e b : Nat} {n : Int} {v : Value} {x y : Operand} {d : Option Tmp} {ty : TypeId} {pos : String} {af : Array Edge} {g : Option (Nat × Bool)} {k : VV → Ve → Prop}
end
end Go.V
end
section
namespace Go.V
open Go Go.Proofs IntKind Tryz
def so (av : Gld) (dK : GSpan) : Option (Int) := some (i64.wrap (dK.Low + (i64.wrap (Int.tdiv (i64.wrap ((i64.wrap (dK.High - dK.Low)) * av.stretch)) 10))))
theorem CH (av : Gld) (dK : GSpan) (R : Int) (h : so av dK = some R) : ah prog G0 170 [.agg (cGld av), .agg (cGSpan dK)] (.tree (.lit (.int .i64 R))) := by
 refine ah.runR mixed call170 func170 rfl (by simp [ntmps170]; kernel_rfl) ?_
 obtain ⟨KF, h, kF, kN⟩ := fg h
 simp only [so] at h
 try simp only [vz, mq, mqm, qr, tyf, mqt, nm, seval]
 refine bO (x := (.lit (.int .i64 (i64.wrap (dK.Low + (i64.wrap (Int.tdiv (i64.wrap ((i64.wrap (dK.High - dK.Low)) * av.stretch)) 10))))))) (by first | (simp only [results170, resV, resL, aw, cn, cq, uw, cr, tyf, mqt, nm, seval] <;> rfl) | rfl) ?_
 obtain rfl := kF _ h
 refine cm ?_ ?_
 ·simp only [tre, an, mqr, Bool.and_self]
 ·first | (simp only [outV, uw, cw, lI, ln, cr, tyf, mqt, nrm, aq, nm, seval] <;> rfl) | rfl
def y9 (av : Gld) (aY : Int) : Option (Int) := Option.bind (getI av.marks aY) (fun x1 => cond (x1.hyphen) (Option.bind (so av av.ls.Other) (fun r2 => some r2)) (cond ((i64.wrap (aY + 1)) == (List.length av.marks : Int)) (some 0) (Option.bind (getI av.marks (i64.wrap (aY + 1))) (fun x3 => cond (x3.row != x1.row) (some 0) (cond (x3.word != x1.word) (Option.bind (so av av.ls.Gap) (fun r4 => some r4)) (cond (mapHas dQ av.spaces (Glp.mk x1.sign x3.sign)) (Option.bind (so av (mapGet dQ (GSpan.mk 0 0) av.spaces (Glp.mk x1.sign x3.sign))) (fun r5 => some r5)) (Option.bind (so av av.ls.Other) (fun r6 => some r6))))))))
theorem Vz (av : Gld) (aY : Int) (R : Int) (h : y9 av aY = some R) : ah prog G0 153 [.agg (cGld av), .lit (.int .i64 aY)] (.tree (.lit (.int .i64 R))) := by
 refine ah.runR mixed call153 func153 rfl (by simp [ntmps153]; kernel_rfl) ?_
 obtain ⟨KF, h, kF, kN⟩ := fg h
 simp only [y9] at h
 obtain ⟨x7, o8, h⟩ := optI h kN
 try simp only [hs] at h
 cases d9 : (x7.hyphen)
 ·simp only [d9, hs] at h
  cases dB : ((i64.wrap (aY + 1)) == (List.length av.marks : Int))
  ·simp only [dB, hs] at h
   obtain ⟨CI, jK, h⟩ := optI h kN
   try simp only [hs] at h
   cases cQ : (CI.row != x7.row)
   ·simp only [cQ, hs] at h
    cases cy : (CI.word != x7.word)
    ·simp only [cy, hs] at h
     cases dE : (mapHas dQ av.spaces (Glp.mk x7.sign CI.sign))
     ·simp only [dE, hs] at h
      obtain ⟨yA, Fe, h⟩ := optI h kN
      try simp only [hs] at h
      simp only [vz, mq, mqm, tyf, mqt, (bx o8), d9, dB, (bx jK), cQ, cy, dE, nm, seval]
      refine ktree (args0 := [.agg (cGld av), .agg (cGSpan av.ls.Other)]) (by first | (simp only [nrm, aq, tyf, mqt, d9, dB, cQ, cy, dE] <;> rfl) | rfl) (by simp only [tre, an, mqr, Bool.and_self]) (CH _ _ _ Fe) ?_
      refine bQ (fun tm => tm 67 = .lit (.int .i64 yA) ∧ True) (by refine ⟨?_, trivial⟩ <;> first | (simp only [ua, dW, d9, dB, cQ, cy, dE, nm, seval] <;> rfl) | rfl | (simp only [ua, dW, tyf, mqt, d9, dB, cQ, cy, dE, nm, seval] <;> rfl)) ?_
      rintro tm ⟨cM, _⟩
      try simp only [vz, mq, mqm, tyf, mqt, (bx o8), d9, dB, (bx jK), cQ, cy, dE, cM, nm, seval]
      refine bO (x := (.lit (.int .i64 yA))) (by first | (simp only [results153, resV, resL, aw, cn, cq, uw, cr, tyf, mqt, (bx o8), d9, dB, (bx jK), cQ, cy, dE, nm, seval] <;> rfl) | rfl) ?_
      obtain rfl := kF _ h
      refine cm ?_ ?_
      ·simp only [tre, an, mqr, Bool.and_self]
      ·first | (simp only [outV, uw, cw, lI, ln, cr, tyf, mqt, nrm, aq, (bx o8), d9, dB, (bx jK), cQ, cy, dE, cM, nm, seval] <;> rfl) | rfl
     simp only [dE, hs] at h
     obtain ⟨CJ, lp, h⟩ := optI h kN
     try simp only [hs] at h
     simp only [vz, mq, mqm, tyf, mqt, (bx o8), d9, dB, (bx jK), cQ, cy, dE, nm, seval]
     refine ktree (args0 := [.agg (cGld av), .agg (cGSpan (mapGet dQ (GSpan.mk 0 0) av.spaces (Glp.mk x7.sign CI.sign)))]) (by first | (simp only [nrm, aq, tyf, mqt, d9, dB, cQ, cy, dE] <;> rfl) | rfl) (by simp only [tre, an, mqr, Bool.and_self]) (CH _ _ _ lp) ?_
     refine bQ (fun tm => tm 62 = .lit (.int .i64 CJ) ∧ True) (by refine ⟨?_, trivial⟩ <;> first | (simp only [ua, dW, d9, dB, cQ, cy, dE, nm, seval] <;> rfl) | rfl | (simp only [ua, dW, tyf, mqt, d9, dB, cQ, cy, dE, nm, seval] <;> rfl)) ?_
     rintro tm ⟨dL, _⟩
     try simp only [vz, mq, mqm, tyf, mqt, (bx o8), d9, dB, (bx jK), cQ, cy, dE, dL, nm, seval]
     refine bO (x := (.lit (.int .i64 CJ))) (by first | (simp only [results153, resV, resL, aw, cn, cq, uw, cr, tyf, mqt, (bx o8), d9, dB, (bx jK), cQ, cy, dE, nm, seval] <;> rfl) | rfl) ?_
     obtain rfl := kF _ h
     refine cm ?_ ?_
     ·simp only [tre, an, mqr, Bool.and_self]
     ·first | (simp only [outV, uw, cw, lI, ln, cr, tyf, mqt, nrm, aq, (bx o8), d9, dB, (bx jK), cQ, cy, dE, dL, nm, seval] <;> rfl) | rfl
    simp only [cy, hs] at h
    obtain ⟨RG, qV, h⟩ := optI h kN
    try simp only [hs] at h
    simp only [vz, mq, mqm, tyf, mqt, (bx o8), d9, dB, (bx jK), cQ, cy, nm, seval]
    refine ktree (args0 := [.agg (cGld av), .agg (cGSpan av.ls.Gap)]) (by first | (simp only [nrm, aq, tyf, mqt, d9, dB, cQ, cy] <;> rfl) | rfl) (by simp only [tre, an, mqr, Bool.and_self]) (CH _ _ _ qV) ?_
    refine bQ (fun tm => tm 47 = .lit (.int .i64 RG) ∧ True) (by refine ⟨?_, trivial⟩ <;> first | (simp only [ua, dW, d9, dB, cQ, cy, nm, seval] <;> rfl) | rfl | (simp only [ua, dW, tyf, mqt, d9, dB, cQ, cy, nm, seval] <;> rfl)) ?_
    rintro tm ⟨dX, _⟩
    try simp only [vz, mq, mqm, tyf, mqt, (bx o8), d9, dB, (bx jK), cQ, cy, dX, nm, seval]
    refine bO (x := (.lit (.int .i64 RG))) (by first | (simp only [results153, resV, resL, aw, cn, cq, uw, cr, tyf, mqt, (bx o8), d9, dB, (bx jK), cQ, cy, nm, seval] <;> rfl) | rfl) ?_
    obtain rfl := kF _ h
    refine cm ?_ ?_
    ·simp only [tre, an, mqr, Bool.and_self]
    ·first | (simp only [outV, uw, cw, lI, ln, cr, tyf, mqt, nrm, aq, (bx o8), d9, dB, (bx jK), cQ, cy, dX, nm, seval] <;> rfl) | rfl
   simp only [cQ, hs] at h
   try simp only [vz, mq, mqm, tyf, mqt, (bx o8), d9, dB, (bx jK), cQ, nm, seval]
   refine bO (x := (.lit (.int .i64 0))) (by first | (simp only [results153, resV, resL, aw, cn, cq, uw, cr, tyf, mqt, (bx o8), d9, dB, (bx jK), cQ, nm, seval] <;> rfl) | rfl) ?_
   obtain rfl := kF _ h
   refine cm ?_ ?_
   ·simp only [tre, an, mqr, Bool.and_self]
   ·first | (simp only [outV, uw, cw, lI, ln, cr, tyf, mqt, nrm, aq, (bx o8), d9, dB, (bx jK), cQ, nm, seval] <;> rfl) | rfl
  simp only [dB, hs] at h
  try simp only [vz, mq, mqm, tyf, mqt, (bx o8), d9, dB, nm, seval]
  refine bO (x := (.lit (.int .i64 0))) (by first | (simp only [results153, resV, resL, aw, cn, cq, uw, cr, tyf, mqt, (bx o8), d9, dB, nm, seval] <;> rfl) | rfl) ?_
  obtain rfl := kF _ h
  refine cm ?_ ?_
  ·simp only [tre, an, mqr, Bool.and_self]
  ·first | (simp only [outV, uw, cw, lI, ln, cr, tyf, mqt, nrm, aq, (bx o8), d9, dB, nm, seval] <;> rfl) | rfl
 simp only [d9, hs] at h
 obtain ⟨yB, eY, h⟩ := optI h kN
 try simp only [hs] at h
 simp only [vz, mq, mqm, tyf, mqt, (bx o8), d9, nm, seval]
 refine ktree (args0 := [.agg (cGld av), .agg (cGSpan av.ls.Other)]) (by first | (simp only [nrm, aq, tyf, mqt, d9] <;> rfl) | rfl) (by simp only [tre, an, mqr, Bool.and_self]) (CH _ _ _ eY) ?_
 refine bQ (fun tm => tm 20 = .lit (.int .i64 yB) ∧ True) (by refine ⟨?_, trivial⟩ <;> first | (simp only [ua, dW, d9, nm, seval] <;> rfl) | rfl | (simp only [ua, dW, tyf, mqt, d9, nm, seval] <;> rfl)) ?_
 rintro tm ⟨dk, _⟩
 try simp only [vz, mq, mqm, tyf, mqt, (bx o8), d9, dk, nm, seval]
 refine bO (x := (.lit (.int .i64 yB))) (by first | (simp only [results153, resV, resL, aw, cn, cq, uw, cr, tyf, mqt, (bx o8), d9, nm, seval] <;> rfl) | rfl) ?_
 obtain rfl := kF _ h
 refine cm ?_ ?_
 ·simp only [tre, an, mqr, Bool.and_self]
 ·first | (simp only [outV, uw, cw, lI, ln, cr, tyf, mqt, nrm, aq, (bx o8), d9, dk, nm, seval] <;> rfl) | rfl
def tT  : List Int → Int → Int → Option (LOut (Int) (Int))
 | [], hT, ep => some (.go ep)
 | e0 :: p0, hT, ep => tT p0 (hT + 1) (i64.wrap (ep + e0))
def yC (bu : List Int) : Option (Int) := cond (lenOk bu) (lbind (tT bu 0 0) (fun r2 => some r2) (fun c1 => some c1) (fun _ _ => none)) none
theorem RH (bu : List Int) (R : Int) (h : yC bu = some R) : ah prog G0 169 [.sl (ad eI bu) (List.length bu) false] (.tree (.lit (.int .i64 R))) := by
 refine ah.runR mixed call169 func169 rfl (by simp [ntmps169]; kernel_rfl) ?_
 obtain ⟨KF, h, kF, kN⟩ := fg h
 simp only [yC] at h
 cases g4 : (lenOk bu)
 ·simp only [g4, hs] at h
  exact absurd h kN
 simp only [g4, hs] at h
 simp only [vz, tyf, g4, nm, seval]
 obtain ⟨K3, h, sq, qm, CK, CL⟩ := iy h kN
 obtain ⟨f3, qW, h⟩ := call3 h
 obtain ⟨I3, jL⟩ : ∃ I : Nat → St → Prop, I = (fun m st => ∃ (p3 : List Int) (dp : Int) (eu : Int), m = List.length p3 ∧ 0 ≤ dp ∧ List.drop (Int.toNat dp) bu = p3 ∧ st.df = [] ∧ 5 ≤ st.nx ∧ st.tm 6 = .sl (ad eI bu) (List.length bu) false ∧ st.tm 7 = .lit (.int .i64 (List.length bu : Int)) ∧ st.tm 3 = .lit (.int .i64 eu) ∧ st.tm 8 = .lit (.int .i64 dp) ∧ K3 (f3 p3 dp eu)) := ⟨_, rfl⟩
 refine loopK mixed (by kernel_rfl) I3 (List.length bu) (by rw [jL]; refine ⟨bu, 0, 0, rfl, qZf _, rfl, rfl, (show 5 ≤ 5 by omega), ?_, ?_, ?_, ?_, h⟩ <;> first | (simp only [ua, nm, seval] <;> rfl) | rfl) ?_
 rintro m ⟨tm, H, m6, df⟩ ba
 rw [jL] at ba
 obtain ⟨p3, dp, eu, rfl, fG, gH, hdf, lM, e5, e6, e7, e8, h⟩ := ba
 simp only at hdf lM e5 e6 e7 e8
 have n9 := ib (m := 5) (b := m6) (by omega)
 subst hdf qW
 cases p3 with
 | nil =>
  have dB : (decide (dp < (List.length bu : Int))) = false := ic fG gH
  simp only [tT, hs, reduceCtorEq] at h
  replace h := qm _ h
  try dsimp only at h
  try simp only [hs] at h
  try simp only [vz, tyf, g4, n9, e5, e6, e7, e8, dB, nm, seval]
  refine bO (x := (.lit (.int .i64 eu))) (by first | (simp only [results169, resV, resL, aw, cn, cq, uw, cr, tyf, g4, n9, dB, nm, seval] <;> rfl) | rfl) ?_
  obtain rfl := kF _ h
  refine cm ?_ ?_
  ·simp only [tre, an, Bool.and_self]
  ·first | (simp only [outV, uw, cw, cr, tyf, nrm, aq, g4, n9, e5, e6, e7, e8, dB, nm, seval] <;> rfl) | rfl
 | cons e3 p3 =>
  have dZ : (decide (dp < (List.length bu : Int))) = true := gZ fG gH
  have kI := fA fG gH
  have kJ := hC fG gH g4
  simp only [tT, hs, reduceCtorEq] at h
  simp only [vz, tyf, g4, n9, e5, e6, e7, e8, dZ, (ai kI), kJ, nm, seval]
  exact ⟨List.length p3, qZc _, by rw [jL]; refine ⟨p3, dp + 1, i64.wrap (eu + e3), rfl, qZl fG (qZk (qZf _)), dm fG gH, rfl, (show 5 ≤ m6 + 10 by omega), e5, e6, ?_, ?_, (by first | exact h | (simp only [dZ]; exact h))⟩ <;> first | (simp only [ua, n9, e5, e6, e7, e8, dZ, kJ, nm, seval] <;> rfl) | rfl⟩
def qX (av : Gld) (bL : Int) : List Glm → Int → (List Int) → Option (LOut (Int) ((List Int)))
 | [], ik, cN => some (.go cN)
 | e0 :: p0, ik, cN => cond (e0.row != bL) (qX av bL p0 (ik + 1) cN) (Option.bind (getI av.ls.Widths e0.sign) (fun x1 => Option.bind (y9 av ik) (fun r2 => cond (ar 8 (List.length (cN ++ [x1, r2]))) (cond (e0.hyphen) (cond (ar 8 (List.length ((cN ++ [x1, r2]) ++ [av.ls.Hyphen]))) (qX av bL p0 (ik + 1) ((cN ++ [x1, r2]) ++ [av.ls.Hyphen])) none) (qX av bL p0 (ik + 1) (cN ++ [x1, r2]))) none)))
def yD (av : Gld) (bL : Int) : Option (Int) := cond (lenOk av.marks) (lbind (qX av bL av.marks 0 ([] : List Int)) (fun r5 => some r5) (fun c3 => Option.bind (yC c3) (fun r4 => some r4)) (fun _ _ => none)) none
theorem V0 (av : Gld) (bL : Int) (R : Int) (h : yD av bL = some R) : ah prog G0 152 [.agg (cGld av), .lit (.int .i64 bL)] (.tree (.lit (.int .i64 R))) := by
 refine ah.runR mixed call152 func152 rfl (by simp [ntmps152]; kernel_rfl) ?_
 obtain ⟨KF, h, kF, kN⟩ := fg h
 simp only [yD] at h
 cases g7 : (lenOk av.marks)
 ·simp only [g7, hs] at h
  exact absurd h kN
 simp only [g7, hs] at h
 simp only [vz, mq, mqm, tyf, mqt, g7, nm, seval]
 obtain ⟨K6, h, Ff, yE, RI, m7⟩ := iy h kN
 obtain ⟨f6, yF, h⟩ := call3 h
 obtain ⟨I6, jM⟩ : ∃ I : Nat → St → Prop, I = (fun m st => ∃ (p6 : List Glm) (dz : Int) (cz : List Int) (hU : VV), m = List.length p6 ∧ 0 ≤ dz ∧ List.drop (Int.toNat dz) av.marks = p6 ∧ st.df = [] ∧ 7 ≤ st.nx ∧ st.H 0 = some (.cells (some 93) (cGld av)) ∧ st.tm 1 = .lit (.int .i64 bL) ∧ st.tm 2 = .ptr 0 0 ∧ st.tm 9 = .sl (ad cGlm av.marks) (List.length av.marks) false ∧ st.tm 10 = .lit (.int .i64 (List.length av.marks : Int)) ∧ st.tm 5 = hU ∧ st.tm 11 = .lit (.int .i64 dz) ∧ ((∃ (β : Nat) (el : Option TypeId), hU = .ref β 0 (List.length cz) 1 (List.length cz) ∧ β < st.nx ∧ β ≠ 0 ∧ st.H β = some (.cells el (ad eI cz))) ∨ (hU = .lit (.slice none 0 0) ∧ cz = [])) ∧ K6 (f6 p6 dz cz)) := ⟨_, rfl⟩
 refine loopK mixed (by kernel_rfl) I6 (List.length av.marks) (by rw [jM]; refine ⟨av.marks, 0, ([] : List Int), .lit (.slice none 0 0), rfl, qZf _, rfl, rfl, (show 7 ≤ 7 by omega), ?_, ?_, ?_, ?_, ?_, ?_, ?_, Or.inr ⟨rfl, rfl⟩, h⟩ <;> first | (simp only [ua, dW, nm, seval] <;> rfl) | rfl) ?_
 rintro m ⟨tm, H, gA, df⟩ ba
 rw [jM] at ba
 obtain ⟨p6, dz, cz, hU, rfl, fy, i0, hdf, qn, H8, e9, aE, aB, aL, bF, bN, gI, h⟩ := ba
 simp only at hdf qn H8 e9 aE aB aL bF bN gI
 have fP := ib (m := 7) (b := gA) (by omega)
 subst hdf yF
 cases p6 with
 | nil =>
  have ed : (decide (dz < (List.length av.marks : Int))) = false := ic fy i0
  simp only [qX, hs, reduceCtorEq] at h
  replace h := yE _ h
  try dsimp only at h
  try simp only [hs] at h
  rcases gI with ⟨RJ, Fg, rfl, tU, Fh, jg⟩ | ⟨rfl, rfl⟩
  ·have qY := jH tU
   have yG := ne_f Fh
   obtain ⟨ss, iA, h⟩ := optI h kN
   try simp only [hs] at h
   simp only [vz, mq, mqm, tyf, mqt, g7, fP, e9, aE, aB, aL, bF, bN, H8, ed, qY, jg, yG, nm, seval]
   refine kseen (args0 := [.sl (ad eI cz) (List.length cz) false]) (by simp only [List.map_cons, List.map_nil, cw, aQ, bp, cr, tyf, mqt, nrm, aq, g7, fP, e9, aE, aB, aL, bF, bN, H8, ed, qY, jg, yG, nm, seval] <;> rfl) (by simp only [List.map_cons, List.map_nil, cw, aQ, bp, cr, tyf, mqt, nrm, aq, g7, fP, e9, aE, aB, aL, bF, bN, H8, ed, qY, jg, yG, nm, seval]; simp only [tre, an, mqr, Bool.and_self]) (RH _ _ iA) (by first | rfl | simp only [VV.flat, flatL, Bool.and_self]) ?_
   refine bQ (fun tm => tm 43 = .lit (.int .i64 ss) ∧ True) (by refine ⟨?_, trivial⟩ <;> first | (simp only [ua, dW, fP, e9, aE, aB, aL, bF, bN, H8, ed, qY, jg, yG, nm, seval] <;> rfl) | rfl) ?_
   rintro tm ⟨dy, _⟩
   have fH := qZj g7 (qZj fP (qZj H8 (qZj ed (qZj qY (qZj jg yG)))))
   try simp only [vz, mq, mqm, tyf, mqt, fH, dy, nm, seval]
   refine bO (x := (.lit (.int .i64 ss))) (by first | (simp only [results152, resV, resL, aw, cn, cq, uw, cr, tyf, mqt, fH, nm, seval] <;> rfl) | rfl) ?_
   obtain rfl := kF _ h
   refine cm ?_ ?_
   ·simp only [tre, an, mqr, Bool.and_self]
   ·first | (simp only [outV, uw, cw, lI, ln, cr, tyf, mqt, nrm, aq, fH, dy, nm, seval] <;> rfl) | rfl
  ·obtain ⟨yB, eY, h⟩ := optI h kN
   try simp only [hs] at h
   simp only [vz, mq, mqm, tyf, mqt, g7, fP, e9, aE, aB, aL, bF, bN, H8, ed, nm, seval]
   refine ktree (args0 := [.sl (ad eI ([] : List Int)) (List.length ([] : List Int)) false]) (by first | (simp only [nrm, aq, mqr] <;> rfl) | rfl) (by simp only [tre, an, mqr, Bool.and_self]) (RH _ _ eY) ?_
   refine bQ (fun tm => tm 43 = .lit (.int .i64 yB) ∧ True) (by refine ⟨?_, trivial⟩ <;> first | (simp only [ua, dW, fP, e9, aE, aB, aL, bF, bN, H8, ed, nm, seval] <;> rfl) | rfl) ?_
   rintro tm ⟨dk, _⟩
   try simp only [vz, mq, mqm, tyf, mqt, g7, fP, H8, ed, dk, nm, seval]
   refine bO (x := (.lit (.int .i64 yB))) (by first | (simp only [results152, resV, resL, aw, cn, cq, uw, cr, tyf, mqt, g7, fP, H8, ed, nm, seval] <;> rfl) | rfl) ?_
   obtain rfl := kF _ h
   refine cm ?_ ?_
   ·simp only [tre, an, mqr, Bool.and_self]
   ·first | (simp only [outV, uw, cw, lI, ln, cr, tyf, mqt, nrm, aq, g7, fP, H8, ed, dk, nm, seval] <;> rfl) | rfl
 | cons e6 p6 =>
  have il : (decide (dz < (List.length av.marks : Int))) = true := gZ fy i0
  have iO := fA fy i0
  have jN := hC fy i0 g7
  simp only [qX, hs, reduceCtorEq] at h
  cases cO : (e6.row != bL)
  ·simp only [cO, hs] at h
   simp only [vz, mq, mqm, tyf, mqt, g7, fP, e9, aE, aB, aL, bF, bN, H8, il, (bx iO), jN, cO, nm, seval]
   refine qZ (fun tm => tm 1 = .lit (.int .i64 bL) ∧ tm 2 = .ptr 0 0 ∧ tm 5 = hU ∧ tm 6 = .lit (.int .i64 dz) ∧ tm 7 = .ptr (gA + 4) 0 ∧ tm 9 = .sl (ad cGlm av.marks) (List.length av.marks) false ∧ tm 10 = .lit (.int .i64 (List.length av.marks : Int)) ∧ tm 11 = .lit (.int .i64 dz) ∧ True) (by refine ⟨e9, aE, bF, ?_, ?_, aB, aL, bN, trivial⟩ <;> first | (simp only [ua, dW, fP, e9, aE, aB, aL, bF, bN, H8, il, jN, cO, nm, seval] <;> rfl) | rfl) ?_
   rintro tm ⟨hY, fI, gS, gJ, cU, cC, bP, cD, _⟩
   obtain ⟨jj, kf, h⟩ := optI h m7
   try simp only [hs] at h
   obtain ⟨iB, Fi, h⟩ := optI h m7
   try simp only [hs] at h
   simp only [vz, mq, mqm, tyf, mqt, g7, fP, H8, il, (bx iO), jN, cO, hY, fI, gS, gJ, cU, cC, bP, cD, (ai kf), nm, seval]
   refine dktree (args0 := [.agg (cGld av), .lit (.int .i64 dz)]) (by first | (simp only [nrm, aq, mqr] <;> rfl) | rfl) (by simp only [tre, an, mqr, Bool.and_self]) (Vz _ _ _ Fi) ?_
   refine bQ (fun tm => tm 1 = .lit (.int .i64 bL) ∧ tm 2 = .ptr 0 0 ∧ tm 7 = .ptr (gA + 4) 0 ∧ tm 9 = .sl (ad cGlm av.marks) (List.length av.marks) false ∧ tm 10 = .lit (.int .i64 (List.length av.marks : Int)) ∧ tm 11 = .lit (.int .i64 dz) ∧ tm 20 = hU ∧ tm 27 = .lit (.int .i64 jj) ∧ tm 30 = .lit (.int .i64 iB) ∧ True) (by refine ⟨hY, fI, cU, cC, bP, cD, ?_, ?_, ?_, trivial⟩ <;> first | (simp only [ua, dW, fP, H8, il, jN, cO, hY, fI, gS, gJ, cU, cC, bP, cD, nm, seval] <;> rfl) | rfl) ?_
   rintro tm ⟨cA, fb, fc, fe, fj, dR, dq, dt, dF, _⟩
   rcases gI with ⟨RK, jO, rfl, Fj, tV, su⟩ | ⟨rfl, rfl⟩
   ·have sv := jH Fj
    have nY := ne_f tV
    cases kh : (ar 8 (List.length (cz ++ [jj, iB])))
    ·simp only [kh, hs] at h
     exact absurd h m7
    simp only [kh, hs] at h
    simp only [vz, mq, mqm, tyf, mqt, g7, fP, H8, il, (bx iO), jN, cO, (ai kf), cA, fb, fc, fe, fj, dR, dq, dt, dF, sv, su, nY, kh, nm, seval]
    refine k_app (w := 1) (enc := eI) (xs := cz) (ys := ([jj, iB])) (el := jO) (fx := (some 3)) (fun _ => rfl) ct cu underlying22 (by first | rfl | assumption | (simp only [aQ, bp, bI, fP, H8, sv, su, nY, nm, seval] <;> rfl) | (simp only [aQ, bp, cY, cT, cW, cX, tyf, mqt, g7, fP, H8, il, (bx iO), jN, cO, (ai kf), cA, fb, fc, fe, fj, dR, dq, dt, dF, sv, su, nY, kh, nm, seval]; done)) (by first | rfl | assumption | (simp only [aQ, bp, bI, fP, H8, sv, su, nY, nm, seval] <;> rfl) | (simp only [aQ, bp, cY, cT, cW, cX, tyf, mqt, g7, fP, H8, il, (bx iO), jN, cO, (ai kf), cA, fb, fc, fe, fj, dR, dq, dt, dF, sv, su, nY, kh, nm, seval]; done)) (qZm _) kh ?_
    simp only [vz, mq, mqm, tyf, mqt, g7, fP, H8, il, (bx iO), jN, cO, (ai kf), cA, fb, fc, fe, fj, dR, dq, dt, dF, sv, su, nY, kh, nm, seval]
    refine lq ⟨?_, ?_⟩
    ·simp only [lr, lu, gf, lv, and_true, true_and]
     repeat' (first | exact trivial | refine qZj ?_ ?_ | rw [gf] | rw [ly] | exact Or.inl (by decide +kernel) | exact Or.inl (by dsimp only; decide +kernel) | (refine Or.inr ⟨?_, ?_⟩ <;> simp; done) | (refine Or.inr ⟨?_, ?_⟩ <;> simp <;> omega) | (refine Or.inr ⟨?_, ?_⟩ <;> simp [Ve.wr] <;> omega))
    cases ra : (e6.hyphen)
    ·simp only [ra, hs] at h
     have tW := qZj g7 (qZj fP (qZj H8 (qZj il (qZj jN (qZj cO (qZj sv (qZj su (qZj nY (qZj kh ra)))))))))
     simp only [vz, mq, mqm, tyf, mqt, tW, (bx iO), (ai kf), cA, fb, fc, fe, fj, dR, dq, dt, dF, nm, seval]
     exact ⟨List.length p6, qZc _, by rw [jM]; refine ⟨p6, dz + 1, (cz ++ [jj, iB]), .ref (gA + 23) 0 (List.length (cz ++ [jj, iB])) 1 (List.length (cz ++ [jj, iB])), rfl, qZl fy (qZk (qZf _)), dm fy i0, rfl, (show 7 ≤ gA + 29 by omega), ?_, cA, fb, fe, fj, ?_, ?_, Or.inl ⟨gA + 23, (sameEl jO 3), rfl, (by first | omega | (simp only [nm, seval]; done) | (simp only [nm, seval]; omega)), (by first | omega | (intro hh; simp only [tW, reduceCtorEq] at hh)), ?_⟩, (by first | exact h | (simp only [tW]; exact h))⟩ <;> first | (simp only [ua, dW, tW, cA, fb, fc, fe, fj, dR, dq, dt, dF, nm, seval] <;> rfl) | rfl | (simp only [ua, dW, tyf, mqt, tW, cA, fb, fc, fe, fj, dR, dq, dt, dF, nm, seval] <;> rfl)⟩
    simp only [ra, hs] at h
    have m8 := qZj g7 (qZj fP (qZj H8 (qZj il (qZj jN (qZj cO (qZj sv (qZj su (qZj nY (qZj kh ra)))))))))
    cases lS : (ar 8 (List.length ((cz ++ [jj, iB]) ++ [av.ls.Hyphen])))
    ·simp only [lS, hs] at h
     exact absurd h m7
    simp only [lS, hs] at h
    simp only [vz, mq, mqm, tyf, mqt, m8, (bx iO), (ai kf), cA, fb, fc, fe, fj, dR, dq, dt, dF, lS, nm, seval]
    refine k_app (w := 1) (enc := eI) (xs := (cz ++ [jj, iB])) (ys := ([av.ls.Hyphen])) (el := (sameEl jO 3)) (fx := (some 3)) (fun _ => rfl) ct cu underlying22 (by first | rfl | assumption | (simp only [aQ, bp, bI, m8, nm, seval] <;> rfl) | (simp only [aQ, bp, cY, cT, cW, cX, tyf, mqt, m8, (bx iO), (ai kf), cA, fb, fc, fe, fj, dR, dq, dt, dF, lS, nm, seval]; done)) (by first | rfl | assumption | (simp only [aQ, bp, bI, m8, nm, seval] <;> rfl) | (simp only [aQ, bp, cY, cT, cW, cX, tyf, mqt, m8, (bx iO), (ai kf), cA, fb, fc, fe, fj, dR, dq, dt, dF, lS, nm, seval]; done)) (qZm _) lS ?_
    simp only [vz, mq, mqm, tyf, mqt, m8, (bx iO), (ai kf), cA, fb, fc, fe, fj, dR, dq, dt, dF, lS, nm, seval]
    exact ⟨List.length p6, qZc _, by rw [jM]; refine ⟨p6, dz + 1, ((cz ++ [jj, iB]) ++ [av.ls.Hyphen]), .ref (gA + 32) 0 (List.length ((cz ++ [jj, iB]) ++ [av.ls.Hyphen])) 1 (List.length ((cz ++ [jj, iB]) ++ [av.ls.Hyphen])), rfl, qZl fy (qZk (qZf _)), dm fy i0, rfl, (show 7 ≤ gA + 36 by omega), ?_, cA, fb, fe, fj, ?_, ?_, Or.inl ⟨gA + 32, (sameEl (sameEl jO 3) 3), rfl, (by first | omega | (simp only [nm, seval]; done) | (simp only [nm, seval]; omega)), (by first | omega | (intro hh; simp only [m8, reduceCtorEq] at hh)), ?_⟩, (by first | exact h | (simp only [m8]; exact h))⟩ <;> first | (simp only [ua, dW, m8, cA, fb, fc, fe, fj, dR, dq, dt, dF, nm, seval] <;> rfl) | rfl | (simp only [ua, dW, tyf, mqt, m8, cA, fb, fc, fe, fj, dR, dq, dt, dF, nm, seval] <;> rfl)⟩
   ·cases lT : (ar 8 (List.length (([] : List Int) ++ [jj, iB])))
    ·simp only [lT, hs] at h
     exact absurd h m7
    simp only [lT, hs] at h
    simp only [vz, mq, mqm, tyf, mqt, g7, fP, H8, il, (bx iO), jN, cO, (ai kf), cA, fb, fc, fe, fj, dR, dq, dt, dF, lT, nm, seval]
    refine ni (w := 1) (enc := eI) (ys := ([jj, iB])) (fx := (some 3)) (fun _ => rfl) ct cu underlying22 (by first | rfl | assumption | (simp only [aQ, bp, bI, fP, H8, nm, seval] <;> rfl) | (simp only [aQ, bp, cY, cT, cW, cX, tyf, mqt, g7, fP, H8, il, (bx iO), jN, cO, (ai kf), cA, fb, fc, fe, fj, dR, dq, dt, dF, lT, nm, seval]; done)) (qZm _) lT ?_
    simp only [vz, mq, mqm, tyf, mqt, g7, fP, H8, il, (bx iO), jN, cO, (ai kf), cA, fb, fc, fe, fj, dR, dq, dt, dF, lT, nm, seval]
    refine lq ⟨?_, ?_⟩
    ·simp only [lr, lu, gf, lv, and_true, true_and]
     repeat' (first | exact trivial | refine qZj ?_ ?_ | rw [gf] | rw [ly] | exact Or.inl (by decide +kernel) | exact Or.inl (by dsimp only; decide +kernel) | (refine Or.inr ⟨?_, ?_⟩ <;> simp; done) | (refine Or.inr ⟨?_, ?_⟩ <;> simp <;> omega) | (refine Or.inr ⟨?_, ?_⟩ <;> simp [Ve.wr] <;> omega))
    cases rb : (e6.hyphen)
    ·simp only [rb, hs] at h
     have yH := qZj g7 (qZj fP (qZj H8 (qZj il (qZj jN (qZj cO (qZj lT rb))))))
     simp only [vz, mq, mqm, tyf, mqt, yH, (bx iO), (ai kf), cA, fb, fc, fe, fj, dR, dq, dt, dF, nm, seval]
     exact ⟨List.length p6, qZc _, by rw [jM]; refine ⟨p6, dz + 1, (([] : List Int) ++ [jj, iB]), .ref (gA + 23) 0 (List.length (([] : List Int) ++ [jj, iB])) 1 (List.length (([] : List Int) ++ [jj, iB])), rfl, qZl fy (qZk (qZf _)), dm fy i0, rfl, (show 7 ≤ gA + 29 by omega), ?_, cA, fb, fe, fj, ?_, ?_, Or.inl ⟨gA + 23, (some 3), rfl, (by first | omega | (simp only [nm, seval]; done) | (simp only [nm, seval]; omega)), (by first | omega | (intro hh; simp only [yH, reduceCtorEq] at hh)), ?_⟩, (by first | exact h | (simp only [yH]; exact h))⟩ <;> first | (simp only [ua, dW, yH, cA, fb, fc, fe, fj, dR, dq, dt, dF, nm, seval] <;> rfl) | rfl | (simp only [ua, dW, tyf, mqt, yH, cA, fb, fc, fe, fj, dR, dq, dt, dF, nm, seval] <;> rfl)⟩
    simp only [rb, hs] at h
    have qo := qZj g7 (qZj fP (qZj H8 (qZj il (qZj jN (qZj cO (qZj lT rb))))))
    cases tX : (ar 8 (List.length ((([] : List Int) ++ [jj, iB]) ++ [av.ls.Hyphen])))
    ·simp only [tX, hs] at h
     exact absurd h m7
    simp only [tX, hs] at h
    simp only [vz, mq, mqm, tyf, mqt, qo, (bx iO), (ai kf), cA, fb, fc, fe, fj, dR, dq, dt, dF, tX, nm, seval]
    refine k_app (w := 1) (enc := eI) (xs := (([] : List Int) ++ [jj, iB])) (ys := ([av.ls.Hyphen])) (el := (some 3)) (fx := (some 3)) (fun _ => rfl) ct cu underlying22 (by first | rfl | assumption | (simp only [aQ, bp, bI, qo, nm, seval] <;> rfl) | (simp only [aQ, bp, cY, cT, cW, cX, tyf, mqt, qo, (bx iO), (ai kf), cA, fb, fc, fe, fj, dR, dq, dt, dF, tX, nm, seval]; done)) (by first | rfl | assumption | (simp only [aQ, bp, bI, qo, nm, seval] <;> rfl) | (simp only [aQ, bp, cY, cT, cW, cX, tyf, mqt, qo, (bx iO), (ai kf), cA, fb, fc, fe, fj, dR, dq, dt, dF, tX, nm, seval]; done)) (qZm _) tX ?_
    simp only [vz, mq, mqm, tyf, mqt, qo, (bx iO), (ai kf), cA, fb, fc, fe, fj, dR, dq, dt, dF, tX, nm, seval]
    exact ⟨List.length p6, qZc _, by rw [jM]; refine ⟨p6, dz + 1, ((([] : List Int) ++ [jj, iB]) ++ [av.ls.Hyphen]), .ref (gA + 32) 0 (List.length ((([] : List Int) ++ [jj, iB]) ++ [av.ls.Hyphen])) 1 (List.length ((([] : List Int) ++ [jj, iB]) ++ [av.ls.Hyphen])), rfl, qZl fy (qZk (qZf _)), dm fy i0, rfl, (show 7 ≤ gA + 36 by omega), ?_, cA, fb, fe, fj, ?_, ?_, Or.inl ⟨gA + 32, (sameEl (some 3) 3), rfl, (by first | omega | (simp only [nm, seval]; done) | (simp only [nm, seval]; omega)), (by first | omega | (intro hh; simp only [qo, reduceCtorEq] at hh)), ?_⟩, (by first | exact h | (simp only [qo]; exact h))⟩ <;> first | (simp only [ua, dW, qo, cA, fb, fc, fe, fj, dR, dq, dt, dF, nm, seval] <;> rfl) | rfl | (simp only [ua, dW, tyf, mqt, qo, cA, fb, fc, fe, fj, dR, dq, dt, dF, nm, seval] <;> rfl)⟩
  simp only [cO, hs] at h
  rcases gI with ⟨sw, tY, rfl, Fk, Fl, RL⟩ | ⟨rfl, rfl⟩
  ·have Fm := jH Fk
   have Fo := ne_f Fl
   simp only [vz, mq, mqm, tyf, mqt, g7, fP, e9, aE, aB, aL, bF, bN, H8, il, (bx iO), jN, cO, Fm, RL, Fo, nm, seval]
   exact ⟨List.length p6, qZc _, by rw [jM]; refine ⟨p6, dz + 1, cz, .ref sw 0 (List.length cz) 1 (List.length cz), rfl, qZl fy (qZk (qZf _)), dm fy i0, rfl, (show 7 ≤ gA + 13 by omega), ?_, e9, aE, aB, aL, ?_, ?_, Or.inl ⟨sw, tY, rfl, (by first | omega | (simp only [nm, seval]; done) | (simp only [nm, seval]; omega)), (by first | omega | (intro hh; simp only [fP, Fm, Fo, reduceCtorEq] at hh)), ?_⟩, (by first | exact h | (simp only [il, cO]; exact h))⟩ <;> first | (simp only [ua, dW, fP, e9, aE, aB, aL, bF, bN, H8, il, jN, cO, Fm, RL, Fo, nm, seval] <;> rfl) | rfl⟩
  ·simp only [vz, mq, mqm, tyf, mqt, g7, fP, e9, aE, aB, aL, bF, bN, H8, il, (bx iO), jN, cO, nm, seval]
   exact ⟨List.length p6, qZc _, by rw [jM]; refine ⟨p6, dz + 1, ([] : List Int), .lit (.slice none 0 0), rfl, qZl fy (qZk (qZf _)), dm fy i0, rfl, (show 7 ≤ gA + 13 by omega), ?_, e9, aE, aB, aL, ?_, ?_, Or.inr ⟨rfl, rfl⟩, (by first | exact h | (simp only [il, cO]; exact h))⟩ <;> first | (simp only [ua, dW, fP, e9, aE, aB, aL, bF, bN, H8, il, jN, cO, nm, seval] <;> rfl) | rfl⟩

def CM (av : Gld) (bL : Int) : Option ((Unit) ⊕ (Unit)) := Option.bind (yD av bL) (fun r1 => cond (decide (r1 > av.ls.Wide)) (some (.inr ())) (some (.inl ())))
theorem RM (av : Gld) (bL : Int) (R : (Unit) ⊕ (Unit)) (h : CM av bL = some R) : ah prog G0 122 [.agg (cGld av), .lit (.int .i64 bL)] (presB R (fun r => .tree (.tup [])) (fun e => .panic (.ifc 149 (.agg [])))) := by
 refine ah.runR mixed call122 func122 rfl (by simp [ntmps122]; kernel_rfl) ?_
 obtain ⟨KF, h, kF, kN⟩ := fg h
 simp only [CM] at h
 simp only [vz, mq, mqm, tyf, mqt, nm, seval]
 refine tZ (fun tm => tm 1 = .lit (.int .i64 bL) ∧ tm 2 = .ptr 0 0 ∧ True) (by refine ⟨?_, ?_, trivial⟩ <;> first | (simp only [ua, dW, nm, seval] <;> rfl) | rfl) ?_
 rintro tm ⟨e2, e3, _⟩
 obtain ⟨r4, o5, h⟩ := optI h kN
 try simp only [hs] at h
 simp only [vz, mq, mqm, tyf, mqt, e2, e3, nm, seval]
 refine dktree (args0 := [.agg (cGld av), .lit (.int .i64 bL)]) (by first | (simp only [nrm, aq, mqr] <;> rfl) | rfl) (by simp only [tre, an, mqr, Bool.and_self]) (V0 _ _ _ o5) ?_
 refine bQ (fun tm => tm 2 = .ptr 0 0 ∧ tm 6 = .lit (.int .i64 r4) ∧ True) (by refine ⟨e3, ?_, trivial⟩ <;> first | (simp only [ua, dW, e2, e3, nm, seval] <;> rfl) | rfl) ?_
 rintro tm ⟨e6, e7, _⟩
 cases d8 : (decide (r4 > av.ls.Wide))
 ·simp only [d8, hs] at h
  try simp only [vz, mq, mqm, tyf, mqt, e6, e7, d8, nm, seval]
  refine Fp (x := (.tup [])) (by first | (simp only [results122, resV, resL, aw, cn, cq, uw, cr, tyf, mqt, d8, nm, seval] <;> rfl) | rfl) ?_
  obtain rfl := kF _ h
  refine cm ?_ ?_
  ·simp only [tre, an, mqr, Bool.and_self]
  ·first | (simp only [outV, uw, cw, lI, ln, cr, tyf, mqt, nrm, aq, e6, e7, d8, nm, seval] <;> rfl) | rfl
 simp only [d8, hs] at h
 simp only [vz, mq, mqm, tyf, mqt, e6, e7, d8, nm, seval]
 refine Fq ?_
 obtain rfl := kF _ h
 refine Fs ?_ ?_
 ·simp only [tre, an, Ft, Bool.and_self]
 ·first | (simp only [outV, uw, cw, lI, ln, Fu, Fv, cr, tyf, mqt, nrm, aq, e6, e7, d8, nm, seval] <;> rfl) | rfl
def wx (av : Gld) : List GLe → Int → Option (LOut (Bool) (Unit))
 | [], nk => some (.go ())
 | e0 :: p0, nk => Option.bind (CM av nk) (fun r1 => sumB r1 (fun u2 => wx av p0 (nk + 1)) (fun w3 => some (.ret false)))
def ub (av : Gld) : Option (Bool) := cond (lenOk av.lx.Ends) (lbind (wx av av.lx.Ends 0) (fun r5 => some r5) (fun c4 => some (decide ((List.length av.lx.Ends : Int) ≤ av.ls.Rows))) (fun _ _ => none)) none
theorem V1 (av : Gld) (R : Bool) (h : ub av = some R) : ah prog G0 83 [.agg (cGld av)] (.tree (.lit (.bool R))) := by
 refine ah.runR mixed call83 func83 rfl (by simp [ntmps83]; kernel_rfl) ?_
 obtain ⟨KF, h, kF, kN⟩ := fg h
 simp only [ub] at h
 cases g7 : (lenOk av.lx.Ends)
 ·simp only [g7, hs] at h
  exact absurd h kN
 simp only [g7, hs] at h
 simp only [vz, mq, mqm, tyf, mqt, g7, nm, seval]
 obtain ⟨K6, h, Ff, yE, RI, m7⟩ := iy h kN
 obtain ⟨f6, yF, h⟩ := call2 h
 obtain ⟨I6, jM⟩ : ∃ I : Nat → St → Prop, I = (fun m st => ∃ (p6 : List GLe) (iP : Int), m = List.length p6 ∧ 0 ≤ iP ∧ List.drop (Int.toNat iP) av.lx.Ends = p6 ∧ st.df = [.fn (.func 121) [.ptr 1 0] []] ∧ 9 ≤ st.nx ∧ st.H 0 = some (.cells (some 93) (cGld av)) ∧ st.H 1 = some (.cells (some 4) ([.lit (.bool false)])) ∧ st.tm 1 = .ptr 0 0 ∧ st.tm 2 = .ptr 1 0 ∧ st.tm 8 = .lit (.int .i64 (List.length av.lx.Ends : Int)) ∧ st.tm 9 = .lit (.int .i64 iP) ∧ K6 (f6 p6 iP)) := ⟨_, rfl⟩
 refine loopK mixed (by kernel_rfl) I6 (List.length av.lx.Ends) (by rw [jM]; refine ⟨av.lx.Ends, 0, rfl, qZf _, rfl, rfl, (show 9 ≤ 9 by omega), ?_, ?_, ?_, ?_, ?_, ?_, h⟩ <;> first | (simp only [ua, dW, nm, seval] <;> rfl) | rfl) ?_
 rintro m ⟨tm, H, gA, df⟩ ba
 rw [jM] at ba
 obtain ⟨p6, iP, rfl, fy, i0, hdf, qn, H8, H9, aE, aB, aL, bF, h⟩ := ba
 simp only at hdf qn H8 H9 aE aB aL bF
 have de := ib (m := 9) (b := gA) (by omega)
 subst hdf yF
 cases p6 with
 | nil =>
  have dE : (decide (iP < (List.length av.lx.Ends : Int))) = false := ic fy i0
  simp only [wx, hs, reduceCtorEq] at h
  replace h := yE _ h
  try dsimp only at h
  try simp only [hs] at h
  try simp only [vz, mq, mqm, tyf, mqt, g7, de, aE, aB, aL, bF, H8, H9, dE, nm, seval]
  refine Fx ?_
  refine VDeferred.run mixed call121 func121 rfl (by kernel_rfl) ?_
  try simp only [vz, mq, mqm, tyf, mqt, g7, de, H8, H9, dE, nm, seval]
  refine RN results121 ?_
  refine Fy (x := (.lit (.bool (decide ((List.length av.lx.Ends : Int) ≤ av.ls.Rows))))) (by first | (simp only [results83, resV, resL, aw, cn, cq, uw, cr, tyf, mqt, g7, de, H8, H9, dE, aE, aB, aL, bF, nm, seval] <;> rfl) | rfl) ?_
  obtain rfl := kF _ h
  refine cm ?_ ?_
  ·simp only [tre, an, mqr, Bool.and_self]
  ·first | (simp only [outV, uw, cw, lI, ln, cr, tyf, mqt, nrm, aq, g7, de, H8, H9, dE, aE, aB, aL, bF, nm, seval] <;> rfl) | rfl
 | cons e6 p6 =>
  have ed : (decide (iP < (List.length av.lx.Ends : Int))) = true := gZ fy i0
  have re := fA fy i0
  have rh := hC fy i0 g7
  simp only [wx, hs, reduceCtorEq] at h
  obtain ⟨CJ, lp, h⟩ := optI h m7
  try simp only [hs] at h
  cases CJ with
  | inl u21 =>
   simp only [hs] at h
   simp only [vz, mq, mqm, tyf, mqt, g7, de, aE, aB, aL, bF, H8, H9, ed, (bS re), rh, nm, seval]
   refine ktree (args0 := [.agg (cGld av), .lit (.int .i64 iP)]) (by first | (simp only [nrm, aq, mqr] <;> rfl) | rfl) (by simp only [tre, an, mqr, Bool.and_self]) (RM _ _ _ lp) ?_
   refine bQ (fun tm => tm 1 = .ptr 0 0 ∧ tm 2 = .ptr 1 0 ∧ tm 8 = .lit (.int .i64 (List.length av.lx.Ends : Int)) ∧ tm 9 = .lit (.int .i64 iP) ∧ True) (by refine ⟨aE, aB, aL, bF, trivial⟩ <;> first | (simp only [ua, dW, de, aE, aB, aL, bF, H8, H9, ed, rh, nm, seval] <;> rfl) | rfl) ?_
   rintro tm ⟨dy, dX, dj, cK, _⟩
   simp only [vz, mq, mqm, tyf, mqt, g7, de, H8, H9, ed, (bS re), rh, dy, dX, dj, cK, nm, seval]
   exact ⟨List.length p6, qZc _, by rw [jM]; refine ⟨p6, iP + 1, rfl, qZl fy (qZk (qZf _)), dm fy i0, rfl, (show 9 ≤ gA + 8 by omega), ?_, ?_, dy, dX, dj, ?_, (by first | exact h | (simp only [ed]; exact h))⟩ <;> first | (simp only [ua, dW, de, H8, H9, ed, rh, dy, dX, dj, cK, nm, seval] <;> rfl) | rfl⟩
  | inr sx =>
   simp only [hs] at h
   simp only [vz, mq, mqm, tyf, mqt, g7, de, aE, aB, aL, bF, H8, H9, ed, (bS re), rh, nm, seval]
   refine kpan (args0 := [.agg (cGld av), .lit (.int .i64 iP)]) (by first | (simp only [nrm, aq, mqr] <;> rfl) | rfl) (by simp only [tre, an, mqr, Bool.and_self]) (RM _ _ _ lp) ?_
   try simp only [vz, mq, mqm, tyf, mqt, g7, de, aE, aB, aL, bF, H8, H9, ed, (bS re), rh, nm, seval]
   refine Fz ?_
   refine VDeferred.run mixed call121 func121 rfl (by kernel_rfl) ?_
   try simp only [vz, mq, mqm, tyf, mqt, g7, de, H8, H9, ed, (bS re), rh, nm, seval]
   refine RN results121 ?_
   refine F0 (x := (.lit (.bool false))) (by first | (simp only [results83, resV, resL, aw, cn, cq, uw, cr, tyf, mqt, g7, de, H8, H9, ed, (bS re), rh, aE, aB, aL, bF, nm, seval] <;> rfl) | rfl) ?_
   replace h := Ff _ h
   try dsimp only at h
   obtain rfl := kF _ h
   refine cm ?_ ?_
   ·simp only [tre, an, mqr, Bool.and_self]
   ·first | (simp only [outV, uw, cw, lI, ln, cr, tyf, mqt, nrm, aq, g7, de, H8, H9, ed, (bS re), rh, aE, aB, aL, bF, nm, seval] <;> rfl) | rfl
abbrev setS (l : Gld) (i : Int) : Gld := Gld.mk l.ls l.lx i l.spaces l.marks
def wLoop (l : Gld) : Nat → Nat → Option Gld → Option (Option Gld)
 | 0, _, acc => some acc
 | k + 1, i, acc => Option.bind (ub (setS l (i : Int))) fun b => cond b (wLoop l k (i + 1) (some (setS l (i : Int)))) (some acc)
def CN (l : Gld) : Option (Option Gld) := wLoop l 11 0 none
def zlC : List VV := [.lit (.slice none 0 0), .lit (.slice none 0 0), .lit (.int .i64 0), .lit (.int .i64 0), .lit (.int .i64 0), .lit (.int .i64 0), .lit (.int .i64 0), .lit (.slice none 0 0), .lit (.int .i64 0), .lit (.int .i64 0), .lit (.slice none 0 0), .lit (.slice none 0 0), .lit (.int .i64 0), .lit (.map none), .lit (.slice none 0 0)]
def zlN : List VV := [.sl [] 0 false, .sl [] 0 false, .lit (.int .i64 0), .lit (.int .i64 0), .lit (.int .i64 0), .lit (.int .i64 0), .lit (.int .i64 0), .sl [] 0 false, .lit (.int .i64 0), .lit (.int .i64 0), .sl [] 0 false, .sl [] 0 false, .lit (.int .i64 0), .lit (.map none), .sl [] 0 false]
def accC : Option Gld → List VV
 | none => zlC
 | some l => cGld l
def wV : Option Gld → VV
 | none => .tup [.agg zlN, .lit (.bool false)]
 | some l => .tup [.agg (cGld l), .lit (.bool true)]
theorem CP : normV (.lit (.map none)) = .lit (.map none) := rfl
theorem V2 (l : Gld) (R : Option Gld) (h : CN l = some R) : ah prog G0 84 [.agg (cGld l)] (.tree (wV R)) := by
 refine ah.runR mixed call84 func84 rfl (by simp [ntmps84]; kernel_rfl) ?_
 simp only [vz, @iQ, mq, mqm, tyf, mqt, nm, seval]
 obtain ⟨J, hJ⟩ : ∃ J : Nat → St → Prop, J = (fun m st => ∃ (i : Nat) (s : Int) (acc : Option Gld), i + m = 11 ∧ st.df = [] ∧ 8 ≤ st.nx ∧ st.H 0 = some (.cells (some 93) (cGld (setS l s))) ∧ st.H 1 = some (.cells (some 93) zlC) ∧ st.H 4 = some (.cells (some 93) (accC acc)) ∧
   st.tm 1 = .ptr 0 0 ∧ st.tm 2 = .ptr 1 0 ∧ st.tm 4 = .ptr 4 0 ∧ st.tm 5 = .lit (.bool acc.isSome) ∧ st.tm 8 = .lit (.int .i64 (i : Int)) ∧ wLoop l m i acc = some R) := ⟨_, rfl⟩
 refine loopK mixed (by kernel_rfl) J 11 (by
  rw [hJ]
  refine ⟨0, l.stretch, none, rfl, rfl, (show 8 ≤ 8 by omega), ?_, ?_, ?_, ?_, ?_, ?_, ?_, ?_, h⟩ <;> first | rfl | (simp only [ua, seval, tyf] <;> rfl)) ?_
 rintro m ⟨tm, H, nx, df⟩ ba
 rw [hJ] at ba
 obtain ⟨i, s, acc, hi, hdf, hnx, H0, H1, H4, e1, e2, e4, e5, e8, h⟩ := ba
 simp only at hdf hnx H0 H1 H4 e1 e2 e4 e5 e8
 subst hdf
 have fin : ∀ (tm : Nat → VV) (H : Nat → Option Vo) (nx : Nat) (acc : Option Gld), 8 ≤ nx → tm 2 = .ptr 1 0 → tm 4 = .ptr 4 0 → tm 5 = .lit (.bool acc.isSome) → H 1 = some (.cells (some 93) zlC) → H 4 = some (.cells (some 93) (accC acc)) → acc = R → True := fun _ _ _ _ _ _ _ _ _ _ _ => trivial
 cases m with
 | zero =>
  have ri : decide ((i : Int) < 11) = false := by simp; omega
  simp only [wLoop, Option.some.injEq] at h
  subst h
  cases acc with
  | none =>
   simp only [accC, zlC] at H4
   simp only [Option.isSome_none] at e5
   simp only [vz, @iQ, mq, mqm, tyf, mqt, e1, e2, e4, e5, e8, ri, H0, H1, H4, zlC, nm, seval]
   refine bO (x := .tup [.agg zlC, .lit (.bool false)]) (by simp only [results84, resV, resL, aw, cn, cq, uw, cr, tyf, mqt, e1, e2, e4, e5, H0, H1, H4, zlC, nm, seval] <;> rfl) ?_
   refine cm (by simp only [wV, zlN, tre, an, mqr, Bool.and_self]) ?_
   simp only [outV, zlC, zlN, wV, nrm, aq, mqr, CP, seval, List.map_cons, List.map_nil]
  | some y =>
   simp only [accC] at H4
   simp only [Option.isSome_some] at e5
   simp only [vz, @iQ, mq, mqm, tyf, mqt, e1, e2, e4, e5, e8, ri, H0, H1, H4, zlC, nm, seval]
   refine bO (x := .tup [.agg (cGld y), .lit (.bool true)]) (by simp only [results84, resV, resL, aw, cn, cq, uw, cr, tyf, mqt, e1, e2, e4, e5, H0, H1, H4, zlC, nm, seval] <;> rfl) ?_
   refine cm (by simp only [wV, tre, an, mqr, Bool.and_self]) ?_
   simp only [outV, wV, nrm, aq, mqr, seval, List.map_cons, List.map_nil]
 | succ m =>
  have ri : decide ((i : Int) < 11) = true := by simp; omega
  have hw : i64.wrap ((i : Int) + 1) = ((i + 1 : Nat) : Int) := by rw [IntWalk.i64_in _ (by omega)]; simp
  rw [wLoop] at h
  rcases ob : ub (setS l (i : Int)) with _ | b
  ·rw [ob] at h; cases h
  rw [ob, Option.bind_some] at h
  simp only [vz, @iQ, mq, mqm, tyf, mqt, e1, e2, e4, e5, e8, ri, H0, H1, H4, nm, seval]
  refine ktree (args0 := [.agg (cGld (setS l (i : Int)))]) (by first | (simp only [nrm, aq, mqr] <;> rfl) | rfl) (by simp only [tre, an, mqr, Bool.and_self]) (V1 _ _ ob) ?_
  cases b with
  | false =>
   simp only [cond_false, Option.some.injEq] at h
   subst h
   cases acc with
   | none =>
    simp only [accC, zlC] at H4
    simp only [Option.isSome_none] at e5
    simp only [vz, @iQ, mq, mqm, tyf, mqt, e1, e2, e4, e5, e8, ri, H0, H1, H4, zlC, nm, seval]
    refine bO (x := .tup [.agg zlC, .lit (.bool false)]) (by simp only [results84, resV, resL, aw, cn, cq, uw, cr, tyf, mqt, e1, e2, e4, e5, H0, H1, H4, zlC, nm, seval] <;> rfl) ?_
    refine cm (by simp only [wV, zlN, tre, an, mqr, Bool.and_self]) ?_
    simp only [outV, zlC, zlN, wV, nrm, aq, mqr, CP, seval, List.map_cons, List.map_nil]
   | some y =>
    simp only [accC] at H4
    simp only [Option.isSome_some] at e5
    simp only [vz, @iQ, mq, mqm, tyf, mqt, e1, e2, e4, e5, e8, ri, H0, H1, H4, zlC, nm, seval]
    refine bO (x := .tup [.agg (cGld y), .lit (.bool true)]) (by simp only [results84, resV, resL, aw, cn, cq, uw, cr, tyf, mqt, e1, e2, e4, e5, H0, H1, H4, zlC, nm, seval] <;> rfl) ?_
    refine cm (by simp only [wV, tre, an, mqr, Bool.and_self]) ?_
    simp only [outV, wV, nrm, aq, mqr, seval, List.map_cons, List.map_nil]
  | true =>
   simp only [cond_true] at h
   have hl : (15 ≤ (accC acc).length) = True := by cases acc <;> simp [accC, zlC, yI]
   have hd : (accC acc).drop 15 = [] := by cases acc <;> rfl
   simp only [vz, @iQ, mq, mqm, tyf, mqt, e1, e2, e4, e5, e8, ri, H0, H1, H4, hw, hl, hd, nm, seval]
   rw [hJ]
   exact ⟨m, qZc _, i + 1, (i : Int), some (setS l (i : Int)), by omega, rfl, qZh hnx (qZe _ _), by simp only [ua, seval, tyf], by simp only [ua, seval, H1], by simp only [ua, seval, tyf, accC], by simp only [ua, seval, e1], by simp only [ua, seval, e2], by simp only [ua, seval, e4], by simp only [ua, seval] <;> rfl, by simp only [ua, seval], h⟩
def wi (k : Int) (x : GSpan) : Int := x.Low + Int.tdiv ((x.High - x.Low) * k) 10
variable {k : Int}
theorem wi_b {x : GSpan} (h : 0 ≤ x.Low ∧ x.Low ≤ x.High ∧ x.High ≤ 20) (h0 : 0 ≤ k) (h1 : k ≤ 10) : x.Low ≤ wi k x ∧ wi k x ≤ x.High ∧ 0 ≤ (x.High - x.Low) * k ∧ (x.High - x.Low) * k ≤ 200 := by
 have hm := mulR (a := x.High - x.Low) (A := 20) (b := k) (B := 10) (by omega) (by omega) h0 h1
 have h2 : (x.High - x.Low) * k ≤ (x.High - x.Low) * 10 := Int.mul_le_mul_of_nonneg_left h1 (by omega)
 have hd := Int.tdiv_eq_ediv_of_nonneg (b := 10) hm.1
 unfold wi
 rw [hd]
 omega
theorem uc {k' : Int} {x : GSpan} (h : 0 ≤ x.Low ∧ x.Low ≤ x.High ∧ x.High ≤ 20) (h0 : 0 ≤ k) (hk : k ≤ k') (h1 : k' ≤ 10) : wi k x ≤ wi k' x := by
 have h2 : (x.High - x.Low) * k ≤ (x.High - x.Low) * k' := Int.mul_le_mul_of_nonneg_left hk (by omega)
 have a := (wi_b h h0 (by omega)).2.2.1
 unfold wi
 rw [Int.tdiv_eq_ediv_of_nonneg a, Int.tdiv_eq_ediv_of_nonneg (by omega)]
 omega
theorem F1 (l : Gld) (x : GSpan) (h : 0 ≤ x.Low ∧ x.Low ≤ x.High ∧ x.High ≤ 20) (h0 : 0 ≤ l.stretch) (h1 : l.stretch ≤ 10) : so l x = some (wi l.stretch x) := by
 have hb := wi_b h h0 h1
 unfold so wi
 unfold wi at hb
 rw [jJ (n := x.High - x.Low) (by omega) (by omega), jJ (n := (x.High - x.Low) * l.stretch) (by omega) (by omega), jJ (n := Int.tdiv _ 10) (by omega) (by omega), jJ (by omega) (by omega)]
def spP (s : GLs) (a b : Int) : GSpan := (lastP a b s.Pairs none).getD s.Other
theorem yJ {a b : Int} : ∀ (ps : List GLp) (o : Option GSpan) (v : GSpan), lastP a b ps o = some v → o = some v ∨ ∃ p ∈ ps, p.Left = a ∧ p.Right = b ∧ p.Space = v
 | [], o, v, h => .inl h
 | p :: ps, o, v, h => by
  rcases yJ ps _ v h with h | ⟨q, h1, h2⟩
  ·split at h
   ·rename_i hc
    simp only [Option.some.injEq] at h
    exact .inr ⟨p, qZb .., hc.1.symm, hc.2.symm, h⟩
   ·exact .inl h
  ·exact .inr ⟨q, qZa _ h1, h2⟩
variable {s : GLs}
theorem spP_b (h : Sh s) (a b : Int) : 0 ≤ (spP s a b).Low ∧ (spP s a b).Low ≤ (spP s a b).High ∧ (spP s a b).High ≤ 20 := by
 unfold spP
 cases hl : lastP a b s.Pairs none with
 | none => have := h.other; simp only [Option.getD_none]; omega
 | some v =>
  rcases yJ _ _ _ hl with hh | ⟨p, h1, _, _, rfl⟩
  ·cases hh
  ·have := h.pair p h1
   simp only [Option.getD_some]; omega
def spF (s : GLs) (k : Int) (m : Glm) : Option Glm → Int
 | none => cond m.hyphen (wi k s.Other) 0
 | some n => cond m.hyphen (wi k s.Other) (if n.row = m.row then (if n.word = m.word then wi k (spP s m.sign n.sign) else wi k s.Gap) else 0)
theorem spF_b (h : Sh s) (h0 : 0 ≤ k) (h1 : k ≤ 10) (m : Glm) (n : Option Glm) : 0 ≤ spF s k m n ∧ spF s k m n ≤ 20 := by
 have ho := h.other
 have hg := h.gap
 have a := wi_b (x := s.Other) (by omega) h0 h1
 have b := wi_b (x := s.Gap) (by omega) h0 h1
 unfold spF
 cases n with
 | none => cases m.hyphen <;> simp only [cond_true, cond_false] <;> omega
 | some n =>
  have hc := spP_b h m.sign n.sign
  have c := wi_b hc h0 h1
  simp only
  cases m.hyphen with
  | true => simp only [cond_true]; omega
  | false =>
   simp only [cond_false]
   split
   ·split <;> omega
   ·omega
theorem F2 (h : Sh s) {k' : Int} (h0 : 0 ≤ k) (hk : k ≤ k') (h1 : k' ≤ 10) (m : Glm) (n : Option Glm) : spF s k m n ≤ spF s k' m n := by
 have ho := h.other
 have hg := h.gap
 have a := uc (x := s.Other) (by omega) h0 hk h1
 have b := uc (x := s.Gap) (by omega) h0 hk h1
 unfold spF
 cases n with
 | none => cases m.hyphen <;> simp only [cond_true, cond_false] <;> omega
 | some n =>
  have c := uc (spP_b h m.sign n.sign) h0 hk h1
  simp only
  cases m.hyphen with
  | true => simp only [cond_true]; omega
  | false =>
   simp only [cond_false]
   split
   ·split <;> omega
   ·omega
def wd (s : GLs) (n : Int) : Int := (getI s.Widths n).getD 0
theorem yK (h : Sh s) {n : Int} (h0 : 0 ≤ n) (h1 : n < s.Widths.length) : getI s.Widths n = some (wd s n) ∧ 1 ≤ wd s n ∧ wd s n ≤ 20 := by
 obtain ⟨x, hx, hm⟩ := F3 h0 h1
 have := h.wid x hm
 unfold wd
 rw [hx]
 exact ⟨rfl, this.1, this.2⟩
def addL (s : GLs) (k r : Int) : List Glm → List Int
 | [] => []
 | m :: ms => (if m.row = r then [wd s m.sign, spF s k m ms.head?] ++ cond m.hyphen [s.Hyphen] [] else []) ++ addL s k r ms
def Marks (s : GLs) (ms : List Glm) : Prop := ∀ m ∈ ms, 0 ≤ m.sign ∧ m.sign < s.Widths.length
theorem yL {s : GLs} (h : Sh s) {k r : Int} (h0 : 0 ≤ k) (h1 : k ≤ 10) : ∀ (ms : List Glm), Marks s ms → (∀ x ∈ addL s k r ms, 0 ≤ x ∧ x ≤ 20) ∧ (addL s k r ms).length ≤ 3 * ms.length
 | [], _ => by simp [addL]
 | m :: ms, hm => by
  obtain ⟨i1, i2⟩ := yL h h0 h1 (r := r) ms fun x hx => hm x (qZa _ hx)
  have hs := hm m (qZb ..)
  have hw := yK h hs.1 hs.2
  have hp := spF_b h h0 h1 m ms.head?
  have hh := h.hyp
  unfold addL
  split
  ·cases m.hyphen with
   | true =>
    simp only [cond_true, List.cons_append, List.nil_append, List.mem_cons, List.length_cons]
    refine ⟨?_, by omega⟩
    rintro x (rfl | rfl | rfl | hx)
    ·omega
    ·omega
    ·omega
    ·exact i1 x hx
   | false =>
    simp only [cond_false, List.append_nil, List.cons_append, List.nil_append, List.mem_cons, List.length_cons]
    refine ⟨?_, by omega⟩
    rintro x (rfl | rfl | hx)
    ·omega
    ·omega
    ·exact i1 x hx
  ·simp only [List.nil_append, List.length_cons]
   exact ⟨i1, by omega⟩
def rowF (s : GLs) (k r : Int) (ms : List Glm) : Int := (addL s k r ms).sum
theorem yM : ∀ (xs : List Int) (i a : Int), (∀ x ∈ xs, 0 ≤ x ∧ x ≤ 20) → 0 ≤ a → a + 20 * xs.length ≤ 1000000 → tT xs i a = some (.go (a + xs.sum))
 | [], _, a, _, _, _ => by simp [tT]
 | x :: xs, i, a, h, h0, h1 => by
  have := h x (qZb ..)
  simp only [List.length_cons] at h1
  simp only [tT]
  rw [jJ (by omega) (by omega), yM xs (i + 1) _ (fun y hy => h y (qZa _ hy)) (by omega) (by omega), List.sum_cons, Int.add_assoc]
theorem F4 (xs : List Int) (h : ∀ x ∈ xs, 0 ≤ x ∧ x ≤ 20) (hl : xs.length ≤ 1000) : yC xs = some xs.sum := by
 simp only [yC]
 rw [kH (by omega), cond_true, yM xs 0 0 h (qZf _) (by omega), my, Int.zero_add]
structure LOk (l : Gld) : Prop where
 sh : Sh l.ls
 mp : MapOk l.spaces (fun a b => lastP a b l.ls.Pairs none)
 sg : Marks l.ls l.marks
 nm : l.marks.length ≤ 24
 ne : l.lx.Ends.length ≤ 24
 rw : ∀ j : Int, 0 ≤ j → j < l.lx.Ends.length → ∃ m ∈ l.marks, m.row = j
 k0 : 0 ≤ l.stretch
 k1 : l.stretch ≤ 10
variable {l : Gld}
theorem F5 (h : LOk l) {i : Int} {m : Glm} {ms : List Glm} (h0 : 0 ≤ i) (hd : l.marks.drop i.toNat = m :: ms) : y9 l i = some (spF l.ls l.stretch m ms.head?) := by
 have hg : getI l.marks i = some m := fA h0 hd
 have hlt := F6 hg
 have hn := h.nm
 have ho := h.sh.other
 have hgp := h.sh.gap
 have bn : ms.length + 1 + i.toNat = l.marks.length := by
  have := congrArg List.length hd
  simp only [List.length_drop, List.length_cons] at this
  omega
 simp only [y9, hg, Option.bind_some, F1 l l.ls.Other (by omega) h.k0 h.k1, F1 l l.ls.Gap (by omega) h.k0 h.k1]
 unfold spF
 rw [jJ (by omega) (by omega)]
 cases hh : m.hyphen with
 | true => cases ms <;> rfl
 | false =>
  simp only [cond_false]
  cases ms with
  | nil =>
   have : (i + 1 == (l.marks.length : Int)) = true := by simp only [List.length_nil] at bn; simp; omega
   rw [this]; rfl
  | cons n ms =>
   have : (i + 1 == (l.marks.length : Int)) = false := by simp only [List.length_cons] at bn; simp; omega
   have V3 : getI l.marks (i + 1) = some n := fA (by omega) (dm h0 hd)
   rw [this, cond_false, V3, Option.bind_some]
   simp only [List.head?_cons]
   by_cases hr : n.row = m.row
   ·have : (n.row != m.row) = false := by simp [hr]
    rw [this, cond_false, if_pos hr]
    by_cases hw : n.word = m.word
    ·have : (n.word != m.word) = false := by simp [hw]
     rw [this, cond_false, if_pos hw]
     obtain ⟨m1, m2⟩ := h.mp m.sign n.sign
     replace m1 : mapHas dQ l.spaces (Glp.mk m.sign n.sign) = (lastP m.sign n.sign l.ls.Pairs none).isSome := m1
     rw [m1]
     have hb := spP_b h.sh m.sign n.sign
     unfold spP at hb ⊢
     cases hl : lastP m.sign n.sign l.ls.Pairs none with
     | none => rfl
     | some v =>
      rw [hl] at hb
      simp only [Option.getD_some] at hb ⊢
      rw [Option.isSome_some, cond_true, m2 v hl, F1 l v hb h.k0 h.k1, Option.bind_some]
    ·have : (n.word != m.word) = true := by simp [hw]
     rw [this, cond_true, if_neg hw]
   ·have : (n.row != m.row) = true := by simp [hr]
    rw [this, cond_true, if_neg hr]
theorem roomOk8 {n : Nat} (h : n ≤ 1000) : ar 8 n = true := by simp [ar]; omega
theorem rj {l : Gld} (h : LOk l) (r : Int) : ∀ (ms : List Glm) (i : Int) (acc : List Int), 0 ≤ i → l.marks.drop i.toNat = ms → acc.length + 3 * ms.length ≤ 500 → qX l r ms i acc = some (.go (acc ++ addL l.ls l.stretch r ms))
 | [], i, acc, _, _, _ => by simp [qX, addL]
 | m :: ms, i, acc, h0, hd, hn => by
  have hs := h.sg m (by have := F7 (fA h0 hd); exact this)
  have hw := yK h.sh hs.1 hs.2
  simp only [List.length_cons] at hn
  simp only [qX, addL]
  by_cases hr : m.row = r
  ·have : (m.row != r) = false := by simp [hr]
   rw [this, cond_false, hw.1, Option.bind_some, F5 h h0 hd, Option.bind_some, roomOk8 (by simp; omega), cond_true, if_pos hr]
   cases m.hyphen with
   | true =>
    simp only [cond_true]
    rw [roomOk8 (by simp; omega), cond_true, rj h r ms (i + 1) _ (by omega) (dm h0 hd) (by simp; omega)]
    simp
   | false =>
    simp only [cond_false]
    rw [rj h r ms (i + 1) _ (by omega) (dm h0 hd) (by simp; omega)]
    simp
  ·have : (m.row != r) = true := by simp [hr]
   rw [this, cond_true, if_neg hr, rj h r ms (i + 1) acc (by omega) (dm h0 hd) (by omega)]
   simp
theorem F8 (h : LOk l) (r : Int) : yD l r = some (rowF l.ls l.stretch r l.marks) := by
 have hn := h.nm
 obtain ⟨a1, a2⟩ := yL h.sh h.k0 h.k1 (r := r) l.marks h.sg
 simp only [yD]
 rw [kH (by omega), cond_true, rj h r l.marks 0 [] (by omega) rfl (by simp; omega), my, List.nil_append, F4 _ a1 (by omega)]
 rfl
theorem RO {s : GLs} (h : Sh s) {k k' : Int} (h0 : 0 ≤ k) (hk : k ≤ k') (h1 : k' ≤ 10) (r : Int) : ∀ (ms : List Glm), rowF s k r ms ≤ rowF s k' r ms
 | [] => qZf _
 | m :: ms => by
  have ih := RO h h0 hk h1 r ms
  have hp := F2 h h0 hk h1 m ms.head?
  unfold rowF at ih ⊢
  unfold addL
  split
  ·cases m.hyphen <;> simp only [cond_true, cond_false, List.append_nil, List.cons_append, List.nil_append, List.sum_cons] <;> omega
  ·simpa using ih
def rowsOk (s : GLs) (k : Int) (ms : List Glm) : Nat → Int → Bool
 | 0, _ => true
 | n + 1, r => decide (rowF s k r ms ≤ s.Wide) && rowsOk s k ms n (r + 1)
theorem F9 {s : GLs} {k : Int} {ms : List Glm} : ∀ (n : Nat) (r : Int), rowsOk s k ms n r = true ↔ ∀ j : Int, r ≤ j → j < r + n → rowF s k j ms ≤ s.Wide
 | 0, r => by simp only [rowsOk, true_iff]; intro j h1 h2; omega
 | n + 1, r => by
  simp only [rowsOk, Bool.and_eq_true, decide_eq_true_eq, F9 n (r + 1)]
  constructor
  ·rintro ⟨h1, h2⟩ j h3 h4
   by_cases hj : j = r
   ·rw [hj]; exact h1
   ·exact h2 j (by omega) (by omega)
  ·exact fun h => ⟨h r (by omega) (by omega), fun j h1 h2 => h j (by omega) (by omega)⟩
def fitB (l : Gld) (k : Int) : Bool := rowsOk l.ls k l.marks l.lx.Ends.length 0 && decide ((l.lx.Ends.length : Int) ≤ l.ls.Rows)
theorem yN {l : Gld} (h : LOk l) : ∀ (es : List GLe) (r : Int), wx l es r = goB (rowsOk l.ls l.stretch l.marks es.length r)
 | [], _ => rfl
 | e :: es, r => by
  simp only [wx, CM, F8 h, Option.bind_some, List.length_cons, rowsOk, m9]
  by_cases hw : rowF l.ls l.stretch r l.marks ≤ l.ls.Wide
  ·rw [decide_eq_false (show ¬ (rowF l.ls l.stretch r l.marks > l.ls.Wide) by omega), decide_eq_true hw]
   simp only [cond_false, cond_true, Option.bind_some]
   exact yN h es (r + 1)
  ·rw [decide_eq_true (show (rowF l.ls l.stretch r l.marks > l.ls.Wide) by omega), decide_eq_false hw]
   rfl
theorem FA (h : LOk l) : ub l = some (fitB l l.stretch) := by
 have := h.ne
 simp only [ub]
 rw [kH (by omega), cond_true, yN h, wy]
 unfold fitB
 cases rowsOk l.ls l.stretch l.marks l.lx.Ends.length 0 <;> rfl
def CQ (xs : List Int) : Option (List Int) := cond (neB xs) (cond (ar 8 xs.length) (some xs) none) none
theorem RP (xs R : List Int) (h : CQ xs = some R) : ah prog G0 129 [.sl (ad eI xs) xs.length false] (.own (ad eI R) R.length 1) := by
 unfold CQ at h
 cases hn : neB xs with
 | false => rw [hn] at h; cases h
 | true =>
 cases hr : ar 8 xs.length with
 | false => rw [hn, hr] at h; cases h
 | true =>
 rw [hn, hr] at h
 simp only [cond_true, Option.some.injEq] at h
 subst h
 have hc : ad eI xs ≠ [] := by
  cases xs with
  | nil => cases hn
  | cons a l => intro hh; cases hh
 have hnil : ∀ (H : Nat → Option Vo) (x y : Operand), binV prog H .eql 22 x y (.sl (ad eI xs) xs.length false) (.lit (.slice none 0 0)) = some (.lit (.bool false)) := fun H x y => RQ underlying22 hc
 have hb : aC prog 22 0 [] = some ([], 1) := by kernel_rfl
 refine ah.run mixed call129 func129 rfl (by simp [ntmps129]; kernel_rfl) ?_
 simp only [vz, tyf, hnil, hb, List.map_nil, seval]
 refine mA (w := 1) (enc := eI) (xs := ([] : List Int)) (ys := xs) (el := some 3) (fun _ => rfl) ct cu underlying22 rfl hn (by rw [List.nil_append]; exact hr) ?_
 simp only [vz, tyf, List.nil_append, seval]
 refine ⟨rfl, .ref 5 0 xs.length 1 xs.length, by simp [results129, resV, resL, aw, upd], (ad eI xs).length + 1, 5, _, ad eI xs, ⟨_, rfl⟩, by simp only [aQ, bp, seval] <;> rfl, rk _ _ (eI_ok.treeL xs) (qZc _)⟩
def wz (xs : List GLe) : Option (List GLe) := cond (neB xs) (cond (ar 16 xs.length) (some xs) none) none
theorem FB (xs R : List GLe) (h : wz xs = some R) : ah prog G0 128 [.sl (ad cGLe xs) xs.length false] (.own (ad cGLe R) R.length 2) := by
 unfold wz at h
 cases hn : neB xs with
 | false => rw [hn] at h; cases h
 | true =>
 cases hr : ar 16 xs.length with
 | false => rw [hn, hr] at h; cases h
 | true =>
 rw [hn, hr] at h
 simp only [cond_true, Option.some.injEq] at h
 subst h
 have hc : ad cGLe xs ≠ [] := by
  cases xs with
  | nil => cases hn
  | cons a l => intro hh; cases hh
 have hnil : ∀ (H : Nat → Option Vo) (x y : Operand), binV prog H .eql 29 x y (.sl (ad cGLe xs) xs.length false) (.lit (.slice none 0 0)) = some (.lit (.bool false)) := fun H x y => RQ underlying29 hc
 have hb : aC prog 29 0 [] = some ([], 2) := by kernel_rfl
 refine ah.run mixed call128 func128 rfl (by simp [ntmps128]; kernel_rfl) ?_
 simp only [vz, tyf, hnil, hb, List.map_nil, seval]
 refine mA (w := 2) (enc := cGLe) (xs := ([] : List GLe)) (ys := xs) (el := some 100) (fun _ => rfl) iR iS underlying29 rfl hn (by rw [List.nil_append]; exact hr) ?_
 simp only [vz, tyf, List.nil_append, seval]
 refine ⟨rfl, .ref 5 0 xs.length 2 xs.length, by simp [results128, resV, resL, aw, upd], (ad cGLe xs).length + 1, 5, _, ad cGLe xs, ⟨_, rfl⟩, by simp only [aQ, bp, seval] <;> rfl, rk _ _ (ez.treeL xs) (qZc _)⟩
theorem FrozenL.get {H H' : Nat → Option Vo} : ∀ {xs ys : List VV} (i : Nat), FrozenL H H' xs ys → Frozen H H' ((xs[i]?).getD (.lit undef)) ((ys[i]?).getD (.lit undef))
 | [], [], _, _ => .inl rfl
 | x :: xs, y :: ys, 0, h => h.1
 | x :: xs, y :: ys, i + 1, h => by simpa using FrozenL.get i h.2
 | [], _ :: _, _, h => h.elim
 | _ :: _, [], _, h => h.elim
variable {β : Nat} {o : Oper} {K : St → Prop} {X : Nat → Option Vo}
theorem FC {st : St} : RoundEnd β o { st with H := X } K = RoundEnd β o st K := by
 obtain ⟨d, op, ty, pos, af, gd⟩ := o
 funext e s
 cases d <;> cases e <;> rfl
variable {P : Program}
theorem V4 {G : Gb} {n : Nat} {bo : Code} {st : St} : RoundStart P G n β bo o { st with H := X } K = RoundStart P G n β bo o st K := by
 funext e s
 cases e <;> first | rfl | (unfold RoundStart; rw [FC])
theorem FrozenL.set {H H' : Nat → Option Vo} {x y : VV} (hx : Frozen H H' x y) : ∀ {xs ys : List VV} (i : Nat), FrozenL H H' xs ys → FrozenL H H' (xs.set i x) (ys.set i y)
 | [], [], _, _ => trivial
 | _ :: _, _ :: _, 0, h => ⟨hx, h.2⟩
 | _ :: _, _ :: _, i + 1, h => ⟨h.1, FrozenL.set hx i h.2⟩
 | [], _ :: _, _, h => h.elim
 | _ :: _, [], _, h => h.elim
theorem RT {H H' : Nat → Option Vo} : ∀ (ps : List Tmp) {args args' tm tm' : List VV}, FrozenL H H' args args' → FrozenL H H' tm tm' → FrozenL H H' (roundTm tm ps args) (roundTm tm' ps args')
 | [], _, _, _, _, _, h => h
 | _ :: _, [], [], _, _, _, h => h
 | p :: ps, x :: xs, y :: ys, tm, tm', ha, h => RT ps (args := xs) (args' := ys) ha.2 (FrozenL.set ha.1 p h)
 | _ :: _, [], _ :: _, _, _, ha, _ => ha.elim
 | _ :: _, _ :: _, [], _, _, ha, _ => ha.elim
variable {H : Nat → Option Vo} {ns : List Nat}
theorem FD {c : Ctx} {W : World} (s : Sim c W) (hH : c.H = H) (hns : ∀ γ ∈ ns, ∃ el cs, H γ = some (.cells el cs)) : ∀ x st pe tm ps asg bo df, lessN H ns x = some (.loop st pe tm ps asg bo df) → isDef (lessN H ns) df := by
 intro x st pe tm ps asg bo df hx
 subst hH
 obtain ⟨l, fn, _, _, _, ds, hd⟩ := s.obj x _ (RU x _ hx)
 refine ⟨ds, ?_⟩
 unfold lessN
 split
 ·rename_i hm
  obtain ⟨el, cs, hc⟩ := hns df hm
  rw [hc] at hd; cases hd
 ·exact hd
theorem yieldK.freezeN {G : Gb} {args args' : List VV} {st : St} (ns : List Nat) (hns : ∀ γ ∈ ns, ∃ el cs, st.H γ = some (.cells el cs)) (hβ : β ∉ ns) (ha : FrozenL st.H (lessN st.H ns) args args')
  (h : yieldK P G o β args' { st with H := lessN st.H ns } K) : yieldK P G o β args st K := by
 unfold yieldK at h ⊢
 have e : lessN st.H ns β = st.H β := by unfold lessN; rw [if_neg hβ]
 simp only [e] at h
 split at h
 ·rename_i pe tm ps asg bo df hl
  obtain ⟨h1, h2⟩ := h
  refine ⟨by rw [← FrozenL.length ha]; exact h1, ?_⟩
  rw [V4] at h2
  intro ro c W a hro s hr hsz
  have hloop := FD s hr.H hns
  refine VWp.freeze (st := { tm := bk (roundTm tm ps.toList args), H := st.H, nx := st.nx, df := [] }) (lessN st.H ns) (bk (roundTm tm ps.toList args')) (fun β o' hb => ⟨o', RU β o' hb, .inl rfl⟩) hloop (fun t => ?_) h2 ro c W a hro s hr hsz
  exact FrozenL.get t (RT ps.toList ha FrozenL.same)
 ·exact h.elim
theorem yO {x : VV} (h : x.tree = true) (n : Nat) (hn : 1 ≤ n) : sealV H n x = some x := by
 obtain ⟨m, rfl⟩ : ∃ m, n = m + 1 := ⟨n - 1, by omega⟩
 unfold sealV
 rw [h]
 rfl
variable {el : Option TypeId} {cs : List VV}
theorem w5 {γ k w cp : Nat} (hγ : H γ = some (.cells el cs)) (ht : tl cs = true) (hl : cs.length = k * w) (n : Nat) (hn : cs.length + 2 ≤ n) : sealV H n (.ref γ 0 k w cp) = some (.sl cs k false) := by
 obtain ⟨m, rfl⟩ : ∃ m, n = m + 1 := ⟨n - 1, by omega⟩
 unfold sealV
 have : (VV.ref γ 0 k w cp).tree = false := rfl
 rw [this]
 simp only [Bool.false_eq_true, if_false, hγ, Nat.zero_le, if_true, List.drop_zero]
 rw [List.take_of_length_le (by omega), rk cs _ ht (by omega)]
 rfl
theorem Frozen.pair {H' : Nat → Option Vo} {x y x' y' : VV} (m : Nat) (hx : ∀ n, m ≤ n → sealV (gone H H') n x = some x') (hy : ∀ n, m ≤ n → sealV (gone H H') n y = some y') (ht : (VV.agg [x, y]).tree = false) : Frozen H H' (.agg [x, y]) (.agg [x', y']) := by
 refine .inr (.inr ⟨m + 4, ?_⟩)
 show sealV (gone H H') ((m + 3) + 1) _ = _
 unfold sealV
 rw [ht]
 simp only [Bool.false_eq_true, if_false]
 have e3 : aW (gone H H') (m + 1) [] = some [] := by simp [aW]
 have e2 : aW (gone H H') (m + 2) [y] = some [y'] := by
  show aW (gone H H') ((m + 1) + 1) _ = _
  unfold aW
  rw [hy (m + 1) (by omega), e3]
 have e1 : aW (gone H H') (m + 3) [x, y] = some [x', y'] := by
  show aW (gone H H') ((m + 2) + 1) _ = _
  unfold aW
  rw [hx (m + 2) (by omega), e2]
 rw [e1]
 rfl
theorem w6 {γ : Nat} (hm : γ ∈ ns) (hγ : H γ = some (.cells el cs)) : gone H (lessN H ns) γ = some (.cells el cs) := by
 simp [gone, lessN, hm, hγ]
abbrev sE (l : List GLe) : VV := .sl (ad cGLe l) l.length false
abbrev sSet (out : List Int) (e : List GLe) : VV := .agg [vx eI out, sE e]
def goStg (rc : List GLe → Nat → Option (List (List GLe))) (poss : List GLe) (p : List GLe) : Nat → Nat → Option (List (List GLe))
 | 0, _ => some []
 | m + 1, i => Option.bind (poss[i]?) fun e => Option.bind (rc (p ++ [e]) (i + 1)) fun a => Option.bind (goStg rc poss p m (i + 1)) fun r => some (a ++ r)
def stgO (poss : List GLe) (last : Nat) (rows : Int) : Nat → List GLe → Nat → Option (List (List GLe))
 | 0, _, _ => none
 | d + 1, p, fr => Option.bind (goStg (stgO poss last rows d) poss p (if (p.length : Int) + 1 < rows then last - fr else 0) fr) fun a => Option.bind (poss[last]?) fun e => some (a ++ [p ++ [e]])
theorem argsTm8 {a b c e f g h i : VV} : bk [a, b, c, e, f, g, h, i] = upd (upd (upd (upd (upd (upd (upd (upd (fun _ => .lit undef) 0 a) 1 b) 2 c) 3 e) 4 f) 5 g) 6 h) 7 i := by
 funext t; rcases t with _ | _ | _ | _ | _ | _ | _ | _ | t <;> simp [bk, upd]
theorem FE {t e : Nat} (hu : P.underlying t = some (.slice e)) : ∀ {p : List GLe}, vlen P H t (vx cGLe p) = some (.lit (.int .i64 p.length))
 | [] => by simp [vlen, vx, hu, sls]
 | _ :: _ => by simp [vlen, vx, hu, sls]
theorem RV : ah prog G0 129 [.lit (.slice none 0 0)] (.tree (.lit (.slice none 0 0))) := by
 have hnil : ∀ (H : Nat → Option Vo) (x y : Operand), binV prog H .eql 22 x y (.lit (.slice none 0 0)) (.lit (.slice none 0 0)) = some (.lit (.bool true)) := fun H x y => by kernel_rfl
 refine ah.run mixed call129 func129 rfl (by simp [ntmps129]; kernel_rfl) ?_
 simp only [vz, tyf, hnil, seval, ua]
 exact ⟨rfl, .lit (.slice none 0 0), by simp [results129, resV, resL, aw, upd], 1, rfl⟩
theorem FF : ah prog G0 128 [.lit (.slice none 0 0)] (.tree (.lit (.slice none 0 0))) := by
 have hnil : ∀ (H : Nat → Option Vo) (x y : Operand), binV prog H .eql 29 x y (.lit (.slice none 0 0)) (.lit (.slice none 0 0)) = some (.lit (.bool true)) := fun H x y => by kernel_rfl
 refine ah.run mixed call128 func128 rfl (by simp [ntmps128]; kernel_rfl) ?_
 simp only [vz, tyf, hnil, seval, ua]
 exact ⟨rfl, .lit (.slice none 0 0), by simp [results128, resV, resL, aw, upd], 1, rfl⟩
theorem yP {α : Type} {xs : List α} {i : Nat} {x : α} (h : xs[i]? = some x) : getI xs (i : Int) = some x := by
 unfold getI
 simp [h]
abbrev sCaps (la e pl y : Nat) (s : GLs) (out : List Int) : List VV := [.ptr la 0, .tp (cGLs s), .ptr e 0, .ptr pl 0, .ptr y 0, .tp [vx eI out]]
def SExt (β y e pl la : Nat) (s : GLs) (out : List Int) (poss : List GLe) (last : Nat) (I : Inv) (d : Nat) : Prop :=
 ∀ (p : List GLe) (fr : Nat) (rest : List VV) (L : List (List GLe)) (Fr : Nat → Prop) (H : Nat → Option Vo) (nx : Nat), stgO poss last s.Rows d p fr = some L → p.length + d < 1000 → fr < 1000000 → β < nx → (∀ γ, Fr γ → γ < nx) → Fr y → Fr e → Fr pl → Fr la →
  H y = some (.cells (some 33) [.yl β]) → H pl = some (.cells (some 29) [sE poss]) → H la = some (.cells (some 3) [.lit (.int .i64 (last : Int))]) → H e = some (.cells (some 155) [.fn (.func 127) [] (sCaps la e pl y s out)]) →
  I (some (L.map (sSet out) ++ rest)) Fr H nx →
  aX prog G0 127 [vx cGLe p, .lit (.int .i64 (fr : Int)), .ptr la 0, .tp (cGLs s), .ptr e 0, .ptr pl 0, .ptr y 0, .tp [vx eI out]] H nx
   (fun v H' nx' => ∃ b, v = .lit (.bool b) ∧ nx ≤ nx' ∧ (∀ γ, Fr γ → H' γ = H γ) ∧ I (if b then some rest else none) Fr H' nx') (fun _ _ _ => False)
theorem RW {p : List GLe} {e : GLe} (h : p ≠ []) (hr : ar 16 (p ++ [e]).length = true) : wz p = some p := by
 unfold wz
 have h1 : neB p = true := by cases p with
  | nil => exact absurd rfl h
  | cons a l => rfl
 have h2 : ar 16 p.length = true := by
  unfold ar at hr ⊢
  simp only [List.length_append, List.length_cons, List.length_nil, decide_eq_true_eq] at hr ⊢
  omega
 rw [h1, h2]; rfl
theorem FG {p : List Int} (h : p ≠ []) (hr : p.length < 1000000) : CQ p = some p := by
 unfold CQ
 have h1 : neB p = true := by cases p with
  | nil => exact absurd rfl h
  | cons a l => rfl
 have h2 : ar 8 p.length = true := by
  unfold ar
  simp only [decide_eq_true_eq]
  omega
 rw [h1, h2]; rfl
theorem FH {y e pl la : Nat} {out : List Int} {poss : List GLe} {last : Nat} {I : Inv} (hst : Stable I) (hr : Rounds prog G0 β I) (hlast : last < 1000000) (hout : out.length < 1000000) : ∀ d, SExt β y e pl la s out poss last I d := by
 intro d
 induction d with
 | zero => intro p fr rest L Fr H nx hL; cases hL
 | succ d ih =>
  intro p fr rest L Fr H nx hL RX FI hbx hF hFy hFe hFp hFl hy hpl hla he hI
  rw [stgO] at hL
  rcases hLa : goStg (stgO poss last s.Rows d) poss p (if (p.length : Int) + 1 < s.Rows then last - fr else 0) fr with _ | La
  ·rw [hLa] at hL; cases hL
  rw [hLa, Option.bind_some] at hL
  rcases hLe : poss[last]? with _ | eL
  ·rw [hLe] at hL; cases hL
  rw [hLe, Option.bind_some, Option.some.injEq] at hL
  subst hL
  rw [List.map_append, List.append_assoc] at hI
  refine aX.run mixed call127 func127 rfl (by simp [ntmps127]; kernel_rfl) ?_
  simp only [argsTm8, vz, tyf, seval, ua, rg]
  obtain ⟨J, hJ⟩ : ∃ J : Nat → St → Prop, J = (fun m st => ∃ (i : Nat) (Lr : List (List GLe)), i < 1000000 ∧ (m = if (p.length : Int) + 1 < s.Rows then last - i else 0) ∧ st.df = [] ∧ nx ≤ st.nx ∧ (∀ γ, Fr γ → st.H γ = H γ) ∧
   goStg (stgO poss last s.Rows d) poss p m i = some Lr ∧ I (some (Lr.map (sSet out) ++ (List.map (sSet out) [p ++ [eL]] ++ rest))) Fr st.H st.nx ∧
   st.tm 0 = vx cGLe p ∧ st.tm 2 = .ptr la 0 ∧ st.tm 3 = .tp (cGLs s) ∧ st.tm 4 = .ptr e 0 ∧ st.tm 5 = .ptr pl 0 ∧ st.tm 6 = .ptr y 0 ∧ st.tm 7 = .tp [vx eI out] ∧ st.tm 11 = .lit (.int .i64 (i : Int))) := ⟨_, rfl⟩
  refine loopK mixed (by kernel_rfl) J (if (p.length : Int) + 1 < s.Rows then last - fr else 0) (by
   rw [hJ]
   refine ⟨fr, La, FI, rfl, rfl, (show nx ≤ nx + 3 by omega), fun _ _ => rfl, hLa, hst _ _ _ _ _ _ _ hI (fun _ _ _ => rfl) (show nx ≤ nx + 3 by omega) (fun γ h => .inl h), ?_, ?_, ?_, ?_, ?_, ?_, ?_, ?_⟩ <;> first | rfl | (simp only [ua, seval] <;> rfl)) ?_
  rintro m ⟨tm, H1, br, df⟩ ba
  rw [hJ] at ba
  obtain ⟨i, Lr, hi1, hm, hdf, hn, oE, hLr, sy, e0, e2, e3, e4, e5, e6, e7, aB⟩ := ba
  simp only at hdf hn oE sy e0 e2 e3 e4 e5 e6 e7 aB
  subst hdf
  have oF : H1 e = _ := (oE e hFe).trans he
  have jk : H1 y = _ := (oE y hFy).trans hy
  have hp1' : H1 pl = _ := (oE pl hFp).trans hpl
  have eQ : H1 la = _ := (oE la hFl).trans hla
  have bn := fun H => FE (P := prog) (H := H) underlying29 (p := p)
  have hwp : i64.wrap ((p.length : Int) + 1) = (p.length : Int) + 1 := IntWalk.i64_in _ (by omega)
  cases m with
  | zero =>
   have hd : (decide ((i : Int) < (last : Int)) && decide ((p.length : Int) + 1 < s.Rows)) = false := by
    cases hc : (decide ((i : Int) < (last : Int)) && decide ((p.length : Int) + 1 < s.Rows)) with
    | false => rfl
    | true =>
     simp only [Bool.and_eq_true, decide_eq_true_eq] at hc
     rw [if_pos hc.2] at hm
     omega
   have V5 : Lr = [] := by
    simp only [goStg, Option.some.injEq] at hLr
    exact hLr.symm
   subst V5
   have hix := yP hLe
   have hroom : ar 16 (p ++ [eL]).length = true := by
    unfold ar
    simp only [List.length_append, List.length_cons, List.length_nil, decide_eq_true_eq]
    omega
   have hen : e < br := qZd (hF e hFe) hn
   have hyn : y < br := qZd (hF y hFy) hn
   have hpn : pl < br := qZd (hF pl hFp) hn
   have hln : la < br := qZd (hF la hFl) hn
   have fQ : (y = br + 13) = False := by simp only [eq_iff_iff, iff_false]; omega
   have fR : (y = br + 15) = False := by simp only [eq_iff_iff, iff_false]; omega
   have fS : (pl = br + 13) = False := by simp only [eq_iff_iff, iff_false]; omega
   have fT : (pl = br + 15) = False := by simp only [eq_iff_iff, iff_false]; omega
   have fU : (la = br + 13) = False := by simp only [eq_iff_iff, iff_false]; omega
   have fV : (la = br + 15) = False := by simp only [eq_iff_iff, iff_false]; omega
   cases hb : decide ((i : Int) < (last : Int))
   case' false => simp only [vz, tyf, seval, ua, e0, e2, e3, e4, e5, e6, e7, aB, eQ, bn, hwp, hb, rg]
   case' true =>
    rw [hb, Bool.true_and] at hd
    simp only [vz, tyf, seval, ua, e0, e2, e3, e4, e5, e6, e7, aB, eQ, bn, hwp, hb, hd, rg]
   all_goals
    refine CS (fun tm => tm 0 = vx cGLe p ∧ tm 2 = .ptr la 0 ∧ tm 5 = .ptr pl 0 ∧ tm 6 = .ptr y 0 ∧ tm 7 = .tp [vx eI out]) (by refine ⟨?_, ?_, ?_, ?_, ?_⟩ <;> simp only [ua, seval, e0, e2, e3, e4, e5, e6, e7, aB]) ?_
    clear e0 e2 e3 e4 e5 e6 e7 aB tm
    rintro tm ⟨e0, e2, e5, e6, e7⟩
    refine RY mixed 12 rfl rfl rfl (by kernel_rfl) ?_
    simp only [vz, tyf, seval, ua, e0, e2, e5, e6, e7, jk, rg]
    by_cases hone : out = []
    ·subst hone
     by_cases hpe : p = []
     ·subst hpe
      refine .inl ⟨rfl, .tree _, RV, ?_⟩
      simp only [vz, tyf, seval, ua, e0, e2, e5, e6, e7, jk, hp1', eQ, fQ, fR, fS, fT, fU, fV, (bS hix), rg]
      refine .inl ⟨rfl, .tree _, FF, ?_⟩
      simp only [vz, tyf, seval, ua, e0, e2, e5, e6, e7, jk, hp1', eQ, fQ, fR, fS, fT, fU, fV, (bS hix), rg]
      refine ni (w := 2) (enc := cGLe) (ys := [eL]) (fx := some 100) (fun _ => rfl) iR iS underlying29 (by first | rfl | (simp only [ua, nm, seval]; done) | (simp only [ua, nm, seval]; rfl)) (qZm _) hroom ?_
      simp only [vz, tyf, seval, ua, nm, e0, e2, e5, e6, e7, jk, hp1', eQ, fQ, fR, fS, fT, fU, fV, (bS hix), rg]
      refine lq ⟨?_, ?_⟩
      ·simp only [lr, lu, gf, lv, and_true, true_and]
       repeat' (first | exact trivial | refine qZj ?_ ?_ | rw [gf] | rw [ly] | exact Or.inl (by decide +kernel) | exact Or.inl (by dsimp only; decide +kernel) | (refine Or.inr ⟨?_, ?_⟩ <;> simp; done) | (refine Or.inr ⟨?_, ?_⟩ <;> simp <;> omega) | (refine Or.inr ⟨?_, ?_⟩ <;> simp [Ve.wr] <;> omega))
      simp only [vz, tyf, seval, ua, nm, e0, e2, e5, e6, e7, jk, hp1', eQ, fQ, fR, fS, fT, fU, fV, (bS hix), rg]
      have ud : I (some (sSet [] ([] ++ [eL]) :: rest)) Fr H1 br := sy
      refine yieldK.freezeN (args' := [sSet [] ([] ++ [eL])]) [br + 21] ?_ (by simp; omega) ⟨Frozen.pair (2 * ([] ++ [eL]).length + 2 + ([] : List Int).length + 2) (fun n hn => ?_) (fun n hn => ?_) rfl, trivial⟩ ?_
      ·intro γ hγ
       simp only [List.mem_cons, List.not_mem_nil, or_false] at hγ
       subst hγ; exact ⟨_, _, by first | rfl | (simp only [ua, nm, seval]; done) | (simp only [ua, nm, seval]; rfl)⟩
      ·exact yO rfl n (by omega)
      ·exact w5 (w6 (by simp) (by first | rfl | (simp only [ua, nm, seval]; done) | (simp only [ua, nm, seval]; rfl))) (ez.treeL _) (by rw [gg (w := 2) (fun _ => rfl)]) n (by rw [gg (w := 2) (fun _ => rfl)]; omega)
      refine (hr (sSet [] ([] ++ [eL])) rest Fr _ _ (fun γ h => qZd (hF γ h) (qZh hn (qZe _ _))) (hst _ _ _ _ _ _ _ ud (fun γ h _ => ?_) (qZe _ _) (fun γ h => .inl h))) (some none) _ _ _ rfl rfl ?_
      ·have n1 : γ ≠ br + 21 := by omega
       have n2 : γ ≠ br + 20 := by omega
       have n3 : γ ≠ br + 15 := by omega
       have n4 : γ ≠ br + 13 := by omega
       simp only [lessN, updH, without, List.mem_cons, List.not_mem_nil, or_false, n1, n2, n3, n4, if_false, or_self]
      rintro b H2 nn ⟨h1, h2, h3⟩
      simp only [vz, tyf, seval, ua]
      refine bO (x := .lit (.bool b)) (by simp [results127, resV, resL, aw, upd]) ⟨b, rfl, qZh (qZh hn (qZe _ _)) h1, fun γ h => ?_, h3⟩
      have g1 := hF γ h
      rw [h2 γ h, ← oE γ h]
      have n1 : γ ≠ br + 21 := by omega
      have n2 : γ ≠ br + 20 := by omega
      have n3 : γ ≠ br + 15 := by omega
      have n4 : γ ≠ br + 13 := by omega
      simp only [lessN, updH, without, List.mem_cons, List.not_mem_nil, or_false, n1, n2, n3, n4, if_false, or_self]
     ·have hvp : vx cGLe p = sE p := w7 hpe
      have hclp := RW hpe hroom
      refine .inl ⟨rfl, .tree _, RV, ?_⟩
      simp only [vz, tyf, seval, ua, e0, e2, e5, e6, e7, jk, hp1', eQ, fQ, fR, fS, fT, fU, fV, (bS hix), rg]
      rw [hvp]
      refine dkown (args0 := [sE p]) (by first | (simp only [nrm, aq]; done) | (simp only [nrm, aq]; rfl) | rfl) (by simp only [tre, an, Bool.and_self]) (FB _ _ hclp) ?_
      simp only [vz, tyf, seval, ua, e0, e2, e5, e6, e7, jk, hp1', eQ, fQ, fR, fS, fT, fU, fV, (bS hix), rg]
      refine k_app (w := 2) (enc := cGLe) (xs := p) (ys := [eL]) (el := none) (fx := some 100) (fun _ => rfl) iR iS underlying29 (by first | rfl | (simp only [ua, nm, seval]; done) | (simp only [ua, nm, seval]; rfl)) (by first | rfl | (simp only [ua, nm, seval]; done) | (simp only [ua, nm, seval]; rfl)) (qZm _) hroom ?_
      simp only [vz, tyf, seval, ua, nm, e0, e2, e5, e6, e7, jk, hp1', eQ, fQ, fR, fS, fT, fU, fV, (bS hix), rg]
      refine lq ⟨?_, ?_⟩
      ·simp only [lr, lu, gf, lv, and_true, true_and]
       repeat' (first | exact trivial | refine qZj ?_ ?_ | rw [gf] | rw [ly] | exact Or.inl (by decide +kernel) | exact Or.inl (by dsimp only; decide +kernel) | (refine Or.inr ⟨?_, ?_⟩ <;> simp; done) | (refine Or.inr ⟨?_, ?_⟩ <;> simp <;> omega) | (refine Or.inr ⟨?_, ?_⟩ <;> simp [Ve.wr] <;> omega))
      simp only [vz, tyf, seval, ua, nm, e0, e2, e5, e6, e7, jk, hp1', eQ, fQ, fR, fS, fT, fU, fV, (bS hix), rg]
      have ud : I (some (sSet [] (p ++ [eL]) :: rest)) Fr H1 br := sy
      refine yieldK.freezeN (args' := [sSet [] (p ++ [eL])]) [br + 21] ?_ (by simp; omega) ⟨Frozen.pair (2 * (p ++ [eL]).length + 2 + ([] : List Int).length + 2) (fun n hn => ?_) (fun n hn => ?_) rfl, trivial⟩ ?_
      ·intro γ hγ
       simp only [List.mem_cons, List.not_mem_nil, or_false] at hγ
       subst hγ; exact ⟨_, _, by first | rfl | (simp only [ua, nm, seval]; done) | (simp only [ua, nm, seval]; rfl)⟩
      ·exact yO rfl n (by omega)
      ·exact w5 (w6 (by simp) (by first | rfl | (simp only [ua, nm, seval]; done) | (simp only [ua, nm, seval]; rfl))) (ez.treeL _) (by rw [gg (w := 2) (fun _ => rfl)]) n (by rw [gg (w := 2) (fun _ => rfl)]; omega)
      refine (hr (sSet [] (p ++ [eL])) rest Fr _ _ (fun γ h => qZd (hF γ h) (qZh hn (qZe _ _))) (hst _ _ _ _ _ _ _ ud (fun γ h _ => ?_) (qZe _ _) (fun γ h => .inl h))) (some none) _ _ _ rfl rfl ?_
      ·have n1 : γ ≠ br + 21 := by omega
       have n2 : γ ≠ br + 20 := by omega
       have n3 : γ ≠ br + 15 := by omega
       have n4 : γ ≠ br + 13 := by omega
       simp only [lessN, updH, without, List.mem_cons, List.not_mem_nil, or_false, n1, n2, n3, n4, if_false, or_self]
      rintro b H2 nn ⟨h1, h2, h3⟩
      simp only [vz, tyf, seval, ua]
      refine bO (x := .lit (.bool b)) (by simp [results127, resV, resL, aw, upd]) ⟨b, rfl, qZh (qZh hn (qZe _ _)) h1, fun γ h => ?_, h3⟩
      have g1 := hF γ h
      rw [h2 γ h, ← oE γ h]
      have n1 : γ ≠ br + 21 := by omega
      have n2 : γ ≠ br + 20 := by omega
      have n3 : γ ≠ br + 15 := by omega
      have n4 : γ ≠ br + 13 := by omega
      simp only [lessN, updH, without, List.mem_cons, List.not_mem_nil, or_false, n1, n2, n3, n4, if_false, or_self]
    ·have hclo := FG hone hout
     by_cases hpe : p = []
     ·subst hpe
      have hov : vx eI out = sI out := w7 hone
      rw [hov]
      refine dkown (args0 := [sI out]) (by first | (simp only [nrm, aq]; done) | (simp only [nrm, aq]; rfl) | rfl) (by simp only [tre, an, Bool.and_self]) (RP _ _ hclo) ?_
      simp only [vz, tyf, seval, ua, e0, e2, e5, e6, e7, jk, hp1', eQ, fQ, fR, fS, fT, fU, fV, (bS hix), rg]
      refine .inl ⟨rfl, .tree _, FF, ?_⟩
      simp only [vz, tyf, seval, ua, e0, e2, e5, e6, e7, jk, hp1', eQ, fQ, fR, fS, fT, fU, fV, (bS hix), rg]
      refine ni (w := 2) (enc := cGLe) (ys := [eL]) (fx := some 100) (fun _ => rfl) iR iS underlying29 (by first | rfl | (simp only [ua, nm, seval]; done) | (simp only [ua, nm, seval]; rfl)) (qZm _) hroom ?_
      simp only [vz, tyf, seval, ua, nm, e0, e2, e5, e6, e7, jk, hp1', eQ, fQ, fR, fS, fT, fU, fV, (bS hix), rg]
      refine lq ⟨?_, ?_⟩
      ·simp only [lr, lu, gf, lv, and_true, true_and]
       repeat' (first | exact trivial | refine qZj ?_ ?_ | rw [gf] | rw [ly] | exact Or.inl (by decide +kernel) | exact Or.inl (by dsimp only; decide +kernel) | (refine Or.inr ⟨?_, ?_⟩ <;> simp; done) | (refine Or.inr ⟨?_, ?_⟩ <;> simp <;> omega) | (refine Or.inr ⟨?_, ?_⟩ <;> simp [Ve.wr] <;> omega))
      simp only [vz, tyf, seval, ua, nm, e0, e2, e5, e6, e7, jk, hp1', eQ, fQ, fR, fS, fT, fU, fV, (bS hix), rg]
      have ud : I (some (sSet out ([] ++ [eL]) :: rest)) Fr H1 br := sy
      refine yieldK.freezeN (args' := [sSet out ([] ++ [eL])]) [br + 21, br + 13] ?_ (by simp; omega) ⟨Frozen.pair (2 * ([] ++ [eL]).length + 2 + out.length + 2) (fun n hn => ?_) (fun n hn => ?_) rfl, trivial⟩ ?_
      ·intro γ hγ
       simp only [List.mem_cons, List.not_mem_nil, or_false] at hγ
       rcases hγ with rfl | rfl <;> exact ⟨_, _, by first | rfl | (simp only [ua, nm, seval]; done) | (simp only [ua, nm, seval]; rfl)⟩
      ·rw [hov]; exact w5 (w6 (by simp) (by first | rfl | (simp only [ua, nm, seval]; done) | (simp only [ua, nm, seval]; rfl))) (eI_ok.treeL _) (by rw [gg (w := 1) (fun _ => rfl)]) n (by rw [gg (w := 1) (fun _ => rfl)]; omega)
      ·exact w5 (w6 (by simp) (by first | rfl | (simp only [ua, nm, seval]; done) | (simp only [ua, nm, seval]; rfl))) (ez.treeL _) (by rw [gg (w := 2) (fun _ => rfl)]) n (by rw [gg (w := 2) (fun _ => rfl)]; omega)
      refine (hr (sSet out ([] ++ [eL])) rest Fr _ _ (fun γ h => qZd (hF γ h) (qZh hn (qZe _ _))) (hst _ _ _ _ _ _ _ ud (fun γ h _ => ?_) (qZe _ _) (fun γ h => .inl h))) (some none) _ _ _ rfl rfl ?_
      ·have n1 : γ ≠ br + 21 := by omega
       have n2 : γ ≠ br + 20 := by omega
       have n3 : γ ≠ br + 15 := by omega
       have n4 : γ ≠ br + 13 := by omega
       simp only [lessN, updH, without, List.mem_cons, List.not_mem_nil, or_false, n1, n2, n3, n4, if_false, or_self]
      rintro b H2 nn ⟨h1, h2, h3⟩
      simp only [vz, tyf, seval, ua]
      refine bO (x := .lit (.bool b)) (by simp [results127, resV, resL, aw, upd]) ⟨b, rfl, qZh (qZh hn (qZe _ _)) h1, fun γ h => ?_, h3⟩
      have g1 := hF γ h
      rw [h2 γ h, ← oE γ h]
      have n1 : γ ≠ br + 21 := by omega
      have n2 : γ ≠ br + 20 := by omega
      have n3 : γ ≠ br + 15 := by omega
      have n4 : γ ≠ br + 13 := by omega
      simp only [lessN, updH, without, List.mem_cons, List.not_mem_nil, or_false, n1, n2, n3, n4, if_false, or_self]
     ·have hvp : vx cGLe p = sE p := w7 hpe
      have hclp := RW hpe hroom
      have hov : vx eI out = sI out := w7 hone
      rw [hov]
      refine dkown (args0 := [sI out]) (by first | (simp only [nrm, aq]; done) | (simp only [nrm, aq]; rfl) | rfl) (by simp only [tre, an, Bool.and_self]) (RP _ _ hclo) ?_
      simp only [vz, tyf, seval, ua, e0, e2, e5, e6, e7, jk, hp1', eQ, fQ, fR, fS, fT, fU, fV, (bS hix), rg]
      rw [hvp]
      refine dkown (args0 := [sE p]) (by first | (simp only [nrm, aq]; done) | (simp only [nrm, aq]; rfl) | rfl) (by simp only [tre, an, Bool.and_self]) (FB _ _ hclp) ?_
      simp only [vz, tyf, seval, ua, e0, e2, e5, e6, e7, jk, hp1', eQ, fQ, fR, fS, fT, fU, fV, (bS hix), rg]
      refine k_app (w := 2) (enc := cGLe) (xs := p) (ys := [eL]) (el := none) (fx := some 100) (fun _ => rfl) iR iS underlying29 (by first | rfl | (simp only [ua, nm, seval]; done) | (simp only [ua, nm, seval]; rfl)) (by first | rfl | (simp only [ua, nm, seval]; done) | (simp only [ua, nm, seval]; rfl)) (qZm _) hroom ?_
      simp only [vz, tyf, seval, ua, nm, e0, e2, e5, e6, e7, jk, hp1', eQ, fQ, fR, fS, fT, fU, fV, (bS hix), rg]
      refine lq ⟨?_, ?_⟩
      ·simp only [lr, lu, gf, lv, and_true, true_and]
       repeat' (first | exact trivial | refine qZj ?_ ?_ | rw [gf] | rw [ly] | exact Or.inl (by decide +kernel) | exact Or.inl (by dsimp only; decide +kernel) | (refine Or.inr ⟨?_, ?_⟩ <;> simp; done) | (refine Or.inr ⟨?_, ?_⟩ <;> simp <;> omega) | (refine Or.inr ⟨?_, ?_⟩ <;> simp [Ve.wr] <;> omega))
      simp only [vz, tyf, seval, ua, nm, e0, e2, e5, e6, e7, jk, hp1', eQ, fQ, fR, fS, fT, fU, fV, (bS hix), rg]
      have ud : I (some (sSet out (p ++ [eL]) :: rest)) Fr H1 br := sy
      refine yieldK.freezeN (args' := [sSet out (p ++ [eL])]) [br + 21, br + 13] ?_ (by simp; omega) ⟨Frozen.pair (2 * (p ++ [eL]).length + 2 + out.length + 2) (fun n hn => ?_) (fun n hn => ?_) rfl, trivial⟩ ?_
      ·intro γ hγ
       simp only [List.mem_cons, List.not_mem_nil, or_false] at hγ
       rcases hγ with rfl | rfl <;> exact ⟨_, _, by first | rfl | (simp only [ua, nm, seval]; done) | (simp only [ua, nm, seval]; rfl)⟩
      ·rw [hov]; exact w5 (w6 (by simp) (by first | rfl | (simp only [ua, nm, seval]; done) | (simp only [ua, nm, seval]; rfl))) (eI_ok.treeL _) (by rw [gg (w := 1) (fun _ => rfl)]) n (by rw [gg (w := 1) (fun _ => rfl)]; omega)
      ·exact w5 (w6 (by simp) (by first | rfl | (simp only [ua, nm, seval]; done) | (simp only [ua, nm, seval]; rfl))) (ez.treeL _) (by rw [gg (w := 2) (fun _ => rfl)]) n (by rw [gg (w := 2) (fun _ => rfl)]; omega)
      refine (hr (sSet out (p ++ [eL])) rest Fr _ _ (fun γ h => qZd (hF γ h) (qZh hn (qZe _ _))) (hst _ _ _ _ _ _ _ ud (fun γ h _ => ?_) (qZe _ _) (fun γ h => .inl h))) (some none) _ _ _ rfl rfl ?_
      ·have n1 : γ ≠ br + 21 := by omega
       have n2 : γ ≠ br + 20 := by omega
       have n3 : γ ≠ br + 15 := by omega
       have n4 : γ ≠ br + 13 := by omega
       simp only [lessN, updH, without, List.mem_cons, List.not_mem_nil, or_false, n1, n2, n3, n4, if_false, or_self]
      rintro b H2 nn ⟨h1, h2, h3⟩
      simp only [vz, tyf, seval, ua]
      refine bO (x := .lit (.bool b)) (by simp [results127, resV, resL, aw, upd]) ⟨b, rfl, qZh (qZh hn (qZe _ _)) h1, fun γ h => ?_, h3⟩
      have g1 := hF γ h
      rw [h2 γ h, ← oE γ h]
      have n1 : γ ≠ br + 21 := by omega
      have n2 : γ ≠ br + 20 := by omega
      have n3 : γ ≠ br + 15 := by omega
      have n4 : γ ≠ br + 13 := by omega
      simp only [lessN, updH, without, List.mem_cons, List.not_mem_nil, or_false, n1, n2, n3, n4, if_false, or_self]
  | succ m =>
   have w8 : (p.length : Int) + 1 < s.Rows := by
    rcases Classical.em ((p.length : Int) + 1 < s.Rows) with h | h
    ·exact h
    ·rw [if_neg h] at hm; cases hm
   rw [if_pos w8] at hm
   have ri : decide ((i : Int) < (last : Int)) = true := by simp; omega
   have mB : decide ((p.length : Int) + 1 < s.Rows) = true := by simpa using w8
   simp only [vz, tyf, seval, ua, e0, e2, e3, e4, e5, e6, e7, aB, eQ, bn, hwp, ri, mB, rg]
   refine CS (fun tm => tm 0 = vx cGLe p ∧ tm 2 = .ptr la 0 ∧ tm 3 = .tp (cGLs s) ∧ tm 4 = .ptr e 0 ∧ tm 5 = .ptr pl 0 ∧ tm 6 = .ptr y 0 ∧ tm 7 = .tp [vx eI out] ∧ tm 11 = .lit (.int .i64 (i : Int))) (by refine ⟨?_, ?_, ?_, ?_, ?_, ?_, ?_, ?_⟩ <;> simp only [ua, seval, e0, e2, e3, e4, e5, e6, e7, aB]) ?_
   clear e0 e2 e3 e4 e5 e6 e7 aB tm
   rintro tm ⟨e0, e2, e3, e4, e5, e6, e7, aB⟩
   refine RY mixed 11 rfl rfl rfl (by kernel_rfl) ?_
   rw [goStg] at hLr
   rcases hei : poss[i]? with _ | ei
   ·rw [hei] at hLr; cases hLr
   rw [hei, Option.bind_some] at hLr
   rcases hLx : stgO poss last s.Rows d (p ++ [ei]) (i + 1) with _ | Lx
   ·rw [hLx] at hLr; cases hLr
   rw [hLx, Option.bind_some] at hLr
   rcases hLy : goStg (stgO poss last s.Rows d) poss p m (i + 1) with _ | Ly
   ·rw [hLy] at hLr; cases hLr
   rw [hLy, Option.bind_some, Option.some.injEq] at hLr
   subst hLr
   rw [List.map_append, List.append_assoc] at sy
   have hix := yP hei
   have hw : i64.wrap ((i : Int) + 1) = ((i + 1 : Nat) : Int) := by rw [IntWalk.i64_in _ (by omega)]; simp
   have hv : vx cGLe (p ++ [ei]) = sE (p ++ [ei]) := w7 (by simp)
   have hroom : ar 16 (p ++ [ei]).length = true := by
    unfold ar
    simp only [List.length_append, List.length_cons, List.length_nil, decide_eq_true_eq]
    omega
   have hen : e < br := qZd (hF e hFe) hn
   have hyn : y < br := qZd (hF y hFy) hn
   have hpn : pl < br := qZd (hF pl hFp) hn
   have hln : la < br := qZd (hF la hFl) hn
   simp only [vz, tyf, seval, ua, e0, e2, e3, e4, e5, e6, e7, aB, oF, rg]
   rcases hpc : p with _ | ⟨p0, pt⟩
   ·subst hpc
    refine .inl ⟨rfl, .tree _, FF, ?_⟩
    simp only [vz, tyf, seval, ua, e0, e2, e3, e4, e5, e6, e7, aB, oF, hp1', (bS hix), rg, hw]
    refine ni (w := 2) (enc := cGLe) (ys := [ei]) (fx := some 100) (fun _ => rfl) iR iS underlying29 (by simp only [ua, nm, seval]; rfl) (qZm _) hroom ?_
    simp only [vz, tyf, seval, ua, nm, e0, e2, e3, e4, e5, e6, e7, aB, oF, hp1', rg, hw]
    refine lq ⟨?_, ?_⟩
    ·simp only [lr, lu, gf, lv, and_true, true_and]
     repeat' (first | exact trivial | refine qZj ?_ ?_ | rw [gf] | rw [ly] | exact Or.inl (by decide +kernel) | exact Or.inl (by dsimp only; decide +kernel) | (refine Or.inr ⟨?_, ?_⟩ <;> simp; done) | (refine Or.inr ⟨?_, ?_⟩ <;> simp <;> omega) | (refine Or.inr ⟨?_, ?_⟩ <;> simp [Ve.wr] <;> omega))
    simp only [vz, tyf, seval, ua, e0, e2, e3, e4, e5, e6, e7, aB, oF, rg]
    refine kopen ?_
    rw [FJ]
    have hcell : (updH (updH H1 (br + 18) (Vo.cells (some 100) [VV.lit (Value.int IntKind.i64 ei.Word), VV.lit (Value.int IntKind.i64 ei.Letters)])) (br + 19) (Vo.cells (some 100) (ad cGLe ([] ++ [ei])))) (br + 19) = some (.cells (some 100) (ad cGLe ([] ++ [ei]))) := by simp only [ua, seval]
    have hbig : ∀ γ, γ < br → without (updH (updH H1 (br + 18) (Vo.cells (some 100) [VV.lit (Value.int IntKind.i64 ei.Word), VV.lit (Value.int IntKind.i64 ei.Letters)])) (br + 19) (Vo.cells (some 100) (ad cGLe ([] ++ [ei])))) (br + 19) γ = H1 γ := by
     intro γ h
     simp only [updH, without]
     repeat rw [if_neg (by omega)]
    refine aX.mono (aX.freeze1 (γ := (br + 19)) hcell (args' := [vx cGLe ([] ++ [ei]), .lit (.int .i64 ((i + 1 : Nat) : Int)), .ptr la 0, .tp (cGLs s), .ptr e 0, .ptr pl 0, .ptr y 0, .tp [vx eI out]]) ⟨by rw [hv]; exact Frozen.own hcell (ez.treeL _) (by rw [gg (w := 2) (fun _ => rfl)]), FrozenL.same⟩ (ih ([] ++ [ei]) (i + 1) _ Lx Fr _ _ hLx (by simp only [List.length_append, List.length_cons, List.length_nil] at RX ⊢; omega) (by omega) (by omega) (fun γ h => by have := hF γ h; omega) hFy hFe hFp hFl ((hbig y hyn).trans jk) ((hbig pl hpn).trans hp1') ((hbig la hln).trans eQ) ((hbig e hen).trans oF) (hst _ _ _ _ _ _ _ sy (fun γ h _ => hbig γ h) (by omega) (fun γ h => .inl h)))) ?_ (fun _ _ _ h => h.elim)
    rintro v H2 nn ⟨b, rfl, h1, h2, h3⟩
    have yQ : ∀ γ, Fr γ → H2 γ = H γ := fun γ h => by rw [h2 γ h, hbig γ (qZd (hF γ h) hn), oE γ h]
    simp only [vz, tyf, seval, ua, e0, e2, e3, e4, e5, e6, e7, aB, oF, rg]
    cases b with
    | false =>
     simp only [vz, tyf, seval, ua, Bool.not_false]
     refine bO (x := .lit (.bool false)) (by simp [results127, resV, resL, aw, upd]) ⟨false, rfl, by omega, yQ, ?_⟩
     exact hst _ _ _ _ _ _ _ h3 (fun _ _ _ => rfl) (by omega) (fun γ h => .inl h)
    | true =>
     simp only [vz, tyf, seval, ua, Bool.not_true, aB, hw]
     simp only [if_true] at h3
     rw [hJ]
     refine ⟨m, qZc _, i + 1, Ly, by omega, by rw [if_pos w8]; omega, rfl, qZh hn (qZh (by omega : br ≤ nn) (qZe _ _)), yQ, hLy, hst _ _ _ _ _ _ _ h3 (fun _ _ _ => rfl) (qZe _ _) (fun γ h => .inl h), by simp only [ua, seval, e0], by simp only [ua, seval, e2], by simp only [ua, seval, e3], by simp only [ua, seval, e4], by simp only [ua, seval, e5], by simp only [ua, seval, e6], by simp only [ua, seval, e7], by simp only [ua, seval]⟩
   rw [← hpc]
   have hne : p ≠ [] := by rw [hpc]; simp
   have hvp : vx cGLe p = sE p := w7 hne
   rw [hvp]
   have hcl : wz p = some p := by
    unfold wz
    have h1 : neB p = true := by rw [hpc]; rfl
    have h2 : ar 16 p.length = true := by
     unfold ar at hroom ⊢
     simp only [List.length_append, List.length_cons, List.length_nil, decide_eq_true_eq] at hroom ⊢
     omega
    rw [h1, h2]; rfl
   have hpx : (pl = br + 13) = False := by simp only [eq_iff_iff, iff_false]; omega
   refine dkown (args0 := [sE p]) (by first | (simp only [nrm, aq]; done) | (simp only [nrm, aq]; rfl) | rfl) (by simp only [tre, an, Bool.and_self]) (FB _ _ hcl) ?_
   simp only [vz, tyf, seval, ua, e0, e2, e3, e4, e5, e6, e7, aB, oF, hp1', hpx, (bS hix), rg, hw]
   refine k_app (w := 2) (enc := cGLe) (xs := p) (ys := [ei]) (el := none) (fx := some 100) (fun _ => rfl) iR iS underlying29 (by first | rfl | (simp only [ua, nm, seval]; done) | (simp only [ua, nm, seval]; rfl)) (by first | rfl | (simp only [ua, nm, seval]; done) | (simp only [ua, nm, seval]; rfl)) (qZm _) hroom ?_
   simp only [vz, tyf, seval, ua, nm, e0, e2, e3, e4, e5, e6, e7, aB, oF, hp1', rg, hw]
   refine lq ⟨?_, ?_⟩
   ·simp only [lr, lu, gf, lv, and_true, true_and]
    repeat' (first | exact trivial | refine qZj ?_ ?_ | rw [gf] | rw [ly] | exact Or.inl (by decide +kernel) | exact Or.inl (by dsimp only; decide +kernel) | (refine Or.inr ⟨?_, ?_⟩ <;> simp; done) | (refine Or.inr ⟨?_, ?_⟩ <;> simp <;> omega) | (refine Or.inr ⟨?_, ?_⟩ <;> simp [Ve.wr] <;> omega))
   simp only [vz, tyf, seval, ua, e0, e2, e3, e4, e5, e6, e7, aB, oF, rg]
   refine kopen ?_
   rw [FJ]
   have hcell : (updH (without (updH (updH H1 (br + 13) (Vo.cells none (ad cGLe p))) (br + 18) (Vo.cells (some 100) [VV.lit (Value.int IntKind.i64 ei.Word), VV.lit (Value.int IntKind.i64 ei.Letters)])) (br + 13)) (br + 19) (Vo.cells (sameEl none 100) (ad cGLe (p ++ [ei])))) (br + 19) = some (.cells (sameEl none 100) (ad cGLe (p ++ [ei]))) := by simp only [ua, seval]
   have hbig : ∀ γ, γ < br → without (updH (without (updH (updH H1 (br + 13) (Vo.cells none (ad cGLe p))) (br + 18) (Vo.cells (some 100) [VV.lit (Value.int IntKind.i64 ei.Word), VV.lit (Value.int IntKind.i64 ei.Letters)])) (br + 13)) (br + 19) (Vo.cells (sameEl none 100) (ad cGLe (p ++ [ei])))) (br + 19) γ = H1 γ := by
    intro γ h
    simp only [updH, without]
    repeat rw [if_neg (by omega)]
   refine aX.mono (aX.freeze1 (γ := (br + 19)) hcell (args' := [vx cGLe (p ++ [ei]), .lit (.int .i64 ((i + 1 : Nat) : Int)), .ptr la 0, .tp (cGLs s), .ptr e 0, .ptr pl 0, .ptr y 0, .tp [vx eI out]]) ⟨by rw [hv]; exact Frozen.own hcell (ez.treeL _) (by rw [gg (w := 2) (fun _ => rfl)]), FrozenL.same⟩ (ih (p ++ [ei]) (i + 1) _ Lx Fr _ _ hLx (by simp only [List.length_append, List.length_cons, List.length_nil] at RX ⊢; omega) (by omega) (by omega) (fun γ h => by have := hF γ h; omega) hFy hFe hFp hFl ((hbig y hyn).trans jk) ((hbig pl hpn).trans hp1') ((hbig la hln).trans eQ) ((hbig e hen).trans oF) (hst _ _ _ _ _ _ _ sy (fun γ h _ => hbig γ h) (by omega) (fun γ h => .inl h)))) ?_ (fun _ _ _ h => h.elim)
   rintro v H2 nn ⟨b, rfl, h1, h2, h3⟩
   have yQ : ∀ γ, Fr γ → H2 γ = H γ := fun γ h => by rw [h2 γ h, hbig γ (qZd (hF γ h) hn), oE γ h]
   simp only [vz, tyf, seval, ua, e0, e2, e3, e4, e5, e6, e7, aB, oF, rg]
   cases b with
   | false =>
    simp only [vz, tyf, seval, ua, Bool.not_false]
    refine bO (x := .lit (.bool false)) (by simp [results127, resV, resL, aw, upd]) ⟨false, rfl, by omega, yQ, ?_⟩
    exact hst _ _ _ _ _ _ _ h3 (fun _ _ _ => rfl) (by omega) (fun γ h => .inl h)
   | true =>
    simp only [vz, tyf, seval, ua, Bool.not_true, aB, hw]
    simp only [if_true] at h3
    rw [hJ]
    refine ⟨m, qZc _, i + 1, Ly, by omega, by rw [if_pos w8]; omega, rfl, qZh hn (qZh (by omega : br ≤ nn) (qZe _ _)), yQ, hLy, hst _ _ _ _ _ _ _ h3 (fun _ _ _ => rfl) (qZe _ _) (fun γ h => .inl h), by simp only [ua, seval, e0], by simp only [ua, seval, e2], by simp only [ua, seval, e3], by simp only [ua, seval, e4], by simp only [ua, seval, e5], by simp only [ua, seval, e6], by simp only [ua, seval, e7], by simp only [ua, seval]⟩
end Go.V
end
