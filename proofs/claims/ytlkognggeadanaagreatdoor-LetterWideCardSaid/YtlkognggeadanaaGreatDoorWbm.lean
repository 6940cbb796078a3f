/- Part of a proof. -/
import Derived.Test.YtlkognggeadanaaGreatDoorWbl
set_option linter.all false
set_option maxRecDepth 4000
set_option maxHeartbeats 40000000
section
namespace Go.V
open Go Go.Proofs IntKind
def og (av : GLx) (eR : Int) (e1 : GLw) : List Int → Int → Int → (List Glm) → Option (LOut (Gld) (Int × (List Glm)))
 | [], kq, gG, ku => some (.go (gG, ku))
 | e2 :: p2, kq, gG, ku => Option.bind (getI av.Ends gG) (fun x8 => cond (x8.Word == eR && (x8.Letters == (kq + 1))) (cond (aY 32 (List.length (ku ++ [(Glm.mk eR e2 gG (decide ((kq + 1) < (List.length e1.Signs : Int))))]))) (og av eR e1 p2 (kq + 1) (i64.wrap (gG + 1)) (ku ++ [(Glm.mk eR e2 gG (decide ((kq + 1) < (List.length e1.Signs : Int))))])) none) (cond (aY 32 (List.length (ku ++ [(Glm.mk eR e2 gG false)]))) (og av eR e1 p2 (kq + 1) gG (ku ++ [(Glm.mk eR e2 gG false)])) none))
def th (av : GLx) : List GLw → Int → Int → (List Glm) → Option (LOut (Gld) (Int × (List Glm)))
 | [], eR, oh, om => some (.go (oh, om))
 | e1 :: p1, eR, oh, om => Option.bind (zp av.Out eR) (fun r7 => cond (r7) (th av p1 (eR + 1) oh om) (cond (lenOk e1.Signs) (lbind (og av eR e1 e1.Signs 0 oh om) (fun Ki => some (.ret Ki)) (fun c9 => th av p1 (eR + 1) c9.1 c9.2) (fun _ _ => none)) none))
def zq  : List GLp → Int → (List (Glp × GSpan)) → Option (LOut (Gld) ((List (Glp × GSpan))))
 | [], lT, ix => some (.go ix)
 | e0 :: p0, lT, ix => zq p0 (lT + 1) (mapSet ed ix (Glp.mk e0.Left e0.Right) e0.Space)
def tN (ae : GLs) (av : GLx) (bw : Int) : Option (Gld) := cond (lenOk ae.Pairs) (lbind (zq ae.Pairs 0 ([] : List (Glp × GSpan))) (fun tC => some tC) (fun c1 => cond (lenOk ae.Words) (lbind (th av ae.Words 0 0 ([] : List Glm)) (fun yK => some yK) (fun nh => some (Gld.mk ae av bw c1 nh.2)) (fun _ _ => none)) none) (fun _ _ => none)) none
theorem Lv (ae : GLs) (av : GLx) (bw : Int) (R : Gld) (h : tN ae av bw = some R) : ag Tryz.prog G0 71 [.agg (cGLs ae), .agg (cGLx av), .lit (.int .i64 bw)] (.tree (.agg (cGld R))) := by
 refine ag.runR mixed Tryz.call71 Tryz.func71 rfl (by simp [Tryz.ntmps71]; kernel_rfl) ?_
 obtain ⟨KF, h, kF, kN⟩ := dZ h
 simp only [tN] at h
 cases mG : (lenOk ae.Pairs)
 ·simp only [mG, hs] at h
  exact absurd h kN
 simp only [mG, hs] at h
 simp only [vz, mq, mqm, tyf, mqt, mG, nm, seval]
 obtain ⟨K14, h, kR14, Oy, kB14, kN14⟩ := fP h kN
 obtain ⟨f14, Oz, h⟩ := call3 h
 obtain ⟨I14, xj⟩ : ∃ I : Nat → St → Prop, I = (fun m st => ∃ (v3 : List GLp) (fJ : Int) (fK : List (Glp × GSpan)), m = List.length v3 ∧ 0 ≤ fJ ∧ List.drop (Int.toNat fJ) ae.Pairs = v3 ∧ st.df = [] ∧ 14 ≤ st.nx ∧ st.H 0 = some (.cells (some 28) (cGLs ae)) ∧ st.H 1 = some (.cells (some 31) (cGLx av)) ∧ st.H 2 = some (.cells (some 93) ([.lit (.slice none 0 0)] ++ [.lit (.slice none 0 0)] ++ [.lit (.int .i64 0)] ++ [.lit (.int .i64 0)] ++ [.lit (.int .i64 0)] ++ [.lit (.int .i64 0)] ++ [.lit (.int .i64 0)] ++ [.lit (.slice none 0 0)] ++ [.lit (.int .i64 0)] ++ [.lit (.int .i64 0)] ++ [.lit (.slice none 0 0)] ++ [.lit (.slice none 0 0)] ++ [.lit (.int .i64 0)] ++ [.lit (.map none)] ++ [.lit (.slice none 0 0)])) ∧ st.H 6 = some (.map (encM dp fy fK)) ∧ st.H 8 = some (.cells (some 93) ((cGLs ae) ++ (cGLx av) ++ [.lit (.int .i64 bw)] ++ [.mp 6] ++ [.lit (.slice none 0 0)])) ∧ st.tm 3 = .ptr 0 0 ∧ st.tm 4 = .ptr 1 0 ∧ st.tm 6 = .ptr 2 0 ∧ st.tm 7 = .ptr 8 0 ∧ st.tm 22 = .sl (ad cGLp ae.Pairs) (List.length ae.Pairs) false ∧ st.tm 23 = .lit (.int .i64 (List.length ae.Pairs : Int)) ∧ st.tm 24 = .lit (.int .i64 fJ) ∧ K14 (f14 v3 fJ fK)) := ⟨_, rfl⟩
 refine loopK mixed (by kernel_rfl) I14 (List.length ae.Pairs) (by rw [xj]; refine ⟨ae.Pairs, 0, ([] : List (Glp × GSpan)), rfl, Int.le_refl _, rfl, rfl, (show 14 ≤ 14 by omega), ?_, ?_, ?_, ?_, ?_, ?_, ?_, ?_, ?_, ?_, ?_, ?_, h⟩ <;> first | (simp only [ua, cu, nm, seval] <;> rfl) | rfl) ?_
 rintro m ⟨tm, H, gH, df⟩ hinv
 rw [xj] at hinv
 obtain ⟨v3, fJ, fK, rfl, pc, ry, hdf, O0, pd, nY, Cm, Cn, pf, eE, cE, dw, cN, cM, cy, cO, h⟩ := hinv
 simp only at hdf O0 pd nY Cm Cn pf eE cE dw cN cM cy cO
 have jh := fO (m := 14) (b := gH) (by omega)
 subst hdf Oz
 cases v3 with
 | nil =>
  have dL : (decide (fJ < (List.length ae.Pairs : Int))) = false := eZ pc ry
  simp only [zq, hs, reduceCtorEq] at h
  replace h := Oy _ h
  try dsimp only at h
  try simp only [hs] at h
  cases ni : (lenOk ae.Words)
  ·simp only [ni, hs] at h
   exact absurd h kN
  simp only [ni, hs] at h
  simp only [vz, mq, mqm, tyf, mqt, mG, jh, eE, cE, dw, cN, cM, cy, cO, pd, nY, Cm, Cn, pf, dL, ni, nm, seval]
  obtain ⟨K30, h, kR30, Co, kB30, pg⟩ := fP h kN
  obtain ⟨f30, O1, h⟩ := call4 h
  obtain ⟨I30, lU⟩ : ∃ I : Nat → St → Prop, I = (fun m st => ∃ (ky : List GLw) (aw : Int) (ff : Int) (cP : List Glm) (oo : VV), m = List.length ky ∧ 0 ≤ aw ∧ List.drop (Int.toNat aw) ae.Words = ky ∧ st.df = [] ∧ gH + 6 ≤ st.nx ∧ st.H 0 = some (.cells (some 28) (cGLs ae)) ∧ st.H 1 = some (.cells (some 31) (cGLx av)) ∧ st.H 2 = some (.cells (some 93) ([.lit (.slice none 0 0)] ++ [.lit (.slice none 0 0)] ++ [.lit (.int .i64 0)] ++ [.lit (.int .i64 0)] ++ [.lit (.int .i64 0)] ++ [.lit (.int .i64 0)] ++ [.lit (.int .i64 0)] ++ [.lit (.slice none 0 0)] ++ [.lit (.int .i64 0)] ++ [.lit (.int .i64 0)] ++ [.lit (.slice none 0 0)] ++ [.lit (.slice none 0 0)] ++ [.lit (.int .i64 0)] ++ [.lit (.map none)] ++ [.lit (.slice none 0 0)])) ∧ st.H 6 = some (.map (encM dp fy fK)) ∧ st.H 8 = some (.cells (some 93) ((cGLs ae) ++ (cGLx av) ++ [.lit (.int .i64 bw)] ++ [.mp 6] ++ [oo])) ∧ st.tm 3 = .ptr 0 0 ∧ st.tm 4 = .ptr 1 0 ∧ st.tm 6 = .ptr 2 0 ∧ st.tm 7 = .ptr 8 0 ∧ st.tm 40 = .lit (.int .i64 (List.length ae.Words : Int)) ∧ st.tm 10 = .lit (.int .i64 ff) ∧ st.tm 41 = .lit (.int .i64 aw) ∧ ((∃ (β : Nat) (el : Option TypeId), oo = .ref β 0 (List.length cP) 4 (List.length cP) ∧ β < st.nx ∧ β ≠ 0 ∧ β ≠ 1 ∧ β ≠ 2 ∧ β ≠ 6 ∧ β ≠ 8 ∧ st.H β = some (.cells el (ad cGlm cP))) ∨ (oo = .lit (.slice none 0 0) ∧ cP = [])) ∧ K30 (f30 ky aw ff cP)) := ⟨_, rfl⟩
  refine loopK mixed (by kernel_rfl) I30 (List.length ae.Words) (by rw [lU]; refine ⟨ae.Words, 0, 0, ([] : List Glm), .lit (.slice none 0 0), rfl, Int.le_refl _, rfl, rfl, (show gH + 6 ≤ gH + 6 by omega), ?_, ?_, ?_, ?_, ?_, eE, cE, dw, cN, ?_, ?_, ?_, Or.inr ⟨rfl, rfl⟩, h⟩ <;> first | (simp only [ua, cu, jh, eE, cE, dw, cN, cM, cy, cO, pd, nY, Cm, Cn, pf, dL, nm, seval] <;> rfl) | rfl) ?_
  rintro m ⟨tm, H, eT, df⟩ hinv
  rw [lU] at hinv
  obtain ⟨ky, aw, ff, cP, oo, rfl, eU, gI, hdf, O2, ph, pj, pk, fg, pn, cF, cb, cm, ck, bR, bC, cn, rz, h⟩ := hinv
  simp only at hdf O2 ph pj pk fg pn cF cb cm ck bR bC cn rz
  have qB := fO (m := 14) (b := eT) (by omega)
  have eV := tA (a := gH) (m := 6) (b := eT) (by omega)
  subst hdf O1
  rcases rz with ⟨lV, rA, rfl, O3, xk, xl, O4, O5, O6, zr⟩ | ⟨rfl, rfl⟩
  ·have zt := vZ O3
   have jm := ne_f xk
   have jn := ne_f xl
   have zu := ne_f O4
   have zw := ne_f O5
   have zx := ne_f O6
   cases ky with
   | nil =>
    have nZ : (decide (aw < (List.length ae.Words : Int))) = false := eZ eU gI
    simp only [th, hs, reduceCtorEq] at h
    replace h := Co _ h
    try dsimp only at h
    try simp only [hs] at h
    try simp only [vz, mq, mqm, tyf, mqt, mG, jh, dL, ni, qB, eV, cF, cb, cm, ck, bR, bC, cn, ph, pj, pk, fg, pn, zt, zr, jm, jn, zu, zw, zx, nZ, nm, seval]
    refine dX (x := (.agg ((cGLs ae) ++ (cGLx av) ++ [.lit (.int .i64 bw)] ++ [.mp 6] ++ [.ref lV 0 (List.length cP) 4 (List.length cP)]))) (by first | (simp only [Tryz.results71, resV, resL, aV, dP, dQ, uw, cr, tyf, mqt, mG, jh, dL, ni, qB, eV, cF, cb, cm, ck, bR, bC, cn, ph, pj, pk, fg, pn, zt, zr, jm, jn, zu, zw, zx, nZ, nm, seval] <;> rfl) | rfl) ?_
    obtain rfl := kF _ h
    refine dV ?_ ?_
    ·simp only [tre, aF, mqr, Bool.and_self]
    ·first | (simp only [outV, uw, eK, iY, iG, cr, tyf, mqt, nrm, aE, mG, jh, dL, ni, qB, eV, cF, cb, cm, ck, bR, bC, cn, ph, pj, pk, fg, pn, zt, zr, jm, jn, zu, zw, zx, nZ, nm, seval] <;> rfl) | rfl
   | cons bS ky =>
    have tS : (decide (aw < (List.length ae.Words : Int))) = true := eY eU gI
    have jQ := dY eU gI
    have O7 := fa eU gI ni
    simp only [th, hs, reduceCtorEq] at h
    obtain ⟨Wq, o58, h⟩ := optI h pg
    try simp only [hs] at h
    simp only [vz, mq, mqm, tyf, mqt, mG, jh, dL, ni, qB, eV, cF, cb, cm, ck, bR, bC, cn, ph, pj, pk, fg, pn, zt, zr, jm, jn, zu, zw, zx, tS, (aH jQ), O7, nm, seval]
    refine ktree (args0 := [.sl (ad eI av.Out) (List.length av.Out) false, .lit (.int .i64 aw)]) (by first | (simp only [nrm, aE, mqr] <;> rfl) | rfl) (by simp only [tre, aF, mqr, Bool.and_self]) (Gj _ _ _ o58) ?_
    refine bt (fun tm => tm 3 = .ptr 0 0 ∧ tm 4 = .ptr 1 0 ∧ tm 6 = .ptr 2 0 ∧ tm 7 = .ptr 8 0 ∧ tm 10 = .lit (.int .i64 ff) ∧ tm 11 = .lit (.int .i64 aw) ∧ tm 40 = .lit (.int .i64 (List.length ae.Words : Int)) ∧ tm 41 = .lit (.int .i64 aw) ∧ tm 47 = .lit (.bool Wq) ∧ True) (by refine ⟨cF, cb, cm, ck, bC, ?_, bR, cn, ?_, trivial⟩ <;> first | (simp only [ua, cu, jh, dL, qB, eV, cF, cb, cm, ck, bR, bC, cn, ph, pj, pk, fg, pn, zt, zr, jm, jn, zu, zw, zx, tS, O7, nm, seval] <;> rfl) | rfl) ?_
    rintro tm ⟨lW, nj, nk, fx, f2, gp, lC, lS, kn, _⟩
    have g0 := And.intro mG (And.intro jh (And.intro dL (And.intro ni (And.intro qB (And.intro eV (And.intro ph (And.intro pj (And.intro pk (And.intro fg (And.intro pn (And.intro zt (And.intro zr (And.intro jm (And.intro jn (And.intro zu (And.intro zw (And.intro zx (And.intro tS O7))))))))))))))))))
    cases fe : (Wq)
    ·simp only [fe, hs] at h
     cases rB : (lenOk bS.Signs)
     ·simp only [rB, hs] at h
      exact absurd h pg
     simp only [rB, hs] at h
     simp only [vz, mq, mqm, tyf, mqt, g0, (aH jQ), lW, nj, nk, fx, f2, gp, lC, lS, kn, fe, rB, nm, seval]
     obtain ⟨K70, h, kR70, Cp, kB70, po⟩ := fP h pg
     obtain ⟨f70, O8, h⟩ := call4 h
     obtain ⟨I70, pq⟩ : ∃ I : Nat → St → Prop, I = (fun m st => ∃ (mH : List Int) (br : Int) (bl : Int) (bM : List Glm) (oq : VV), m = List.length mH ∧ 0 ≤ br ∧ List.drop (Int.toNat br) bS.Signs = mH ∧ st.df = [] ∧ eT + 23 ≤ st.nx ∧ st.H 0 = some (.cells (some 28) (cGLs ae)) ∧ st.H 1 = some (.cells (some 31) (cGLx av)) ∧ st.H 2 = some (.cells (some 93) ([.lit (.slice none 0 0)] ++ [.lit (.slice none 0 0)] ++ [.lit (.int .i64 0)] ++ [.lit (.int .i64 0)] ++ [.lit (.int .i64 0)] ++ [.lit (.int .i64 0)] ++ [.lit (.int .i64 0)] ++ [.lit (.slice none 0 0)] ++ [.lit (.int .i64 0)] ++ [.lit (.int .i64 0)] ++ [.lit (.slice none 0 0)] ++ [.lit (.slice none 0 0)] ++ [.lit (.int .i64 0)] ++ [.lit (.map none)] ++ [.lit (.slice none 0 0)])) ∧ st.H 6 = some (.map (encM dp fy fK)) ∧ st.H 8 = some (.cells (some 93) ((cGLs ae) ++ (cGLx av) ++ [.lit (.int .i64 bw)] ++ [.mp 6] ++ [oq])) ∧ st.tm 3 = .ptr 0 0 ∧ st.tm 4 = .ptr 1 0 ∧ st.tm 6 = .ptr 2 0 ∧ st.tm 7 = .ptr 8 0 ∧ st.tm 11 = .lit (.int .i64 aw) ∧ st.tm 12 = .lit (.int .i64 (List.length bS.Signs : Int)) ∧ st.tm 40 = .lit (.int .i64 (List.length ae.Words : Int)) ∧ st.tm 41 = .lit (.int .i64 aw) ∧ st.tm 60 = .sl (ad eI bS.Signs) (List.length bS.Signs) false ∧ st.tm 61 = .lit (.int .i64 (List.length bS.Signs : Int)) ∧ st.tm 10 = .lit (.int .i64 bl) ∧ st.tm 62 = .lit (.int .i64 br) ∧ ((∃ (β : Nat) (el : Option TypeId), oq = .ref β 0 (List.length bM) 4 (List.length bM) ∧ β < st.nx ∧ β ≠ 0 ∧ β ≠ 1 ∧ β ≠ 2 ∧ β ≠ 6 ∧ β ≠ 8 ∧ st.H β = some (.cells el (ad cGlm bM))) ∨ (oq = .lit (.slice none 0 0) ∧ bM = [])) ∧ K70 (f70 mH br bl bM)) := ⟨_, rfl⟩
     refine loopK mixed (by kernel_rfl) I70 (List.length bS.Signs) (by rw [pq]; refine ⟨bS.Signs, 0, ff, cP, .ref lV 0 (List.length cP) 4 (List.length cP), rfl, Int.le_refl _, rfl, rfl, (show eT + 23 ≤ eT + 23 by omega), ?_, ?_, ?_, ?_, ?_, lW, nj, nk, fx, gp, ?_, lC, lS, ?_, ?_, f2, ?_, Or.inl ⟨lV, rA, rfl, (by first | omega | (simp only [nm, seval]; done) | (simp only [nm, seval]; omega)), (by first | omega | (intro hh; simp only [g0, reduceCtorEq] at hh)), (by first | omega | (intro hh; simp only [g0, reduceCtorEq] at hh)), (by first | omega | (intro hh; simp only [g0, reduceCtorEq] at hh)), (by first | omega | (intro hh; simp only [g0, reduceCtorEq] at hh)), (by first | omega | (intro hh; simp only [g0, reduceCtorEq] at hh)), ?_⟩, h⟩ <;> first | (simp only [ua, cu, g0, lW, nj, nk, fx, f2, gp, lC, lS, kn, fe, nm, seval] <;> rfl) | rfl) ?_
     rintro m ⟨tm, H, fL, df⟩ hinv
     rw [pq] at hinv
     obtain ⟨mH, br, bl, bM, oq, rfl, gd, iK, hdf, O9, tT, tU, tV, tW, tX, dN, cK, bE, bN, bK, bL, cz, cG, cj, bW, cl, ga, rC, h⟩ := hinv
     simp only at hdf O9 tT tU tV tW tX dN cK bE bN bK bL cz cG cj bW cl ga rC
     have eO := fO (m := 14) (b := fL) (by omega)
     have pr := tA (a := gH) (m := 6) (b := fL) (by omega)
     have pv := tA (a := eT) (m := 23) (b := fL) (by omega)
     subst hdf O8
     rcases rC with ⟨v5, jo, rfl, OA, OB, OC, OD, OE, OF, Gk⟩ | ⟨rfl, rfl⟩
     ·have tY := vZ OA
      have tZ := ne_f OB
      have ub := ne_f OC
      have uc := ne_f OD
      have ud := ne_f OE
      have ue := ne_f OF
      cases mH with
      | nil =>
       have uf : (decide (br < (List.length bS.Signs : Int))) = false := eZ gd iK
       simp only [og, hs, reduceCtorEq] at h
       replace h := Cp _ h
       try dsimp only at h
       try simp only [hs] at h
       simp only [vz, mq, mqm, tyf, mqt, g0, (aH jQ), fe, rB, eO, pr, pv, dN, cK, bE, bN, bK, bL, cz, cG, cj, bW, cl, ga, tT, tU, tV, tW, tX, tY, Gk, tZ, ub, uc, ud, ue, uf, nm, seval]
       exact ⟨List.length ky, Nat.lt_succ_self _, by rw [lU]; refine ⟨ky, aw + 1, bl, bM, .ref v5 0 (List.length bM) 4 (List.length bM), rfl, Int.le_trans eU (Int.le_add_one (Int.le_refl _)), bJ eU gI, rfl, (show gH + 6 ≤ fL + 3 by omega), ?_, ?_, ?_, ?_, ?_, dN, cK, bE, bN, cz, cl, ?_, Or.inl ⟨v5, jo, rfl, (by first | omega | (simp only [nm, seval]; done) | (simp only [nm, seval]; omega)), (by first | omega | (intro hh; simp only [g0, eO, pr, pv, tY, tZ, ub, uc, ud, ue, reduceCtorEq] at hh)), (by first | omega | (intro hh; simp only [g0, eO, pr, pv, tY, tZ, ub, uc, ud, ue, reduceCtorEq] at hh)), (by first | omega | (intro hh; simp only [g0, eO, pr, pv, tY, tZ, ub, uc, ud, ue, reduceCtorEq] at hh)), (by first | omega | (intro hh; simp only [g0, eO, pr, pv, tY, tZ, ub, uc, ud, ue, reduceCtorEq] at hh)), (by first | omega | (intro hh; simp only [g0, eO, pr, pv, tY, tZ, ub, uc, ud, ue, reduceCtorEq] at hh)), ?_⟩, (by first | exact h | (simp only [g0, fe, uf]; exact h))⟩ <;> first | (simp only [ua, cu, g0, fe, eO, pr, pv, dN, cK, bE, bN, bK, bL, cz, cG, cj, bW, cl, ga, tT, tU, tV, tW, tX, tY, Gk, tZ, ub, uc, ud, ue, uf, nm, seval] <;> rfl) | rfl⟩
      | cons fc mH =>
       have Cq : (decide (br < (List.length bS.Signs : Int))) = true := eY gd iK
       have lX := dY gd iK
       have Cr := fa gd iK rB
       simp only [og, hs, reduceCtorEq] at h
       obtain ⟨Cs, lY, h⟩ := optI h po
       try simp only [hs] at h
       cases gf : (Cs.Word == aw && (Cs.Letters == (br + 1)))
       ·simp only [gf, hs] at h
        have gZ := And.intro g0 (And.intro fe (And.intro rB (And.intro eO (And.intro pr (And.intro pv (And.intro tT (And.intro tU (And.intro tV (And.intro tW (And.intro tX (And.intro tY (And.intro Gk (And.intro tZ (And.intro ub (And.intro uc (And.intro ud (And.intro ue (And.intro Cq (And.intro Cr gf)))))))))))))))))))
        cases nn : (aY 32 (List.length (bM ++ [(Glm.mk aw fc bl false)])))
        ·simp only [nn, hs] at h
         exact absurd h po
        simp only [nn, hs] at h
        simp only [vz, mq, mqm, tyf, mqt, gZ, (aH jQ), dN, cK, bE, bN, bK, bL, cz, cG, cj, bW, cl, ga, (au lX), (bc lY), nn, nm, seval]
        refine k_app (w := 4) (enc := cGlm) (xs := bM) (ys := ([(Glm.mk aw fc bl false)])) (el := jo) (jC := (some 144)) (fun _ => rfl) lZ ma Tryz.underlying91 (by first | rfl | assumption | (simp only [cq, ct, hC, gZ, nm, seval] <;> rfl) | (simp only [cq, ct, gb, gw, fV, fW, tyf, mqt, gZ, (aH jQ), dN, cK, bE, bN, bK, bL, cz, cG, cj, bW, cl, ga, (au lX), (bc lY), nn, nm, seval]; done)) (by first | rfl | assumption | (simp only [cq, ct, hC, gZ, nm, seval] <;> rfl) | (simp only [cq, ct, gb, gw, fV, fW, tyf, mqt, gZ, (aH jQ), dN, cK, bE, bN, bK, bL, cz, cG, cj, bW, cl, ga, (au lX), (bc lY), nn, nm, seval]; done)) (Nat.zero_lt_succ _) nn ?_
        simp only [vz, mq, mqm, tyf, mqt, gZ, (aH jQ), dN, cK, bE, bN, bK, bL, cz, cG, cj, bW, cl, ga, (au lX), (bc lY), nn, nm, seval]
        exact ⟨List.length mH, Nat.lt_succ_self _, by rw [pq]; refine ⟨mH, br + 1, bl, (bM ++ [(Glm.mk aw fc bl false)]), .ref (fL + 31) 0 (List.length (bM ++ [(Glm.mk aw fc bl false)])) 4 (List.length (bM ++ [(Glm.mk aw fc bl false)])), rfl, Int.le_trans gd (Int.le_add_one (Int.le_refl _)), bJ gd iK, rfl, (show eT + 23 ≤ fL + 37 by omega), ?_, ?_, ?_, ?_, ?_, dN, cK, bE, bN, bK, bL, cz, cG, cj, bW, cl, ?_, Or.inl ⟨fL + 31, (sameEl jo 144), rfl, (by first | omega | (simp only [nm, seval]; done) | (simp only [nm, seval]; omega)), (by first | omega | (intro hh; simp only [gZ, reduceCtorEq] at hh)), (by first | omega | (intro hh; simp only [gZ, reduceCtorEq] at hh)), (by first | omega | (intro hh; simp only [gZ, reduceCtorEq] at hh)), (by first | omega | (intro hh; simp only [gZ, reduceCtorEq] at hh)), (by first | omega | (intro hh; simp only [gZ, reduceCtorEq] at hh)), ?_⟩, (by first | exact h | (simp only [gZ]; exact h))⟩ <;> first | (simp only [ua, cu, gZ, dN, cK, bE, bN, bK, bL, cz, cG, cj, bW, cl, ga, nm, seval] <;> rfl) | rfl⟩
       simp only [gf, hs] at h
       have hD := And.intro g0 (And.intro fe (And.intro rB (And.intro eO (And.intro pr (And.intro pv (And.intro tT (And.intro tU (And.intro tV (And.intro tW (And.intro tX (And.intro tY (And.intro Gk (And.intro tZ (And.intro ub (And.intro uc (And.intro ud (And.intro ue (And.intro Cq (And.intro Cr gf)))))))))))))))))))
       cases np : (aY 32 (List.length (bM ++ [(Glm.mk aw fc bl (decide ((br + 1) < (List.length bS.Signs : Int))))])))
       ·simp only [np, hs] at h
        exact absurd h po
       simp only [np, hs] at h
       simp only [vz, mq, mqm, tyf, mqt, hD, (aH jQ), dN, cK, bE, bN, bK, bL, cz, cG, cj, bW, cl, ga, (au lX), (bc lY), np, nm, seval]
       refine k_app (w := 4) (enc := cGlm) (xs := bM) (ys := ([(Glm.mk aw fc bl (decide ((br + 1) < (List.length bS.Signs : Int))))])) (el := jo) (jC := (some 144)) (fun _ => rfl) lZ ma Tryz.underlying91 (by first | rfl | assumption | (simp only [cq, ct, hC, hD, nm, seval] <;> rfl) | (simp only [cq, ct, gb, gw, fV, fW, tyf, mqt, hD, (aH jQ), dN, cK, bE, bN, bK, bL, cz, cG, cj, bW, cl, ga, (au lX), (bc lY), np, nm, seval]; done)) (by first | rfl | assumption | (simp only [cq, ct, hC, hD, nm, seval] <;> rfl) | (simp only [cq, ct, gb, gw, fV, fW, tyf, mqt, hD, (aH jQ), dN, cK, bE, bN, bK, bL, cz, cG, cj, bW, cl, ga, (au lX), (bc lY), np, nm, seval]; done)) (Nat.zero_lt_succ _) np ?_
       simp only [vz, mq, mqm, tyf, mqt, hD, (aH jQ), dN, cK, bE, bN, bK, bL, cz, cG, cj, bW, cl, ga, (au lX), (bc lY), np, nm, seval]
       exact ⟨List.length mH, Nat.lt_succ_self _, by rw [pq]; refine ⟨mH, br + 1, i64.wrap (bl + 1), (bM ++ [(Glm.mk aw fc bl (decide ((br + 1) < (List.length bS.Signs : Int))))]), .ref (fL + 31) 0 (List.length (bM ++ [(Glm.mk aw fc bl (decide ((br + 1) < (List.length bS.Signs : Int))))])) 4 (List.length (bM ++ [(Glm.mk aw fc bl (decide ((br + 1) < (List.length bS.Signs : Int))))])), rfl, Int.le_trans gd (Int.le_add_one (Int.le_refl _)), bJ gd iK, rfl, (show eT + 23 ≤ fL + 40 by omega), ?_, ?_, ?_, ?_, ?_, dN, cK, bE, bN, bK, bL, cz, cG, cj, bW, ?_, ?_, Or.inl ⟨fL + 31, (sameEl jo 144), rfl, (by first | omega | (simp only [nm, seval]; done) | (simp only [nm, seval]; omega)), (by first | omega | (intro hh; simp only [hD, reduceCtorEq] at hh)), (by first | omega | (intro hh; simp only [hD, reduceCtorEq] at hh)), (by first | omega | (intro hh; simp only [hD, reduceCtorEq] at hh)), (by first | omega | (intro hh; simp only [hD, reduceCtorEq] at hh)), (by first | omega | (intro hh; simp only [hD, reduceCtorEq] at hh)), ?_⟩, (by first | exact h | (simp only [hD]; exact h))⟩ <;> first | (simp only [ua, cu, hD, dN, cK, bE, bN, bK, bL, cz, cG, cj, bW, cl, ga, nm, seval] <;> rfl) | rfl⟩
     ·cases mH with
      | nil =>
       have xm : (decide (br < (List.length bS.Signs : Int))) = false := eZ gd iK
       simp only [og, hs, reduceCtorEq] at h
       replace h := Cp _ h
       try dsimp only at h
       try simp only [hs] at h
       simp only [vz, mq, mqm, tyf, mqt, g0, (aH jQ), fe, rB, eO, pr, pv, dN, cK, bE, bN, bK, bL, cz, cG, cj, bW, cl, ga, tT, tU, tV, tW, tX, xm, nm, seval]
       exact ⟨List.length ky, Nat.lt_succ_self _, by rw [lU]; refine ⟨ky, aw + 1, bl, ([] : List Glm), .lit (.slice none 0 0), rfl, Int.le_trans eU (Int.le_add_one (Int.le_refl _)), bJ eU gI, rfl, (show gH + 6 ≤ fL + 3 by omega), ?_, ?_, ?_, ?_, ?_, dN, cK, bE, bN, cz, cl, ?_, Or.inr ⟨rfl, rfl⟩, (by first | exact h | (simp only [g0, fe, xm]; exact h))⟩ <;> first | (simp only [ua, cu, g0, fe, eO, pr, pv, dN, cK, bE, bN, bK, bL, cz, cG, cj, bW, cl, ga, tT, tU, tV, tW, tX, xm, nm, seval] <;> rfl) | rfl⟩
      | cons fc mH =>
       have Ct : (decide (br < (List.length bS.Signs : Int))) = true := eY gd iK
       have pw := dY gd iK
       have Cu := fa gd iK rB
       simp only [og, hs, reduceCtorEq] at h
       obtain ⟨Cv, px, h⟩ := optI h po
       try simp only [hs] at h
       cases ug : (Cv.Word == aw && (Cv.Letters == (br + 1)))
       ·simp only [ug, hs] at h
        have jq := And.intro g0 (And.intro fe (And.intro rB (And.intro eO (And.intro pr (And.intro pv (And.intro tT (And.intro tU (And.intro tV (And.intro tW (And.intro tX (And.intro Ct (And.intro Cu ug))))))))))))
        cases py : (aY 32 (List.length (([] : List Glm) ++ [(Glm.mk aw fc bl false)])))
        ·simp only [py, hs] at h
         exact absurd h po
        simp only [py, hs] at h
        simp only [vz, mq, mqm, tyf, mqt, jq, (aH jQ), dN, cK, bE, bN, bK, bL, cz, cG, cj, bW, cl, ga, (au pw), (bc px), py, nm, seval]
        refine tB (w := 4) (enc := cGlm) (ys := ([(Glm.mk aw fc bl false)])) (jC := (some 144)) (fun _ => rfl) lZ ma Tryz.underlying91 (by first | rfl | assumption | (simp only [cq, ct, hC, jq, nm, seval] <;> rfl) | (simp only [cq, ct, gb, gw, fV, fW, tyf, mqt, jq, (aH jQ), dN, cK, bE, bN, bK, bL, cz, cG, cj, bW, cl, ga, (au pw), (bc px), py, nm, seval]; done)) (Nat.zero_lt_succ _) py ?_
        simp only [vz, mq, mqm, tyf, mqt, jq, (aH jQ), dN, cK, bE, bN, bK, bL, cz, cG, cj, bW, cl, ga, (au pw), (bc px), py, nm, seval]
        exact ⟨List.length mH, Nat.lt_succ_self _, by rw [pq]; refine ⟨mH, br + 1, bl, (([] : List Glm) ++ [(Glm.mk aw fc bl false)]), .ref (fL + 31) 0 (List.length (([] : List Glm) ++ [(Glm.mk aw fc bl false)])) 4 (List.length (([] : List Glm) ++ [(Glm.mk aw fc bl false)])), rfl, Int.le_trans gd (Int.le_add_one (Int.le_refl _)), bJ gd iK, rfl, (show eT + 23 ≤ fL + 37 by omega), ?_, ?_, ?_, ?_, ?_, dN, cK, bE, bN, bK, bL, cz, cG, cj, bW, cl, ?_, Or.inl ⟨fL + 31, (some 144), rfl, (by first | omega | (simp only [nm, seval]; done) | (simp only [nm, seval]; omega)), (by first | omega | (intro hh; simp only [jq, reduceCtorEq] at hh)), (by first | omega | (intro hh; simp only [jq, reduceCtorEq] at hh)), (by first | omega | (intro hh; simp only [jq, reduceCtorEq] at hh)), (by first | omega | (intro hh; simp only [jq, reduceCtorEq] at hh)), (by first | omega | (intro hh; simp only [jq, reduceCtorEq] at hh)), ?_⟩, (by first | exact h | (simp only [jq]; exact h))⟩ <;> first | (simp only [ua, cu, jq, dN, cK, bE, bN, bK, bL, cz, cG, cj, bW, cl, ga, nm, seval] <;> rfl) | rfl⟩
       simp only [ug, hs] at h
       have jr := And.intro g0 (And.intro fe (And.intro rB (And.intro eO (And.intro pr (And.intro pv (And.intro tT (And.intro tU (And.intro tV (And.intro tW (And.intro tX (And.intro Ct (And.intro Cu ug))))))))))))
       cases pz : (aY 32 (List.length (([] : List Glm) ++ [(Glm.mk aw fc bl (decide ((br + 1) < (List.length bS.Signs : Int))))])))
       ·simp only [pz, hs] at h
        exact absurd h po
       simp only [pz, hs] at h
       simp only [vz, mq, mqm, tyf, mqt, jr, (aH jQ), dN, cK, bE, bN, bK, bL, cz, cG, cj, bW, cl, ga, (au pw), (bc px), pz, nm, seval]
       refine tB (w := 4) (enc := cGlm) (ys := ([(Glm.mk aw fc bl (decide ((br + 1) < (List.length bS.Signs : Int))))])) (jC := (some 144)) (fun _ => rfl) lZ ma Tryz.underlying91 (by first | rfl | assumption | (simp only [cq, ct, hC, jr, nm, seval] <;> rfl) | (simp only [cq, ct, gb, gw, fV, fW, tyf, mqt, jr, (aH jQ), dN, cK, bE, bN, bK, bL, cz, cG, cj, bW, cl, ga, (au pw), (bc px), pz, nm, seval]; done)) (Nat.zero_lt_succ _) pz ?_
       simp only [vz, mq, mqm, tyf, mqt, jr, (aH jQ), dN, cK, bE, bN, bK, bL, cz, cG, cj, bW, cl, ga, (au pw), (bc px), pz, nm, seval]
       exact ⟨List.length mH, Nat.lt_succ_self _, by rw [pq]; refine ⟨mH, br + 1, i64.wrap (bl + 1), (([] : List Glm) ++ [(Glm.mk aw fc bl (decide ((br + 1) < (List.length bS.Signs : Int))))]), .ref (fL + 31) 0 (List.length (([] : List Glm) ++ [(Glm.mk aw fc bl (decide ((br + 1) < (List.length bS.Signs : Int))))])) 4 (List.length (([] : List Glm) ++ [(Glm.mk aw fc bl (decide ((br + 1) < (List.length bS.Signs : Int))))])), rfl, Int.le_trans gd (Int.le_add_one (Int.le_refl _)), bJ gd iK, rfl, (show eT + 23 ≤ fL + 40 by omega), ?_, ?_, ?_, ?_, ?_, dN, cK, bE, bN, bK, bL, cz, cG, cj, bW, ?_, ?_, Or.inl ⟨fL + 31, (some 144), rfl, (by first | omega | (simp only [nm, seval]; done) | (simp only [nm, seval]; omega)), (by first | omega | (intro hh; simp only [jr, reduceCtorEq] at hh)), (by first | omega | (intro hh; simp only [jr, reduceCtorEq] at hh)), (by first | omega | (intro hh; simp only [jr, reduceCtorEq] at hh)), (by first | omega | (intro hh; simp only [jr, reduceCtorEq] at hh)), (by first | omega | (intro hh; simp only [jr, reduceCtorEq] at hh)), ?_⟩, (by first | exact h | (simp only [jr]; exact h))⟩ <;> first | (simp only [ua, cu, jr, dN, cK, bE, bN, bK, bL, cz, cG, cj, bW, cl, ga, nm, seval] <;> rfl) | rfl⟩
    simp only [fe, hs] at h
    simp only [vz, mq, mqm, tyf, mqt, g0, (aH jQ), lW, nj, nk, fx, f2, gp, lC, lS, kn, fe, nm, seval]
    exact ⟨List.length ky, Nat.lt_succ_self _, by rw [lU]; refine ⟨ky, aw + 1, ff, cP, .ref lV 0 (List.length cP) 4 (List.length cP), rfl, Int.le_trans eU (Int.le_add_one (Int.le_refl _)), bJ eU gI, rfl, (show gH + 6 ≤ eT + 9 by omega), ?_, ?_, ?_, ?_, ?_, lW, nj, nk, fx, lC, f2, ?_, Or.inl ⟨lV, rA, rfl, (by first | omega | (simp only [nm, seval]; done) | (simp only [nm, seval]; omega)), (by first | omega | (intro hh; simp only [g0, reduceCtorEq] at hh)), (by first | omega | (intro hh; simp only [g0, reduceCtorEq] at hh)), (by first | omega | (intro hh; simp only [g0, reduceCtorEq] at hh)), (by first | omega | (intro hh; simp only [g0, reduceCtorEq] at hh)), (by first | omega | (intro hh; simp only [g0, reduceCtorEq] at hh)), ?_⟩, (by first | exact h | (simp only [g0, fe]; exact h))⟩ <;> first | (simp only [ua, cu, g0, lW, nj, nk, fx, f2, gp, lC, lS, kn, fe, nm, seval] <;> rfl) | rfl⟩
  ·cases ky with
   | nil =>
    have nq : (decide (aw < (List.length ae.Words : Int))) = false := eZ eU gI
    simp only [th, hs, reduceCtorEq] at h
    replace h := Co _ h
    try dsimp only at h
    try simp only [hs] at h
    try simp only [vz, mq, mqm, tyf, mqt, mG, jh, dL, ni, qB, eV, cF, cb, cm, ck, bR, bC, cn, ph, pj, pk, fg, pn, nq, nm, seval]
    refine dX (x := (.agg ((cGLs ae) ++ (cGLx av) ++ [.lit (.int .i64 bw)] ++ [.mp 6] ++ [.lit (.slice none 0 0)]))) (by first | (simp only [Tryz.results71, resV, resL, aV, dP, dQ, uw, cr, tyf, mqt, mG, jh, dL, ni, qB, eV, cF, cb, cm, ck, bR, bC, cn, ph, pj, pk, fg, pn, nq, nm, seval] <;> rfl) | rfl) ?_
    obtain rfl := kF _ h
    refine dV ?_ ?_
    ·simp only [tre, aF, mqr, Bool.and_self]
    ·first | (simp only [outV, uw, eK, iY, iG, cr, tyf, mqt, nrm, aE, mG, jh, dL, ni, qB, eV, cF, cb, cm, ck, bR, bC, cn, ph, pj, pk, fg, pn, nq, nm, seval] <;> rfl) | rfl
   | cons bS ky =>
    have kQ : (decide (aw < (List.length ae.Words : Int))) = true := eY eU gI
    have fh := dY eU gI
    have xn := fa eU gI ni
    simp only [th, hs, reduceCtorEq] at h
    obtain ⟨Cw, OG, h⟩ := optI h pg
    try simp only [hs] at h
    simp only [vz, mq, mqm, tyf, mqt, mG, jh, dL, ni, qB, eV, cF, cb, cm, ck, bR, bC, cn, ph, pj, pk, fg, pn, kQ, (aH fh), xn, nm, seval]
    refine ktree (args0 := [.sl (ad eI av.Out) (List.length av.Out) false, .lit (.int .i64 aw)]) (by first | (simp only [nrm, aE, mqr] <;> rfl) | rfl) (by simp only [tre, aF, mqr, Bool.and_self]) (Gj _ _ _ OG) ?_
    refine bt (fun tm => tm 3 = .ptr 0 0 ∧ tm 4 = .ptr 1 0 ∧ tm 6 = .ptr 2 0 ∧ tm 7 = .ptr 8 0 ∧ tm 10 = .lit (.int .i64 ff) ∧ tm 11 = .lit (.int .i64 aw) ∧ tm 40 = .lit (.int .i64 (List.length ae.Words : Int)) ∧ tm 41 = .lit (.int .i64 aw) ∧ tm 47 = .lit (.bool Cw) ∧ True) (by refine ⟨cF, cb, cm, ck, bC, ?_, bR, cn, ?_, trivial⟩ <;> first | (simp only [ua, cu, jh, dL, qB, eV, cF, cb, cm, ck, bR, bC, cn, ph, pj, pk, fg, pn, kQ, xn, nm, seval] <;> rfl) | rfl) ?_
    rintro tm ⟨iL, iM, iN, iO, iP, rD, pE, rE, uh, _⟩
    have eW := And.intro mG (And.intro jh (And.intro dL (And.intro ni (And.intro qB (And.intro eV (And.intro ph (And.intro pj (And.intro pk (And.intro fg (And.intro pn (And.intro kQ xn)))))))))))
    cases fM : (Cw)
    ·simp only [fM, hs] at h
     cases js : (lenOk bS.Signs)
     ·simp only [js, hs] at h
      exact absurd h pg
     simp only [js, hs] at h
     simp only [vz, mq, mqm, tyf, mqt, eW, (aH fh), iL, iM, iN, iO, iP, rD, pE, rE, uh, fM, js, nm, seval]
     obtain ⟨OH, h, Wr, v7, Ws, kz⟩ := fP h pg
     obtain ⟨OI, Cx, h⟩ := call4 h
     obtain ⟨OJ, k6⟩ : ∃ I : Nat → St → Prop, I = (fun m st => ∃ (gg : List Int) (bg : Int) (ba : Int) (bu : List Glm) (kR : VV), m = List.length gg ∧ 0 ≤ bg ∧ List.drop (Int.toNat bg) bS.Signs = gg ∧ st.df = [] ∧ eT + 23 ≤ st.nx ∧ st.H 0 = some (.cells (some 28) (cGLs ae)) ∧ st.H 1 = some (.cells (some 31) (cGLx av)) ∧ st.H 2 = some (.cells (some 93) ([.lit (.slice none 0 0)] ++ [.lit (.slice none 0 0)] ++ [.lit (.int .i64 0)] ++ [.lit (.int .i64 0)] ++ [.lit (.int .i64 0)] ++ [.lit (.int .i64 0)] ++ [.lit (.int .i64 0)] ++ [.lit (.slice none 0 0)] ++ [.lit (.int .i64 0)] ++ [.lit (.int .i64 0)] ++ [.lit (.slice none 0 0)] ++ [.lit (.slice none 0 0)] ++ [.lit (.int .i64 0)] ++ [.lit (.map none)] ++ [.lit (.slice none 0 0)])) ∧ st.H 6 = some (.map (encM dp fy fK)) ∧ st.H 8 = some (.cells (some 93) ((cGLs ae) ++ (cGLx av) ++ [.lit (.int .i64 bw)] ++ [.mp 6] ++ [kR])) ∧ st.tm 3 = .ptr 0 0 ∧ st.tm 4 = .ptr 1 0 ∧ st.tm 6 = .ptr 2 0 ∧ st.tm 7 = .ptr 8 0 ∧ st.tm 11 = .lit (.int .i64 aw) ∧ st.tm 12 = .lit (.int .i64 (List.length bS.Signs : Int)) ∧ st.tm 40 = .lit (.int .i64 (List.length ae.Words : Int)) ∧ st.tm 41 = .lit (.int .i64 aw) ∧ st.tm 60 = .sl (ad eI bS.Signs) (List.length bS.Signs) false ∧ st.tm 61 = .lit (.int .i64 (List.length bS.Signs : Int)) ∧ st.tm 10 = .lit (.int .i64 ba) ∧ st.tm 62 = .lit (.int .i64 bg) ∧ ((∃ (β : Nat) (el : Option TypeId), kR = .ref β 0 (List.length bu) 4 (List.length bu) ∧ β < st.nx ∧ β ≠ 0 ∧ β ≠ 1 ∧ β ≠ 2 ∧ β ≠ 6 ∧ β ≠ 8 ∧ st.H β = some (.cells el (ad cGlm bu))) ∨ (kR = .lit (.slice none 0 0) ∧ bu = [])) ∧ OH (OI gg bg ba bu)) := ⟨_, rfl⟩
     refine loopK mixed (by kernel_rfl) OJ (List.length bS.Signs) (by rw [k6]; refine ⟨bS.Signs, 0, ff, ([] : List Glm), .lit (.slice none 0 0), rfl, Int.le_refl _, rfl, rfl, (show eT + 23 ≤ eT + 23 by omega), ?_, ?_, ?_, ?_, ?_, iL, iM, iN, iO, rD, ?_, pE, rE, ?_, ?_, iP, ?_, Or.inr ⟨rfl, rfl⟩, h⟩ <;> first | (simp only [ua, cu, eW, iL, iM, iN, iO, iP, rD, pE, rE, uh, fM, nm, seval] <;> rfl) | rfl) ?_
     rintro m ⟨tm, H, dx, df⟩ hinv
     rw [k6] at hinv
     obtain ⟨gg, bg, ba, bu, kR, rfl, dR, fv, hdf, Cy, kS, kT, kU, kV, kW, cQ, cR, cS, cT, dt, cC, cU, du, bX, bY, bZ, cD, ot, h⟩ := hinv
     simp only at hdf Cy kS kT kU kV kW cQ cR cS cT dt cC cU du bX bY bZ cD ot
     have hL := fO (m := 14) (b := dx) (by omega)
     have hO := tA (a := gH) (m := 6) (b := dx) (by omega)
     have eL := tA (a := eT) (m := 23) (b := dx) (by omega)
     subst hdf Cx
     rcases ot with ⟨rF, gJ, rfl, Cz, C0, C1, C2, C3, C4, ui⟩ | ⟨rfl, rfl⟩
     ·have kZ := vZ Cz
      have la := ne_f C0
      have lb := ne_f C1
      have ld := ne_f C2
      have lf := ne_f C3
      have lg := ne_f C4
      cases gg with
      | nil =>
       have xo : (decide (bg < (List.length bS.Signs : Int))) = false := eZ dR fv
       simp only [og, hs, reduceCtorEq] at h
       replace h := v7 _ h
       try dsimp only at h
       try simp only [hs] at h
       simp only [vz, mq, mqm, tyf, mqt, eW, (aH fh), fM, js, hL, hO, eL, cQ, cR, cS, cT, dt, cC, cU, du, bX, bY, bZ, cD, kS, kT, kU, kV, kW, kZ, ui, la, lb, ld, lf, lg, xo, nm, seval]
       exact ⟨List.length ky, Nat.lt_succ_self _, by rw [lU]; refine ⟨ky, aw + 1, ba, bu, .ref rF 0 (List.length bu) 4 (List.length bu), rfl, Int.le_trans eU (Int.le_add_one (Int.le_refl _)), bJ eU gI, rfl, (show gH + 6 ≤ dx + 3 by omega), ?_, ?_, ?_, ?_, ?_, cQ, cR, cS, cT, cU, bZ, ?_, Or.inl ⟨rF, gJ, rfl, (by first | omega | (simp only [nm, seval]; done) | (simp only [nm, seval]; omega)), (by first | omega | (intro hh; simp only [eW, hL, hO, eL, kZ, la, lb, ld, lf, lg, reduceCtorEq] at hh)), (by first | omega | (intro hh; simp only [eW, hL, hO, eL, kZ, la, lb, ld, lf, lg, reduceCtorEq] at hh)), (by first | omega | (intro hh; simp only [eW, hL, hO, eL, kZ, la, lb, ld, lf, lg, reduceCtorEq] at hh)), (by first | omega | (intro hh; simp only [eW, hL, hO, eL, kZ, la, lb, ld, lf, lg, reduceCtorEq] at hh)), (by first | omega | (intro hh; simp only [eW, hL, hO, eL, kZ, la, lb, ld, lf, lg, reduceCtorEq] at hh)), ?_⟩, (by first | exact h | (simp only [eW, fM, xo]; exact h))⟩ <;> first | (simp only [ua, cu, eW, fM, hL, hO, eL, cQ, cR, cS, cT, dt, cC, cU, du, bX, bY, bZ, cD, kS, kT, kU, kV, kW, kZ, ui, la, lb, ld, lf, lg, xo, nm, seval] <;> rfl) | rfl⟩
      | cons dg gg =>
       have C5 : (decide (bg < (List.length bS.Signs : Int))) = true := eY dR fv
       have mb := dY dR fv
       have C6 := fa dR fv js
       simp only [og, hs, reduceCtorEq] at h
       obtain ⟨C7, mc, h⟩ := optI h kz
       try simp only [hs] at h
       cases uj : (C7.Word == aw && (C7.Letters == (bg + 1)))
       ·simp only [uj, hs] at h
        have hP := And.intro eW (And.intro fM (And.intro js (And.intro hL (And.intro hO (And.intro eL (And.intro kS (And.intro kT (And.intro kU (And.intro kV (And.intro kW (And.intro kZ (And.intro ui (And.intro la (And.intro lb (And.intro ld (And.intro lf (And.intro lg (And.intro C5 (And.intro C6 uj)))))))))))))))))))
        cases nr : (aY 32 (List.length (bu ++ [(Glm.mk aw dg ba false)])))
        ·simp only [nr, hs] at h
         exact absurd h kz
        simp only [nr, hs] at h
        simp only [vz, mq, mqm, tyf, mqt, hP, (aH fh), cQ, cR, cS, cT, dt, cC, cU, du, bX, bY, bZ, cD, (au mb), (bc mc), nr, nm, seval]
        refine k_app (w := 4) (enc := cGlm) (xs := bu) (ys := ([(Glm.mk aw dg ba false)])) (el := gJ) (jC := (some 144)) (fun _ => rfl) lZ ma Tryz.underlying91 (by first | rfl | assumption | (simp only [cq, ct, hC, hP, nm, seval] <;> rfl) | (simp only [cq, ct, gb, gw, fV, fW, tyf, mqt, hP, (aH fh), cQ, cR, cS, cT, dt, cC, cU, du, bX, bY, bZ, cD, (au mb), (bc mc), nr, nm, seval]; done)) (by first | rfl | assumption | (simp only [cq, ct, hC, hP, nm, seval] <;> rfl) | (simp only [cq, ct, gb, gw, fV, fW, tyf, mqt, hP, (aH fh), cQ, cR, cS, cT, dt, cC, cU, du, bX, bY, bZ, cD, (au mb), (bc mc), nr, nm, seval]; done)) (Nat.zero_lt_succ _) nr ?_
        simp only [vz, mq, mqm, tyf, mqt, hP, (aH fh), cQ, cR, cS, cT, dt, cC, cU, du, bX, bY, bZ, cD, (au mb), (bc mc), nr, nm, seval]
        exact ⟨List.length gg, Nat.lt_succ_self _, by rw [k6]; refine ⟨gg, bg + 1, ba, (bu ++ [(Glm.mk aw dg ba false)]), .ref (dx + 31) 0 (List.length (bu ++ [(Glm.mk aw dg ba false)])) 4 (List.length (bu ++ [(Glm.mk aw dg ba false)])), rfl, Int.le_trans dR (Int.le_add_one (Int.le_refl _)), bJ dR fv, rfl, (show eT + 23 ≤ dx + 37 by omega), ?_, ?_, ?_, ?_, ?_, cQ, cR, cS, cT, dt, cC, cU, du, bX, bY, bZ, ?_, Or.inl ⟨dx + 31, (sameEl gJ 144), rfl, (by first | omega | (simp only [nm, seval]; done) | (simp only [nm, seval]; omega)), (by first | omega | (intro hh; simp only [hP, reduceCtorEq] at hh)), (by first | omega | (intro hh; simp only [hP, reduceCtorEq] at hh)), (by first | omega | (intro hh; simp only [hP, reduceCtorEq] at hh)), (by first | omega | (intro hh; simp only [hP, reduceCtorEq] at hh)), (by first | omega | (intro hh; simp only [hP, reduceCtorEq] at hh)), ?_⟩, (by first | exact h | (simp only [hP]; exact h))⟩ <;> first | (simp only [ua, cu, hP, cQ, cR, cS, cT, dt, cC, cU, du, bX, bY, bZ, cD, nm, seval] <;> rfl) | rfl⟩
       simp only [uj, hs] at h
       have hS := And.intro eW (And.intro fM (And.intro js (And.intro hL (And.intro hO (And.intro eL (And.intro kS (And.intro kT (And.intro kU (And.intro kV (And.intro kW (And.intro kZ (And.intro ui (And.intro la (And.intro lb (And.intro ld (And.intro lf (And.intro lg (And.intro C5 (And.intro C6 uj)))))))))))))))))))
       cases ns : (aY 32 (List.length (bu ++ [(Glm.mk aw dg ba (decide ((bg + 1) < (List.length bS.Signs : Int))))])))
       ·simp only [ns, hs] at h
        exact absurd h kz
       simp only [ns, hs] at h
       simp only [vz, mq, mqm, tyf, mqt, hS, (aH fh), cQ, cR, cS, cT, dt, cC, cU, du, bX, bY, bZ, cD, (au mb), (bc mc), ns, nm, seval]
       refine k_app (w := 4) (enc := cGlm) (xs := bu) (ys := ([(Glm.mk aw dg ba (decide ((bg + 1) < (List.length bS.Signs : Int))))])) (el := gJ) (jC := (some 144)) (fun _ => rfl) lZ ma Tryz.underlying91 (by first | rfl | assumption | (simp only [cq, ct, hC, hS, nm, seval] <;> rfl) | (simp only [cq, ct, gb, gw, fV, fW, tyf, mqt, hS, (aH fh), cQ, cR, cS, cT, dt, cC, cU, du, bX, bY, bZ, cD, (au mb), (bc mc), ns, nm, seval]; done)) (by first | rfl | assumption | (simp only [cq, ct, hC, hS, nm, seval] <;> rfl) | (simp only [cq, ct, gb, gw, fV, fW, tyf, mqt, hS, (aH fh), cQ, cR, cS, cT, dt, cC, cU, du, bX, bY, bZ, cD, (au mb), (bc mc), ns, nm, seval]; done)) (Nat.zero_lt_succ _) ns ?_
       simp only [vz, mq, mqm, tyf, mqt, hS, (aH fh), cQ, cR, cS, cT, dt, cC, cU, du, bX, bY, bZ, cD, (au mb), (bc mc), ns, nm, seval]
       exact ⟨List.length gg, Nat.lt_succ_self _, by rw [k6]; refine ⟨gg, bg + 1, i64.wrap (ba + 1), (bu ++ [(Glm.mk aw dg ba (decide ((bg + 1) < (List.length bS.Signs : Int))))]), .ref (dx + 31) 0 (List.length (bu ++ [(Glm.mk aw dg ba (decide ((bg + 1) < (List.length bS.Signs : Int))))])) 4 (List.length (bu ++ [(Glm.mk aw dg ba (decide ((bg + 1) < (List.length bS.Signs : Int))))])), rfl, Int.le_trans dR (Int.le_add_one (Int.le_refl _)), bJ dR fv, rfl, (show eT + 23 ≤ dx + 40 by omega), ?_, ?_, ?_, ?_, ?_, cQ, cR, cS, cT, dt, cC, cU, du, bX, bY, ?_, ?_, Or.inl ⟨dx + 31, (sameEl gJ 144), rfl, (by first | omega | (simp only [nm, seval]; done) | (simp only [nm, seval]; omega)), (by first | omega | (intro hh; simp only [hS, reduceCtorEq] at hh)), (by first | omega | (intro hh; simp only [hS, reduceCtorEq] at hh)), (by first | omega | (intro hh; simp only [hS, reduceCtorEq] at hh)), (by first | omega | (intro hh; simp only [hS, reduceCtorEq] at hh)), (by first | omega | (intro hh; simp only [hS, reduceCtorEq] at hh)), ?_⟩, (by first | exact h | (simp only [hS]; exact h))⟩ <;> first | (simp only [ua, cu, hS, cQ, cR, cS, cT, dt, cC, cU, du, bX, bY, bZ, cD, nm, seval] <;> rfl) | rfl⟩
     ·cases gg with
      | nil =>
       have xp : (decide (bg < (List.length bS.Signs : Int))) = false := eZ dR fv
       simp only [og, hs, reduceCtorEq] at h
       replace h := v7 _ h
       try dsimp only at h
       try simp only [hs] at h
       simp only [vz, mq, mqm, tyf, mqt, eW, (aH fh), fM, js, hL, hO, eL, cQ, cR, cS, cT, dt, cC, cU, du, bX, bY, bZ, cD, kS, kT, kU, kV, kW, xp, nm, seval]
       exact ⟨List.length ky, Nat.lt_succ_self _, by rw [lU]; refine ⟨ky, aw + 1, ba, ([] : List Glm), .lit (.slice none 0 0), rfl, Int.le_trans eU (Int.le_add_one (Int.le_refl _)), bJ eU gI, rfl, (show gH + 6 ≤ dx + 3 by omega), ?_, ?_, ?_, ?_, ?_, cQ, cR, cS, cT, cU, bZ, ?_, Or.inr ⟨rfl, rfl⟩, (by first | exact h | (simp only [eW, fM, xp]; exact h))⟩ <;> first | (simp only [ua, cu, eW, fM, hL, hO, eL, cQ, cR, cS, cT, dt, cC, cU, du, bX, bY, bZ, cD, kS, kT, kU, kV, kW, xp, nm, seval] <;> rfl) | rfl⟩
      | cons dg gg =>
       have C8 : (decide (bg < (List.length bS.Signs : Int))) = true := eY dR fv
       have pF := dY dR fv
       have C9 := fa dR fv js
       simp only [og, hs, reduceCtorEq] at h
       obtain ⟨CA, pG, h⟩ := optI h kz
       try simp only [hs] at h
       cases uk : (CA.Word == aw && (CA.Letters == (bg + 1)))
       ·simp only [uk, hs] at h
        have hT := And.intro eW (And.intro fM (And.intro js (And.intro hL (And.intro hO (And.intro eL (And.intro kS (And.intro kT (And.intro kU (And.intro kV (And.intro kW (And.intro C8 (And.intro C9 uk))))))))))))
        cases pH : (aY 32 (List.length (([] : List Glm) ++ [(Glm.mk aw dg ba false)])))
        ·simp only [pH, hs] at h
         exact absurd h kz
        simp only [pH, hs] at h
        simp only [vz, mq, mqm, tyf, mqt, hT, (aH fh), cQ, cR, cS, cT, dt, cC, cU, du, bX, bY, bZ, cD, (au pF), (bc pG), pH, nm, seval]
        refine tB (w := 4) (enc := cGlm) (ys := ([(Glm.mk aw dg ba false)])) (jC := (some 144)) (fun _ => rfl) lZ ma Tryz.underlying91 (by first | rfl | assumption | (simp only [cq, ct, hC, hT, nm, seval] <;> rfl) | (simp only [cq, ct, gb, gw, fV, fW, tyf, mqt, hT, (aH fh), cQ, cR, cS, cT, dt, cC, cU, du, bX, bY, bZ, cD, (au pF), (bc pG), pH, nm, seval]; done)) (Nat.zero_lt_succ _) pH ?_
        simp only [vz, mq, mqm, tyf, mqt, hT, (aH fh), cQ, cR, cS, cT, dt, cC, cU, du, bX, bY, bZ, cD, (au pF), (bc pG), pH, nm, seval]
        exact ⟨List.length gg, Nat.lt_succ_self _, by rw [k6]; refine ⟨gg, bg + 1, ba, (([] : List Glm) ++ [(Glm.mk aw dg ba false)]), .ref (dx + 31) 0 (List.length (([] : List Glm) ++ [(Glm.mk aw dg ba false)])) 4 (List.length (([] : List Glm) ++ [(Glm.mk aw dg ba false)])), rfl, Int.le_trans dR (Int.le_add_one (Int.le_refl _)), bJ dR fv, rfl, (show eT + 23 ≤ dx + 37 by omega), ?_, ?_, ?_, ?_, ?_, cQ, cR, cS, cT, dt, cC, cU, du, bX, bY, bZ, ?_, Or.inl ⟨dx + 31, (some 144), rfl, (by first | omega | (simp only [nm, seval]; done) | (simp only [nm, seval]; omega)), (by first | omega | (intro hh; simp only [hT, reduceCtorEq] at hh)), (by first | omega | (intro hh; simp only [hT, reduceCtorEq] at hh)), (by first | omega | (intro hh; simp only [hT, reduceCtorEq] at hh)), (by first | omega | (intro hh; simp only [hT, reduceCtorEq] at hh)), (by first | omega | (intro hh; simp only [hT, reduceCtorEq] at hh)), ?_⟩, (by first | exact h | (simp only [hT]; exact h))⟩ <;> first | (simp only [ua, cu, hT, cQ, cR, cS, cT, dt, cC, cU, du, bX, bY, bZ, cD, nm, seval] <;> rfl) | rfl⟩
       simp only [uk, hs] at h
       have eg := And.intro eW (And.intro fM (And.intro js (And.intro hL (And.intro hO (And.intro eL (And.intro kS (And.intro kT (And.intro kU (And.intro kV (And.intro kW (And.intro C8 (And.intro C9 uk))))))))))))
       cases pI : (aY 32 (List.length (([] : List Glm) ++ [(Glm.mk aw dg ba (decide ((bg + 1) < (List.length bS.Signs : Int))))])))
       ·simp only [pI, hs] at h
        exact absurd h kz
       simp only [pI, hs] at h
       simp only [vz, mq, mqm, tyf, mqt, eg, (aH fh), cQ, cR, cS, cT, dt, cC, cU, du, bX, bY, bZ, cD, (au pF), (bc pG), pI, nm, seval]
       refine tB (w := 4) (enc := cGlm) (ys := ([(Glm.mk aw dg ba (decide ((bg + 1) < (List.length bS.Signs : Int))))])) (jC := (some 144)) (fun _ => rfl) lZ ma Tryz.underlying91 (by first | rfl | assumption | (simp only [cq, ct, hC, eg, nm, seval] <;> rfl) | (simp only [cq, ct, gb, gw, fV, fW, tyf, mqt, eg, (aH fh), cQ, cR, cS, cT, dt, cC, cU, du, bX, bY, bZ, cD, (au pF), (bc pG), pI, nm, seval]; done)) (Nat.zero_lt_succ _) pI ?_
       simp only [vz, mq, mqm, tyf, mqt, eg, (aH fh), cQ, cR, cS, cT, dt, cC, cU, du, bX, bY, bZ, cD, (au pF), (bc pG), pI, nm, seval]
       exact ⟨List.length gg, Nat.lt_succ_self _, by rw [k6]; refine ⟨gg, bg + 1, i64.wrap (ba + 1), (([] : List Glm) ++ [(Glm.mk aw dg ba (decide ((bg + 1) < (List.length bS.Signs : Int))))]), .ref (dx + 31) 0 (List.length (([] : List Glm) ++ [(Glm.mk aw dg ba (decide ((bg + 1) < (List.length bS.Signs : Int))))])) 4 (List.length (([] : List Glm) ++ [(Glm.mk aw dg ba (decide ((bg + 1) < (List.length bS.Signs : Int))))])), rfl, Int.le_trans dR (Int.le_add_one (Int.le_refl _)), bJ dR fv, rfl, (show eT + 23 ≤ dx + 40 by omega), ?_, ?_, ?_, ?_, ?_, cQ, cR, cS, cT, dt, cC, cU, du, bX, bY, ?_, ?_, Or.inl ⟨dx + 31, (some 144), rfl, (by first | omega | (simp only [nm, seval]; done) | (simp only [nm, seval]; omega)), (by first | omega | (intro hh; simp only [eg, reduceCtorEq] at hh)), (by first | omega | (intro hh; simp only [eg, reduceCtorEq] at hh)), (by first | omega | (intro hh; simp only [eg, reduceCtorEq] at hh)), (by first | omega | (intro hh; simp only [eg, reduceCtorEq] at hh)), (by first | omega | (intro hh; simp only [eg, reduceCtorEq] at hh)), ?_⟩, (by first | exact h | (simp only [eg]; exact h))⟩ <;> first | (simp only [ua, cu, eg, cQ, cR, cS, cT, dt, cC, cU, du, bX, bY, bZ, cD, nm, seval] <;> rfl) | rfl⟩
    simp only [fM, hs] at h
    simp only [vz, mq, mqm, tyf, mqt, eW, (aH fh), iL, iM, iN, iO, iP, rD, pE, rE, uh, fM, nm, seval]
    exact ⟨List.length ky, Nat.lt_succ_self _, by rw [lU]; refine ⟨ky, aw + 1, ff, ([] : List Glm), .lit (.slice none 0 0), rfl, Int.le_trans eU (Int.le_add_one (Int.le_refl _)), bJ eU gI, rfl, (show gH + 6 ≤ eT + 9 by omega), ?_, ?_, ?_, ?_, ?_, iL, iM, iN, iO, pE, iP, ?_, Or.inr ⟨rfl, rfl⟩, (by first | exact h | (simp only [eW, fM]; exact h))⟩ <;> first | (simp only [ua, cu, eW, iL, iM, iN, iO, iP, rD, pE, rE, uh, fM, nm, seval] <;> rfl) | rfl⟩
 | cons cL v3 =>
  have gh : (decide (fJ < (List.length ae.Pairs : Int))) = true := eY pc ry
  have xq := dY pc ry
  have CB := fa pc ry mG
  simp only [zq, hs, reduceCtorEq] at h
  have xr := fun H => Ld (β := 6) fK (Glp.mk cL.Left cL.Right) cL.Space H
  try simp only [cu] at xr
  simp only [vz, mq, mqm, tyf, mqt, mG, jh, eE, cE, dw, cN, cM, cy, cO, pd, nY, Cm, Cn, pf, gh, (cB xq), CB, xr, nm, seval]
  exact ⟨List.length v3, Nat.lt_succ_self _, by rw [xj]; refine ⟨v3, fJ + 1, (mapSet ed fK (Glp.mk cL.Left cL.Right) cL.Space), rfl, Int.le_trans pc (Int.le_add_one (Int.le_refl _)), bJ pc ry, rfl, (show 14 ≤ gH + 17 by omega), ?_, ?_, ?_, ?_, ?_, eE, cE, dw, cN, cM, cy, ?_, (by first | exact h | (simp only [gh]; exact h))⟩ <;> first | (simp only [ua, cu, jh, eE, cE, dw, cN, cM, cy, cO, pd, nY, Cm, Cn, pf, gh, CB, xr, nm, seval] <;> rfl) | rfl⟩
end Go.V
end
section
namespace Go.V
open Go Go.Proofs IntKind
section
variable {K V : Type} {q : K → K → Bool} {z : V}
def getR (q : K → K → Bool) (z : V) (k : K) : List (K × V) → V
 | [] => z
 | e :: l => if q k e.1 then e.2 else getR q z k l
def setR (q : K → K → Bool) (k : K) (v : V) : List (K × V) → List (K × V)
 | [] => [(k, v)]
 | e :: l => if q k e.1 then (k, v) :: l else e :: setR q k v l
theorem Gl (k : K) : ∀ (es : List K) (i : Nat), kIdx q k es (i + 1) = (kIdx q k es i).map (· + 1)
 | [], _ => rfl
 | e :: es, i => by
  unfold kIdx
  cases q k e with
  | true => rfl
  | false => exact Gl k es (i + 1)
theorem OK (k : K) : ∀ l : List (K × V), mapGet q z l k = getR q z k l
 | [] => rfl
 | e :: l => by
  have ih := OK k l
  unfold mapGet at ih ⊢
  rw [List.map_cons]
  unfold kIdx getR
  cases hq : q k e.1 with
  | true => rfl
  | false =>
   simp only [cond_false, Bool.false_eq_true, if_false]
   rw [Gl]
   cases h : kIdx q k (l.map (·.1)) 0 with
   | none => rw [h] at ih; exact ih
   | some i => rw [h] at ih; simpa using ih
theorem Gm (k : K) (v : V) : ∀ l : List (K × V), mapSet q l k v = setR q k v l
 | [] => rfl
 | e :: l => by
  have ih := Gm k v l
  unfold mapSet at ih ⊢
  rw [List.map_cons]
  unfold kIdx setR
  cases hq : q k e.1 with
  | true => rfl
  | false =>
   simp only [cond_false, Bool.false_eq_true, if_false]
   rw [Gl]
   cases h : kIdx q k (l.map (·.1)) 0 with
   | none => rw [h] at ih; simpa using ih
   | some i => rw [h] at ih; simpa using ih
theorem Wt (hq : ∀ a b, q a b = true ↔ a = b) (k k' : K) (v : V) : ∀ l : List (K × V), getR q z k' (setR q k v l) = if q k' k then v else getR q z k' l
 | [] => rfl
 | e :: l => by
  have ih := Wt hq k k' v l
  unfold setR
  cases he : q k e.1 with
  | true =>
   have e1 := (hq _ _).1 he
   simp only [if_true, getR, ← e1]
   split <;> rfl
  | false =>
   simp only [Bool.false_eq_true, if_false, getR, ih]
   cases h1 : q k' e.1 with
   | true =>
    have e1 := (hq _ _).1 h1
    have : q k' k = false := by
     cases h2 : q k' k with
     | false => rfl
     | true =>
      have e2 := (hq _ _).1 h2
      rw [e2] at e1
      rw [e1, (hq _ _).2 rfl] at he
      cases he
    rw [this]
    simp
   | false => simp
theorem OL (hq : ∀ a b, q a b = true ↔ a = b) (k k' : K) (v : V) (l : List (K × V)) : mapGet q z (mapSet q l k v) k' = if q k' k then v else mapGet q z l k' := by
 rw [OK, OK, Gm, Wt hq]
end
end Go.V
end
section
namespace Go.V
open Go Go.Proofs IntKind
section
variable {K V : Type} {q : K → K → Bool} {z : V}
def hasR (q : K → K → Bool) (k : K) : List (K × V) → Bool
 | [] => false
 | e :: l => q k e.1 || hasR q k l
theorem OM (k : K) : ∀ l : List (K × V), mapHas q l k = hasR q k l
 | [] => rfl
 | e :: l => by
  have ih := OM k l
  unfold mapHas at ih ⊢
  rw [List.map_cons]
  unfold kIdx hasR
  cases hq : q k e.1 with
  | true => rfl
  | false =>
   simp only [cond_false, Bool.false_or]
   rw [Gl, Option.isSome_map, ih]
theorem CD (hq : ∀ a b, q a b = true ↔ a = b) (k k' : K) (v : V) : ∀ l : List (K × V), hasR q k' (setR q k v l) = (q k' k || hasR q k' l)
 | [] => by simp [setR, hasR]
 | e :: l => by
  have ih := CD hq k k' v l
  unfold setR
  cases he : q k e.1 with
  | true =>
   have e1 := (hq _ _).1 he
   simp only [if_true, hasR, ← e1]
   cases q k' k <;> simp
  | false =>
   simp only [Bool.false_eq_true, if_false, hasR, ih]
   cases q k' e.1 <;> cases q k' k <;> simp
end
theorem Gn (a b : Glp) : ed a b = true ↔ a = b := ⟨vp a b, fun h => by rw [h]; exact wI b⟩
def lastP (l r : Int) : List GLp → Option GSpan → Option GSpan
 | [], a => a
 | p :: ps, a => lastP l r ps (if l = p.Left ∧ r = p.Right then some p.Space else a)
def MapOk (m : List (Glp × GSpan)) (A : Int → Int → Option GSpan) : Prop := ∀ l r, mapHas ed m (Glp.mk l r) = (A l r).isSome ∧ ∀ v, A l r = some v → mapGet ed (GSpan.mk 0 0) m (Glp.mk l r) = v
theorem BI : ∀ (ps : List GLp) (i : Int) (m : List (Glp × GSpan)) (A : Int → Int → Option GSpan), MapOk m A → ∃ m', zq ps i m = some (.go m') ∧ MapOk m' (fun l r => lastP l r ps (A l r))
 | [], i, m, A, h => ⟨m, rfl, h⟩
 | p :: ps, i, m, A, h => by
  simp only [zq]
  obtain ⟨m', h1, h2⟩ := BI ps (i + 1) (mapSet ed m (Glp.mk p.Left p.Right) p.Space) (fun l r => if l = p.Left ∧ r = p.Right then some p.Space else A l r) (fun l r => by
   rw [OM, Gm, CD Gn, ← OM, (h l r).1, ← Gm, OL Gn]
   by_cases hk : l = p.Left ∧ r = p.Right
   ·have : ed (Glp.mk l r) (Glp.mk p.Left p.Right) = true := (Gn _ _).2 (by rw [hk.1, hk.2])
    rw [this]
    simp only [if_pos hk]
    simp
   ·have : ed (Glp.mk l r) (Glp.mk p.Left p.Right) = false := by
     cases hh : ed (Glp.mk l r) (Glp.mk p.Left p.Right) with
     | false => rfl
     | true =>
      have := (Gn _ _).1 hh
      simp only [Glp.mk.injEq] at this
      exact absurd this hk
    rw [this]
    simp only [if_neg hk]
    simpa using (h l r).2)
  exact ⟨m', h1, h2⟩
abbrev FL := GLe × Int × Bool
def letW (i : Int) (al : Int) : List Int → Int → List FL
 | [], _ => []
 | c :: cs, k => (GLe.mk i (k + 1), c, decide (k + 1 < al)) :: letW i al cs (k + 1)
def ltrsL (out : List Int) : List GLw → Int → List FL
 | [], _ => []
 | w :: ws, i => cond (out.contains i) (ltrsL out ws (i + 1)) (letW i (w.Signs.length : Int) w.Signs 0 ++ ltrsL out ws (i + 1))
def AL : List GLe → List FL → Prop
 | [], [] => True
 | [], _ :: _ => False
 | _ :: _, [] => False
 | e :: es, f :: fl => if e = f.1 then AL es fl else AL (e :: es) fl
def mkS : List GLe → List FL → Int → List Glm × List GLe × Int
 | es, [], r => ([], es, r)
 | [], _ :: _, r => ([], [], r)
 | e :: es, f :: fl, r => if e = f.1 then (Glm.mk f.1.Word f.2.1 r f.2.2 :: (mkS es fl (r + 1)).1, (mkS es fl (r + 1)).2) else (Glm.mk f.1.Word f.2.1 r false :: (mkS (e :: es) fl r).1, (mkS (e :: es) fl r).2)
theorem roomOk32 {n : Nat} (h : n ≤ 1000) : aY 32 n = true := by simp [aY]; omega
theorem xt (x : GLx) (hl : x.Ends.length < 1000000) (i : Int) (w : GLw) : ∀ (cs : List Int) (k r : Int) (acc : List Glm) (es : List GLe) (fl : List FL), 0 ≤ k → k + cs.length ≤ 1000 → 0 ≤ r → r + es.length = x.Ends.length → x.Ends.drop r.toNat = es → AL es (letW i (w.Signs.length : Int) cs k ++ fl) → acc.length + cs.length ≤ 1000 →
  og x i w cs k r acc = some (.go ((mkS es (letW i (w.Signs.length : Int) cs k) r).2.2, acc ++ (mkS es (letW i (w.Signs.length : Int) cs k) r).1)) ∧ AL (mkS es (letW i (w.Signs.length : Int) cs k) r).2.1 fl ∧ 0 ≤ (mkS es (letW i (w.Signs.length : Int) cs k) r).2.2 ∧ (mkS es (letW i (w.Signs.length : Int) cs k) r).2.2 + (mkS es (letW i (w.Signs.length : Int) cs k) r).2.1.length = x.Ends.length ∧ x.Ends.drop (mkS es (letW i (w.Signs.length : Int) cs k) r).2.2.toNat = (mkS es (letW i (w.Signs.length : Int) cs k) r).2.1 ∧ (mkS es (letW i (w.Signs.length : Int) cs k) r).1.length = cs.length
 | [], k, r, acc, es, fl, _, _, h0, h1, h2, h3, _ => by
  cases es <;> exact ⟨by simp [og, letW, mkS], h3, h0, h1, h2, rfl⟩
 | c :: cs, k, r, acc, es, fl, ON, hk, h0, h1, h2, h3, h4 => by
  simp only [List.length_cons] at h4 hk
  cases es with
  | nil => exact h3.elim
  | cons e es =>
   have hg : getI x.Ends r = some e := dY h0 h2
   simp only [List.length_cons] at h1
   simp only [og, hg, Option.bind_some]
   rw [Bm e (GLe.mk i (k + 1)), kO (by omega) (by omega)]
   simp only [letW, List.cons_append] at h3 ⊢
   unfold AL at h3
   unfold mkS
   by_cases he : e = GLe.mk i (k + 1)
   ·simp only [he, if_true] at h3 ⊢
    simp only [decide_true, cond_true]
    rw [roomOk32 (by simp; omega), cond_true]
    obtain ⟨q1, q2, q3, q4, q5, q6⟩ := xt x hl i w cs (k + 1) (r + 1) (acc ++ [Glm.mk i c r (decide (k + 1 < (w.Signs.length : Int)))]) es fl (by omega) (by omega) (by omega) (by omega) (bJ h0 h2) h3 (by simp; omega)
    refine ⟨?_, q2, q3, q4, q5, by simp [q6]⟩
    rw [q1]
    simp
   ·simp only [if_neg he] at h3 ⊢
    rw [decide_eq_false he, cond_false, roomOk32 (by simp; omega), cond_true]
    obtain ⟨q1, q2, q3, q4, q5, q6⟩ := xt x hl i w cs (k + 1) r (acc ++ [Glm.mk i c r false]) (e :: es) fl (by omega) (by omega) h0 (by simp only [List.length_cons]; omega) h2 h3 (by simp; omega)
    refine ⟨?_, q2, q3, q4, q5, by simp [q6]⟩
    rw [q1]
    simp
theorem BF {e : GLe} {f : FL} {es : List GLe} {fl : List FL} {r : Int} (h : e = f.1) : mkS (e :: es) (f :: fl) r = (Glm.mk f.1.Word f.2.1 r f.2.2 :: (mkS es fl (r + 1)).1, (mkS es fl (r + 1)).2) := by
 rw [mkS, if_pos h]
theorem BG {e : GLe} {f : FL} {es : List GLe} {fl : List FL} {r : Int} (h : ¬ e = f.1) : mkS (e :: es) (f :: fl) r = (Glm.mk f.1.Word f.2.1 r false :: (mkS (e :: es) fl r).1, (mkS (e :: es) fl r).2) := by
 rw [mkS, if_neg h]
theorem xu : ∀ (a b : List FL) (es : List GLe) (r : Int), AL es (a ++ b) → (mkS es (a ++ b) r).1 = (mkS es a r).1 ++ (mkS (mkS es a r).2.1 b (mkS es a r).2.2).1 ∧ (mkS es (a ++ b) r).2 = (mkS (mkS es a r).2.1 b (mkS es a r).2.2).2
 | [], b, es, r, _ => by cases es <;> simp [mkS]
 | f :: a, b, [], r, h => h.elim
 | f :: a, b, e :: es, r, h => by
  rw [List.cons_append] at h ⊢
  unfold AL at h
  by_cases he : e = f.1
  ·rw [if_pos he] at h
   obtain ⟨h1, h2⟩ := xu a b es (r + 1) h
   rw [BF he, BF he]
   simp only [h1, h2, List.cons_append, and_self]
  ·rw [if_neg he] at h
   obtain ⟨h1, h2⟩ := xu a b (e :: es) r h
   rw [BG he, BG he]
   simp only [h1, h2, List.cons_append, and_self]
theorem BE (i al : Int) : ∀ (cs : List Int) (k : Int), (letW i al cs k).length = cs.length
 | [], _ => rfl
 | c :: cs, k => by simp [letW, BE i al cs]
theorem wT (x : GLx) (ho : lenOk x.Out = true) (hl : x.Ends.length < 1000000) : ∀ (ws : List GLw) (i r : Int) (acc : List Glm) (es : List GLe), (∀ w ∈ ws, w.Signs.length ≤ 6) → 0 ≤ r → r + es.length = x.Ends.length → x.Ends.drop r.toNat = es → AL es (ltrsL x.Out ws i) → acc.length + 6 * ws.length ≤ 1000 →
  th x ws i r acc = some (.go ((mkS es (ltrsL x.Out ws i) r).2.2, acc ++ (mkS es (ltrsL x.Out ws i) r).1))
 | [], i, r, acc, es, _, _, _, _, h3, _ => by
  cases es with
  | nil => simp [th, ltrsL, mkS]
  | cons e es => exact h3.elim
 | w :: ws, i, r, acc, es, hw, h0, h1, h2, h3, h4 => by
  simp only [List.length_cons] at h4
  have hw1 := hw w (List.mem_cons_self ..)
  have Wu : ∀ v ∈ ws, v.Signs.length ≤ 6 := fun v hv => hw v (List.mem_cons_of_mem _ hv)
  simp only [th, Wv _ _ ho, Option.bind_some]
  unfold ltrsL at h3 ⊢
  cases hc : x.Out.contains i with
  | true =>
   rw [hc] at h3
   simp only [cond_true] at h3 ⊢
   exact wT x ho hl ws (i + 1) r acc es Wu h0 h1 h2 h3 (by omega)
  | false =>
   rw [hc] at h3
   simp only [cond_false] at h3 ⊢
   obtain ⟨q1, q2, q3, q4, q5, q6⟩ := xt x hl i w w.Signs 0 r acc es (ltrsL x.Out ws (i + 1)) (by omega) (by omega) h0 h1 h2 h3 (by omega)
   obtain ⟨a1, a2⟩ := xu _ _ es r h3
   rw [pa (by omega), cond_true, q1, qu, wT x ho hl ws (i + 1) _ _ _ Wu q3 q4 q5 q2 (by simp only [List.length_append, q6]; omega), a1, a2]
   simp
theorem Gp {i al : Int} {f : FL} : ∀ {cs : List Int} {k : Int}, f ∈ letW i al cs k → f.1.Word = i ∧ k + 1 ≤ f.1.Letters ∧ f.1.Letters ≤ k + cs.length ∧ f.2.1 ∈ cs ∧ f.2.2 = decide (f.1.Letters < al)
 | [], _, h => by cases h
 | c :: cs, k, h => by
  rcases List.mem_cons.1 h with rfl | h
  ·exact ⟨rfl, Int.le_refl _, by simp; omega, List.mem_cons_self .., rfl⟩
  ·obtain ⟨h1, h2, h3, h4, h5⟩ := Gp h
   exact ⟨h1, by omega, by simp only [List.length_cons]; omega, List.mem_cons_of_mem _ h4, h5⟩
theorem OO {i al : Int} : ∀ (cs : List Int) (k : Int) (n : Int), k + 1 ≤ n → n ≤ k + cs.length → GLe.mk i n ∈ (letW i al cs k).map (·.1)
 | [], k, n, h1, h2 => by simp at h2; omega
 | c :: cs, k, n, h1, h2 => by
  simp only [List.length_cons] at h2
  simp only [letW, List.map_cons]
  by_cases h : n = k + 1
  ·rw [h]; exact List.mem_cons_self ..
  ·exact List.mem_cons_of_mem _ (OO cs (k + 1) n (by omega) (by omega))
theorem CE {i al : Int} : ∀ (cs : List Int) (k : Int), ((letW i al cs k).map (·.1)).Pairwise befE
 | [], _ => List.Pairwise.nil
 | c :: cs, k => by
  simp only [letW, List.map_cons, List.pairwise_cons]
  refine ⟨fun x hx => ?_, CE cs (k + 1)⟩
  obtain ⟨f, hf, rfl⟩ := List.mem_map.1 hx
  obtain ⟨h1, h2, _⟩ := Gp hf
  exact .inr ⟨h1.symm, by show k + 1 < _; omega⟩
theorem FP {out : List Int} {f : FL} : ∀ {ws : List GLw} {i : Int}, f ∈ ltrsL out ws i → i ≤ f.1.Word ∧ ∃ w ∈ ws, f.2.1 ∈ w.Signs
 | [], _, h => by cases h
 | w :: ws, i, h => by
  unfold ltrsL at h
  cases hc : out.contains i with
  | true =>
   rw [hc, cond_true] at h
   obtain ⟨h1, v, h2, h3⟩ := FP h
   exact ⟨by omega, v, List.mem_cons_of_mem _ h2, h3⟩
  | false =>
   rw [hc, cond_false] at h
   rcases List.mem_append.1 h with h | h
   ·obtain ⟨h1, _, _, h4, _⟩ := Gp h
    exact ⟨by omega, w, List.mem_cons_self .., h4⟩
   ·obtain ⟨h1, v, h2, h3⟩ := FP h
    exact ⟨by omega, v, List.mem_cons_of_mem _ h2, h3⟩
theorem wR (out : List Int) : ∀ (ws : List GLw) (i : Int), ((ltrsL out ws i).map (·.1)).Pairwise befE
 | [], _ => List.Pairwise.nil
 | w :: ws, i => by
  unfold ltrsL
  cases out.contains i with
  | true => exact wR out ws (i + 1)
  | false =>
   rw [cond_false, List.map_append, List.pairwise_append]
   refine ⟨CE _ _, wR out ws (i + 1), fun a ha b hb => ?_⟩
   obtain ⟨f, hf, rfl⟩ := List.mem_map.1 ha
   obtain ⟨g, hg, rfl⟩ := List.mem_map.1 hb
   have h1 := (Gp hf).1
   have h2 := (FP hg).1
   left; omega
theorem BH (out : List Int) : ∀ (ws : List GLw) (i : Int), (∀ w ∈ ws, 1 ≤ w.Signs.length ∧ ∀ c ∈ w.Cuts, 1 ≤ c ∧ c < (w.Signs.length : Int)) → ∀ e ∈ possL out ws i, e ∈ (ltrsL out ws i).map (·.1)
 | [], _, _, e, he => by simp [possL] at he
 | w :: ws, i, h, e, he => by
  have hw := h w (List.mem_cons_self ..)
  have ih := BH out ws (i + 1) (fun v hv => h v (List.mem_cons_of_mem _ hv)) e
  unfold possL at he
  unfold ltrsL
  cases hc : out.contains i with
  | true => rw [hc, cond_true] at he; exact ih he
  | false =>
   rw [hc, cond_false] at he
   rw [cond_false, List.map_append, List.mem_append]
   rcases List.mem_append.1 he with he | he
   ·left
    obtain ⟨h1, h2⟩ := zg.1 he
    obtain ⟨a, b⟩ := e
    subst h1
    rcases h2 with h2 | h2
    ·have := hw.2 _ h2
     exact OO _ _ _ (by simp only at this ⊢; omega) (by simp only at this ⊢; omega)
    ·simp only at h2
     subst h2
     exact OO _ _ _ (by omega) (by omega)
   ·exact .inr (ih he)
theorem Ww (i al : Int) : ∀ (cs : List Int) (k : Int), cs ≠ [] → ((letW i al cs k).map (·.1)).getLast? = some (GLe.mk i (k + cs.length))
 | [], _, h => absurd rfl h
 | [c], k, _ => by simp [letW]
 | c :: d :: cs, k, _ => by
  have ih := Ww i al (d :: cs) (k + 1) (by simp)
  rw [letW, List.map_cons, List.getLast?_cons, ih]
  simp only [List.length_cons, Option.getD_some, Option.some.injEq, GLe.mk.injEq, true_and]
  omega
theorem VB (out : List Int) : ∀ (ws : List GLw) (i : Int), (∀ w ∈ ws, 1 ≤ w.Signs.length) → ((ltrsL out ws i).map (·.1)).getLast? = (possL out ws i).getLast?
 | [], _, _ => rfl
 | w :: ws, i, h => by
  have hw := h w (List.mem_cons_self ..)
  have ih := VB out ws (i + 1) fun v hv => h v (List.mem_cons_of_mem _ hv)
  unfold ltrsL possL
  cases out.contains i with
  | true => exact ih
  | false =>
   have hne : w.Signs ≠ [] := by intro h; rw [h] at hw; simp at hw
   simp only [cond_false, List.map_append, List.getLast?_append, ih, Ww _ _ _ _ hne]
   congr 1
   simp [posW]
theorem AL_of : ∀ (es : List GLe) (fl : List FL), es.Pairwise befE → (fl.map (·.1)).Pairwise befE → (∀ e ∈ es, e ∈ fl.map (·.1)) → es.getLast? = (fl.map (·.1)).getLast? → AL es fl
 | [], [], _, _, _, _ => trivial
 | [], f :: fl, _, _, _, h => by simp [List.getLast?_cons] at h
 | e :: es, [], _, _, h, _ => by have := h e (List.mem_cons_self ..); cases this
 | e :: es, f :: fl, h1, h2, h3, h4 => by
  rw [List.map_cons, List.pairwise_cons] at h2
  unfold AL
  by_cases he : e = f.1
  ·rw [if_pos he]
   rw [List.pairwise_cons] at h1
   refine AL_of es fl h1.2 h2.2 (fun x hx => ?_) ?_
   ·rcases List.mem_cons.1 (h3 x (List.mem_cons_of_mem _ hx)) with h | h
    ·have := h1.1 x hx
     have h' : x = f.1 := h
     rw [h', ← he] at this
     exact absurd this vo
    ·exact h
   ·rw [List.map_cons, List.getLast?_cons, List.getLast?_cons, Option.some.injEq] at h4
    cases hp : es.getLast? with
    | none =>
     rw [hp] at h4
     cases hr : (fl.map (·.1)).getLast? with
     | none => rfl
     | some y =>
      rw [hr] at h4
      simp only [Option.getD_none, Option.getD_some] at h4
      have := h2.1 _ (List.mem_of_getLast? hr)
      rw [← h4, he] at this
      exact absurd this vo
    | some z =>
     rw [hp] at h4
     cases hr : (fl.map (·.1)).getLast? with
     | none =>
      rw [hr] at h4
      simp only [Option.getD_none, Option.getD_some] at h4
      have := h1.1 _ (List.mem_of_getLast? hp)
      rw [h4, he] at this
      exact absurd this vo
     | some y =>
      rw [hr] at h4
      simp only [Option.getD_some] at h4
      rw [h4]
  ·rw [if_neg he]
   have hbe : befE f.1 e := by
    rcases List.mem_cons.1 (h3 e (List.mem_cons_self ..)) with h | h
    ·exact absurd h he
    ·exact h2.1 e h
   refine AL_of (e :: es) fl h1 h2.2 (fun x hx => ?_) ?_
   ·rcases List.mem_cons.1 (h3 x hx) with h | h
    ·exfalso
     rcases List.mem_cons.1 hx with hx | hx
     ·exact he (by rw [← hx, h])
     ·have := (List.pairwise_cons.1 h1).1 x hx
      rw [h] at this
      exact vo (wF hbe this)
    ·exact h
   ·rw [h4, List.map_cons, List.getLast?_cons]
    cases hr : (fl.map (·.1)).getLast? with
    | none =>
     exfalso
     have := List.getLast?_eq_none_iff.1 hr
     rcases List.mem_cons.1 (h3 e (List.mem_cons_self ..)) with h | h
     ·exact he h
     ·rw [this] at h; cases h
    | some y => rfl
end Go.V
end
section
namespace Go.V
open Go Go.Proofs IntKind
def mkOk (b : Nat) (n : Int) : Bool := decide (0 ≤ n) && aY b n.toNat
theorem BC {b : Nat} {n : Int} : mkOk b n = true ↔ 0 ≤ n ∧ n.toNat * b ≤ 140737488355328 := by
 unfold mkOk aY
 rw [Bool.and_eq_true, decide_eq_true_eq, decide_eq_true_eq]
theorem OP {v : Value} (n : Nat) : aZ #[v] n = List.replicate n (ofVal1 v) := by
 unfold aZ
 rw [List.eq_replicate_iff]
 refine ⟨by simp, fun x hx => ?_⟩
 obtain ⟨i, _, rfl⟩ := List.mem_map.1 hx
 have : i % (#[v] : Array Value).size = 0 := by simp [Nat.mod_one]
 rw [this]
 rfl
theorem Wx {α : Type} {enc : α → List VV} {z : α} {x : VV} (h : enc z = [x]) : ∀ n : Nat, ad enc (List.replicate n z) = List.replicate n x
 | 0 => rfl
 | n + 1 => by rw [List.replicate_succ, List.replicate_succ, gb, h, Wx h n]; rfl
section
variable {P : Program} {G : Glob} {γ : Nat} {tm : Nat → VV} {H : Nat → Option VObj} {α : Type} {enc : α → List VV} {z : α} {t e b : Nat} {n : Int} {v : Value} {x y : Operand} {d : Option Tmp} {ty : TypeId} {pos : String} {af : Array Edge} {g : Option (Nat × Bool)} {k : VV → VEff → Prop}
theorem k_mkS (ha : appOk P t = some (e, 1, b)) (hz : vzero P e = some #[v]) (hzv : enc z = [ofVal1 v]) (hx : ev G tm x = .lit (.int .i64 n)) (hy : ev G tm y = .lit (.int .i64 n)) (hg : mkOk b n = true)
  (h : k (.ref γ 0 (List.replicate n.toNat z).length 1 (List.replicate n.toNat z).length) (.new (.cells (some e) (ad enc (List.replicate n.toNat z))))) : oeK (vop P ⟨d, .makeSlice t x y, ty, pos, af, g⟩ (ev G tm) H γ) k := by
 obtain ⟨hu, inf, zz, hi, hzz, hs, hb, F7, Ay, hzs⟩ := JX ha
 obtain ⟨h0, h1⟩ := BC.1 hg
 have hzc : zz.cells = #[v] := by
  unfold vzero at hz
  rw [hi] at hz
  simp only [Option.bind_some, hzz, Option.map_some, Option.some.injEq] at hz
  exact hz
 have hk : vmakeSlice P t (.lit (.int .i64 n)) (.lit (.int .i64 n)) = some (List.replicate n.toNat (ofVal1 v), n.toNat, 1) := by
  have h2 : (inf.bytes : Int) * n ≤ 140737488355328 := by
   rw [hb]
   have h3 : ((n.toNat * b : Nat) : Int) ≤ ((140737488355328 : Nat) : Int) := Int.ofNat_le.2 h1
   rw [Int.natCast_mul, Int.toNat_of_nonneg h0, Int.mul_comm] at h3
   exact h3
  have hb0' : 0 < inf.bytes := by rw [hb]; exact Ay
  unfold vmakeSlice
  rw [hu]
  simp only [hi, hzz]
  rw [hs, hzc, if_pos ⟨h0, Int.le_refl _, Nat.zero_lt_one, hb0', h2, rfl⟩, Nat.mul_one, OP]
 have he : elemT P t = some e := by simp [elemT, hu]
 rw [Wx hzv, List.length_replicate] at h
 simp only [vop, hx, hy, hk, Option.map_some, he]
 exact h
end
end Go.V
end
section
namespace Go.V
open Go Go.Proofs IntKind
def v8 (aj : Gld) (bp : GSpan) : Option (Int) := some (i64.wrap (bp.Low + (i64.wrap (Int.tdiv (i64.wrap ((i64.wrap (bp.High - bp.Low)) * aj.stretch)) 10))))
theorem Gq (aj : Gld) (bp : GSpan) (R : Int) (h : v8 aj bp = some R) : ag Tryz.prog G0 170 [.agg (cGld aj), .agg (cGSpan bp)] (.tree (.lit (.int .i64 R))) := by
 refine ag.runR mixed Tryz.call170 Tryz.func170 rfl (by simp [Tryz.ntmps170]; kernel_rfl) ?_
 obtain ⟨KF, h, kF, kN⟩ := dZ h
 simp only [v8] at h
 try simp only [vz, mq, mqm, qr, tyf, mqt, nm, seval]
 refine dX (x := (.lit (.int .i64 (i64.wrap (bp.Low + (i64.wrap (Int.tdiv (i64.wrap ((i64.wrap (bp.High - bp.Low)) * aj.stretch)) 10))))))) (by first | (simp only [Tryz.results170, resV, resL, aV, dP, dQ, uw, cr, tyf, mqt, nm, seval] <;> rfl) | rfl) ?_
 obtain rfl := kF _ h
 refine dV ?_ ?_
 ·simp only [tre, aF, mqr, Bool.and_self]
 ·first | (simp only [outV, uw, eK, iY, iG, cr, tyf, mqt, nrm, aE, nm, seval] <;> rfl) | rfl
end Go.V
end
