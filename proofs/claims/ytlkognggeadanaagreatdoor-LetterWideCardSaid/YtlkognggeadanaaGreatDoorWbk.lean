/- Part of a proof. -/
import Derived.Test.YtlkognggeadanaaGreatDoorWbj
set_option linter.all false
set_option maxRecDepth 4000
set_option maxHeartbeats 40000000
section
namespace Go.V
open Go Go.Proofs IntKind
def z1 (ae : GLs) : List Int → Int → Option (LOut (Bool) (Unit))
 | [], lT => some (.go ())
 | e0 :: p0, lT => Option.bind (getI ae.Words e0) (fun x2 => cond (x2.Free) (z1 ae p0 (lT + 1)) (some (.ret false)))
def CI (ae : GLs) (aG : List Int) : Option (Bool) := cond (decide ((List.length aG : Int) ≥ (List.length ae.Words : Int))) (some false) (Option.bind (zc 0 aG (i64.wrap ((List.length ae.Words : Int) - 1))) (fun r1 => cond (r1) (cond (lenOk aG) (lbind (z1 ae aG 0) (fun r4 => some r4) (fun c3 => some true) (fun _ _ => none)) none) (some false)))
theorem zmj (ae : GLs) (aG : List Int) (R : Bool) (h : CI ae aG = some R) : ag Tryz.prog G0 114 [.agg (cGLs ae), .sl (ad eI aG) (List.length aG) false] (.tree (.lit (.bool R))) := by
 refine ag.runR mixed Tryz.call114 Tryz.func114 rfl (by simp [Tryz.ntmps114]; kernel_rfl) ?_
 obtain ⟨KF, h, kF, kN⟩ := dZ h
 simp only [CI] at h
 cases d5 : (decide ((List.length aG : Int) ≥ (List.length ae.Words : Int)))
 ·simp only [d5, hs] at h
  obtain ⟨r6, o7, h⟩ := optI h kN
  try simp only [hs] at h
  simp only [vz, tyf, d5, nm, seval]
  refine ktA (WC _ _ _ _ o7) ?_
  refine bt (fun tm => tm 1 = .sl (ad eI aG) (List.length aG) false ∧ tm 2 = .ptr 0 0 ∧ tm 13 = .lit (.bool false) ∧ tm 19 = .lit (.bool r6) ∧ True) (by refine ⟨?_, ?_, ?_, ?_, trivial⟩ <;> first | (simp only [ua, d5, nm, seval] <;> rfl) | rfl) ?_
  rintro tm ⟨e8, e9, bj, bm, _⟩
  cases bD : (r6)
  ·simp only [bD, hs] at h
   try simp only [vz, tyf, d5, e8, e9, bj, bm, bD, nm, seval]
   obtain rfl := kF _ h
   exact bd Tryz.results114 rfl
  simp only [bD, hs] at h
  cases lF : (lenOk aG)
  ·simp only [lF, hs] at h
   exact absurd h kN
  simp only [lF, hs] at h
  simp only [vz, tyf, d5, e8, e9, bj, bm, bD, lF, nm, seval]
  obtain ⟨Pu, h, rG, xv, Pv, rH⟩ := fP h kN
  obtain ⟨Pw, xw, h⟩ := call2 h
  obtain ⟨Px, nt⟩ : ∃ I : Nat → St → Prop, I = (fun m st => ∃ (md : List Int) (fN : Int), m = List.length md ∧ 0 ≤ fN ∧ List.drop (Int.toNat fN) aG = md ∧ st.df = [] ∧ 20 ≤ st.nx ∧ st.H 0 = some (.cells (some 28) (cGLs ae)) ∧ st.tm 2 = .ptr 0 0 ∧ st.tm 22 = .sl (ad eI aG) (List.length aG) false ∧ st.tm 23 = .lit (.int .i64 (List.length aG : Int)) ∧ st.tm 24 = .lit (.int .i64 fN) ∧ Pu (Pw md fN)) := ⟨_, rfl⟩
  refine loopK mixed (by kernel_rfl) Px (List.length aG) (by rw [nt]; refine ⟨aG, 0, rfl, Int.le_refl _, rfl, rfl, (show 20 ≤ 20 by omega), ?_, e9, ?_, ?_, ?_, h⟩ <;> first | (simp only [ua, d5, e8, e9, bj, bm, bD, nm, seval] <;> rfl) | rfl) ?_
  rintro m ⟨tm, H, nu, df⟩ hinv
  rw [nt] at hinv
  obtain ⟨md, fN, rfl, hU, jt, hdf, xx, rI, dM, dv, bT, db, h⟩ := hinv
  simp only at hdf xx rI dM dv bT db
  have lK := fO (m := 20) (b := nu) (by omega)
  subst hdf xw
  cases md with
  | nil =>
   have fR : (decide (fN < (List.length aG : Int))) = false := eZ hU jt
   simp only [z1, hs, reduceCtorEq] at h
   replace h := xv _ h
   try dsimp only at h
   try simp only [hs] at h
   try simp only [vz, tyf, d5, bD, lF, lK, dM, dv, bT, db, rI, fR, nm, seval]
   obtain rfl := kF _ h
   exact bd Tryz.results114 rfl
  | cons bA md =>
   have tD : (decide (fN < (List.length aG : Int))) = true := eY hU jt
   have WD := dY hU jt
   have WE := fa hU jt lF
   simp only [z1, hs, reduceCtorEq] at h
   obtain ⟨x25, kM, h⟩ := optI h rH
   try simp only [hs] at h
   cases um : (x25.Free)
   ·simp only [um, hs] at h
    have hX := And.intro d5 (And.intro bD (And.intro lF (And.intro lK (And.intro rI (And.intro tD (And.intro WE um))))))
    try simp only [vz, tyf, hX, dM, dv, bT, db, (au WD), (aH kM), nm, seval]
    replace h := rG _ h
    try dsimp only at h
    obtain rfl := kF _ h
    exact bd Tryz.results114 rfl
   simp only [um, hs] at h
   have z2 := And.intro d5 (And.intro bD (And.intro lF (And.intro lK (And.intro rI (And.intro tD (And.intro WE um))))))
   simp only [vz, tyf, z2, dM, dv, bT, db, (au WD), (aH kM), nm, seval]
   exact ⟨List.length md, Nat.lt_succ_self _, by rw [nt]; refine ⟨md, fN + 1, rfl, Int.le_trans hU (Int.le_add_one (Int.le_refl _)), bJ hU jt, rfl, (show 20 ≤ nu + 13 by omega), ?_, dM, dv, bT, ?_, (by first | exact h | (simp only [z2]; exact h))⟩ <;> first | (simp only [ua, z2, dM, dv, bT, db, nm, seval] <;> rfl) | rfl | (simp only [ua, tyf, z2, dM, dv, bT, db, nm, seval] <;> rfl)⟩
 simp only [d5, hs] at h
 try simp only [vz, tyf, d5, nm, seval]
 obtain rfl := kF _ h
 exact bd Tryz.results114 rfl
def z3 (dy : Int) : List Int → Int → Option (LOut (Int) (Unit))
 | [], hY => some (.go ())
 | e0 :: p0, hY => cond (dy == e0) (some (.ret hY)) (z3 dy p0 (hY + 1))
def Gu (ae : List Int) (dy : Int) : Option (Int) := cond (lenOk ae) (lbind (z3 dy ae 0) (fun r2 => some r2) (fun c1 => some (-1)) (fun _ _ => none)) none
theorem zhu (ae : List Int) (dy : Int) (R : Int) (h : Gu ae dy = some R) : ag Tryz.prog G0 151 [.sl (ad eI ae) (List.length ae) false, .lit (.int .i64 dy)] (.tree (.lit (.int .i64 R))) := by
 refine ag.runR mixed Tryz.call151 Tryz.func151 rfl (by simp [Tryz.ntmps151]; kernel_rfl) ?_
 obtain ⟨KF, h, kF, kN⟩ := dZ h
 simp only [Gu] at h
 cases g4 : (lenOk ae)
 ·simp only [g4, hs] at h
  exact absurd h kN
 simp only [g4, hs] at h
 simp only [vz, tyf, g4, nm, seval]
 obtain ⟨K3, h, qV, qz, AS, AT⟩ := fP h kN
 obtain ⟨f3, qW, h⟩ := call2 h
 obtain ⟨I3, ji⟩ : ∃ I : Nat → St → Prop, I = (fun m st => ∃ (p3 : List Int) (bO : Int), m = List.length p3 ∧ 0 ≤ bO ∧ List.drop (Int.toNat bO) ae = p3 ∧ st.df = [] ∧ 4 ≤ st.nx ∧ st.tm 0 = .sl (ad eI ae) (List.length ae) false ∧ st.tm 1 = .lit (.int .i64 dy) ∧ st.tm 7 = .lit (.int .i64 (List.length ae : Int)) ∧ st.tm 8 = .lit (.int .i64 bO) ∧ K3 (f3 p3 bO)) := ⟨_, rfl⟩
 refine loopK mixed (by kernel_rfl) I3 (List.length ae) (by rw [ji]; refine ⟨ae, 0, rfl, Int.le_refl _, rfl, rfl, (show 4 ≤ 4 by omega), ?_, ?_, ?_, ?_, h⟩ <;> first | (simp only [ua, nm, seval] <;> rfl) | rfl) ?_
 rintro m ⟨tm, H, lQ, df⟩ hinv
 rw [ji] at hinv
 obtain ⟨p3, bO, rfl, eP, fE, hdf, qX, e5, e6, e7, e8, h⟩ := hinv
 simp only at hdf qX e5 e6 e7 e8
 have n9 := fO (m := 4) (b := lQ) (by omega)
 subst hdf qW
 cases p3 with
 | nil =>
  have cw : (decide (bO < (List.length ae : Int))) = false := eZ eP fE
  simp only [z3, hs, reduceCtorEq] at h
  replace h := qz _ h
  try dsimp only at h
  try simp only [hs] at h
  try simp only [vz, tyf, g4, n9, e5, e6, e7, e8, cw, nm, seval]
  refine dX (x := (.lit (.int .i64 (-1)))) (by first | (simp only [Tryz.results151, resV, resL, aV, dP, dQ, uw, cr, tyf, g4, n9, cw, nm, seval] <;> rfl) | rfl) ?_
  obtain rfl := kF _ h
  refine dV ?_ ?_
  ·simp only [tre, aF, Bool.and_self]
  ·first | (simp only [outV, uw, eK, cr, tyf, nrm, aE, g4, n9, e5, e6, e7, e8, cw, nm, seval] <;> rfl) | rfl
 | cons e3 p3 =>
  have fF : (decide (bO < (List.length ae : Int))) = true := eY eP fE
  have pJ := dY eP fE
  have ou := fa eP fE g4
  simp only [z3, hs, reduceCtorEq] at h
  cases bQ : (dy == e3)
  ·simp only [bQ, hs] at h
   simp only [vz, tyf, g4, n9, e5, e6, e7, e8, fF, (au pJ), ou, bQ, nm, seval]
   exact ⟨List.length p3, Nat.lt_succ_self _, by rw [ji]; refine ⟨p3, bO + 1, rfl, Int.le_trans eP (Int.le_add_one (Int.le_refl _)), bJ eP fE, rfl, (show 4 ≤ lQ + 11 by omega), e5, e6, e7, ?_, (by first | exact h | (simp only [fF, bQ]; exact h))⟩ <;> first | (simp only [ua, n9, e5, e6, e7, e8, fF, ou, bQ, nm, seval] <;> rfl) | rfl⟩
  simp only [bQ, hs] at h
  try simp only [vz, tyf, g4, n9, e5, e6, e7, e8, fF, (au pJ), ou, bQ, nm, seval]
  refine dX (x := (.lit (.int .i64 bO))) (by first | (simp only [Tryz.results151, resV, resL, aV, dP, dQ, uw, cr, tyf, g4, n9, fF, (au pJ), ou, bQ, nm, seval] <;> rfl) | rfl) ?_
  replace h := qV _ h
  try dsimp only at h
  obtain rfl := kF _ h
  refine dV ?_ ?_
  ·simp only [tre, aF, Bool.and_self]
  ·first | (simp only [outV, uw, eK, cr, tyf, nrm, aE, g4, n9, e5, e6, e7, e8, fF, (au pJ), ou, bQ, nm, seval] <;> rfl) | rfl
def zp (ae : List Int) (dy : Int) : Option (Bool) := Option.bind (Gu ae dy) (fun r1 => some (decide (r1 ≥ 0)))
theorem Gj (ae : List Int) (dy : Int) (R : Bool) (h : zp ae dy = some R) : ag Tryz.prog G0 117 [.sl (ad eI ae) (List.length ae) false, .lit (.int .i64 dy)] (.tree (.lit (.bool R))) := by
 refine ag.runR mixed Tryz.call117 Tryz.func117 rfl (by simp [Tryz.ntmps117]; kernel_rfl) ?_
 obtain ⟨KF, h, kF, kN⟩ := dZ h
 simp only [zp] at h
 obtain ⟨r2, o3, h⟩ := optI h kN
 try simp only [hs] at h
 simp only [vz, tyf, nm, seval]
 refine ktA (zhu _ _ _ o3) ?_
 refine bt (fun tm => tm 7 = .lit (.int .i64 r2) ∧ True) (by refine ⟨?_, trivial⟩ <;> first | (simp only [ua, nm, seval] <;> rfl) | rfl) ?_
 rintro tm ⟨e4, _⟩
 try simp only [vz, tyf, e4, nm, seval]
 obtain rfl := kF _ h
 exact bd Tryz.results117 rfl
def pK (dz : Int) : List Int → Int → (List GLe) → Option (LOut (List GLe) ((List GLe)))
 | [], v9, uo => some (.go uo)
 | e1 :: p1, v9, uo => cond (aY 16 (List.length (uo ++ [(GLe.mk dz e1)]))) (pK dz p1 (v9 + 1) (uo ++ [(GLe.mk dz e1)])) none
def tl (aG : List Int) : List GLw → Int → (List GLe) → Option (LOut (List GLe) ((List GLe)))
 | [], dz, bV => some (.go bV)
 | e0 :: p0, dz, bV => Option.bind (zp aG dz) (fun r1 => cond (r1) (tl aG p0 (dz + 1) bV) (cond (lenOk e0.Cuts) (lbind (pK dz e0.Cuts 0 bV) (fun r3 => some (.ret r3)) (fun c2 => cond (aY 16 (List.length (c2 ++ [(GLe.mk dz (List.length e0.Signs : Int))]))) (tl aG p0 (dz + 1) (c2 ++ [(GLe.mk dz (List.length e0.Signs : Int))])) none) (fun _ _ => none)) none))
def CJ (ae : GLs) (aG : List Int) : Option (List GLe) := cond (lenOk ae.Words) (lbind (tl aG ae.Words 0 ([] : List GLe)) (fun r5 => some r5) (fun c4 => some c4) (fun _ _ => none)) none
theorem zin (ae : GLs) (aG : List Int) (R : List GLe) (h : CJ ae aG = some R) : ag Tryz.prog G0 116 [.agg (cGLs ae), .sl (ad eI aG) (List.length aG) false] (.tree (.sl (ad cGLe R) (List.length R) false)) := by
 refine ag.runR mixed Tryz.call116 Tryz.func116 rfl (by simp [Tryz.ntmps116]; kernel_rfl) ?_
 obtain ⟨KF, h, kF, kN⟩ := dZ h
 simp only [CJ] at h
 cases g7 : (lenOk ae.Words)
 ·simp only [g7, hs] at h
  exact absurd h kN
 simp only [g7, hs] at h
 simp only [vz, tyf, g7, nm, seval]
 obtain ⟨K6, h, wq, tF, K2, iH⟩ := fP h kN
 obtain ⟨f6, wu, h⟩ := call3 h
 obtain ⟨I6, ir⟩ : ∃ I : Nat → St → Prop, I = (fun m st => ∃ (p6 : List GLw) (aJ : Int) (bn : List GLe) (lh : VV), m = List.length p6 ∧ 0 ≤ aJ ∧ List.drop (Int.toNat aJ) ae.Words = p6 ∧ st.df = [] ∧ 7 ≤ st.nx ∧ st.H 0 = some (.cells (some 28) (cGLs ae)) ∧ st.tm 1 = .sl (ad eI aG) (List.length aG) false ∧ st.tm 2 = .ptr 0 0 ∧ st.tm 11 = .lit (.int .i64 (List.length ae.Words : Int)) ∧ st.tm 5 = lh ∧ st.tm 12 = .lit (.int .i64 aJ) ∧ ((∃ (β : Nat) (el : Option TypeId), lh = .ref β 0 (List.length bn) 2 (List.length bn) ∧ β < st.nx ∧ β ≠ 0 ∧ st.H β = some (.cells el (ad cGLe bn))) ∨ (lh = .lit (.slice none 0 0) ∧ bn = [])) ∧ K6 (f6 p6 aJ bn)) := ⟨_, rfl⟩
 refine loopK mixed (by kernel_rfl) I6 (List.length ae.Words) (by rw [ir]; refine ⟨ae.Words, 0, ([] : List GLe), .lit (.slice none 0 0), rfl, Int.le_refl _, rfl, rfl, (show 7 ≤ 7 by omega), ?_, ?_, ?_, ?_, ?_, ?_, Or.inr ⟨rfl, rfl⟩, h⟩ <;> first | (simp only [ua, nm, seval] <;> rfl) | rfl) ?_
 rintro m ⟨tm, H, eM, df⟩ hinv
 rw [ir] at hinv
 obtain ⟨p6, aJ, bn, lh, rfl, de, eN, hdf, wv, H8, e9, bj, bm, bU, bA, me, h⟩ := hinv
 simp only at hdf wv H8 e9 bj bm bU bA me
 have dh := fO (m := 7) (b := eM) (by omega)
 subst hdf wu
 rcases me with ⟨ju, iy, rfl, Py, xy, rI⟩ | ⟨rfl, rfl⟩
 ·have z4 := vZ Py
  have ov := ne_f xy
  cases p6 with
  | nil =>
   have k7 : (decide (aJ < (List.length ae.Words : Int))) = false := eZ de eN
   simp only [tl, hs, reduceCtorEq] at h
   replace h := tF _ h
   try dsimp only at h
   try simp only [hs] at h
   try simp only [vz, tyf, g7, dh, e9, bj, bm, bU, bA, H8, z4, rI, ov, k7, nm, seval]
   refine dX (x := (.ref ju 0 (List.length bn) 2 (List.length bn))) (by first | (simp only [Tryz.results116, resV, resL, aV, dP, dQ, uw, cr, tyf, g7, dh, H8, z4, rI, ov, k7, nm, seval] <;> rfl) | rfl) ?_
   obtain rfl := kF _ h
   refine dV ?_ ?_
   ·simp only [tre, aF, Bool.and_self]
   ·first | (simp only [outV, uw, eK, cr, tyf, nrm, aE, g7, dh, e9, bj, bm, bU, bA, H8, z4, rI, ov, k7, nm, seval] <;> rfl) | rfl
  | cons e6 p6 =>
   have fS : (decide (aJ < (List.length ae.Words : Int))) = true := eY de eN
   have jj := dY de eN
   have Pz := fa de eN g7
   simp only [tl, hs, reduceCtorEq] at h
   obtain ⟨vA, lG, h⟩ := optI h iH
   try simp only [hs] at h
   simp only [vz, tyf, g7, dh, e9, bj, bm, bU, bA, H8, z4, rI, ov, fS, (aH jj), Pz, nm, seval]
   refine ktA (Gj _ _ _ lG) ?_
   refine bt (fun tm => tm 1 = .sl (ad eI aG) (List.length aG) false ∧ tm 2 = .ptr 0 0 ∧ tm 5 = .ref ju 0 (List.length bn) 2 (List.length bn) ∧ tm 6 = .lit (.int .i64 aJ) ∧ tm 11 = .lit (.int .i64 (List.length ae.Words : Int)) ∧ tm 12 = .lit (.int .i64 aJ) ∧ tm 17 = .lit (.bool vA) ∧ True) (by refine ⟨e9, bj, bU, ?_, bm, bA, ?_, trivial⟩ <;> first | (simp only [ua, dh, e9, bj, bm, bU, bA, H8, z4, rI, ov, fS, Pz, nm, seval] <;> rfl) | rfl) ?_
   rintro tm ⟨cN, cM, cy, cO, eu, gn, bS, _⟩
   have dk := And.intro g7 (And.intro dh (And.intro H8 (And.intro z4 (And.intro rI (And.intro ov (And.intro fS Pz))))))
   cases eQ : (vA)
   ·simp only [eQ, hs] at h
    cases lj : (lenOk e6.Cuts)
    ·simp only [lj, hs] at h
     exact absurd h iH
    simp only [lj, hs] at h
    simp only [vz, tyf, dk, (aH jj), cN, cM, cy, cO, eu, gn, bS, eQ, lj, nm, seval]
    obtain ⟨K33, h, kR33, CK, kB33, CL⟩ := fP h iH
    obtain ⟨f33, P0, h⟩ := call3 h
    obtain ⟨I33, uq⟩ : ∃ I : Nat → St → Prop, I = (fun m st => ∃ (qC : List Int) (eh : Int) (dS : List GLe) (ow : VV), m = List.length qC ∧ 0 ≤ eh ∧ List.drop (Int.toNat eh) e6.Cuts = qC ∧ st.df = [] ∧ eM + 14 ≤ st.nx ∧ st.H 0 = some (.cells (some 28) (cGLs ae)) ∧ st.tm 1 = .sl (ad eI aG) (List.length aG) false ∧ st.tm 2 = .ptr 0 0 ∧ st.tm 6 = .lit (.int .i64 aJ) ∧ st.tm 11 = .lit (.int .i64 (List.length ae.Words : Int)) ∧ st.tm 12 = .lit (.int .i64 aJ) ∧ st.tm 23 = .sl (ad eI e6.Cuts) (List.length e6.Cuts) false ∧ st.tm 24 = .lit (.int .i64 (List.length e6.Cuts : Int)) ∧ st.tm 5 = ow ∧ st.tm 25 = .lit (.int .i64 eh) ∧ ((∃ (β : Nat) (el : Option TypeId), ow = .ref β 0 (List.length dS) 2 (List.length dS) ∧ β < st.nx ∧ β ≠ 0 ∧ st.H β = some (.cells el (ad cGLe dS))) ∨ (ow = .lit (.slice none 0 0) ∧ dS = [])) ∧ K33 (f33 qC eh dS)) := ⟨_, rfl⟩
    refine loopK mixed (by kernel_rfl) I33 (List.length e6.Cuts) (by rw [uq]; refine ⟨e6.Cuts, 0, bn, .ref ju 0 (List.length bn) 2 (List.length bn), rfl, Int.le_refl _, rfl, rfl, (show eM + 14 ≤ eM + 14 by omega), ?_, cN, cM, cO, eu, gn, ?_, ?_, ?_, ?_, Or.inl ⟨ju, iy, rfl, (by first | omega | (simp only [nm, seval]; done) | (simp only [nm, seval]; omega)), (by first | omega | (intro hh; simp only [dk, reduceCtorEq] at hh)), ?_⟩, h⟩ <;> first | (simp only [ua, dk, cN, cM, cy, cO, eu, gn, bS, eQ, nm, seval] <;> rfl) | rfl) ?_
    rintro m ⟨tm, H, gL, df⟩ hinv
    rw [uq] at hinv
    obtain ⟨qC, eh, dS, ow, rfl, iQ, jR, hdf, P1, fg, dj, cF, cb, cm, ck, bR, bC, cn, dc, rJ, h⟩ := hinv
    simp only at hdf P1 fg dj cF cb cm ck bR bC cn dc rJ
    have eV := fO (m := 7) (b := gL) (by omega)
    have gU := tA (a := eM) (m := 14) (b := gL) (by omega)
    subst hdf P0
    rcases rJ with ⟨WG, lk, rfl, xk, xl, oy⟩ | ⟨rfl, rfl⟩
    ·have jm := vZ xk
     have jn := ne_f xl
     cases qC with
     | nil =>
      have oU : (decide (eh < (List.length e6.Cuts : Int))) = false := eZ iQ jR
      simp only [pK, hs, reduceCtorEq] at h
      replace h := CK _ h
      try dsimp only at h
      try simp only [hs] at h
      cases xz : (aY 16 (List.length (dS ++ [(GLe.mk aJ (List.length e6.Signs : Int))])))
      ·simp only [xz, hs] at h
       exact absurd h iH
      simp only [xz, hs] at h
      simp only [vz, tyf, dk, (aH jj), eQ, lj, eV, gU, dj, cF, cb, cm, ck, bR, bC, cn, dc, fg, jm, oy, jn, oU, xz, nm, seval]
      refine k_app (w := 2) (enc := cGLe) (xs := dS) (ys := ([(GLe.mk aJ (List.length e6.Signs : Int))])) (el := lk) (jC := (some 100)) (fun _ => rfl) mf mg Tryz.underlying29 (by first | rfl | assumption | (simp only [cq, ct, hZ, dk, eV, gU, fg, jm, oy, jn, nm, seval] <;> rfl) | (simp only [cq, ct, gb, gw, fV, fW, tyf, dk, (aH jj), eQ, lj, eV, gU, dj, cF, cb, cm, ck, bR, bC, cn, dc, fg, jm, oy, jn, oU, xz, nm, seval]; done)) (by first | rfl | assumption | (simp only [cq, ct, hZ, dk, eV, gU, fg, jm, oy, jn, nm, seval] <;> rfl) | (simp only [cq, ct, gb, gw, fV, fW, tyf, dk, (aH jj), eQ, lj, eV, gU, dj, cF, cb, cm, ck, bR, bC, cn, dc, fg, jm, oy, jn, oU, xz, nm, seval]; done)) (Nat.zero_lt_succ _) xz ?_
      simp only [vz, tyf, dk, (aH jj), eQ, lj, eV, gU, dj, cF, cb, cm, ck, bR, bC, cn, dc, fg, jm, oy, jn, oU, xz, nm, seval]
      exact ⟨List.length p6, Nat.lt_succ_self _, by rw [ir]; refine ⟨p6, aJ + 1, (dS ++ [(GLe.mk aJ (List.length e6.Signs : Int))]), .ref (gL + 12) 0 (List.length (dS ++ [(GLe.mk aJ (List.length e6.Signs : Int))])) 2 (List.length (dS ++ [(GLe.mk aJ (List.length e6.Signs : Int))])), rfl, Int.le_trans de (Int.le_add_one (Int.le_refl _)), bJ de eN, rfl, (show 7 ≤ gL + 16 by omega), ?_, dj, cF, cm, ?_, ?_, Or.inl ⟨gL + 12, (sameEl lk 100), rfl, (by first | omega | (simp only [nm, seval]; done) | (simp only [nm, seval]; omega)), (by first | omega | (intro hh; simp only [dk, eV, gU, jm, jn, reduceCtorEq] at hh)), ?_⟩, (by first | exact h | (simp only [dk, eQ, oU]; exact h))⟩ <;> first | (simp only [ua, dk, eQ, eV, gU, dj, cF, cb, cm, ck, bR, bC, cn, dc, fg, jm, oy, jn, oU, nm, seval] <;> rfl) | rfl⟩
     | cons fX qC =>
      have z5 : (decide (eh < (List.length e6.Cuts : Int))) = true := eY iQ jR
      have Gv := dY iQ jR
      have CM := fa iQ jR lj
      simp only [pK, hs, reduceCtorEq] at h
      cases xA : (aY 16 (List.length (dS ++ [(GLe.mk aJ fX)])))
      ·simp only [xA, hs] at h
       exact absurd h CL
      simp only [xA, hs] at h
      simp only [vz, tyf, dk, (aH jj), eQ, lj, eV, gU, dj, cF, cb, cm, ck, bR, bC, cn, dc, fg, jm, oy, jn, z5, (au Gv), CM, xA, nm, seval]
      refine k_app (w := 2) (enc := cGLe) (xs := dS) (ys := ([(GLe.mk aJ fX)])) (el := lk) (jC := (some 100)) (fun _ => rfl) mf mg Tryz.underlying29 (by first | rfl | assumption | (simp only [cq, ct, hZ, dk, eV, gU, fg, jm, oy, jn, nm, seval] <;> rfl) | (simp only [cq, ct, gb, gw, fV, fW, tyf, dk, (aH jj), eQ, lj, eV, gU, dj, cF, cb, cm, ck, bR, bC, cn, dc, fg, jm, oy, jn, z5, (au Gv), CM, xA, nm, seval]; done)) (by first | rfl | assumption | (simp only [cq, ct, hZ, dk, eV, gU, fg, jm, oy, jn, nm, seval] <;> rfl) | (simp only [cq, ct, gb, gw, fV, fW, tyf, dk, (aH jj), eQ, lj, eV, gU, dj, cF, cb, cm, ck, bR, bC, cn, dc, fg, jm, oy, jn, z5, (au Gv), CM, xA, nm, seval]; done)) (Nat.zero_lt_succ _) xA ?_
      simp only [vz, tyf, dk, (aH jj), eQ, lj, eV, gU, dj, cF, cb, cm, ck, bR, bC, cn, dc, fg, jm, oy, jn, z5, (au Gv), CM, xA, nm, seval]
      exact ⟨List.length qC, Nat.lt_succ_self _, by rw [uq]; refine ⟨qC, eh + 1, (dS ++ [(GLe.mk aJ fX)]), .ref (gL + 9) 0 (List.length (dS ++ [(GLe.mk aJ fX)])) 2 (List.length (dS ++ [(GLe.mk aJ fX)])), rfl, Int.le_trans iQ (Int.le_add_one (Int.le_refl _)), bJ iQ jR, rfl, (show eM + 14 ≤ gL + 13 by omega), ?_, dj, cF, cb, cm, ck, bR, bC, ?_, ?_, Or.inl ⟨gL + 9, (sameEl lk 100), rfl, (by first | omega | (simp only [nm, seval]; done) | (simp only [nm, seval]; omega)), (by first | omega | (intro hh; simp only [dk, eV, gU, jm, jn, reduceCtorEq] at hh)), ?_⟩, (by first | exact h | (simp only [dk, eQ, z5]; exact h))⟩ <;> first | (simp only [ua, dk, eQ, eV, gU, dj, cF, cb, cm, ck, bR, bC, cn, dc, fg, jm, oy, jn, z5, CM, nm, seval] <;> rfl) | rfl⟩
    ·cases qC with
     | nil =>
      have CN : (decide (eh < (List.length e6.Cuts : Int))) = false := eZ iQ jR
      simp only [pK, hs, reduceCtorEq] at h
      replace h := CK _ h
      try dsimp only at h
      try simp only [hs] at h
      cases z6 : (aY 16 (List.length (([] : List GLe) ++ [(GLe.mk aJ (List.length e6.Signs : Int))])))
      ·simp only [z6, hs] at h
       exact absurd h iH
      simp only [z6, hs] at h
      simp only [vz, tyf, dk, (aH jj), eQ, lj, eV, gU, dj, cF, cb, cm, ck, bR, bC, cn, dc, fg, CN, z6, nm, seval]
      refine tB (w := 2) (enc := cGLe) (ys := ([(GLe.mk aJ (List.length e6.Signs : Int))])) (jC := (some 100)) (fun _ => rfl) mf mg Tryz.underlying29 (by first | rfl | assumption | (simp only [cq, ct, hZ, dk, eV, gU, fg, nm, seval] <;> rfl) | (simp only [cq, ct, gb, gw, fV, fW, tyf, dk, (aH jj), eQ, lj, eV, gU, dj, cF, cb, cm, ck, bR, bC, cn, dc, fg, CN, z6, nm, seval]; done)) (Nat.zero_lt_succ _) z6 ?_
      simp only [vz, tyf, dk, (aH jj), eQ, lj, eV, gU, dj, cF, cb, cm, ck, bR, bC, cn, dc, fg, CN, z6, nm, seval]
      exact ⟨List.length p6, Nat.lt_succ_self _, by rw [ir]; refine ⟨p6, aJ + 1, (([] : List GLe) ++ [(GLe.mk aJ (List.length e6.Signs : Int))]), .ref (gL + 12) 0 (List.length (([] : List GLe) ++ [(GLe.mk aJ (List.length e6.Signs : Int))])) 2 (List.length (([] : List GLe) ++ [(GLe.mk aJ (List.length e6.Signs : Int))])), rfl, Int.le_trans de (Int.le_add_one (Int.le_refl _)), bJ de eN, rfl, (show 7 ≤ gL + 16 by omega), ?_, dj, cF, cm, ?_, ?_, Or.inl ⟨gL + 12, (some 100), rfl, (by first | omega | (simp only [nm, seval]; done) | (simp only [nm, seval]; omega)), (by first | omega | (intro hh; simp only [dk, eV, gU, reduceCtorEq] at hh)), ?_⟩, (by first | exact h | (simp only [dk, eQ, CN]; exact h))⟩ <;> first | (simp only [ua, dk, eQ, eV, gU, dj, cF, cb, cm, ck, bR, bC, cn, dc, fg, CN, nm, seval] <;> rfl) | rfl⟩
     | cons fX qC =>
      have jv : (decide (eh < (List.length e6.Cuts : Int))) = true := eY iQ jR
      have nv := dY iQ jR
      have mI := fa iQ jR lj
      simp only [pK, hs, reduceCtorEq] at h
      cases z7 : (aY 16 (List.length (([] : List GLe) ++ [(GLe.mk aJ fX)])))
      ·simp only [z7, hs] at h
       exact absurd h CL
      simp only [z7, hs] at h
      simp only [vz, tyf, dk, (aH jj), eQ, lj, eV, gU, dj, cF, cb, cm, ck, bR, bC, cn, dc, fg, jv, (au nv), mI, z7, nm, seval]
      refine tB (w := 2) (enc := cGLe) (ys := ([(GLe.mk aJ fX)])) (jC := (some 100)) (fun _ => rfl) mf mg Tryz.underlying29 (by first | rfl | assumption | (simp only [cq, ct, hZ, dk, eV, gU, fg, nm, seval] <;> rfl) | (simp only [cq, ct, gb, gw, fV, fW, tyf, dk, (aH jj), eQ, lj, eV, gU, dj, cF, cb, cm, ck, bR, bC, cn, dc, fg, jv, (au nv), mI, z7, nm, seval]; done)) (Nat.zero_lt_succ _) z7 ?_
      simp only [vz, tyf, dk, (aH jj), eQ, lj, eV, gU, dj, cF, cb, cm, ck, bR, bC, cn, dc, fg, jv, (au nv), mI, z7, nm, seval]
      exact ⟨List.length qC, Nat.lt_succ_self _, by rw [uq]; refine ⟨qC, eh + 1, (([] : List GLe) ++ [(GLe.mk aJ fX)]), .ref (gL + 9) 0 (List.length (([] : List GLe) ++ [(GLe.mk aJ fX)])) 2 (List.length (([] : List GLe) ++ [(GLe.mk aJ fX)])), rfl, Int.le_trans iQ (Int.le_add_one (Int.le_refl _)), bJ iQ jR, rfl, (show eM + 14 ≤ gL + 13 by omega), ?_, dj, cF, cb, cm, ck, bR, bC, ?_, ?_, Or.inl ⟨gL + 9, (some 100), rfl, (by first | omega | (simp only [nm, seval]; done) | (simp only [nm, seval]; omega)), (by first | omega | (intro hh; simp only [dk, eV, gU, reduceCtorEq] at hh)), ?_⟩, (by first | exact h | (simp only [dk, eQ, jv]; exact h))⟩ <;> first | (simp only [ua, dk, eQ, eV, gU, dj, cF, cb, cm, ck, bR, bC, cn, dc, fg, jv, mI, nm, seval] <;> rfl) | rfl⟩
   simp only [eQ, hs] at h
   simp only [vz, tyf, dk, (aH jj), cN, cM, cy, cO, eu, gn, bS, eQ, nm, seval]
   exact ⟨List.length p6, Nat.lt_succ_self _, by rw [ir]; refine ⟨p6, aJ + 1, bn, .ref ju 0 (List.length bn) 2 (List.length bn), rfl, Int.le_trans de (Int.le_add_one (Int.le_refl _)), bJ de eN, rfl, (show 7 ≤ eM + 8 by omega), ?_, cN, cM, eu, ?_, ?_, Or.inl ⟨ju, iy, rfl, (by first | omega | (simp only [nm, seval]; done) | (simp only [nm, seval]; omega)), (by first | omega | (intro hh; simp only [dk, reduceCtorEq] at hh)), ?_⟩, (by first | exact h | (simp only [dk, eQ]; exact h))⟩ <;> first | (simp only [ua, dk, cN, cM, cy, cO, eu, gn, bS, eQ, nm, seval] <;> rfl) | rfl⟩
 ·cases p6 with
  | nil =>
   have P2 : (decide (aJ < (List.length ae.Words : Int))) = false := eZ de eN
   simp only [tl, hs, reduceCtorEq] at h
   replace h := tF _ h
   try dsimp only at h
   try simp only [hs] at h
   try simp only [vz, tyf, g7, dh, e9, bj, bm, bU, bA, H8, P2, nm, seval]
   refine dX (x := (.lit (.slice none 0 0))) (by first | (simp only [Tryz.results116, resV, resL, aV, dP, dQ, uw, cr, tyf, g7, dh, H8, P2, nm, seval] <;> rfl) | rfl) ?_
   obtain rfl := kF _ h
   refine dV ?_ ?_
   ·simp only [tre, aF, Bool.and_self]
   ·first | (simp only [outV, uw, eK, cr, tyf, nrm, aE, g7, dh, e9, bj, bm, bU, bA, H8, P2, nm, seval] <;> rfl) | rfl
  | cons e6 p6 =>
   have gM : (decide (aJ < (List.length ae.Words : Int))) = true := eY de eN
   have mh := dY de eN
   have iZ := fa de eN g7
   simp only [tl, hs, reduceCtorEq] at h
   obtain ⟨WH, CP, h⟩ := optI h iH
   try simp only [hs] at h
   simp only [vz, tyf, g7, dh, e9, bj, bm, bU, bA, H8, gM, (aH mh), iZ, nm, seval]
   refine ktA (Gj _ _ _ CP) ?_
   refine bt (fun tm => tm 1 = .sl (ad eI aG) (List.length aG) false ∧ tm 2 = .ptr 0 0 ∧ tm 5 = .lit (.slice none 0 0) ∧ tm 6 = .lit (.int .i64 aJ) ∧ tm 11 = .lit (.int .i64 (List.length ae.Words : Int)) ∧ tm 12 = .lit (.int .i64 aJ) ∧ tm 17 = .lit (.bool WH) ∧ True) (by refine ⟨e9, bj, bU, ?_, bm, bA, ?_, trivial⟩ <;> first | (simp only [ua, dh, e9, bj, bm, bU, bA, H8, gM, iZ, nm, seval] <;> rfl) | rfl) ?_
   rintro tm ⟨pL, oz, fc, lA, kL, oA, ia, _⟩
   cases gN : (WH)
   ·simp only [gN, hs] at h
    cases ll : (lenOk e6.Cuts)
    ·simp only [ll, hs] at h
     exact absurd h iH
    simp only [ll, hs] at h
    simp only [vz, tyf, g7, dh, H8, gM, (aH mh), iZ, pL, oz, fc, lA, kL, oA, ia, gN, ll, nm, seval]
    obtain ⟨K76, h, kR76, CQ, kB76, CS⟩ := fP h iH
    obtain ⟨f76, P3, h⟩ := call3 h
    obtain ⟨I76, ur⟩ : ∃ I : Nat → St → Prop, I = (fun m st => ∃ (qD : List Int) (ei : Int) (dT : List GLe) (oB : VV), m = List.length qD ∧ 0 ≤ ei ∧ List.drop (Int.toNat ei) e6.Cuts = qD ∧ st.df = [] ∧ eM + 14 ≤ st.nx ∧ st.H 0 = some (.cells (some 28) (cGLs ae)) ∧ st.tm 1 = .sl (ad eI aG) (List.length aG) false ∧ st.tm 2 = .ptr 0 0 ∧ st.tm 6 = .lit (.int .i64 aJ) ∧ st.tm 11 = .lit (.int .i64 (List.length ae.Words : Int)) ∧ st.tm 12 = .lit (.int .i64 aJ) ∧ st.tm 23 = .sl (ad eI e6.Cuts) (List.length e6.Cuts) false ∧ st.tm 24 = .lit (.int .i64 (List.length e6.Cuts : Int)) ∧ st.tm 5 = oB ∧ st.tm 25 = .lit (.int .i64 ei) ∧ ((∃ (β : Nat) (el : Option TypeId), oB = .ref β 0 (List.length dT) 2 (List.length dT) ∧ β < st.nx ∧ β ≠ 0 ∧ st.H β = some (.cells el (ad cGLe dT))) ∨ (oB = .lit (.slice none 0 0) ∧ dT = [])) ∧ K76 (f76 qD ei dT)) := ⟨_, rfl⟩
    refine loopK mixed (by kernel_rfl) I76 (List.length e6.Cuts) (by rw [ur]; refine ⟨e6.Cuts, 0, ([] : List GLe), .lit (.slice none 0 0), rfl, Int.le_refl _, rfl, rfl, (show eM + 14 ≤ eM + 14 by omega), ?_, pL, oz, lA, kL, oA, ?_, ?_, ?_, ?_, Or.inr ⟨rfl, rfl⟩, h⟩ <;> first | (simp only [ua, dh, H8, gM, iZ, pL, oz, fc, lA, kL, oA, ia, gN, nm, seval] <;> rfl) | rfl) ?_
    rintro m ⟨tm, H, gO, df⟩ hinv
    rw [ur] at hinv
    obtain ⟨qD, ei, dT, oB, rfl, iR, jS, hdf, P4, iS, bE, bN, bK, bL, cz, cG, cj, bW, cl, rK, h⟩ := hinv
    simp only at hdf P4 iS bE bN bK bL cz cG cj bW cl rK
    have gV := fO (m := 7) (b := gO) (by omega)
    have eO := tA (a := eM) (m := 14) (b := gO) (by omega)
    subst hdf P3
    rcases rK with ⟨WI, ln, rfl, P5, P6, oC⟩ | ⟨rfl, rfl⟩
    ·have mJ := vZ P5
     have mK := ne_f P6
     cases qD with
     | nil =>
      have z8 : (decide (ei < (List.length e6.Cuts : Int))) = false := eZ iR jS
      simp only [pK, hs, reduceCtorEq] at h
      replace h := CQ _ h
      try dsimp only at h
      try simp only [hs] at h
      cases xB : (aY 16 (List.length (dT ++ [(GLe.mk aJ (List.length e6.Signs : Int))])))
      ·simp only [xB, hs] at h
       exact absurd h iH
      simp only [xB, hs] at h
      simp only [vz, tyf, g7, dh, gM, (aH mh), iZ, gN, ll, gV, eO, bE, bN, bK, bL, cz, cG, cj, bW, cl, iS, mJ, oC, mK, z8, xB, nm, seval]
      refine k_app (w := 2) (enc := cGLe) (xs := dT) (ys := ([(GLe.mk aJ (List.length e6.Signs : Int))])) (el := ln) (jC := (some 100)) (fun _ => rfl) mf mg Tryz.underlying29 (by first | rfl | assumption | (simp only [cq, ct, hZ, dh, gV, eO, iS, mJ, oC, mK, nm, seval] <;> rfl) | (simp only [cq, ct, gb, gw, fV, fW, tyf, g7, dh, gM, (aH mh), iZ, gN, ll, gV, eO, bE, bN, bK, bL, cz, cG, cj, bW, cl, iS, mJ, oC, mK, z8, xB, nm, seval]; done)) (by first | rfl | assumption | (simp only [cq, ct, hZ, dh, gV, eO, iS, mJ, oC, mK, nm, seval] <;> rfl) | (simp only [cq, ct, gb, gw, fV, fW, tyf, g7, dh, gM, (aH mh), iZ, gN, ll, gV, eO, bE, bN, bK, bL, cz, cG, cj, bW, cl, iS, mJ, oC, mK, z8, xB, nm, seval]; done)) (Nat.zero_lt_succ _) xB ?_
      simp only [vz, tyf, g7, dh, gM, (aH mh), iZ, gN, ll, gV, eO, bE, bN, bK, bL, cz, cG, cj, bW, cl, iS, mJ, oC, mK, z8, xB, nm, seval]
      exact ⟨List.length p6, Nat.lt_succ_self _, by rw [ir]; refine ⟨p6, aJ + 1, (dT ++ [(GLe.mk aJ (List.length e6.Signs : Int))]), .ref (gO + 12) 0 (List.length (dT ++ [(GLe.mk aJ (List.length e6.Signs : Int))])) 2 (List.length (dT ++ [(GLe.mk aJ (List.length e6.Signs : Int))])), rfl, Int.le_trans de (Int.le_add_one (Int.le_refl _)), bJ de eN, rfl, (show 7 ≤ gO + 16 by omega), ?_, bE, bN, bL, ?_, ?_, Or.inl ⟨gO + 12, (sameEl ln 100), rfl, (by first | omega | (simp only [nm, seval]; done) | (simp only [nm, seval]; omega)), (by first | omega | (intro hh; simp only [dh, gV, eO, mJ, mK, reduceCtorEq] at hh)), ?_⟩, (by first | exact h | (simp only [gM, gN, z8]; exact h))⟩ <;> first | (simp only [ua, dh, gM, iZ, gN, gV, eO, bE, bN, bK, bL, cz, cG, cj, bW, cl, iS, mJ, oC, mK, z8, nm, seval] <;> rfl) | rfl⟩
     | cons fD qD =>
      have mB : (decide (ei < (List.length e6.Cuts : Int))) = true := eY iR jS
      have yW := dY iR jS
      have CT := fa iR jS ll
      simp only [pK, hs, reduceCtorEq] at h
      cases xC : (aY 16 (List.length (dT ++ [(GLe.mk aJ fD)])))
      ·simp only [xC, hs] at h
       exact absurd h CS
      simp only [xC, hs] at h
      simp only [vz, tyf, g7, dh, gM, (aH mh), iZ, gN, ll, gV, eO, bE, bN, bK, bL, cz, cG, cj, bW, cl, iS, mJ, oC, mK, mB, (au yW), CT, xC, nm, seval]
      refine k_app (w := 2) (enc := cGLe) (xs := dT) (ys := ([(GLe.mk aJ fD)])) (el := ln) (jC := (some 100)) (fun _ => rfl) mf mg Tryz.underlying29 (by first | rfl | assumption | (simp only [cq, ct, hZ, dh, gV, eO, iS, mJ, oC, mK, nm, seval] <;> rfl) | (simp only [cq, ct, gb, gw, fV, fW, tyf, g7, dh, gM, (aH mh), iZ, gN, ll, gV, eO, bE, bN, bK, bL, cz, cG, cj, bW, cl, iS, mJ, oC, mK, mB, (au yW), CT, xC, nm, seval]; done)) (by first | rfl | assumption | (simp only [cq, ct, hZ, dh, gV, eO, iS, mJ, oC, mK, nm, seval] <;> rfl) | (simp only [cq, ct, gb, gw, fV, fW, tyf, g7, dh, gM, (aH mh), iZ, gN, ll, gV, eO, bE, bN, bK, bL, cz, cG, cj, bW, cl, iS, mJ, oC, mK, mB, (au yW), CT, xC, nm, seval]; done)) (Nat.zero_lt_succ _) xC ?_
      simp only [vz, tyf, g7, dh, gM, (aH mh), iZ, gN, ll, gV, eO, bE, bN, bK, bL, cz, cG, cj, bW, cl, iS, mJ, oC, mK, mB, (au yW), CT, xC, nm, seval]
      exact ⟨List.length qD, Nat.lt_succ_self _, by rw [ur]; refine ⟨qD, ei + 1, (dT ++ [(GLe.mk aJ fD)]), .ref (gO + 9) 0 (List.length (dT ++ [(GLe.mk aJ fD)])) 2 (List.length (dT ++ [(GLe.mk aJ fD)])), rfl, Int.le_trans iR (Int.le_add_one (Int.le_refl _)), bJ iR jS, rfl, (show eM + 14 ≤ gO + 13 by omega), ?_, bE, bN, bK, bL, cz, cG, cj, ?_, ?_, Or.inl ⟨gO + 9, (sameEl ln 100), rfl, (by first | omega | (simp only [nm, seval]; done) | (simp only [nm, seval]; omega)), (by first | omega | (intro hh; simp only [dh, gV, eO, mJ, mK, reduceCtorEq] at hh)), ?_⟩, (by first | exact h | (simp only [gM, gN, mB]; exact h))⟩ <;> first | (simp only [ua, dh, gM, iZ, gN, gV, eO, bE, bN, bK, bL, cz, cG, cj, bW, cl, iS, mJ, oC, mK, mB, CT, nm, seval] <;> rfl) | rfl⟩
    ·cases qD with
     | nil =>
      have uf : (decide (ei < (List.length e6.Cuts : Int))) = false := eZ iR jS
      simp only [pK, hs, reduceCtorEq] at h
      replace h := CQ _ h
      try dsimp only at h
      try simp only [hs] at h
      cases pM : (aY 16 (List.length (([] : List GLe) ++ [(GLe.mk aJ (List.length e6.Signs : Int))])))
      ·simp only [pM, hs] at h
       exact absurd h iH
      simp only [pM, hs] at h
      simp only [vz, tyf, g7, dh, gM, (aH mh), iZ, gN, ll, gV, eO, bE, bN, bK, bL, cz, cG, cj, bW, cl, iS, uf, pM, nm, seval]
      refine tB (w := 2) (enc := cGLe) (ys := ([(GLe.mk aJ (List.length e6.Signs : Int))])) (jC := (some 100)) (fun _ => rfl) mf mg Tryz.underlying29 (by first | rfl | assumption | (simp only [cq, ct, hZ, dh, gV, eO, iS, nm, seval] <;> rfl) | (simp only [cq, ct, gb, gw, fV, fW, tyf, g7, dh, gM, (aH mh), iZ, gN, ll, gV, eO, bE, bN, bK, bL, cz, cG, cj, bW, cl, iS, uf, pM, nm, seval]; done)) (Nat.zero_lt_succ _) pM ?_
      simp only [vz, tyf, g7, dh, gM, (aH mh), iZ, gN, ll, gV, eO, bE, bN, bK, bL, cz, cG, cj, bW, cl, iS, uf, pM, nm, seval]
      exact ⟨List.length p6, Nat.lt_succ_self _, by rw [ir]; refine ⟨p6, aJ + 1, (([] : List GLe) ++ [(GLe.mk aJ (List.length e6.Signs : Int))]), .ref (gO + 12) 0 (List.length (([] : List GLe) ++ [(GLe.mk aJ (List.length e6.Signs : Int))])) 2 (List.length (([] : List GLe) ++ [(GLe.mk aJ (List.length e6.Signs : Int))])), rfl, Int.le_trans de (Int.le_add_one (Int.le_refl _)), bJ de eN, rfl, (show 7 ≤ gO + 16 by omega), ?_, bE, bN, bL, ?_, ?_, Or.inl ⟨gO + 12, (some 100), rfl, (by first | omega | (simp only [nm, seval]; done) | (simp only [nm, seval]; omega)), (by first | omega | (intro hh; simp only [dh, gV, eO, reduceCtorEq] at hh)), ?_⟩, (by first | exact h | (simp only [gM, gN, uf]; exact h))⟩ <;> first | (simp only [ua, dh, gM, iZ, gN, gV, eO, bE, bN, bK, bL, cz, cG, cj, bW, cl, iS, uf, nm, seval] <;> rfl) | rfl⟩
     | cons fD qD =>
      have rL : (decide (ei < (List.length e6.Cuts : Int))) = true := eY iR jS
      have xD := dY iR jS
      have uu := fa iR jS ll
      simp only [pK, hs, reduceCtorEq] at h
      cases pN : (aY 16 (List.length (([] : List GLe) ++ [(GLe.mk aJ fD)])))
      ·simp only [pN, hs] at h
       exact absurd h CS
      simp only [pN, hs] at h
      simp only [vz, tyf, g7, dh, gM, (aH mh), iZ, gN, ll, gV, eO, bE, bN, bK, bL, cz, cG, cj, bW, cl, iS, rL, (au xD), uu, pN, nm, seval]
      refine tB (w := 2) (enc := cGLe) (ys := ([(GLe.mk aJ fD)])) (jC := (some 100)) (fun _ => rfl) mf mg Tryz.underlying29 (by first | rfl | assumption | (simp only [cq, ct, hZ, dh, gV, eO, iS, nm, seval] <;> rfl) | (simp only [cq, ct, gb, gw, fV, fW, tyf, g7, dh, gM, (aH mh), iZ, gN, ll, gV, eO, bE, bN, bK, bL, cz, cG, cj, bW, cl, iS, rL, (au xD), uu, pN, nm, seval]; done)) (Nat.zero_lt_succ _) pN ?_
      simp only [vz, tyf, g7, dh, gM, (aH mh), iZ, gN, ll, gV, eO, bE, bN, bK, bL, cz, cG, cj, bW, cl, iS, rL, (au xD), uu, pN, nm, seval]
      exact ⟨List.length qD, Nat.lt_succ_self _, by rw [ur]; refine ⟨qD, ei + 1, (([] : List GLe) ++ [(GLe.mk aJ fD)]), .ref (gO + 9) 0 (List.length (([] : List GLe) ++ [(GLe.mk aJ fD)])) 2 (List.length (([] : List GLe) ++ [(GLe.mk aJ fD)])), rfl, Int.le_trans iR (Int.le_add_one (Int.le_refl _)), bJ iR jS, rfl, (show eM + 14 ≤ gO + 13 by omega), ?_, bE, bN, bK, bL, cz, cG, cj, ?_, ?_, Or.inl ⟨gO + 9, (some 100), rfl, (by first | omega | (simp only [nm, seval]; done) | (simp only [nm, seval]; omega)), (by first | omega | (intro hh; simp only [dh, gV, eO, reduceCtorEq] at hh)), ?_⟩, (by first | exact h | (simp only [gM, gN, rL]; exact h))⟩ <;> first | (simp only [ua, dh, gM, iZ, gN, gV, eO, bE, bN, bK, bL, cz, cG, cj, bW, cl, iS, rL, uu, nm, seval] <;> rfl) | rfl⟩
   simp only [gN, hs] at h
   simp only [vz, tyf, g7, dh, H8, gM, (aH mh), iZ, pL, oz, fc, lA, kL, oA, ia, gN, nm, seval]
   exact ⟨List.length p6, Nat.lt_succ_self _, by rw [ir]; refine ⟨p6, aJ + 1, ([] : List GLe), .lit (.slice none 0 0), rfl, Int.le_trans de (Int.le_add_one (Int.le_refl _)), bJ de eN, rfl, (show 7 ≤ eM + 8 by omega), ?_, pL, oz, kL, ?_, ?_, Or.inr ⟨rfl, rfl⟩, (by first | exact h | (simp only [gM, gN]; exact h))⟩ <;> first | (simp only [ua, dh, H8, gM, iZ, pL, oz, fc, lA, kL, oA, ia, gN, nm, seval] <;> rfl) | rfl⟩
def tK (dy : GLe) : List GLe → Int → Option (LOut (Int) (Unit))
 | [], hY => some (.go ())
 | e0 :: p0, hY => cond (dy.Word == e0.Word && (dy.Letters == e0.Letters)) (some (.ret hY)) (tK dy p0 (hY + 1))
def FK (ae : List GLe) (dy : GLe) : Option (Int) := cond (lenOk ae) (lbind (tK dy ae 0) (fun r2 => some r2) (fun c1 => some (-1)) (fun _ _ => none)) none
theorem zea (ae : List GLe) (dy : GLe) (R : Int) (h : FK ae dy = some R) : ag Tryz.prog G0 150 [.sl (ad cGLe ae) (List.length ae) false, .agg (cGLe dy)] (.tree (.lit (.int .i64 R))) := by
 refine ag.runR mixed Tryz.call150 Tryz.func150 rfl (by simp [Tryz.ntmps150]; kernel_rfl) ?_
 obtain ⟨KF, h, kF, kN⟩ := dZ h
 simp only [FK] at h
 cases g4 : (lenOk ae)
 ·simp only [g4, hs] at h
  exact absurd h kN
 simp only [g4, hs] at h
 simp only [vz, tyf, g4, nm, seval]
 obtain ⟨K3, h, qV, qz, AS, AT⟩ := fP h kN
 obtain ⟨f3, qW, h⟩ := call2 h
 obtain ⟨I3, ji⟩ : ∃ I : Nat → St → Prop, I = (fun m st => ∃ (p3 : List GLe) (bO : Int), m = List.length p3 ∧ 0 ≤ bO ∧ List.drop (Int.toNat bO) ae = p3 ∧ st.df = [] ∧ 5 ≤ st.nx ∧ st.H 0 = some (.cells (some 100) (cGLe dy)) ∧ st.tm 0 = .sl (ad cGLe ae) (List.length ae) false ∧ st.tm 3 = .ptr 0 0 ∧ st.tm 7 = .lit (.int .i64 (List.length ae : Int)) ∧ st.tm 8 = .lit (.int .i64 bO) ∧ K3 (f3 p3 bO)) := ⟨_, rfl⟩
 refine loopK mixed (by kernel_rfl) I3 (List.length ae) (by rw [ji]; refine ⟨ae, 0, rfl, Int.le_refl _, rfl, rfl, (show 5 ≤ 5 by omega), ?_, ?_, ?_, ?_, ?_, h⟩ <;> first | (simp only [ua, nm, seval] <;> rfl) | rfl) ?_
 rintro m ⟨tm, H, lQ, df⟩ hinv
 rw [ji] at hinv
 obtain ⟨p3, bO, rfl, eP, fE, hdf, qX, H5, e6, e7, e8, e9, h⟩ := hinv
 simp only at hdf qX H5 e6 e7 e8 e9
 have tn := fO (m := 5) (b := lQ) (by omega)
 subst hdf qW
 cases p3 with
 | nil =>
  have fF : (decide (bO < (List.length ae : Int))) = false := eZ eP fE
  simp only [tK, hs, reduceCtorEq] at h
  replace h := qz _ h
  try dsimp only at h
  try simp only [hs] at h
  try simp only [vz, tyf, g4, tn, e6, e7, e8, e9, H5, fF, nm, seval]
  refine dX (x := (.lit (.int .i64 (-1)))) (by first | (simp only [Tryz.results150, resV, resL, aV, dP, dQ, uw, cr, tyf, g4, tn, H5, fF, nm, seval] <;> rfl) | rfl) ?_
  obtain rfl := kF _ h
  refine dV ?_ ?_
  ·simp only [tre, aF, Bool.and_self]
  ·first | (simp only [outV, uw, eK, cr, tyf, nrm, aE, g4, tn, e6, e7, e8, e9, H5, fF, nm, seval] <;> rfl) | rfl
 | cons e3 p3 =>
  have bD : (decide (bO < (List.length ae : Int))) = true := eY eP fE
  have m9 := dY eP fE
  have q9 := fa eP fE g4
  simp only [tK, hs, reduceCtorEq] at h
  simp only [vz, tyf, g4, tn, e6, e7, e8, e9, H5, bD, (bc m9), q9, nm, seval]
  refine kl (fun tm => tm 0 = .sl (ad cGLe ae) (List.length ae) false ∧ tm 3 = .ptr 0 0 ∧ tm 5 = .lit (.int .i64 bO) ∧ tm 7 = .lit (.int .i64 (List.length ae : Int)) ∧ tm 8 = .lit (.int .i64 bO) ∧ True) (by refine ⟨e6, e7, ?_, e8, e9, trivial⟩ <;> first | (simp only [ua, tn, e6, e7, e8, e9, H5, bD, q9, nm, seval] <;> rfl) | rfl) ?_
  rintro tm ⟨dO, dM, dv, bT, db, _⟩
  cases cg : (dy.Word == e3.Word && (dy.Letters == e3.Letters))
  ·simp only [cg, hs] at h
   simp only [vz, tyf, g4, tn, H5, bD, (bc m9), q9, dO, dM, dv, bT, db, cg, nm, seval]
   exact ⟨List.length p3, Nat.lt_succ_self _, by rw [ji]; refine ⟨p3, bO + 1, rfl, Int.le_trans eP (Int.le_add_one (Int.le_refl _)), bJ eP fE, rfl, (show 5 ≤ lQ + 11 by omega), ?_, dO, dM, bT, ?_, (by first | exact h | (simp only [bD, cg]; exact h))⟩ <;> first | (simp only [ua, tn, H5, bD, q9, dO, dM, dv, bT, db, cg, nm, seval] <;> rfl) | rfl⟩
  simp only [cg, hs] at h
  try simp only [vz, tyf, g4, tn, H5, bD, (bc m9), q9, dO, dM, dv, bT, db, cg, nm, seval]
  refine dX (x := (.lit (.int .i64 bO))) (by first | (simp only [Tryz.results150, resV, resL, aV, dP, dQ, uw, cr, tyf, g4, tn, H5, bD, (bc m9), q9, cg, nm, seval] <;> rfl) | rfl) ?_
  replace h := qV _ h
  try dsimp only at h
  obtain rfl := kF _ h
  refine dV ?_ ?_
  ·simp only [tre, aF, Bool.and_self]
  ·first | (simp only [outV, uw, eK, cr, tyf, nrm, aE, g4, tn, H5, bD, (bc m9), q9, dO, dM, dv, bT, db, cg, nm, seval] <;> rfl) | rfl
def wE  : List GLe → Int → (List GLe) → Option (LOut (Bool) ((List GLe)))
 | [], vB, rM => some (.go rM)
 | e0 :: p0, vB, rM => Option.bind (FK rM e0) (fun r1 => cond (decide (r1 < 0)) (some (.ret false)) (Option.bind (sliceO rM (i64.wrap (r1 + 1)) (List.length rM : Int)) (fun s2 => wE p0 (vB + 1) s2)))
def Bn (bz : List GLe) (cH : List GLe) : Option (Bool) := cond (lenOk bz) (lbind (wE bz 0 cH) (fun r4 => some r4) (fun c3 => some ((List.length c3 : Int) == 0)) (fun _ _ => none)) none
theorem zkh (bz : List GLe) (cH : List GLe) (R : Bool) (h : Bn bz cH = some R) : ag Tryz.prog G0 115 [.sl (ad cGLe bz) (List.length bz) false, .sl (ad cGLe cH) (List.length cH) false] (.tree (.lit (.bool R))) := by
 refine ag.runR mixed Tryz.call115 Tryz.func115 rfl (by simp [Tryz.ntmps115]; kernel_rfl) ?_
 obtain ⟨KF, h, kF, kN⟩ := dZ h
 simp only [Bn] at h
 cases g6 : (lenOk bz)
 ·simp only [g6, hs] at h
  exact absurd h kN
 simp only [g6, hs] at h
 simp only [vz, tyf, g6, nm, seval]
 obtain ⟨K5, h, P7, P8, kB5, Gw⟩ := fP h kN
 obtain ⟨f5, P9, h⟩ := call3 h
 obtain ⟨I5, xE⟩ : ∃ I : Nat → St → Prop, I = (fun m st => ∃ (p5 : List GLe) (gP : Int) (ny : List GLe), m = List.length p5 ∧ 0 ≤ gP ∧ List.drop (Int.toNat gP) bz = p5 ∧ st.df = [] ∧ 4 ≤ st.nx ∧ st.tm 8 = .sl (ad cGLe bz) (List.length bz) false ∧ st.tm 9 = .lit (.int .i64 (List.length bz : Int)) ∧ st.tm 1 = .sl (ad cGLe ny) (List.length ny) false ∧ st.tm 10 = .lit (.int .i64 gP) ∧ K5 (f5 p5 gP ny)) := ⟨_, rfl⟩
 refine loopK mixed (by kernel_rfl) I5 (List.length bz) (by rw [xE]; refine ⟨bz, 0, cH, rfl, Int.le_refl _, rfl, rfl, (show 4 ≤ 4 by omega), ?_, ?_, ?_, ?_, h⟩ <;> first | (simp only [ua, nm, seval] <;> rfl) | rfl) ?_
 rintro m ⟨tm, H, CU, df⟩ hinv
 rw [xE] at hinv
 obtain ⟨p5, gP, ny, rfl, pO, rN, hdf, PA, e7, e8, e9, bj, h⟩ := hinv
 simp only at hdf PA e7 e8 e9 bj
 have mM := fO (m := 4) (b := CU) (by omega)
 subst hdf P9
 cases p5 with
 | nil =>
  have bD : (decide (gP < (List.length bz : Int))) = false := eZ pO rN
  simp only [wE, hs, reduceCtorEq] at h
  replace h := P8 _ h
  try dsimp only at h
  try simp only [hs] at h
  try simp only [vz, tyf, g6, mM, e7, e8, e9, bj, bD, nm, seval]
  obtain rfl := kF _ h
  exact bd Tryz.results115 rfl
 | cons e5 p5 =>
  have bB : (decide (gP < (List.length bz : Int))) = true := eY pO rN
  have oD := dY pO rN
  have oE := fa pO rN g6
  simp only [wE, hs, reduceCtorEq] at h
  obtain ⟨vC, CV, h⟩ := optI h Gw
  try simp only [hs] at h
  simp only [vz, tyf, g6, mM, e7, e8, e9, bj, bB, (bc oD), oE, nm, seval]
  refine ktA (zea _ _ _ CV) ?_
  refine bt (fun tm => tm 1 = .sl (ad cGLe ny) (List.length ny) false ∧ tm 8 = .sl (ad cGLe bz) (List.length bz) false ∧ tm 9 = .lit (.int .i64 (List.length bz : Int)) ∧ tm 10 = .lit (.int .i64 gP) ∧ tm 16 = .lit (.int .i64 vC) ∧ True) (by refine ⟨e9, e7, e8, bj, ?_, trivial⟩ <;> first | (simp only [ua, mM, e7, e8, e9, bj, bB, oE, nm, seval] <;> rfl) | rfl) ?_
  rintro tm ⟨bT, db, gR, eE, cE, _⟩
  cases lJ : (decide (vC < 0))
  ·simp only [lJ, hs] at h
   obtain ⟨s24, vd, h⟩ := optI h Gw
   try simp only [hs] at h
   try simp only [vz, tyf, g6, mM, bB, (bc oD), oE, bT, db, gR, eE, cE, lJ, nm, seval]
   refine k_slT (w := 2) (enc := cGLe) (xs := ny) Tryz.underlying29 (by kernel_rfl) (fun _ => rfl) (by first | (simp only [rn, BY, rp, yC, g6, mM, bB, (bc oD), oE, bT, db, gR, eE, cE, lJ, nm, seval] <;> rfl) | rfl) (.inr ⟨.i64, by simp only [Option.map_some]; exact congrArg some (by first | (simp only [rn, BY, rp, yC, g6, mM, bB, (bc oD), oE, bT, db, gR, eE, cE, lJ, nm, seval] <;> rfl) | rfl)⟩) (.inl ⟨rfl, rfl⟩) vd ?_
   simp only [vz, tyf, g6, mM, bB, (bc oD), oE, bT, db, gR, eE, cE, lJ, nm, seval]
   exact ⟨List.length p5, Nat.lt_succ_self _, by rw [xE]; refine ⟨p5, gP + 1, s24, rfl, Int.le_trans pO (Int.le_add_one (Int.le_refl _)), bJ pO rN, rfl, (show 4 ≤ CU + 18 by omega), db, gR, ?_, ?_, (by first | exact h | (simp only [bB, lJ]; exact h))⟩ <;> first | (simp only [ua, mM, bB, oE, bT, db, gR, eE, cE, lJ, nm, seval] <;> rfl) | rfl⟩
  simp only [lJ, hs] at h
  try simp only [vz, tyf, g6, mM, bB, (bc oD), oE, bT, db, gR, eE, cE, lJ, nm, seval]
  replace h := P7 _ h
  try dsimp only at h
  obtain rfl := kF _ h
  exact bd Tryz.results115 rfl
def tL (ae : GLs) (bp : GLx) : Option (Bool) := Option.bind (CI ae bp.Out) (fun r1 => cond (r1) (Option.bind (CJ ae bp.Out) (fun r2 => Option.bind (Bn bp.Ends r2) (fun r3 => some r3))) (some false))
theorem Lt (ae : GLs) (bp : GLx) (R : Bool) (h : tL ae bp = some R) : ag Tryz.prog G0 69 [.agg (cGLs ae), .agg (cGLx bp)] (.tree (.lit (.bool R))) := by
 refine ag.runR mixed Tryz.call69 Tryz.func69 rfl (by simp [Tryz.ntmps69]; kernel_rfl) ?_
 obtain ⟨KF, h, kF, kN⟩ := dZ h
 simp only [tL] at h
 simp only [vz, tyf, nm, seval]
 refine kl (fun tm => tm 2 = .ptr 0 0 ∧ tm 3 = .ptr 1 0 ∧ True) (by refine ⟨?_, ?_, trivial⟩ <;> first | (simp only [ua, nm, seval] <;> rfl) | rfl) ?_
 rintro tm ⟨e4, e5, _⟩
 obtain ⟨r6, o7, h⟩ := optI h kN
 try simp only [hs] at h
 simp only [vz, tyf, e4, e5, nm, seval]
 refine dktA (zmj _ _ _ o7) ?_
 refine bt (fun tm => tm 2 = .ptr 0 0 ∧ tm 3 = .ptr 1 0 ∧ tm 8 = .lit (.bool r6) ∧ True) (by refine ⟨e4, e5, ?_, trivial⟩ <;> first | (simp only [ua, e4, e5, nm, seval] <;> rfl) | rfl) ?_
 rintro tm ⟨e8, e9, bj, _⟩
 cases fF : (r6)
 ·simp only [fF, hs] at h
  try simp only [vz, tyf, e8, e9, bj, fF, nm, seval]
  obtain rfl := kF _ h
  exact bd Tryz.results69 rfl
 simp only [fF, hs] at h
 obtain ⟨yK, pJ, h⟩ := optI h kN
 try simp only [hs] at h
 simp only [vz, tyf, e8, e9, bj, fF, nm, seval]
 refine dktA (zin _ _ _ pJ) ?_
 refine bt (fun tm => tm 9 = .lit (.bool true) ∧ tm 11 = .sl (ad cGLe bp.Ends) (List.length bp.Ends) false ∧ tm 15 = .sl (ad cGLe yK) (List.length yK) false ∧ True) (by refine ⟨?_, ?_, ?_, trivial⟩ <;> first | (simp only [ua, e8, e9, bj, fF, nm, seval] <;> rfl) | rfl) ?_
 rintro tm ⟨cL, dO, dM, _⟩
 obtain ⟨F9, qS, h⟩ := optI h kN
 try simp only [hs] at h
 simp only [vz, tyf, fF, cL, dO, dM, nm, seval]
 refine dktA (zkh _ _ _ qS) ?_
 refine bt (fun tm => tm 9 = .lit (.bool true) ∧ tm 16 = .lit (.bool F9) ∧ True) (by refine ⟨?_, ?_, trivial⟩ <;> first | (simp only [ua, fF, cL, dO, dM, nm, seval] <;> rfl) | rfl) ?_
 rintro tm ⟨db, gR, _⟩
 try simp only [vz, tyf, fF, db, gR, nm, seval]
 obtain rfl := kF _ h
 exact bd Tryz.results69 rfl
theorem WJ (n : Int) : ∀ (p : List Int) (i : Int), yR n p i = cond (p.contains n) (some (.ret true)) (some (.go ()))
 | [], _ => rfl
 | e :: p, i => by
  simp only [yR, WJ n p, List.contains_cons]
  by_cases h : e = n
  ·subst h; simp
  ·have h1 : (e == n) = false := by simpa using h
   have h2 : (n == e) = false := by simpa using fun h' => h h'.symm
   rw [h1, h2]; simp
theorem Bs (l : List Int) (n : Int) (h : lenOk l = true) : vi l n = some (l.contains n) := by
 simp only [vi, h, cond_true, WJ]
 cases l.contains n <;> rfl
theorem CW (n : Int) : ∀ (p : List Int) (i : Int), 0 ≤ i → ∃ r, z3 n p i = some r ∧ ((p.contains n = true ∧ ∃ j, r = .ret j ∧ 0 ≤ j) ∨ (p.contains n = false ∧ r = .go ()))
 | [], _, _ => ⟨_, rfl, .inr ⟨rfl, rfl⟩⟩
 | e :: p, i, hi => by
  simp only [z3, List.contains_cons]
  cases h : (n == e) with
  | true => exact ⟨_, rfl, .inl ⟨by simp, i, rfl, hi⟩⟩
  | false =>
   obtain ⟨r, h1, h2⟩ := CW n p (i + 1) (by omega)
   exact ⟨r, h1, by simpa using h2⟩
theorem Wv (l : List Int) (n : Int) (h : lenOk l = true) : zp l n = some (l.contains n) := by
 obtain ⟨r, h1, h2⟩ := CW n l 0 (by omega)
 simp only [zp, Gu, h, cond_true, h1]
 rcases h2 with ⟨h2, j, rfl, hj⟩ | ⟨h2, rfl⟩
 ·simp only [Hl, Option.bind_some, h2]
  rw [decide_eq_true (show j ≥ 0 from hj)]
 ·simp only [qu, Option.bind_some, h2]
  rfl
def freeB (s : GLs) (i : Int) : Bool := match getI s.Words i with | some w => w.Free | none => false
def outB (s : GLs) (out : List Int) : Bool := decide ((out.length : Int) < s.Words.length) && ((incrL out && out.all (inB 0 ((s.Words.length : Int) - 1))) && out.all (freeB s))
theorem Br {s : GLs} {i : Int} (h : inB 0 ((s.Words.length : Int) - 1) i = true) : ∃ w, getI s.Words i = some w ∧ w ∈ s.Words := by
 rw [tM] at h
 exact WK h.1 (by omega)
theorem CX (s : GLs) : ∀ (p : List Int) (i : Int), p.all (inB 0 ((s.Words.length : Int) - 1)) = true → z1 s p i = goB (p.all (freeB s))
 | [], _, _ => rfl
 | e :: p, i, h => by
  simp only [List.all_cons, Bool.and_eq_true] at h
  obtain ⟨w, hw, _⟩ := Br h.1
  have hf : freeB s e = w.Free := by simp [freeB, hw]
  simp only [z1, hw, Option.bind_some, CX s p (i + 1) h.2, List.all_cons, hf, mF]
theorem KU (s : GLs) (out : List Int) (hl : lenOk out = true) (hw : (s.Words.length : Int) < 1000) : CI s out = some (outB s out) := by
 unfold CI outB
 by_cases h : (out.length : Int) < s.Words.length
 ·rw [decide_eq_false (show ¬ ((out.length : Int) ≥ s.Words.length) by omega), decide_eq_true h, cond_false, kO (by omega) (by omega), Vj _ _ _ hl, Option.bind_some]
  cases hb : (incrL out && out.all (inB 0 ((s.Words.length : Int) - 1))) with
  | false => rfl
  | true =>
   have h2 := (Bool.and_eq_true _ _ ▸ hb).2
   simp only [cond_true, hl, CX s out 0 h2, vm, Bool.true_and]
   cases out.all (freeB s) <;> rfl
 ·rw [decide_eq_true (show ((out.length : Int) ≥ s.Words.length) by omega), decide_eq_false h]
  rfl
def outG (s : GLs) : Option Int → List Int → Bool
 | _, [] => true
 | none, e :: p => inB 0 ((s.Words.length : Int) - 1) e && (freeB s e && outG s (some e) p)
 | some q, e :: p => inB 0 ((s.Words.length : Int) - 1) e && (freeB s e && (!decide (e ≤ q) && outG s (some e) p))
theorem WL (s : GLs) : ∀ (p : List Int) (q : Int), outG s (some q) p = ((incr q p && p.all (inB 0 ((s.Words.length : Int) - 1))) && p.all (freeB s))
 | [], _ => rfl
 | e :: p, q => by
  simp only [outG, WL s p e, incr, List.all_cons]
  cases inB 0 ((s.Words.length : Int) - 1) e <;> cases freeB s e <;> cases decide (e ≤ q) <;> cases incr e p <;> simp
theorem PB (s : GLs) : ∀ (p : List Int), outG s none p = ((incrL p && p.all (inB 0 ((s.Words.length : Int) - 1))) && p.all (freeB s))
 | [] => rfl
 | e :: p => by
  simp only [outG, WL s p e, incrL, List.all_cons]
  cases inB 0 ((s.Words.length : Int) - 1) e <;> cases freeB s e <;> cases incr e p <;> simp
theorem CY (s : GLs) (hw : (s.Words.length : Int) < 1000) (xs : List Int) (hl : lenOk xs = true) : ∀ (p : List Int) (q i : Int), 1 ≤ i → xs.drop (i - 1).toNat = q :: p → tE s xs p i = goB (outG s (some q) p)
 | [], _, _, _, _ => rfl
 | e :: p, q, i, h0, h => by
  have hb := wC hl
  have hle := za h
  simp only [List.length_cons] at hle
  have hi : i < 9223372036854775808 := by
   rcases hle with hle | hle
   ·omega
   ·cases hle
  have hn : xs.drop (i + 1 - 1).toNat = e :: p := by
   have := bJ (i := i - 1) (by omega) h
   rwa [show i - 1 + 1 = i + 1 - 1 by omega] at this
  have hp : decide (i > 0) = true := by simp; omega
  simp only [tE, in_eq, Option.bind_some]
  rw [kO (by omega) (by omega)]
  cases hin : inB 0 ((s.Words.length : Int) - 1) e with
  | false => simp only [cond_false, outG, hin, Bool.false_and]; rfl
  | true =>
   obtain ⟨w, hw', _⟩ := Br hin
   have hf : freeB s e = w.Free := by simp [freeB, hw']
   simp only [cond_true, hw', Option.bind_some, hp, yZ h0 hi h, CY s hw xs hl p e (i + 1) (by omega) hn, outG, hin, hf, Bool.true_and, mF, cnot]
theorem PC (s : GLs) (hw : (s.Words.length : Int) < 1000) (xs : List Int) (hl : lenOk xs = true) : tE s xs xs 0 = goB (outG s none xs) := by
 cases xs with
 | nil => rfl
 | cons e p =>
  have := CY s hw (e :: p) hl p e (0 + 1) (by omega) rfl
  simp only [tE, in_eq, Option.bind_some]
  rw [kO (by omega) (by omega)]
  cases hin : inB 0 ((s.Words.length : Int) - 1) e with
  | false => simp only [cond_false, outG, hin, Bool.false_and]; rfl
  | true =>
   obtain ⟨w, hw', _⟩ := Br hin
   have hf : freeB s e = w.Free := by simp [freeB, hw']
   simp only [cond_true, hw', Option.bind_some, show decide ((0 : Int) > 0) = false from rfl, cond_false, this, outG, hin, hf, Bool.true_and, mF]
theorem Lb (s : GLs) (out : List Int) (hl : lenOk out = true) (hw : (s.Words.length : Int) < 1000) : AW s out = some (outB s out) := by
 simp only [AW, hl, cond_true, PC s hw out hl, vm, PB, outB]
 cases ((incrL out && out.all (inB 0 ((s.Words.length : Int) - 1))) && out.all (freeB s)) <;> simp
structure Sh (s : GLs) : Prop where
 nwid : 1 ≤ s.Widths.length ∧ s.Widths.length ≤ 6
 wid : ∀ x ∈ s.Widths, 1 ≤ x ∧ x ≤ 20
 npair : s.Pairs.length ≤ 6
 pair : ∀ p ∈ s.Pairs, 0 ≤ p.Left ∧ 0 ≤ p.Right ∧ 0 ≤ p.Space.Low ∧ p.Space.Low ≤ p.Space.High ∧ p.Space.High ≤ 9
 other : 0 ≤ s.Other.Low ∧ s.Other.Low ≤ s.Other.High ∧ s.Other.High ≤ 9
 gap : 0 ≤ s.Gap.Low ∧ s.Gap.Low ≤ s.Gap.High ∧ s.Gap.High ≤ 20
 hyp : 1 ≤ s.Hyphen ∧ s.Hyphen ≤ 20
 nw : 1 ≤ s.Words.length ∧ s.Words.length ≤ 4
 wlen : ∀ w ∈ s.Words, 1 ≤ w.Signs.length ∧ w.Signs.length ≤ 6
 wsign : ∀ w ∈ s.Words, ∀ c ∈ w.Signs, 0 ≤ c ∧ c < s.Widths.length
 wcut : ∀ w ∈ s.Words, incrL w.Cuts = true ∧ (∀ c ∈ w.Cuts, 1 ≤ c ∧ c < w.Signs.length) ∧ w.Cuts.length ≤ 5
 wide : 1 ≤ s.Wide ∧ s.Wide ≤ 400
 rows : 1 ≤ s.Rows ∧ s.Rows ≤ 3
theorem CZ {hi : Int} : ∀ (p : List Int) (q : Int), incr q p = true → p.all (inB 1 hi) = true → q ≤ hi → q + p.length ≤ hi
 | [], q, _, _, h => by simpa using h
 | e :: p, q, h1, h2, h3 => by
  simp only [incr, Bool.and_eq_true, Bool.not_eq_true', decide_eq_false_iff_not] at h1
  simp only [List.all_cons, Bool.and_eq_true, tM] at h2
  have := CZ p e h1.2 h2.2 h2.1.2
  simp only [List.length_cons]
  omega
theorem PD {m : Int} : ∀ (p : List GLp) (q : Option GLp), pairsG m q p = true → ∀ x ∈ p, pairB m x = true
 | [], _, _, x, hx => by cases hx
 | e :: p, none, h, x, hx => by
  simp only [pairsG, Bool.and_eq_true] at h
  rcases List.mem_cons.1 hx with rfl | hx
  ·exact h.1
  ·exact PD p _ h.2 x hx
 | e :: p, some q, h, x, hx => by
  simp only [pairsG, Bool.and_eq_true] at h
  rcases List.mem_cons.1 hx with rfl | hx
  ·exact h.1
  ·exact PD p _ h.2.2 x hx
theorem sh_of {s : GLs} (h : sheetB s = true) : Sh s := by
 unfold sheetB at h
 simp only [Bool.and_eq_true, tM, List.all_eq_true, decide_eq_true_eq] at h
 obtain ⟨⟨⟨⟨⟨⟨⟨⟨⟨h1, h1'⟩, h2⟩, h3, h3'⟩, h4⟩, h5⟩, h6⟩, h7, h7'⟩, h8⟩, h9⟩ := h
 have hw : i64.wrap ((s.Widths.length : Int) - 1) = (s.Widths.length : Int) - 1 := kO (by omega) (by omega)
 rw [hw] at h3' h7'
 have hsp : ∀ {m : Int} {x : GSpan}, spanB m x = true → 0 ≤ x.Low ∧ x.Low ≤ x.High ∧ x.High ≤ m := by
  intro m x h
  simpa [spanB] using h
 have hwd : ∀ w ∈ s.Words, (1 ≤ w.Signs.length ∧ w.Signs.length ≤ 6) ∧ (∀ c ∈ w.Signs, 0 ≤ c ∧ c < s.Widths.length) ∧ incrL w.Cuts = true ∧ (w.Cuts.all (inB 1 ((w.Signs.length : Int) - 1)) = true) := by
  intro w hw
  have := h7' w hw
  simp only [wordB, Bool.and_eq_true, tM] at this
  obtain ⟨a, b, c, d⟩ := this
  rw [kO (by omega) (by omega)] at d
  refine ⟨by omega, fun x hx => ?_, c, d⟩
  have := List.all_eq_true.1 b x hx
  rw [tM] at this
  omega
 refine ⟨by omega, h2, by omega, fun p hp => ?_, hsp h4, hsp h5, h6, by omega, fun w hw => (hwd w hw).1, fun w hw => (hwd w hw).2.1, fun w hw => ?_, h8, h9⟩
 ·have := PD _ _ h3' p hp
  simp only [pairB, Bool.and_eq_true, tM] at this
  have h := hsp this.2.2
  omega
 ·obtain ⟨⟨a, a'⟩, b, c, d⟩ := hwd w hw
  have d' : ∀ x ∈ w.Cuts, 1 ≤ x ∧ x < w.Signs.length := by
   intro x hx
   have := List.all_eq_true.1 d x hx
   rw [tM] at this
   omega
  refine ⟨c, d', ?_⟩
  cases hc : w.Cuts with
  | nil => simp
  | cons e p =>
   rw [hc] at c d d'
   have h1 := d' e (List.mem_cons_self ..)
   simp only [List.all_cons, Bool.and_eq_true] at d
   have := CZ p e c d.2 (by omega)
   simp only [List.length_cons]
   omega
def befE (a b : GLe) : Prop := a.Word < b.Word ∨ a.Word = b.Word ∧ a.Letters < b.Letters
theorem vo {a : GLe} : ¬ befE a a := by unfold befE; omega
theorem wF {a b c : GLe} (h : befE a b) (k : befE b c) : befE a c := by unfold befE at *; omega
def posW (i : Int) (w : GLw) : List GLe := w.Cuts.map (GLe.mk i) ++ [GLe.mk i (w.Signs.length : Int)]
def possL (out : List Int) : List GLw → Int → List GLe
 | [], _ => []
 | w :: ws, i => cond (out.contains i) (possL out ws (i + 1)) (posW i w ++ possL out ws (i + 1))
theorem roomOk16 {n : Nat} (h : n ≤ 1000) : aY 16 n = true := by simp [aY]; omega
theorem Da (i : Int) : ∀ (p : List Int) (c : Int) (acc : List GLe), acc.length + p.length ≤ 1000 → pK i p c acc = some (.go (acc ++ p.map (GLe.mk i)))
 | [], _, acc, _ => by simp [pK]
 | e :: p, c, acc, h => by
  simp only [List.length_cons] at h
  simp only [pK]
  rw [roomOk16 (by simp; omega), cond_true, Da i p (c + 1) _ (by simp; omega)]
  simp
theorem Vx (out : List Int) : ∀ (ws : List GLw) (i : Int), (∀ w ∈ ws, w.Cuts.length ≤ 5) → (possL out ws i).length ≤ 6 * ws.length
 | [], _, _ => by simp [possL]
 | w :: ws, i, h => by
  have h1 := Vx out ws (i + 1) fun x hx => h x (List.mem_cons_of_mem _ hx)
  have h2 := h w (List.mem_cons_self ..)
  unfold possL
  cases out.contains i <;> simp [posW] <;> omega
theorem xF (out : List Int) (hl : lenOk out = true) : ∀ (ws : List GLw) (i : Int) (acc : List GLe), (∀ w ∈ ws, w.Cuts.length ≤ 5) → acc.length + 6 * ws.length ≤ 1000 → tl out ws i acc = some (.go (acc ++ possL out ws i))
 | [], _, acc, _, _ => by simp [tl, possL]
 | w :: ws, i, acc, h, hn => by
  have h1 : ∀ x ∈ ws, x.Cuts.length ≤ 5 := fun x hx => h x (List.mem_cons_of_mem _ hx)
  have h2 := h w (List.mem_cons_self ..)
  simp only [List.length_cons] at hn
  simp only [tl, Wv _ _ hl, Option.bind_some, possL]
  cases out.contains i with
  | true => simp only [cond_true]; exact xF out hl ws (i + 1) acc h1 (by omega)
  | false =>
   simp only [cond_false]
   rw [pa (by omega), cond_true, Da i w.Cuts 0 acc (by omega), qu, roomOk16 (by simp; omega), cond_true, xF out hl ws (i + 1) _ h1 (by simp; omega)]
   simp [posW]
theorem KV {s : GLs} (h : Sh s) (out : List Int) (hl : lenOk out = true) : CJ s out = some (possL out s.Words 0) := by
 simp only [CJ]
 have := h.nw
 rw [pa (by omega), cond_true, xF out hl s.Words 0 [] (fun w hw => (h.wcut w hw).2.2) (by simp; omega), List.nil_append]
 rfl
theorem wH : ∀ (p : List Int) (q : Int), incr q p = true → (q :: p).Pairwise (· < ·)
 | [], q, _ => List.pairwise_singleton _ _
 | e :: p, q, h => by
  simp only [incr, Bool.and_eq_true, Bool.not_eq_true', decide_eq_false_iff_not] at h
  have ih := wH p e h.2
  rw [List.pairwise_cons]
  refine ⟨fun x hx => ?_, ih⟩
  rcases List.mem_cons.1 hx with rfl | hx
  ·omega
  ·have := (List.pairwise_cons.1 ih).1 x hx
   omega
theorem PE : ∀ (p : List Int), incrL p = true → p.Pairwise (· < ·)
 | [], _ => List.Pairwise.nil
 | e :: p, h => wH p e h
theorem zg {i : Int} {w : GLw} {e : GLe} : e ∈ posW i w ↔ e.Word = i ∧ (e.Letters ∈ w.Cuts ∨ e.Letters = w.Signs.length) := by
 obtain ⟨a, b⟩ := e
 simp only [posW, List.mem_append, List.mem_map, List.mem_singleton, GLe.mk.injEq]
 constructor
 ·rintro (⟨c, hc, rfl, rfl⟩ | ⟨rfl, rfl⟩)
  ·exact ⟨rfl, .inl hc⟩
  ·exact ⟨rfl, .inr rfl⟩
 ·rintro ⟨rfl, h | rfl⟩
  ·exact .inl ⟨b, h, rfl, rfl⟩
  ·exact .inr ⟨rfl, rfl⟩
theorem FM (out : List Int) : ∀ (ws : List GLw) (i : Int) (e : GLe), e ∈ possL out ws i ↔ ∃ k : Nat, ∃ w, ws[k]? = some w ∧ out.contains (i + k) = false ∧ e ∈ posW (i + k) w
 | [], i, e => by simp [possL]
 | w :: ws, i, e => by
  have ih := FM out ws (i + 1) e
  have hsh : (∃ k : Nat, ∃ x, (w :: ws)[k]? = some x ∧ out.contains (i + k) = false ∧ e ∈ posW (i + k) x) ↔ (out.contains i = false ∧ e ∈ posW i w) ∨ ∃ k : Nat, ∃ x, ws[k]? = some x ∧ out.contains (i + 1 + k) = false ∧ e ∈ posW (i + 1 + k) x := by
   constructor
   ·rintro ⟨k, x, h1, h2, h3⟩
    cases k with
    | zero =>
     simp only [List.getElem?_cons_zero, Option.some.injEq] at h1
     subst h1
     simp only [Int.natCast_zero, Int.add_zero] at h2 h3
     exact .inl ⟨h2, h3⟩
    | succ k =>
     have e1 : i + ((k + 1 : Nat) : Int) = i + 1 + k := by omega
     rw [e1] at h2 h3
     exact .inr ⟨k, x, by simpa using h1, h2, h3⟩
   ·rintro (⟨h2, h3⟩ | ⟨k, x, h1, h2, h3⟩)
    ·exact ⟨0, w, rfl, by simpa using h2, by simpa using h3⟩
    ·have e1 : i + ((k + 1 : Nat) : Int) = i + 1 + k := by omega
     exact ⟨k + 1, x, by simpa using h1, by rw [e1]; exact h2, by rw [e1]; exact h3⟩
  rw [hsh]
  unfold possL
  cases hc : out.contains i with
  | true => simp only [cond_true]; rw [ih]; simp
  | false => simp only [cond_false, List.mem_append, ih]; simp
theorem PF {i : Int} {w : GLw} (h : incrL w.Cuts = true) (h2 : ∀ c ∈ w.Cuts, 1 ≤ c ∧ c < (w.Signs.length : Int)) : (posW i w).Pairwise befE := by
 unfold posW
 rw [List.pairwise_append]
 refine ⟨?_, List.pairwise_singleton _ _, ?_⟩
 ·rw [List.pairwise_map]
  exact (PE _ h).imp fun h => .inr ⟨rfl, h⟩
 ·intro a ha b hb
  obtain ⟨c, hc, rfl⟩ := List.mem_map.1 ha
  rw [List.mem_singleton.1 hb]
  exact .inr ⟨rfl, (h2 c hc).2⟩
theorem Bp (out : List Int) : ∀ (ws : List GLw) (i : Int), (∀ w ∈ ws, incrL w.Cuts = true ∧ ∀ c ∈ w.Cuts, 1 ≤ c ∧ c < (w.Signs.length : Int)) → (possL out ws i).Pairwise befE
 | [], _, _ => List.Pairwise.nil
 | w :: ws, i, h => by
  have ih := Bp out ws (i + 1) fun x hx => h x (List.mem_cons_of_mem _ hx)
  have hw := h w (List.mem_cons_self ..)
  unfold possL
  cases out.contains i with
  | true => exact ih
  | false =>
   simp only [cond_false]
   rw [List.pairwise_append]
   refine ⟨PF hw.1 hw.2, ih, fun a ha b hb => ?_⟩
   obtain ⟨ha, _⟩ := zg.1 ha
   obtain ⟨k, x, _, _, hb⟩ := (FM out ws (i + 1) b).1 hb
   obtain ⟨hb, _⟩ := zg.1 hb
   left
   omega
end Go.V
end
