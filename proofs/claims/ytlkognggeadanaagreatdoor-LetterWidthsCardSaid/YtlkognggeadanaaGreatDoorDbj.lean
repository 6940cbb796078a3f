/- Part of a proof. -/
import Derived.Test.YtlkognggeadanaaGreatDoorDbi
set_option linter.all false
set_option maxRecDepth 4000
set_option maxHeartbeats 40000000
section
namespace Go.V
open Go Go.Proofs IntKind
def zG (ad : GLs) : List GLw → Int → Option (LOut (Bool) (Unit))
 | [], Es => some (.go ())
 | e1 :: p1, Es => Option.bind (Et ad e1) (fun r3 => cond (r3) (zG ad p1 (Es + 1)) (some (.ret false)))
def zH  : List Int → Int → Option (LOut (Bool) (Unit))
 | [], gJ => some (.go ())
 | e0 :: p0, gJ => Option.bind (mO e0 1 20) (fun r1 => cond (r1) (zH p0 (gJ + 1)) (some (.ret false)))
def D1 (ad : GLs) : Option (Bool) := cond (lenOk ad.Widths) (lbind (zH ad.Widths 0) (fun vP => some vP) (fun c2 => cond (lenOk ad.Words) (lbind (zG ad ad.Words 0) (fun zr => some zr) (fun c4 => Option.bind (mO (List.length ad.Widths : Int) 1 6) (fun r5 => cond (r5) (Option.bind (Eu ad) (fun r6 => cond (r6) (Option.bind (ye ad.Other 9) (fun r7 => cond (r7) (Option.bind (ye ad.Gap 20) (fun r8 => cond (r8) (Option.bind (mO ad.Hyphen 1 20) (fun r9 => cond (r9) (Option.bind (mO (List.length ad.Words : Int) 1 4) (fun z2 => cond (z2) (Option.bind (Ev ad.Wide) (fun yf => cond (yf) (Option.bind (mO ad.Rows 1 3) (fun z8 => some z8)) (some false))) (some false))) (some false))) (some false))) (some false))) (some false))) (some false))) (fun _ _ => none)) none) (fun _ _ => none)) none
theorem XX (ad : GLs) (R : Bool) (h : D1 ad = some R) : ag Tryz.prog G0 22 [.agg (cGLs ad)] (.tree (.lit (.bool R))) := by
 refine ag.runR mixed Tryz.call22 Tryz.func22 rfl (by simp [Tryz.ntmps22]; kernel_rfl) ?_
 obtain ⟨KF, h, kF, kN⟩ := eC h
 simp only [D1] at h
 cases rq : (lenOk ad.Widths)
 ·simp only [rq, hs] at h
  exact absurd h kN
 simp only [rq, hs] at h
 simp only [vz, tyf, rq, nm, seval]
 obtain ⟨Z6, h, QB, QC, Z7, QD⟩ := gp h kN
 obtain ⟨Z8, QE, h⟩ := call2 h
 obtain ⟨Z9, yg⟩ : ∃ I : Nat → St → Prop, I = (fun m st => ∃ (vQ : List Int) (iV : Int), m = List.length vQ ∧ 0 ≤ iV ∧ List.drop (Int.toNat iV) ad.Widths = vQ ∧ st.df = [] ∧ 3 ≤ st.nx ∧ st.H 0 = some (.cells (some 28) (cGLs ad)) ∧ st.tm 1 = .ptr 0 0 ∧ st.tm 3 = .lit (.int .i64 iV) ∧ Z6 (Z8 vQ iV)) := ⟨_, rfl⟩
 refine loopK mixed (by kernel_rfl) Z9 (List.length ad.Widths) (by rw [yg]; refine ⟨ad.Widths, 0, rfl, qZe _, rfl, rfl, (show 3 ≤ 3 by omega), ?_, ?_, ?_, h⟩ <;> first | (simp only [ua, nm, seval] <;> rfl) | rfl) ?_
 rintro m ⟨tm, H, oJ, df⟩ hinv
 rw [yg] at hinv
 obtain ⟨vQ, iV, rfl, qO, td, hdf, QF, bC, bL, dg, h⟩ := hinv
 simp only at hdf QF bC bL dg
 have n4 := gq (m := 3) (b := oJ) (by omega)
 subst hdf QE
 cases vQ with
 | nil =>
  have gj : (decide (iV < (List.length ad.Widths : Int))) = false := fy qO td
  simp only [zH, hs, reduceCtorEq] at h
  replace h := QC _ h
  try dsimp only at h
  try simp only [hs] at h
  cases n5 : (lenOk ad.Words)
  ·simp only [n5, hs] at h
   exact absurd h kN
  simp only [n5, hs] at h
  simp only [vz, tyf, rq, n4, bL, dg, bC, gj, n5, nm, seval]
  obtain ⟨QG, h, oL, yh, QH, l6⟩ := gp h kN
  obtain ⟨QI, yi, h⟩ := call2 h
  obtain ⟨QJ, l7⟩ : ∃ I : Nat → St → Prop, I = (fun m st => ∃ (kO : List GLw) (iq : Int), m = List.length kO ∧ 0 ≤ iq ∧ List.drop (Int.toNat iq) ad.Words = kO ∧ st.df = [] ∧ oJ + 6 ≤ st.nx ∧ st.H 0 = some (.cells (some 28) (cGLs ad)) ∧ st.tm 1 = .ptr 0 0 ∧ st.tm 4 = .lit (.int .i64 iq) ∧ QG (QI kO iq)) := ⟨_, rfl⟩
  refine loopK mixed (by kernel_rfl) QJ (List.length ad.Words) (by rw [l7]; refine ⟨ad.Words, 0, rfl, qZe _, rfl, rfl, (show oJ + 6 ≤ oJ + 6 by omega), ?_, bL, ?_, h⟩ <;> first | (simp only [ua, n4, bL, dg, bC, gj, nm, seval] <;> rfl) | rfl) ?_
  rintro m ⟨tm, H, jz, df⟩ hinv
  rw [l7] at hinv
  obtain ⟨kO, iq, rfl, gb, iW, hdf, yj, oM, cN, dI, h⟩ := hinv
  simp only at hdf yj oM cN dI
  have zI := gq (m := 3) (b := jz) (by omega)
  have k8 := u2 (a := oJ) (m := 6) (b := jz) (by omega)
  subst hdf yi
  cases kO with
  | nil =>
   have k9 : (decide (iq < (List.length ad.Words : Int))) = false := fy gb iW
   simp only [zG, hs, reduceCtorEq] at h
   replace h := yh _ h
   try dsimp only at h
   try simp only [hs] at h
   obtain ⟨Va, ZA, h⟩ := optI h kN
   try simp only [hs] at h
   simp only [vz, tyf, rq, n4, gj, n5, zI, k8, cN, dI, oM, k9, nm, seval]
   refine ktA (pf _ _ _ _ ZA) ?_
   refine b5 (fun tm => tm 1 = .ptr 0 0 ∧ tm 37 = .lit (.bool Va) ∧ True) (by refine ⟨cN, ?_, trivial⟩ <;> first | (simp only [ua, n4, gj, zI, k8, cN, dI, oM, k9, nm, seval] <;> rfl) | rfl) ?_
   rintro tm ⟨oZ, fA, _⟩
   have n6 := And.intro rq (And.intro n4 (And.intro gj (And.intro n5 (And.intro zI (And.intro k8 (And.intro oM k9))))))
   cases j0 : (Va)
   ·simp only [j0, hs] at h
    try simp only [vz, tyf, n6, oZ, fA, j0, nm, seval]
    obtain rfl := kF _ h
    exact bz Tryz.results22 rfl
   simp only [j0, hs] at h
   obtain ⟨Ew, QK, h⟩ := optI h kN
   try simp only [hs] at h
   simp only [vz, tyf, n6, oZ, fA, j0, nm, seval]
   refine ktA (ZB _ _ QK) ?_
   refine b5 (fun tm => tm 1 = .ptr 0 0 ∧ tm 38 = .lit (.bool true) ∧ tm 40 = .lit (.bool Ew) ∧ True) (by refine ⟨oZ, ?_, ?_, trivial⟩ <;> first | (simp only [ua, n6, oZ, fA, j0, nm, seval] <;> rfl) | rfl) ?_
   rintro tm ⟨bH, bX, bF, _⟩
   cases eU : (Ew)
   ·simp only [eU, hs] at h
    try simp only [vz, tyf, n6, j0, bH, bX, bF, eU, nm, seval]
    obtain rfl := kF _ h
    exact bz Tryz.results22 rfl
   simp only [eU, hs] at h
   obtain ⟨CU, ri, h⟩ := optI h kN
   try simp only [hs] at h
   simp only [vz, tyf, n6, j0, bH, bX, bF, eU, nm, seval]
   refine ktA (QL _ _ _ ri) ?_
   refine b5 (fun tm => tm 1 = .ptr 0 0 ∧ tm 42 = .lit (.bool true) ∧ tm 45 = .lit (.bool CU) ∧ True) (by refine ⟨bH, ?_, ?_, trivial⟩ <;> first | (simp only [ua, n6, j0, bH, bX, bF, eU, nm, seval] <;> rfl) | rfl) ?_
   rintro tm ⟨ca, fB, fC, _⟩
   cases ib : (CU)
   ·simp only [ib, hs] at h
    try simp only [vz, tyf, n6, j0, eU, ca, fB, fC, ib, nm, seval]
    obtain rfl := kF _ h
    exact bz Tryz.results22 rfl
   simp only [ib, hs] at h
   obtain ⟨Vb, ZC, h⟩ := optI h kN
   try simp only [hs] at h
   simp only [vz, tyf, n6, j0, eU, ca, fB, fC, ib, nm, seval]
   refine ktA (QL _ _ _ ZC) ?_
   refine b5 (fun tm => tm 1 = .ptr 0 0 ∧ tm 47 = .lit (.bool true) ∧ tm 50 = .lit (.bool Vb) ∧ True) (by refine ⟨ca, ?_, ?_, trivial⟩ <;> first | (simp only [ua, n6, j0, eU, ca, fB, fC, ib, nm, seval] <;> rfl) | rfl) ?_
   rintro tm ⟨il, ll, fm, _⟩
   cases pG : (Vb)
   ·simp only [pG, hs] at h
    try simp only [vz, tyf, n6, j0, eU, ib, il, ll, fm, pG, nm, seval]
    obtain rfl := kF _ h
    exact bz Tryz.results22 rfl
   simp only [pG, hs] at h
   obtain ⟨Vc, ZD, h⟩ := optI h kN
   try simp only [hs] at h
   simp only [vz, tyf, n6, j0, eU, ib, il, ll, fm, pG, nm, seval]
   refine ktA (pf _ _ _ _ ZD) ?_
   refine b5 (fun tm => tm 1 = .ptr 0 0 ∧ tm 52 = .lit (.bool true) ∧ tm 55 = .lit (.bool Vc) ∧ True) (by refine ⟨il, ?_, ?_, trivial⟩ <;> first | (simp only [ua, n6, j0, eU, ib, il, ll, fm, pG, nm, seval] <;> rfl) | rfl) ?_
   rintro tm ⟨cC, cG, hJ, _⟩
   cases ig : (Vc)
   ·simp only [ig, hs] at h
    try simp only [vz, tyf, n6, j0, eU, ib, pG, cC, cG, hJ, ig, nm, seval]
    obtain rfl := kF _ h
    exact bz Tryz.results22 rfl
   simp only [ig, hs] at h
   obtain ⟨Ex, QM, h⟩ := optI h kN
   try simp only [hs] at h
   simp only [vz, tyf, n6, j0, eU, ib, pG, cC, cG, hJ, ig, nm, seval]
   refine ktA (pf _ _ _ _ QM) ?_
   refine b5 (fun tm => tm 1 = .ptr 0 0 ∧ tm 57 = .lit (.bool true) ∧ tm 61 = .lit (.bool Ex) ∧ True) (by refine ⟨cC, ?_, ?_, trivial⟩ <;> first | (simp only [ua, n6, j0, eU, ib, pG, cC, cG, hJ, ig, nm, seval] <;> rfl) | rfl) ?_
   rintro tm ⟨gv, gG, ij, _⟩
   cases nR : (Ex)
   ·simp only [nR, hs] at h
    have ZE := And.intro n6 (And.intro j0 (And.intro eU (And.intro ib (And.intro pG (And.intro ig nR)))))
    try simp only [vz, tyf, ZE, gv, gG, ij, nm, seval]
    obtain rfl := kF _ h
    exact bz Tryz.results22 rfl
   simp only [nR, hs] at h
   have zJ := And.intro n6 (And.intro j0 (And.intro eU (And.intro ib (And.intro pG (And.intro ig nR)))))
   obtain ⟨vv, Co, h⟩ := optI h kN
   try simp only [hs] at h
   simp only [vz, tyf, zJ, gv, gG, ij, nm, seval]
   refine ktA (ZF _ _ Co) ?_
   refine b5 (fun tm => tm 1 = .ptr 0 0 ∧ tm 63 = .lit (.bool true) ∧ tm 66 = .lit (.bool vv) ∧ True) (by refine ⟨gv, ?_, ?_, trivial⟩ <;> first | (simp only [ua, zJ, gv, gG, ij, nm, seval] <;> rfl) | rfl) ?_
   rintro tm ⟨eZ, jB, jn, _⟩
   cases zK : (vv)
   ·simp only [zK, hs] at h
    try simp only [vz, tyf, zJ, eZ, jB, jn, zK, nm, seval]
    obtain rfl := kF _ h
    exact bz Tryz.results22 rfl
   simp only [zK, hs] at h
   obtain ⟨ZG, ZH, h⟩ := optI h kN
   try simp only [hs] at h
   simp only [vz, tyf, zJ, eZ, jB, jn, zK, nm, seval]
   refine ktA (pf _ _ _ _ ZH) ?_
   refine b5 (fun tm => tm 68 = .lit (.bool true) ∧ tm 71 = .lit (.bool ZG) ∧ True) (by refine ⟨?_, ?_, trivial⟩ <;> first | (simp only [ua, zJ, eZ, jB, jn, zK, nm, seval] <;> rfl) | rfl) ?_
   rintro tm ⟨gh, eM, _⟩
   try simp only [vz, tyf, zJ, zK, gh, eM, nm, seval]
   obtain rfl := kF _ h
   exact bz Tryz.results22 rfl
  | cons bJ kO =>
   have uy : (decide (iq < (List.length ad.Words : Int))) = true := fz gb iW
   have Gl := eg gb iW
   have QN := f2 gb iW n5
   simp only [zG, hs, reduceCtorEq] at h
   simp only [vz, tyf, rq, n4, gj, n5, zI, k8, cN, dI, oM, uy, (aq Gl), QN, nm, seval]
   refine km (fun tm => tm 1 = .ptr 0 0 ∧ tm 4 = .lit (.int .i64 iq) ∧ True) (by refine ⟨cN, dI, trivial⟩ <;> first | (simp only [ua, n4, gj, zI, k8, cN, dI, oM, uy, QN, nm, seval] <;> rfl) | rfl) ?_
   rintro tm ⟨cA, ct, _⟩
   have zL := And.intro rq (And.intro n4 (And.intro gj (And.intro n5 (And.intro zI (And.intro k8 (And.intro oM (And.intro uy QN)))))))
   obtain ⟨Vd, ZI, h⟩ := optI h l6
   try simp only [hs] at h
   simp only [vz, tyf, zL, (aq Gl), cA, ct, nm, seval]
   refine dktA (ZJ _ _ _ ZI) ?_
   refine b5 (fun tm => tm 1 = .ptr 0 0 ∧ tm 4 = .lit (.int .i64 iq) ∧ tm 32 = .lit (.bool Vd) ∧ True) (by refine ⟨cA, ct, ?_, trivial⟩ <;> first | (simp only [ua, zL, cA, ct, nm, seval] <;> rfl) | rfl) ?_
   rintro tm ⟨cw, cK, gH, _⟩
   cases zM : (Vd)
   ·simp only [zM, hs] at h
    try simp only [vz, tyf, zL, (aq Gl), cw, cK, gH, zM, nm, seval]
    replace h := oL _ h
    try dsimp only at h
    obtain rfl := kF _ h
    exact bz Tryz.results22 rfl
   simp only [zM, hs] at h
   simp only [vz, tyf, zL, (aq Gl), cw, cK, gH, zM, nm, seval]
   exact ⟨List.length kO, qZc _, by rw [l7]; refine ⟨kO, iq + 1, rfl, Int.le_trans gb (Int.le_add_one (qZe _)), bK gb iW, rfl, (show oJ + 6 ≤ jz + 16 by omega), ?_, cw, ?_, (by first | exact h | (simp only [zL, zM]; exact h))⟩ <;> first | (simp only [ua, zL, cw, cK, gH, zM, nm, seval] <;> rfl) | rfl⟩
 | cons bE vQ =>
  have zN : (decide (iV < (List.length ad.Widths : Int))) = true := fz qO td
  have Cp := eg qO td
  have Ey := f2 qO td rq
  simp only [zH, hs, reduceCtorEq] at h
  obtain ⟨Ve, zO, h⟩ := optI h QD
  try simp only [hs] at h
  simp only [vz, tyf, rq, n4, bL, dg, bC, zN, (au Cp), Ey, nm, seval]
  refine ktA (pf _ _ _ _ zO) ?_
  refine b5 (fun tm => tm 1 = .ptr 0 0 ∧ tm 3 = .lit (.int .i64 iV) ∧ tm 17 = .lit (.bool Ve) ∧ True) (by refine ⟨bL, dg, ?_, trivial⟩ <;> first | (simp only [ua, n4, bL, dg, bC, zN, Ey, nm, seval] <;> rfl) | rfl) ?_
  rintro tm ⟨vx, ze, zf, _⟩
  cases zP : (Ve)
  ·simp only [zP, hs] at h
   try simp only [vz, tyf, rq, n4, bC, zN, (au Cp), Ey, vx, ze, zf, zP, nm, seval]
   replace h := QB _ h
   try dsimp only at h
   obtain rfl := kF _ h
   exact bz Tryz.results22 rfl
  simp only [zP, hs] at h
  simp only [vz, tyf, rq, n4, bC, zN, (au Cp), Ey, vx, ze, zf, zP, nm, seval]
  exact ⟨List.length vQ, qZc _, by rw [yg]; refine ⟨vQ, iV + 1, rfl, Int.le_trans qO (Int.le_add_one (qZe _)), bK qO td, rfl, (show 3 ≤ oJ + 15 by omega), ?_, vx, ?_, (by first | exact h | (simp only [zN, zP]; exact h))⟩ <;> first | (simp only [ua, n4, bC, zN, Ey, vx, ze, zf, zP, nm, seval] <;> rfl) | rfl⟩
def zt  : List GLw → Int → Option (LOut (Bool) (Unit))
 | [], gJ => some (.go ())
 | e0 :: p0, gJ => cond (decide (gJ < 6)) (cond (decide ((List.length e0.Signs : Int) > 8)) (some (.ret false)) (cond (decide ((List.length e0.Cuts : Int) > 8)) (some (.ret false)) (zt p0 (gJ + 1)))) (some (.go ()))
def CJ (ad : GLs) : Option (Bool) := cond (lenOk ad.Words) (lbind (zt ad.Words 0) (fun r2 => some r2) (fun c1 => cond (decide ((List.length ad.Widths : Int) ≤ 8)) (cond (decide ((List.length ad.Pairs : Int) ≤ 8)) (some (decide ((List.length ad.Words : Int) ≤ 6))) (some false)) (some false)) (fun _ _ => none)) none
theorem XV (ad : GLs) (R : Bool) (h : CJ ad = some R) : ag Tryz.prog G0 17 [.agg (cGLs ad)] (.tree (.lit (.bool R))) := by
 refine ag.runR mixed Tryz.call17 Tryz.func17 rfl (by simp [Tryz.ntmps17]; kernel_rfl) ?_
 obtain ⟨KF, h, kF, kN⟩ := eC h
 simp only [CJ] at h
 cases g4 : (lenOk ad.Words)
 ·simp only [g4, hs] at h
  exact absurd h kN
 simp only [g4, hs] at h
 simp only [vz, tyf, g4, nm, seval]
 obtain ⟨K3, h, rY, qW, BR, BS⟩ := gp h kN
 obtain ⟨f3, rZ, h⟩ := call2 h
 obtain ⟨I3, kf⟩ : ∃ I : Nat → St → Prop, I = (fun m st => ∃ (p3 : List GLw) (ir : Int), m = List.length p3 ∧ 0 ≤ ir ∧ List.drop (Int.toNat ir) ad.Words = p3 ∧ st.df = [] ∧ 3 ≤ st.nx ∧ st.H 0 = some (.cells (some 28) (cGLs ad)) ∧ st.tm 1 = .ptr 0 0 ∧ st.tm 3 = .lit (.int .i64 ir) ∧ K3 (f3 p3 ir)) := ⟨_, rfl⟩
 refine loopK mixed (by kernel_rfl) I3 (List.length ad.Words) (by rw [kf]; refine ⟨ad.Words, 0, rfl, qZe _, rfl, rfl, (show 3 ≤ 3 by omega), ?_, ?_, ?_, h⟩ <;> first | (simp only [ua, nm, seval] <;> rfl) | rfl) ?_
 rintro m ⟨tm, H, na, df⟩ hinv
 rw [kf] at hinv
 obtain ⟨p3, ir, rfl, fN, gL, hdf, sa, H5, e6, e7, h⟩ := hinv
 simp only at hdf sa H5 e6 e7
 have n8 := gq (m := 3) (b := na) (by omega)
 subst hdf rZ
 cases p3 with
 | nil =>
  have d9 : (decide (ir < (List.length ad.Words : Int))) = false := fy fN gL
  simp only [zt, hs, reduceCtorEq] at h
  replace h := qW _ h
  try dsimp only at h
  try simp only [hs] at h
  cases eu : (decide ((List.length ad.Widths : Int) ≤ 8))
  ·simp only [eu, hs] at h
   try simp only [vz, tyf, g4, n8, e6, e7, H5, d9, eu, nm, seval]
   obtain rfl := kF _ h
   exact bz Tryz.results17 rfl
  simp only [eu, hs] at h
  cases gu : (decide ((List.length ad.Pairs : Int) ≤ 8))
  ·simp only [gu, hs] at h
   try simp only [vz, tyf, g4, n8, e6, e7, H5, d9, eu, gu, nm, seval]
   obtain rfl := kF _ h
   exact bz Tryz.results17 rfl
  simp only [gu, hs] at h
  try simp only [vz, tyf, g4, n8, e6, e7, H5, d9, eu, gu, nm, seval]
  obtain rfl := kF _ h
  exact bz Tryz.results17 rfl
 | cons e3 p3 =>
  have cl : (decide (ir < (List.length ad.Words : Int))) = true := fz fN gL
  have mK := eg fN gL
  have mM := f2 fN gL g4
  simp only [zt, hs, reduceCtorEq] at h
  cases gf : (decide (ir < 6))
  ·simp only [gf, hs] at h
   replace h := qW _ h
   try dsimp only at h
   try simp only [hs] at h
   cases eA : (decide ((List.length ad.Widths : Int) ≤ 8))
   ·simp only [eA, hs] at h
    have ZK := And.intro g4 (And.intro n8 (And.intro H5 (And.intro cl (And.intro mM (And.intro gf eA)))))
    try simp only [vz, tyf, ZK, e6, e7, (aq mK), nm, seval]
    obtain rfl := kF _ h
    exact bz Tryz.results17 rfl
   simp only [eA, hs] at h
   have Vf := And.intro g4 (And.intro n8 (And.intro H5 (And.intro cl (And.intro mM (And.intro gf eA)))))
   cases hD : (decide ((List.length ad.Pairs : Int) ≤ 8))
   ·simp only [hD, hs] at h
    try simp only [vz, tyf, Vf, e6, e7, (aq mK), hD, nm, seval]
    obtain rfl := kF _ h
    exact bz Tryz.results17 rfl
   simp only [hD, hs] at h
   try simp only [vz, tyf, Vf, e6, e7, (aq mK), hD, nm, seval]
   obtain rfl := kF _ h
   exact bz Tryz.results17 rfl
  simp only [gf, hs] at h
  cases cB : (decide ((List.length e3.Signs : Int) > 8))
  ·simp only [cB, hs] at h
   have Gm := And.intro g4 (And.intro n8 (And.intro H5 (And.intro cl (And.intro mM (And.intro gf cB)))))
   cases nK : (decide ((List.length e3.Cuts : Int) > 8))
   ·simp only [nK, hs] at h
    simp only [vz, tyf, Gm, e6, e7, (aq mK), nK, nm, seval]
    exact ⟨List.length p3, qZc _, by rw [kf]; refine ⟨p3, ir + 1, rfl, Int.le_trans fN (Int.le_add_one (qZe _)), bK fN gL, rfl, (show 3 ≤ na + 30 by omega), ?_, e6, ?_, (by first | exact h | (simp only [Gm, nK]; exact h))⟩ <;> first | (simp only [ua, Gm, e6, e7, nK, nm, seval] <;> rfl) | rfl⟩
   simp only [nK, hs] at h
   try simp only [vz, tyf, Gm, e6, e7, (aq mK), nK, nm, seval]
   replace h := rY _ h
   try dsimp only at h
   obtain rfl := kF _ h
   exact bz Tryz.results17 rfl
  simp only [cB, hs] at h
  have BX := And.intro g4 (And.intro n8 (And.intro H5 (And.intro cl (And.intro mM (And.intro gf cB)))))
  try simp only [vz, tyf, BX, e6, e7, (aq mK), nm, seval]
  replace h := rY _ h
  try dsimp only at h
  obtain rfl := kF _ h
  exact bz Tryz.results17 rfl
def D0 (fc : GLx) : Option (Bool) := cond (decide ((List.length fc.Out : Int) ≤ 6)) (some (decide ((List.length fc.Ends : Int) ≤ 10))) (some false)
theorem XW (fc : GLx) (R : Bool) (h : D0 fc = some R) : ag Tryz.prog G0 18 [.agg (cGLx fc)] (.tree (.lit (.bool R))) := by
 refine ag.runR mixed Tryz.call18 Tryz.func18 rfl (by simp [Tryz.ntmps18]; kernel_rfl) ?_
 obtain ⟨KF, h, kF, kN⟩ := eC h
 simp only [D0] at h
 cases d1 : (decide ((List.length fc.Out : Int) ≤ 6))
 ·simp only [d1, hs] at h
  try simp only [vz, tyf, d1, nm, seval]
  obtain rfl := kF _ h
  exact bz Tryz.results18 rfl
 simp only [d1, hs] at h
 try simp only [vz, tyf, d1, nm, seval]
 obtain rfl := kF _ h
 exact bz Tryz.results18 rfl
def uM (ad : GLs) (bd : List Int) : List Int → Int → Option (LOut (Bool) (Unit))
 | [], bB => some (.go ())
 | e0 :: p0, bB => Option.bind (mO e0 0 (i64.wrap ((List.length ad.Words : Int) - 1))) (fun r1 => cond (r1) (Option.bind (getI ad.Words e0) (fun x2 => cond (x2.Free) (cond (decide (bB > 0)) (Option.bind (getI bd (i64.wrap (bB - 1))) (fun x3 => cond (decide (e0 ≤ x3)) (some (.ret false)) (uM ad bd p0 (bB + 1)))) (uM ad bd p0 (bB + 1))) (some (.ret false)))) (some (.ret false)))
def Ez (ad : GLs) (bd : List Int) : Option (Bool) := cond (lenOk bd) (lbind (uM ad bd bd 0) (fun r5 => some r5) (fun c4 => some (decide ((List.length bd : Int) < (List.length ad.Words : Int)))) (fun _ _ => none)) none
theorem ZL (ad : GLs) (bd : List Int) (R : Bool) (h : Ez ad bd = some R) : ag Tryz.prog G0 50 [.agg (cGLs ad), .sl (aa eI bd) (List.length bd) false] (.tree (.lit (.bool R))) := by
 refine ag.runRQ mixed Tryz.call50 Tryz.func50 rfl (by simp [Tryz.ntmps50]; kernel_rfl) ?_
 obtain ⟨KF, h, kF, kN⟩ := eC h
 simp only [Ez] at h
 cases g7 : (lenOk bd)
 ·simp only [g7, hs] at h
  exact absurd h kN
 simp only [g7, hs] at h
 simp only [vz, tyf, g7, nm, seval]
 obtain ⟨K6, h, BU, wI, SO, kh⟩ := gp h kN
 obtain ⟨f6, BV, h⟩ := call2 h
 obtain ⟨I6, kR⟩ : ∃ I : Nat → St → Prop, I = (fun m st => ∃ (p6 : List Int) (b4 : Int), m = List.length p6 ∧ 0 ≤ b4 ∧ List.drop (Int.toNat b4) bd = p6 ∧ st.df = [] ∧ 3 ≤ st.nx ∧ st.H 0 = some (.cells (some 28) (cGLs ad)) ∧ st.tm 1 = .sl (aa eI bd) (List.length bd) false ∧ st.tm 2 = .ptr 0 0 ∧ st.tm 5 = .lit (.int .i64 b4) ∧ K6 (f6 p6 b4)) := ⟨_, rfl⟩
 refine loopK mixed (qN (by kernel_rfl)) I6 (List.length bd) (by rw [kR]; refine ⟨bd, 0, rfl, qZe _, rfl, rfl, (show 3 ≤ 3 by omega), ?_, ?_, ?_, ?_, h⟩ <;> first | (simp only [ua, nm, seval] <;> rfl) | rfl) ?_
 rintro m ⟨tm, H, fV, df⟩ hinv
 rw [kR] at hinv
 obtain ⟨p6, b4, rfl, eK, gF, hdf, BW, H8, e9, aW, bc, h⟩ := hinv
 simp only at hdf BW H8 e9 aW bc
 have jE := gq (m := 3) (b := fV) (by omega)
 subst hdf BV
 cases p6 with
 | nil =>
  have bD : (decide (b4 < (List.length bd : Int))) = false := fy eK gF
  simp only [uM, hs, reduceCtorEq] at h
  replace h := wI _ h
  try dsimp only at h
  try simp only [hs] at h
  try simp only [vz, tyf, g7, jE, e9, aW, bc, H8, bD, nm, seval]
  obtain rfl := kF _ h
  exact bz Tryz.results50 rfl
 | cons e6 p6 =>
  have bV : (decide (b4 < (List.length bd : Int))) = true := fz eK gF
  have jX := eg eK gF
  have oN := f2 eK gF g7
  simp only [uM, hs, reduceCtorEq] at h
  simp only [vz, tyf, g7, jE, e9, aW, bc, H8, bV, (au jX), oN, nm, seval]
  refine km (fun tm => tm 1 = .sl (aa eI bd) (List.length bd) false ∧ tm 2 = .ptr 0 0 ∧ tm 5 = .lit (.int .i64 b4) ∧ True) (by refine ⟨e9, aW, bc, trivial⟩ <;> first | (simp only [ua, jE, e9, aW, bc, H8, bV, oN, nm, seval] <;> rfl) | rfl) ?_
  rintro tm ⟨cH, bL, dg, _⟩
  obtain ⟨vk, kj, h⟩ := optI h kh
  try simp only [hs] at h
  simp only [vz, tyf, g7, jE, H8, bV, (au jX), oN, cH, bL, dg, nm, seval]
  refine dktA (pf _ _ _ _ kj) ?_
  refine b5 (fun tm => tm 1 = .sl (aa eI bd) (List.length bd) false ∧ tm 2 = .ptr 0 0 ∧ tm 5 = .lit (.int .i64 b4) ∧ tm 20 = .lit (.bool vk) ∧ True) (by refine ⟨cH, bL, dg, ?_, trivial⟩ <;> first | (simp only [ua, jE, H8, bV, oN, cH, bL, dg, nm, seval] <;> rfl) | rfl) ?_
  rintro tm ⟨bJ, cm, cu, cN, _⟩
  cases jW : (vk)
  ·simp only [jW, hs] at h
   try simp only [vz, tyf, g7, jE, H8, bV, (au jX), oN, bJ, cm, cu, cN, jW, nm, seval]
   replace h := BU _ h
   try dsimp only at h
   obtain rfl := kF _ h
   exact bz Tryz.results50 rfl
  simp only [jW, hs] at h
  obtain ⟨ZM, Gn, h⟩ := optI h kh
  try simp only [hs] at h
  cases k9 : (ZM.Free)
  ·simp only [k9, hs] at h
   have nO := And.intro g7 (And.intro jE (And.intro H8 (And.intro bV (And.intro oN (And.intro jW k9)))))
   try simp only [vz, tyf, nO, (au jX), bJ, cm, cu, cN, (aq Gn), nm, seval]
   replace h := BU _ h
   try dsimp only at h
   obtain rfl := kF _ h
   exact bz Tryz.results50 rfl
  simp only [k9, hs] at h
  have dv := And.intro g7 (And.intro jE (And.intro H8 (And.intro bV (And.intro oN (And.intro jW k9)))))
  cases fj : (decide (b4 > 0))
  ·simp only [fj, hs] at h
   simp only [vz, tyf, dv, (au jX), bJ, cm, cu, cN, (aq Gn), fj, nm, seval]
   exact ⟨List.length p6, qZc _, by rw [kR]; refine ⟨p6, b4 + 1, rfl, Int.le_trans eK (Int.le_add_one (qZe _)), bK eK gF, rfl, (show 3 ≤ fV + 45 by omega), ?_, bJ, cm, ?_, (by first | exact h | (simp only [dv, fj]; exact h))⟩ <;> first | (simp only [ua, dv, bJ, cm, cu, cN, fj, nm, seval] <;> rfl) | rfl | (simp only [ua, tyf, dv, bJ, cm, cu, cN, fj, nm, seval] <;> rfl)⟩
  simp only [fj, hs] at h
  obtain ⟨ZN, F4, h⟩ := optI h kh
  try simp only [hs] at h
  cases j0 : (decide (e6 ≤ ZN))
  ·simp only [j0, hs] at h
   simp only [vz, tyf, dv, (au jX), bJ, cm, cu, cN, (aq Gn), fj, (au F4), j0, nm, seval]
   exact ⟨List.length p6, qZc _, by rw [kR]; refine ⟨p6, b4 + 1, rfl, Int.le_trans eK (Int.le_add_one (qZe _)), bK eK gF, rfl, (show 3 ≤ fV + 45 by omega), ?_, bJ, cm, ?_, (by first | exact h | (simp only [dv, fj, j0]; exact h))⟩ <;> first | (simp only [ua, dv, bJ, cm, cu, cN, fj, j0, nm, seval] <;> rfl) | rfl | (simp only [ua, tyf, dv, bJ, cm, cu, cN, fj, j0, nm, seval] <;> rfl)⟩
  simp only [j0, hs] at h
  try simp only [vz, tyf, dv, (au jX), bJ, cm, cu, cN, (aq Gn), fj, (au F4), j0, nm, seval]
  replace h := BU _ h
  try dsimp only at h
  obtain rfl := kF _ h
  exact bz Tryz.results50 rfl
def zQ (fx : Int) : List Int → Int → Option (LOut (Bool) (Unit))
 | [], bB => some (.go ())
 | e0 :: p0, bB => cond (e0 == fx) (some (.ret true)) (zQ fx p0 (bB + 1))
def uf (aA : List Int) (fx : Int) : Option (Bool) := cond (lenOk aA) (lbind (zQ fx aA 0) (fun r2 => some r2) (fun c1 => some false) (fun _ _ => none)) none
theorem zw (aA : List Int) (fx : Int) (R : Bool) (h : uf aA fx = some R) : ag Tryz.prog G0 77 [.sl (aa eI aA) (List.length aA) false, .lit (.int .i64 fx)] (.tree (.lit (.bool R))) := by
 refine ag.runR mixed Tryz.call77 Tryz.func77 rfl (by simp [Tryz.ntmps77]; kernel_rfl) ?_
 obtain ⟨KF, h, kF, kN⟩ := eC h
 simp only [uf] at h
 cases g4 : (lenOk aA)
 ·simp only [g4, hs] at h
  exact absurd h kN
 simp only [g4, hs] at h
 simp only [vz, tyf, g4, nm, seval]
 obtain ⟨K3, h, rY, qW, BR, BS⟩ := gp h kN
 obtain ⟨f3, rZ, h⟩ := call2 h
 obtain ⟨I3, kf⟩ : ∃ I : Nat → St → Prop, I = (fun m st => ∃ (p3 : List Int) (nA : Int), m = List.length p3 ∧ 0 ≤ nA ∧ List.drop (Int.toNat nA) aA = p3 ∧ st.df = [] ∧ 2 ≤ st.nx ∧ st.tm 0 = .sl (aa eI aA) (List.length aA) false ∧ st.tm 1 = .lit (.int .i64 fx) ∧ st.tm 5 = .lit (.int .i64 nA) ∧ K3 (f3 p3 nA)) := ⟨_, rfl⟩
 refine loopK mixed (by kernel_rfl) I3 (List.length aA) (by rw [kf]; refine ⟨aA, 0, rfl, qZe _, rfl, rfl, (show 2 ≤ 2 by omega), ?_, ?_, ?_, h⟩ <;> first | (simp only [ua, nm, seval] <;> rfl) | rfl) ?_
 rintro m ⟨tm, H, na, df⟩ hinv
 rw [kf] at hinv
 obtain ⟨p3, nA, rfl, fN, gL, hdf, sa, e5, e6, e7, h⟩ := hinv
 simp only at hdf sa e5 e6 e7
 have n8 := gq (m := 2) (b := na) (by omega)
 subst hdf rZ
 cases p3 with
 | nil =>
  have d9 : (decide (nA < (List.length aA : Int))) = false := fy fN gL
  simp only [zQ, hs, reduceCtorEq] at h
  replace h := qW _ h
  try dsimp only at h
  try simp only [hs] at h
  try simp only [vz, tyf, g4, n8, e5, e6, e7, d9, nm, seval]
  obtain rfl := kF _ h
  exact bz Tryz.results77 rfl
 | cons e3 p3 =>
  have eu : (decide (nA < (List.length aA : Int))) = true := fz fN gL
  have lC := eg fN gL
  have QO := f2 fN gL g4
  simp only [zQ, hs, reduceCtorEq] at h
  cases bD : (e3 == fx)
  ·simp only [bD, hs] at h
   simp only [vz, tyf, g4, n8, e5, e6, e7, eu, (au lC), QO, bD, nm, seval]
   exact ⟨List.length p3, qZc _, by rw [kf]; refine ⟨p3, nA + 1, rfl, Int.le_trans fN (Int.le_add_one (qZe _)), bK fN gL, rfl, (show 2 ≤ na + 13 by omega), e5, e6, ?_, (by first | exact h | (simp only [eu, bD]; exact h))⟩ <;> first | (simp only [ua, n8, e5, e6, e7, eu, QO, bD, nm, seval] <;> rfl) | rfl⟩
  simp only [bD, hs] at h
  try simp only [vz, tyf, g4, n8, e5, e6, e7, eu, (au lC), QO, bD, nm, seval]
  replace h := rY _ h
  try dsimp only at h
  obtain rfl := kF _ h
  exact bz Tryz.results77 rfl
def D7 (cy : GLe) (cQ : GLe) : Option (Bool) := cond (decide (cy.Word < cQ.Word)) (some true) (cond (cy.Word == cQ.Word) (some (decide (cy.Letters < cQ.Letters))) (some false))
theorem ZO (cy : GLe) (cQ : GLe) (R : Bool) (h : D7 cy cQ = some R) : ag Tryz.prog G0 78 [.agg (cGLe cy), .agg (cGLe cQ)] (.tree (.lit (.bool R))) := by
 refine ag.runR mixed Tryz.call78 Tryz.func78 rfl (by simp [Tryz.ntmps78]; kernel_rfl) ?_
 obtain ⟨KF, h, kF, kN⟩ := eC h
 simp only [D7] at h
 cases d1 : (decide (cy.Word < cQ.Word))
 ·simp only [d1, hs] at h
  cases d2 : (cy.Word == cQ.Word)
  ·simp only [d2, hs] at h
   try simp only [vz, tyf, d1, d2, nm, seval]
   obtain rfl := kF _ h
   exact bz Tryz.results78 rfl
  simp only [d2, hs] at h
  try simp only [vz, tyf, d1, d2, nm, seval]
  obtain rfl := kF _ h
  exact bz Tryz.results78 rfl
 simp only [d1, hs] at h
 try simp only [vz, tyf, d1, nm, seval]
 obtain rfl := kF _ h
 exact bz Tryz.results78 rfl
def z6 (aD : List Int) : Nat → Int → Option (LOut (Int) (Int))
 | 0, _ => none
 | k0 + 1, bB => Option.bind (uf aD bB) (fun r1 => cond (r1) (z6 aD k0 (i64.wrap (bB - 1))) (some (.go bB)))
def Ga (ad : GLs) (aD : List Int) : Option (Int) := lbind (z6 aD 1000000 (i64.wrap ((List.length ad.Words : Int) - 1))) (fun r3 => some r3) (fun c2 => some c2) (fun _ _ => none)
theorem ZP (ad : GLs) (aD : List Int) (R : Int) (h : Ga ad aD = some R) : ag Tryz.prog G0 79 [.agg (cGLs ad), .sl (aa eI aD) (List.length aD) false] (.tree (.lit (.int .i64 R))) := by
 refine ag.runR mixed Tryz.call79 Tryz.func79 rfl (by simp [Tryz.ntmps79]; kernel_rfl) ?_
 obtain ⟨KF, h, kF, kN⟩ := eC h
 simp only [Ga] at h
 simp only [vz, tyf, nm, seval]
 obtain ⟨K4, h, FO, Dj, Uf, Dk⟩ := gp h kN
 obtain ⟨f4, Dl, h⟩ := call2 h
 obtain ⟨I4, rl⟩ : ∃ I : Nat → St → Prop, I = (fun m st => ∃ (p4 : Nat) (qP : Int), p4 = m ∧ st.df = [] ∧ 7 ≤ st.nx ∧ st.tm 1 = .sl (aa eI aD) (List.length aD) false ∧ st.tm 5 = .lit (.int .i64 qP) ∧ K4 (f4 p4 qP)) := ⟨_, rfl⟩
 refine loopK mixed (by kernel_rfl) I4 1000000 (by rw [rl]; refine ⟨1000000, i64.wrap ((List.length ad.Words : Int) - 1), rfl, rfl, (show 7 ≤ 7 by omega), ?_, ?_, h⟩ <;> first | (simp only [ua, nm, seval] <;> rfl) | rfl) ?_
 rintro m ⟨tm, H, uu, df⟩ hinv
 rw [rl] at hinv
 obtain ⟨p4, qP, rfl, hdf, Dm, e5, e6, h⟩ := hinv
 simp only at hdf Dm e5 e6
 have n7 := gq (m := 7) (b := uu) (by omega)
 subst hdf Dl
 cases p4 with
 | zero =>
  simp only [z6, hs, reduceCtorEq] at h
  exact absurd h Dk
 | succ p4 =>
  simp only [z6, hs, reduceCtorEq] at h
  obtain ⟨r8, o9, h⟩ := optI h Dk
  try simp only [hs] at h
  simp only [vz, tyf, n7, e5, e6, nm, seval]
  refine ktA (zw _ _ _ o9) ?_
  refine b5 (fun tm => tm 1 = .sl (aa eI aD) (List.length aD) false ∧ tm 5 = .lit (.int .i64 qP) ∧ tm 12 = .lit (.bool r8) ∧ True) (by refine ⟨e5, e6, ?_, trivial⟩ <;> first | (simp only [ua, n7, e5, e6, nm, seval] <;> rfl) | rfl) ?_
  rintro tm ⟨aW, bc, bu, _⟩
  cases bD : (r8)
  ·simp only [bD, hs] at h
   replace h := Dj _ h
   try dsimp only at h
   try simp only [hs] at h
   try simp only [vz, tyf, n7, aW, bc, bu, bD, nm, seval]
   refine eh (x := (.lit (.int .i64 qP))) (by first | (simp only [Tryz.results79, resV, resL, aR, ei, ej, uw, cr, tyf, n7, bD, nm, seval] <;> rfl) | rfl) ?_
   obtain rfl := kF _ h
   refine eD ?_ ?_
   ·simp only [tre, aG, Bool.and_self]
   ·first | (simp only [outV, uw, ep, cr, tyf, nrm, aE, n7, aW, bc, bu, bD, nm, seval] <;> rfl) | rfl
  simp only [bD, hs] at h
  simp only [vz, tyf, n7, aW, bc, bu, bD, nm, seval]
  exact ⟨p4, qZc _, by rw [rl]; refine ⟨p4, i64.wrap (qP - 1), rfl, rfl, (show 7 ≤ uu + 6 by omega), aW, ?_, (by first | exact h | (simp only [bD]; exact h))⟩ <;> first | (simp only [ua, n7, aW, bc, bu, bD, nm, seval] <;> rfl) | rfl⟩
def sR (ad : GLs) (aj : GLx) : List GLe → Int → Option (LOut (Bool) (Unit))
 | [], bB => some (.go ())
 | e0 :: p0, bB => Option.bind (mO e0.Word 0 (i64.wrap ((List.length ad.Words : Int) - 1))) (fun r2 => cond (r2) (Option.bind (uf aj.Out e0.Word) (fun r3 => cond (r3) (some (.ret false)) (cond (decide (bB > 0)) (Option.bind (getI aj.Ends (i64.wrap (bB - 1))) (fun x4 => Option.bind (D7 x4 e0) (fun r5 => cond (r5) (Option.bind (getI ad.Words e0.Word) (fun x6 => cond (e0.Letters != (List.length x6.Signs : Int)) (Option.bind (uf x6.Cuts e0.Letters) (fun r7 => cond (r7) (sR ad aj p0 (bB + 1)) (some (.ret false)))) (sR ad aj p0 (bB + 1)))) (some (.ret false))))) (Option.bind (getI ad.Words e0.Word) (fun x8 => cond (e0.Letters != (List.length x8.Signs : Int)) (Option.bind (uf x8.Cuts e0.Letters) (fun r9 => cond (r9) (sR ad aj p0 (bB + 1)) (some (.ret false)))) (sR ad aj p0 (bB + 1))))))) (some (.ret false)))
def D2 (ad : GLs) (aj : GLx) : Option (Bool) := Option.bind (Ez ad aj.Out) (fun r1 => cond (r1) (cond ((List.length aj.Ends : Int) == 0) (some false) (cond (lenOk aj.Ends) (lbind (sR ad aj aj.Ends 0) (fun vP => some vP) (fun Ik => Option.bind (Ga ad aj.Out) (fun yf => Option.bind (getI aj.Ends (i64.wrap ((List.length aj.Ends : Int) - 1))) (fun Vg => Option.bind (getI ad.Words yf) (fun ZQ => some (Vg.Word == yf && (Vg.Letters == (List.length ZQ.Signs : Int))))))) (fun _ _ => none)) none)) (some false))
theorem XY (ad : GLs) (aj : GLx) (R : Bool) (h : D2 ad aj = some R) : ag Tryz.prog G0 23 [.agg (cGLs ad), .agg (cGLx aj)] (.tree (.lit (.bool R))) := by
 refine ag.runRQ mixed Tryz.call23 Tryz.func23 rfl (by simp [Tryz.ntmps23]; kernel_rfl) ?_
 obtain ⟨KF, h, kF, kN⟩ := eC h
 simp only [D2] at h
 obtain ⟨xt, jX, h⟩ := optI h kN
 try simp only [hs] at h
 simp only [vz, tyf, nm, seval]
 refine ktA (ZL _ _ _ jX) ?_
 refine b5 (fun tm => tm 2 = .ptr 0 0 ∧ tm 3 = .ptr 1 0 ∧ tm 12 = .lit (.bool xt) ∧ True) (by refine ⟨?_, ?_, ?_, trivial⟩ <;> first | (simp only [ua, nm, seval] <;> rfl) | rfl) ?_
 rintro tm ⟨cH, bL, dg, _⟩
 cases cB : (xt)
 ·simp only [cB, hs] at h
  try simp only [vz, tyf, cH, bL, dg, cB, nm, seval]
  obtain rfl := kF _ h
  exact bz Tryz.results23 rfl
 simp only [cB, hs] at h
 cases gj : ((List.length aj.Ends : Int) == 0)
 ·simp only [gj, hs] at h
  cases n5 : (lenOk aj.Ends)
  ·simp only [n5, hs] at h
   exact absurd h kN
  simp only [n5, hs] at h
  simp only [vz, tyf, cH, bL, dg, cB, gj, n5, nm, seval]
  obtain ⟨QG, h, oL, yh, QH, l6⟩ := gp h kN
  obtain ⟨QI, yi, h⟩ := call2 h
  obtain ⟨QJ, l7⟩ : ∃ I : Nat → St → Prop, I = (fun m st => ∃ (kO : List GLe) (dx : Int), m = List.length kO ∧ 0 ≤ dx ∧ List.drop (Int.toNat dx) aj.Ends = kO ∧ st.df = [] ∧ 15 ≤ st.nx ∧ st.H 0 = some (.cells (some 28) (cGLs ad)) ∧ st.H 1 = some (.cells (some 31) (cGLx aj)) ∧ st.tm 2 = .ptr 0 0 ∧ st.tm 3 = .ptr 1 0 ∧ st.tm 5 = .lit (.int .i64 dx) ∧ QG (QI kO dx)) := ⟨_, rfl⟩
  refine loopK mixed (qN (by kernel_rfl)) QJ (List.length aj.Ends) (by rw [l7]; refine ⟨aj.Ends, 0, rfl, qZe _, rfl, rfl, (show 15 ≤ 15 by omega), ?_, ?_, cH, bL, ?_, h⟩ <;> first | (simp only [ua, cH, bL, dg, cB, gj, nm, seval] <;> rfl) | rfl) ?_
  rintro m ⟨tm, H, jz, df⟩ hinv
  rw [l7] at hinv
  obtain ⟨kO, dx, rfl, gb, iW, hdf, yj, oM, yk, dI, dm, dJ, h⟩ := hinv
  simp only at hdf yj oM yk dI dm dJ
  have zR := gq (m := 15) (b := jz) (by omega)
  subst hdf yi
  cases kO with
  | nil =>
   have ym : (decide (dx < (List.length aj.Ends : Int))) = false := fy gb iW
   simp only [sR, hs, reduceCtorEq] at h
   replace h := yh _ h
   try dsimp only at h
   try simp only [hs] at h
   obtain ⟨im, rj, h⟩ := optI h kN
   try simp only [hs] at h
   simp only [vz, tyf, cB, gj, n5, zR, dI, dm, dJ, oM, yk, ym, nm, seval]
   refine ktA (ZP _ _ _ rj) ?_
   refine b5 (fun tm => tm 2 = .ptr 0 0 ∧ tm 3 = .ptr 1 0 ∧ tm 85 = .lit (.int .i64 im) ∧ True) (by refine ⟨dI, dm, ?_, trivial⟩ <;> first | (simp only [ua, cB, gj, zR, dI, dm, dJ, oM, yk, ym, nm, seval] <;> rfl) | rfl) ?_
   rintro tm ⟨fA, eQ, eX, _⟩
   have QP := And.intro cB (And.intro gj (And.intro n5 (And.intro zR (And.intro oM (And.intro yk ym)))))
   simp only [vz, tyf, QP, fA, eQ, eX, nm, seval]
   refine km (fun tm => tm 2 = .ptr 0 0 ∧ tm 3 = .ptr 1 0 ∧ tm 8 = .lit (.int .i64 im) ∧ True) (by refine ⟨fA, eQ, ?_, trivial⟩ <;> first | (simp only [ua, QP, fA, eQ, eX, nm, seval] <;> rfl) | rfl) ?_
   rintro tm ⟨bW, bH, bX, _⟩
   obtain ⟨x40, ZR, h⟩ := optI h kN
   try simp only [hs] at h
   obtain ⟨x42, ri, h⟩ := optI h kN
   try simp only [hs] at h
   try simp only [vz, tyf, QP, bW, bH, bX, (aV ZR), (aq ri), nm, seval]
   obtain rfl := kF _ h
   exact bz Tryz.results23 rfl
  | cons bJ kO =>
   have rb : (decide (dx < (List.length aj.Ends : Int))) = true := fz gb iW
   have oO := eg gb iW
   have wO := f2 gb iW n5
   simp only [sR, hs, reduceCtorEq] at h
   simp only [vz, tyf, cB, gj, n5, zR, dI, dm, dJ, oM, yk, rb, (aV oO), wO, nm, seval]
   refine km (fun tm => tm 2 = .ptr 0 0 ∧ tm 3 = .ptr 1 0 ∧ tm 5 = .lit (.int .i64 dx) ∧ tm 6 = .ptr (jz + 10) 0 ∧ True) (by refine ⟨dI, dm, dJ, ?_, trivial⟩ <;> first | (simp only [ua, cB, gj, zR, dI, dm, dJ, oM, yk, rb, wO, nm, seval] <;> rfl) | rfl) ?_
   rintro tm ⟨gM, fD, fv, il, _⟩
   have iX := And.intro cB (And.intro gj (And.intro n5 (And.intro zR (And.intro oM (And.intro yk (And.intro rb wO))))))
   obtain ⟨eT, tY, h⟩ := optI h l6
   try simp only [hs] at h
   simp only [vz, tyf, iX, (aV oO), gM, fD, fv, il, nm, seval]
   refine dktA (pf _ _ _ _ tY) ?_
   refine b5 (fun tm => tm 2 = .ptr 0 0 ∧ tm 3 = .ptr 1 0 ∧ tm 5 = .lit (.int .i64 dx) ∧ tm 6 = .ptr (jz + 10) 0 ∧ tm 38 = .lit (.bool eT) ∧ True) (by refine ⟨gM, fD, fv, il, ?_, trivial⟩ <;> first | (simp only [ua, iX, gM, fD, fv, il, nm, seval] <;> rfl) | rfl) ?_
   rintro tm ⟨cE, cF, cC, cG, hJ, _⟩
   cases ig : (eT)
   ·simp only [ig, hs] at h
    try simp only [vz, tyf, iX, (aV oO), cE, cF, cC, cG, hJ, ig, nm, seval]
    replace h := oL _ h
    try dsimp only at h
    obtain rfl := kF _ h
    exact bz Tryz.results23 rfl
   simp only [ig, hs] at h
   obtain ⟨Ex, QM, h⟩ := optI h l6
   try simp only [hs] at h
   simp only [vz, tyf, iX, (aV oO), cE, cF, cC, cG, hJ, ig, nm, seval]
   refine dktA (zw _ _ _ QM) ?_
   refine b5 (fun tm => tm 2 = .ptr 0 0 ∧ tm 3 = .ptr 1 0 ∧ tm 5 = .lit (.int .i64 dx) ∧ tm 6 = .ptr (jz + 10) 0 ∧ tm 40 = .lit (.bool false) ∧ tm 45 = .lit (.bool Ex) ∧ True) (by refine ⟨cE, cF, cC, cG, ?_, ?_, trivial⟩ <;> first | (simp only [ua, iX, cE, cF, cC, cG, hJ, ig, nm, seval] <;> rfl) | rfl) ?_
   rintro tm ⟨gv, gG, ij, kS, lG, je, _⟩
   cases kT : (Ex)
   ·simp only [kT, hs] at h
    cases fZ : (decide (dx > 0))
    ·simp only [fZ, hs] at h
     obtain ⟨qc, pa, h⟩ := optI h l6
     try simp only [hs] at h
     cases te : (bJ.Letters != (List.length qc.Signs : Int))
     ·simp only [te, hs] at h
      simp only [vz, tyf, iX, (aV oO), ig, gv, gG, ij, kS, lG, je, kT, fZ, (aq pa), te, nm, seval]
      exact ⟨List.length kO, qZc _, by rw [l7]; refine ⟨kO, dx + 1, rfl, Int.le_trans gb (Int.le_add_one (qZe _)), bK gb iW, rfl, (show 15 ≤ jz + 67 by omega), ?_, ?_, gv, gG, ?_, (by first | exact h | (simp only [iX, ig, kT, fZ, te]; exact h))⟩ <;> first | (simp only [ua, iX, ig, gv, gG, ij, kS, lG, je, kT, fZ, te, nm, seval] <;> rfl) | rfl⟩
     simp only [te, hs] at h
     obtain ⟨Vh, ZS, h⟩ := optI h l6
     try simp only [hs] at h
     simp only [vz, tyf, iX, (aV oO), ig, gv, gG, ij, kS, lG, je, kT, fZ, (aq pa), te, nm, seval]
     refine ktA (zw _ _ _ ZS) ?_
     refine b5 (fun tm => tm 2 = .ptr 0 0 ∧ tm 3 = .ptr 1 0 ∧ tm 5 = .lit (.int .i64 dx) ∧ tm 74 = .lit (.bool true) ∧ tm 79 = .lit (.bool Vh) ∧ True) (by refine ⟨gv, gG, ij, ?_, ?_, trivial⟩ <;> first | (simp only [ua, iX, ig, gv, gG, ij, kS, lG, je, kT, fZ, te, nm, seval] <;> rfl) | rfl) ?_
     rintro tm ⟨j8, gh, eM, eR, ck, _⟩
     cases zS : (Vh)
     ·simp only [zS, hs] at h
      try simp only [vz, tyf, iX, (aV oO), ig, kT, fZ, (aq pa), te, j8, gh, eM, eR, ck, zS, nm, seval]
      replace h := oL _ h
      try dsimp only at h
      obtain rfl := kF _ h
      exact bz Tryz.results23 rfl
     simp only [zS, hs] at h
     simp only [vz, tyf, iX, (aV oO), ig, kT, fZ, (aq pa), te, j8, gh, eM, eR, ck, zS, nm, seval]
     exact ⟨List.length kO, qZc _, by rw [l7]; refine ⟨kO, dx + 1, rfl, Int.le_trans gb (Int.le_add_one (qZe _)), bK gb iW, rfl, (show 15 ≤ jz + 67 by omega), ?_, ?_, j8, gh, ?_, (by first | exact h | (simp only [iX, ig, kT, fZ, te, zS]; exact h))⟩ <;> first | (simp only [ua, iX, ig, kT, fZ, te, j8, gh, eM, eR, ck, zS, nm, seval] <;> rfl) | rfl⟩
    simp only [fZ, hs] at h
    obtain ⟨x81, zT, h⟩ := optI h l6
    try simp only [hs] at h
    obtain ⟨Vi, ZT, h⟩ := optI h l6
    try simp only [hs] at h
    simp only [vz, tyf, iX, (aV oO), ig, gv, gG, ij, kS, lG, je, kT, fZ, (aV zT), nm, seval]
    refine dktA (ZO _ _ _ ZT) ?_
    refine b5 (fun tm => tm 2 = .ptr 0 0 ∧ tm 3 = .ptr 1 0 ∧ tm 5 = .lit (.int .i64 dx) ∧ tm 6 = .ptr (jz + 10) 0 ∧ tm 47 = .lit (.bool false) ∧ tm 50 = .lit (.bool true) ∧ tm 58 = .lit (.bool Vi) ∧ True) (by refine ⟨gv, gG, ij, kS, ?_, ?_, ?_, trivial⟩ <;> first | (simp only [ua, iX, ig, gv, gG, ij, kS, lG, je, kT, fZ, nm, seval] <;> rfl) | rfl) ?_
    rintro tm ⟨cI, cw, cK, gH, qh, uz, E0, _⟩
    cases tD : (Vi)
    ·simp only [tD, hs] at h
     try simp only [vz, tyf, iX, (aV oO), ig, kT, fZ, (aV zT), cI, cw, cK, gH, qh, uz, E0, tD, nm, seval]
     replace h := oL _ h
     try dsimp only at h
     obtain rfl := kF _ h
     exact bz Tryz.results23 rfl
    simp only [tD, hs] at h
    obtain ⟨ZU, zO, h⟩ := optI h l6
    try simp only [hs] at h
    cases nS : (bJ.Letters != (List.length ZU.Signs : Int))
    ·simp only [nS, hs] at h
     simp only [vz, tyf, iX, (aV oO), ig, kT, fZ, (aV zT), cI, cw, cK, gH, qh, uz, E0, tD, (aq zO), nS, nm, seval]
     exact ⟨List.length kO, qZc _, by rw [l7]; refine ⟨kO, dx + 1, rfl, Int.le_trans gb (Int.le_add_one (qZe _)), bK gb iW, rfl, (show 15 ≤ jz + 67 by omega), ?_, ?_, cI, cw, ?_, (by first | exact h | (simp only [iX, ig, kT, fZ, tD, nS]; exact h))⟩ <;> first | (simp only [ua, iX, ig, kT, fZ, cI, cw, cK, gH, qh, uz, E0, tD, nS, nm, seval] <;> rfl) | rfl⟩
    simp only [nS, hs] at h
    obtain ⟨Vj, zU, h⟩ := optI h l6
    try simp only [hs] at h
    simp only [vz, tyf, iX, (aV oO), ig, kT, fZ, (aV zT), cI, cw, cK, gH, qh, uz, E0, tD, (aq zO), nS, nm, seval]
    refine ktA (zw _ _ _ zU) ?_
    refine b5 (fun tm => tm 2 = .ptr 0 0 ∧ tm 3 = .ptr 1 0 ∧ tm 5 = .lit (.int .i64 dx) ∧ tm 74 = .lit (.bool true) ∧ tm 79 = .lit (.bool Vj) ∧ True) (by refine ⟨cI, cw, cK, ?_, ?_, trivial⟩ <;> first | (simp only [ua, iX, ig, kT, fZ, cI, cw, cK, gH, qh, uz, E0, tD, nS, nm, seval] <;> rfl) | rfl) ?_
    rintro tm ⟨wR, wS, ot, ou, ov, _⟩
    cases uN : (Vj)
    ·simp only [uN, hs] at h
     have QQ := And.intro iX (And.intro ig (And.intro kT (And.intro fZ (And.intro tD (And.intro nS uN)))))
     try simp only [vz, tyf, QQ, (aV oO), (aV zT), (aq zO), wR, wS, ot, ou, ov, nm, seval]
     replace h := oL _ h
     try dsimp only at h
     obtain rfl := kF _ h
     exact bz Tryz.results23 rfl
    simp only [uN, hs] at h
    have yn := And.intro iX (And.intro ig (And.intro kT (And.intro fZ (And.intro tD (And.intro nS uN)))))
    simp only [vz, tyf, yn, (aV oO), (aV zT), (aq zO), wR, wS, ot, ou, ov, nm, seval]
    exact ⟨List.length kO, qZc _, by rw [l7]; refine ⟨kO, dx + 1, rfl, Int.le_trans gb (Int.le_add_one (qZe _)), bK gb iW, rfl, (show 15 ≤ jz + 67 by omega), ?_, ?_, wR, wS, ?_, (by first | exact h | (simp only [yn]; exact h))⟩ <;> first | (simp only [ua, yn, wR, wS, ot, ou, ov, nm, seval] <;> rfl) | rfl⟩
   simp only [kT, hs] at h
   try simp only [vz, tyf, iX, (aV oO), ig, gv, gG, ij, kS, lG, je, kT, nm, seval]
   replace h := oL _ h
   try dsimp only at h
   obtain rfl := kF _ h
   exact bz Tryz.results23 rfl
 simp only [gj, hs] at h
 try simp only [vz, tyf, cH, bL, dg, cB, gj, nm, seval]
 obtain rfl := kF _ h
 exact bz Tryz.results23 rfl

theorem vA (a n b : Int) : oW a n b = some (inB a b n) := by
 unfold oW inB
 cases decide (a ≤ n) <;> rfl
theorem in_eq (n a b : Int) : mO n a b = some (inB a b n) := by
 unfold mO inB
 show cond (decide (a ≤ n)) _ _ = _
 cases decide (a ≤ n) <;> rfl
def spanB (m : Int) (x : GSpan) : Bool := decide (0 ≤ x.Low) && (decide (x.Low ≤ x.High) && decide (x.High ≤ m))
theorem QR (x : GSpan) (m : Int) : yo 0 x m = some (spanB m x) := by
 unfold yo spanB
 cases decide (0 ≤ x.Low) <;> cases decide (x.Low ≤ x.High) <;> rfl
theorem yp (x : GSpan) (m : Int) : ye x m = some (spanB m x) := by
 unfold ye
 simp only [in_eq, Option.bind_some]
 by_cases h1 : 0 ≤ x.Low <;> by_cases h2 : x.Low ≤ x.High <;> by_cases h3 : x.High ≤ m <;> by_cases h4 : x.Low ≤ m <;> simp [inB, spanB, h1, h2, h3, h4] <;> omega
theorem Vk (a b : Int) : ∀ (p : List Int) (i : Int), zV a b p i = goB (p.all (inB a b))
 | [], _ => rfl
 | e :: p, i => by
  simp only [zV, oh, cnot, cand, vA, Option.bind_some, Vk a b p, List.all_cons]
theorem QS (a b : Int) (xs : List Int) (h : lenOk xs = true) : yq a xs b = some (xs.all (inB a b)) := by
 simp only [yq, h, cond_true, Vk]
 cases xs.all (inB a b) <;> rfl
def incr : Int → List Int → Bool
 | _, [] => true
 | q, e :: p => !decide (e ≤ q) && incr e p
def incrL : List Int → Bool
 | [] => true
 | e :: p => incr e p
theorem xe {α : Type} {xs p : List α} {q : α} {i : Int} (h0 : 1 ≤ i) (hi : i < 9223372036854775808) (h : xs.drop (i - 1).toNat = q :: p) : getI xs (i64.wrap (i - 1)) = some q := by
 rw [jd (by omega) (by omega)]
 exact eg (by omega) h
theorem vy {α : Type} {xs p : List α} {n : Nat} (h : xs.drop n = p) : n + p.length ≤ xs.length ∨ p = [] := by
 subst h
 by_cases hn : n ≤ xs.length
 ·left; simp; omega
 ·right; exact List.drop_eq_nil_of_le (by omega)
theorem Vl (xs : List Int) (hl : lenOk xs = true) : ∀ (p : List Int) (q i : Int), 1 ≤ i → xs.drop (i - 1).toNat = q :: p → zW xs p i = goB (incr q p)
 | [], _, _, _, _ => rfl
 | e :: p, q, i, h0, h => by
  have hb := w7 hl
  have hle := vy h
  simp only [List.length_cons] at hle
  have hi : i < 9223372036854775808 := by
   rcases hle with hle | hle
   ·omega
   ·cases hle
  have hn : xs.drop (i + 1 - 1).toNat = e :: p := by
   have := bK (i := i - 1) (by omega) h
   rwa [show i - 1 + 1 = i + 1 - 1 by omega] at this
  simp only [zW, oh, cnot, cand, xe h0 hi h, Option.bind_some, Vl xs hl p e (i + 1) (by omega) hn, incr]
theorem Vm (a b : Int) (xs : List Int) (h : lenOk xs = true) : zX a xs b = some (incrL xs && xs.all (inB a b)) := by
 have h1 : leB 0 1 = true := rfl
 simp only [zX, h, h1, cond_true, QS a b xs h]
 cases xs with
 | nil => rfl
 | cons e p =>
  have := Vl (e :: p) h p e 1 (by omega) (by rfl)
  rw [show List.drop (Int.toNat 1) (e :: p) = p from rfl, this]
  simp only [incrL]
  cases incr e p <;> rfl
def cutsB (hi : Int) : Option Int → List Int → Bool
 | _, [] => true
 | none, e :: p => inB 1 hi e && cutsB hi (some e) p
 | some q, e :: p => inB 1 hi e && (!decide (e ≤ q) && cutsB hi (some e) p)
theorem Vn (hi : Int) : ∀ (p : List Int) (q : Int), cutsB hi (some q) p = (incr q p && p.all (inB 1 hi))
 | [], _ => rfl
 | e :: p, q => by
  simp only [cutsB, Vn hi p e, incr, List.all_cons]
  cases h1 : inB 1 hi e <;> cases h2 : decide (e ≤ q) <;> cases h3 : incr e p <;> simp [h1, h2, h3]
theorem QT (hi : Int) : ∀ (p : List Int), cutsB hi none p = (incrL p && p.all (inB 1 hi))
 | [] => rfl
 | e :: p => by
  simp only [cutsB, Vn, incrL, List.all_cons]
  cases h1 : inB 1 hi e <;> cases h2 : incr e p <;> simp [h1, h2]
theorem Vo (w : GLw) (hl : lenOk w.Cuts = true) : ∀ (p : List Int) (q : Int) (i : Int), 1 ≤ i → w.Cuts.drop (i - 1).toNat = q :: p →
  uO w p i = goB (cutsB (i64.wrap ((w.Signs.length : Int) - 1)) (some q) p)
 | [], _, _, _, _ => rfl
 | e :: p, q, i, h0, h => by
  have hb := w7 hl
  have hle := vy h
  simp only [List.length_cons] at hle
  have hi : i < 9223372036854775808 := by
   rcases hle with hle | hle
   ·omega
   ·cases hle
  have hn : w.Cuts.drop (i + 1 - 1).toNat = e :: p := by
   have := bK (i := i - 1) (by omega) h
   rwa [show i - 1 + 1 = i + 1 - 1 by omega] at this
  have hp : decide (i > 0) = true := by simp; omega
  simp only [uO, oh, cnot, cand, in_eq, xe h0 hi h, hp, Option.bind_some, Vo w hl p e (i + 1) (by omega) hn, cutsB, cond_true]
theorem QU (w : GLw) (hl : lenOk w.Cuts = true) : uO w w.Cuts 0 = goB (cutsB (i64.wrap ((w.Signs.length : Int) - 1)) none w.Cuts) := by
 generalize hc : w.Cuts = cs
 cases cs with
 | nil => rfl
 | cons e p =>
  have := Vo w hl p e (0 + 1) (by omega) (by rw [hc]; rfl)
  simp only [uO, oh, cnot, cand, in_eq, Option.bind_some, this, cutsB, show decide ((0 : Int) > 0) = false from rfl, cond_false]
theorem yr (s : GLs) (n : Int) : yu s n = some (inB 0 (i64.wrap ((s.Widths.length : Int) - 1)) n) := by
 simp only [yu, in_eq, Option.bind_some]
theorem Vp (s : GLs) : ∀ (p : List Int) (i : Int), zY s p i = goB (p.all (inB 0 (i64.wrap ((s.Widths.length : Int) - 1))))
 | [], _ => rfl
 | e :: p, i => by
  simp only [zY, oh, cnot, cand, yr, Option.bind_some, Vp s p, List.all_cons]
def wordB (n : Int) (w : GLw) : Bool := inB 1 6 w.Signs.length && (w.Signs.all (inB 0 n) && (incrL w.Cuts && w.Cuts.all (inB 1 (i64.wrap ((w.Signs.length : Int) - 1)))))
theorem QV (s : GLs) (w : GLw) (h1 : lenOk w.Signs = true) (h2 : lenOk w.Cuts = true) : Et s w = some (wordB (i64.wrap ((s.Widths.length : Int) - 1)) w) := by
 simp only [Et, h1, h2, cond_true, Vp, QU w h2, in_eq, Option.bind_some, QT, wordB]
 cases w.Signs.all _ <;> cases (incrL w.Cuts && w.Cuts.all _) <;> cases inB 1 6 _ <;> rfl
def Fine (w : GLw) : Prop := lenOk w.Signs = true ∧ lenOk w.Cuts = true
theorem Vq (s : GLs) : ∀ (p : List GLw) (i : Int), (∀ w ∈ p, Fine w) → zG s p i = goB (p.all (wordB (i64.wrap ((s.Widths.length : Int) - 1))))
 | [], _, _ => rfl
 | e :: p, i, h => by
  have he := h e (qZb ..)
  simp only [zG, oh, cnot, cand, QV s e he.1 he.2, Option.bind_some, Vq s p (i + 1) (fun w hw => h w (qZa _ hw)), List.all_cons]
theorem Vr (n : Int) : ∀ (p : List GLw) (i : Int), (∀ w ∈ p, Fine w) → zZ n p i = goB (p.all (wordB (i64.wrap (n - 1))))
 | [], _, _ => rfl
 | e :: p, i, h => by
  have he := h e (qZb ..)
  simp only [zZ, oh, cnot, cand, vA, QS _ _ _ he.1, Vm _ _ _ he.2, Option.bind_some, Vr n p (i + 1) (fun w hw => h w (qZa _ hw)), List.all_cons, wordB]
theorem Vs : ∀ (p : List Int) (i : Int), zH p i = goB (p.all (inB 1 20))
 | [], _ => rfl
 | e :: p, i => by
  simp only [zH, oh, cnot, cand, in_eq, Option.bind_some, Vs p, List.all_cons]
def sgn (a b : Int) : Int := if a < b then -1 else if a > b then 1 else 0
theorem QW (a b : Int) : Aa a b = some (sgn a b) := by
 unfold Aa E1 sgn
 by_cases h1 : a < b <;> by_cases h2 : a > b <;> simp [h1, h2]
def pairGe (a b : GLp) : Bool := cond (decide (a.Left > b.Left)) true (cond (a.Left == b.Left) (decide (a.Right ≥ b.Right)) false)
theorem or_eq (a b : Int) : E2 [a, b] = some (if a = 0 then b else a) := by
 have e : (fun x : Int => x != 0) a = !decide (a = 0) := by by_cases h : a = 0 <;> simp [h]
 have e' : (b != 0) = !decide (b = 0) := by by_cases h : b = 0 <;> simp [h]
 simp only [] at e
 by_cases h : a = 0 <;> by_cases h' : b = 0 <;> simp [E2, E3, lenOk, lbind, e, e', h, h']
theorem ZV (a b : GLp) : ∃ r, E4 a b = some r ∧ decide (r ≥ 0) = pairGe a b := by
 refine ⟨_, by simp only [E4, QW, or_eq, Option.bind_some]; rfl, ?_⟩
 unfold sgn pairGe
 by_cases h1 : a.Left < b.Left
 ·have : ¬ a.Left > b.Left := by omega
  have h3 : ¬ a.Left = b.Left := by omega
  simp [h1, this, h3]
 ·by_cases h2 : a.Left > b.Left
  ·simp [h1, h2]
  ·have h3 : a.Left = b.Left := by omega
   by_cases h4 : a.Right < b.Right
   ·have : ¬ a.Right ≥ b.Right := by omega
    simp [h3, h4]
   ·by_cases h5 : a.Right > b.Right
    ·simp [h3, h4, h5]; omega
    ·simp [h3, h4, h5]; omega
def pairB (m : Int) (e : GLp) : Bool := inB 0 m e.Left && (inB 0 m e.Right && spanB 9 e.Space)
def pairsG (m : Int) : Option GLp → List GLp → Bool
 | _, [] => true
 | none, e :: p => pairB m e && pairsG m (some e) p
 | some q, e :: p => pairB m e && (!pairGe q e && pairsG m (some e) p)
theorem Vt (s : GLs) (hl : lenOk s.Pairs = true) : ∀ (p : List GLp) (q : GLp) (i : Int), 1 ≤ i → s.Pairs.drop (i - 1).toNat = q :: p →
  tE s p i = goB (pairsG (i64.wrap ((s.Widths.length : Int) - 1)) (some q) p)
 | [], _, _, _, _ => rfl
 | e :: p, q, i, h0, h => by
  have hb := w7 hl
  have hle := vy h
  simp only [List.length_cons] at hle
  have hi : i < 9223372036854775808 := by
   rcases hle with hle | hle
   ·omega
   ·cases hle
  have hn : s.Pairs.drop (i + 1 - 1).toNat = e :: p := by
   have := bK (i := i - 1) (by omega) h
   rwa [show i - 1 + 1 = i + 1 - 1 by omega] at this
  have hp : decide (i > 0) = true := by simp; omega
  simp only [tE, oh, cnot, yr, yp, xe h0 hi h, hp, Option.bind_some, Vt s hl p e (i + 1) (by omega) hn, pairsG, pairB, cand, cond_true, pairGe]
  cases decide (q.Left > e.Left) <;> cases (q.Left == e.Left) <;> rfl
theorem ZW (s : GLs) (hl : lenOk s.Pairs = true) : tE s s.Pairs 0 = goB (pairsG (i64.wrap ((s.Widths.length : Int) - 1)) none s.Pairs) := by
 generalize hc : s.Pairs = cs
 cases cs with
 | nil => rfl
 | cons e p =>
  have := Vt s hl p e (0 + 1) (by omega) (by rw [hc]; rfl)
  simp only [tE, oh, cnot, cand, yr, yp, Option.bind_some, this, pairsG, pairB, show decide ((0 : Int) > 0) = false from rfl, cond_false]
theorem Vu (xs : List GLp) (n : Int) (hl : lenOk xs = true) : ∀ (p : List GLp) (q : GLp) (i : Int), 1 ≤ i → xs.drop (i - 1).toNat = q :: p →
  uP xs n p i = goB (pairsG (i64.wrap (n - 1)) (some q) p)
 | [], _, _, _, _ => rfl
 | e :: p, q, i, h0, h => by
  have hb := w7 hl
  have hle := vy h
  simp only [List.length_cons] at hle
  have hi : i < 9223372036854775808 := by
   rcases hle with hle | hle
   ·omega
   ·cases hle
  have hn : xs.drop (i + 1 - 1).toNat = e :: p := by
   have := bK (i := i - 1) (by omega) h
   rwa [show i - 1 + 1 = i + 1 - 1 by omega] at this
  have hp : decide (i > 0) = true := by simp; omega
  obtain ⟨r, hr, hr'⟩ := ZV q e
  simp only [uP, oh, cnot, vA, QR, xe h0 hi h, hp, hr, hr', Option.bind_some, Vu xs n hl p e (i + 1) (by omega) hn, pairsG, pairB, cand, cond_true]
theorem ZX (xs : List GLp) (n : Int) (hl : lenOk xs = true) : uP xs n xs 0 = goB (pairsG (i64.wrap (n - 1)) none xs) := by
 cases xs with
 | nil => rfl
 | cons e p =>
  have := Vu (e :: p) n hl p e (0 + 1) (by omega) rfl
  simp only [uP, oh, cnot, cand, vA, QR, Option.bind_some, this, pairsG, pairB, show decide ((0 : Int) > 0) = false from rfl, cond_false]
def FineS (s : GLs) : Prop := lenOk s.Widths = true ∧ lenOk s.Pairs = true ∧ lenOk s.Words = true ∧ ∀ w ∈ s.Words, Fine w
def sheetB (s : GLs) : Bool :=
 inB 1 6 s.Widths.length && s.Widths.all (inB 1 20) &&
 (decide ((s.Pairs.length : Int) ≤ 6) && pairsG (i64.wrap ((s.Widths.length : Int) - 1)) none s.Pairs) &&
 spanB 9 s.Other && spanB 20 s.Gap && inB 1 20 s.Hyphen &&
 (inB 1 4 s.Words.length && s.Words.all (wordB (i64.wrap ((s.Widths.length : Int) - 1)))) &&
 inB 1 400 s.Wide && inB 1 3 s.Rows
theorem QX (n : Int) : Ev n = some (inB 1 400 n) := by
 simp only [Ev, in_eq, Option.bind_some]
theorem QY (s : GLs) (h : lenOk s.Pairs = true) : Eu s = some (decide ((s.Pairs.length : Int) ≤ 6) && pairsG (i64.wrap ((s.Widths.length : Int) - 1)) none s.Pairs) := by
 simp only [Eu, h, cond_true, ZW s h, w6, csome]
 rw [Bool.and_comm]
theorem QZ (xs : List GLp) (n : Int) (h : lenOk xs = true) : E5 xs n = some (decide ((xs.length : Int) ≤ 6) && pairsG (i64.wrap (n - 1)) none xs) := by
 simp only [E5, h, cond_true, ZX xs n h, w6]
 by_cases hn : (xs.length : Int) ≤ 6
 ·have : ¬ (xs.length : Int) > 6 := by omega
  simp only [hn, this, decide_true, decide_false, cond_false, Bool.true_and]
  cases pairsG _ _ xs <;> rfl
 ·have : (xs.length : Int) > 6 := by omega
  simp only [hn, this, decide_true, decide_false, cond_true, Bool.false_and]
theorem Mu (s : GLs) (h : FineS s) : D1 s = some (sheetB s) := by
 obtain ⟨h1, h2, h3, h4⟩ := h
 simp only [D1, h1, h3, cond_true, Vs, Vq s _ _ h4, w6, in_eq, yp, QX, QY s h2, Option.bind_some, csome, sheetB, ← Bool.and_assoc]
 congr 1
 simp only [Bool.and_assoc]
 cases s.Widths.all _ <;> cases s.Words.all _ <;> simp [Bool.and_comm, Bool.and_left_comm]
theorem ZY (xs : List Int) (h : lenOk xs = true) : E6 xs = some (inB 1 6 xs.length && xs.all (inB 1 20)) := by
 simp only [E6, vA, QS _ _ _ h, Option.bind_some, csome]
theorem Ra (xs : List GLw) (n : Int) (h : lenOk xs = true) (hw : ∀ w ∈ xs, Fine w) : E7 xs n = some (inB 1 4 xs.length && xs.all (wordB (i64.wrap (n - 1)))) := by
 simp only [E7, vA, Option.bind_some, h, cond_true, Vr n xs 0 hw, w6, csome, Bool.and_true]
theorem CL (s : GLs) (h : FineS s) : zp s = some (sheetB s) := by
 obtain ⟨h1, h2, h3, h4⟩ := h
 simp only [zp, ZY _ h1, QZ _ _ h2, Ra _ _ h3 h4, vA, QR, Option.bind_some, csome, sheetB, Bool.and_assoc]
def Ab (ad : GLs) : List Int → Int → Option (LOut (Bool) (Unit))
 | [], nt => some (.go ())
 | e0 :: p0, nt => Option.bind (getI ad.Words e0) (fun x2 => cond (x2.Free) (Ab ad p0 (nt + 1)) (some (.ret false)))
def E8 (ad : GLs) (aD : List Int) : Option (Bool) := cond (decide ((List.length aD : Int) ≥ (List.length ad.Words : Int))) (some false) (Option.bind (zX 0 aD (i64.wrap ((List.length ad.Words : Int) - 1))) (fun r1 => cond (r1) (cond (lenOk aD) (lbind (Ab ad aD 0) (fun r4 => some r4) (fun c3 => some true) (fun _ _ => none)) none) (some false)))
theorem ZZ (ad : GLs) (aD : List Int) (R : Bool) (h : E8 ad aD = some R) : ag Tryz.prog G0 114 [.agg (cGLs ad), .sl (aa eI aD) (List.length aD) false] (.tree (.lit (.bool R))) := by
 refine ag.runR mixed Tryz.call114 Tryz.func114 rfl (by simp [Tryz.ntmps114]; kernel_rfl) ?_
 obtain ⟨KF, h, kF, kN⟩ := eC h
 simp only [E8] at h
 cases d5 : (decide ((List.length aD : Int) ≥ (List.length ad.Words : Int)))
 ·simp only [d5, hs] at h
  obtain ⟨r6, o7, h⟩ := optI h kN
  try simp only [hs] at h
  simp only [vz, tyf, d5, nm, seval]
  refine ktA (Vv _ _ _ _ o7) ?_
  refine b5 (fun tm => tm 1 = .sl (aa eI aD) (List.length aD) false ∧ tm 2 = .ptr 0 0 ∧ tm 13 = .lit (.bool false) ∧ tm 19 = .lit (.bool r6) ∧ True) (by refine ⟨?_, ?_, ?_, ?_, trivial⟩ <;> first | (simp only [ua, d5, nm, seval] <;> rfl) | rfl) ?_
  rintro tm ⟨e8, e9, aW, bc, _⟩
  cases cl : (r6)
  ·simp only [cl, hs] at h
   try simp only [vz, tyf, d5, e8, e9, aW, bc, cl, nm, seval]
   obtain rfl := kF _ h
   exact bz Tryz.results114 rfl
  simp only [cl, hs] at h
  cases mQ : (lenOk aD)
  ·simp only [mQ, hs] at h
   exact absurd h kN
  simp only [mQ, hs] at h
  simp only [vz, tyf, d5, e8, e9, aW, bc, cl, mQ, nm, seval]
  obtain ⟨Rb, h, tf, yv, Rc, tg⟩ := gp h kN
  obtain ⟨Rd, yw, h⟩ := call2 h
  obtain ⟨Re, oP⟩ : ∃ I : Nat → St → Prop, I = (fun m st => ∃ (nB : List Int) (hC : Int), m = List.length nB ∧ 0 ≤ hC ∧ List.drop (Int.toNat hC) aD = nB ∧ st.df = [] ∧ 20 ≤ st.nx ∧ st.H 0 = some (.cells (some 28) (cGLs ad)) ∧ st.tm 2 = .ptr 0 0 ∧ st.tm 22 = .sl (aa eI aD) (List.length aD) false ∧ st.tm 23 = .lit (.int .i64 (List.length aD : Int)) ∧ st.tm 24 = .lit (.int .i64 hC) ∧ Rb (Rd nB hC)) := ⟨_, rfl⟩
  refine loopK mixed (by kernel_rfl) Re (List.length aD) (by rw [oP]; refine ⟨aD, 0, rfl, qZe _, rfl, rfl, (show 20 ≤ 20 by omega), ?_, e9, ?_, ?_, ?_, h⟩ <;> first | (simp only [ua, d5, e8, e9, aW, bc, cl, nm, seval] <;> rfl) | rfl) ?_
  rintro m ⟨tm, H, oQ, df⟩ hinv
  rw [oP] at hinv
  obtain ⟨nB, hC, rfl, j1, kP, hdf, yx, th, de, cH, bL, dg, h⟩ := hinv
  simp only at hdf yx th de cH bL dg
  have n4 := gq (m := 20) (b := oQ) (by omega)
  subst hdf yw
  cases nB with
  | nil =>
   have gj : (decide (hC < (List.length aD : Int))) = false := fy j1 kP
   simp only [Ab, hs, reduceCtorEq] at h
   replace h := yv _ h
   try dsimp only at h
   try simp only [hs] at h
   try simp only [vz, tyf, d5, cl, mQ, n4, de, cH, bL, dg, th, gj, nm, seval]
   obtain rfl := kF _ h
   exact bz Tryz.results114 rfl
  | cons bj nB =>
   have nK : (decide (hC < (List.length aD : Int))) = true := fz j1 kP
   have jA := eg j1 kP
   have tW := f2 j1 kP mQ
   simp only [Ab, hs, reduceCtorEq] at h
   obtain ⟨x25, j4, h⟩ := optI h tg
   try simp only [hs] at h
   cases mD : (x25.Free)
   ·simp only [mD, hs] at h
    have jl := And.intro d5 (And.intro cl (And.intro mQ (And.intro n4 (And.intro th (And.intro nK (And.intro tW mD))))))
    try simp only [vz, tyf, jl, de, cH, bL, dg, (au jA), (aq j4), nm, seval]
    replace h := tf _ h
    try dsimp only at h
    obtain rfl := kF _ h
    exact bz Tryz.results114 rfl
   simp only [mD, hs] at h
   have Ac := And.intro d5 (And.intro cl (And.intro mQ (And.intro n4 (And.intro th (And.intro nK (And.intro tW mD))))))
   simp only [vz, tyf, Ac, de, cH, bL, dg, (au jA), (aq j4), nm, seval]
   exact ⟨List.length nB, qZc _, by rw [oP]; refine ⟨nB, hC + 1, rfl, Int.le_trans j1 (Int.le_add_one (qZe _)), bK j1 kP, rfl, (show 20 ≤ oQ + 13 by omega), ?_, de, cH, bL, ?_, (by first | exact h | (simp only [Ac]; exact h))⟩ <;> first | (simp only [ua, Ac, de, cH, bL, dg, nm, seval] <;> rfl) | rfl | (simp only [ua, tyf, Ac, de, cH, bL, dg, nm, seval] <;> rfl)⟩
 simp only [d5, hs] at h
 try simp only [vz, tyf, d5, nm, seval]
 obtain rfl := kF _ h
 exact bz Tryz.results114 rfl
def Ad (dZ : Int) : List Int → Int → Option (LOut (Int) (Unit))
 | [], dz => some (.go ())
 | e0 :: p0, dz => cond (dZ == e0) (some (.ret dz)) (Ad dZ p0 (dz + 1))
def Gp (ad : List Int) (dZ : Int) : Option (Int) := cond (lenOk ad) (lbind (Ad dZ ad 0) (fun r2 => some r2) (fun c1 => some (-1)) (fun _ _ => none)) none
theorem zhy (ad : List Int) (dZ : Int) (R : Int) (h : Gp ad dZ = some R) : ag Tryz.prog G0 151 [.sl (aa eI ad) (List.length ad) false, .lit (.int .i64 dZ)] (.tree (.lit (.int .i64 R))) := by
 refine ag.runR mixed Tryz.call151 Tryz.func151 rfl (by simp [Tryz.ntmps151]; kernel_rfl) ?_
 obtain ⟨KF, h, kF, kN⟩ := eC h
 simp only [Gp] at h
 cases g4 : (lenOk ad)
 ·simp only [g4, hs] at h
  exact absurd h kN
 simp only [g4, hs] at h
 simp only [vz, tyf, g4, nm, seval]
 obtain ⟨K3, h, rY, qW, BR, BS⟩ := gp h kN
 obtain ⟨f3, rZ, h⟩ := call2 h
 obtain ⟨I3, kf⟩ : ∃ I : Nat → St → Prop, I = (fun m st => ∃ (p3 : List Int) (bS : Int), m = List.length p3 ∧ 0 ≤ bS ∧ List.drop (Int.toNat bS) ad = p3 ∧ st.df = [] ∧ 4 ≤ st.nx ∧ st.tm 0 = .sl (aa eI ad) (List.length ad) false ∧ st.tm 1 = .lit (.int .i64 dZ) ∧ st.tm 7 = .lit (.int .i64 (List.length ad : Int)) ∧ st.tm 8 = .lit (.int .i64 bS) ∧ K3 (f3 p3 bS)) := ⟨_, rfl⟩
 refine loopK mixed (by kernel_rfl) I3 (List.length ad) (by rw [kf]; refine ⟨ad, 0, rfl, qZe _, rfl, rfl, (show 4 ≤ 4 by omega), ?_, ?_, ?_, ?_, h⟩ <;> first | (simp only [ua, nm, seval] <;> rfl) | rfl) ?_
 rintro m ⟨tm, H, na, df⟩ hinv
 rw [kf] at hinv
 obtain ⟨p3, bS, rfl, fN, gL, hdf, sa, e5, e6, e7, e8, h⟩ := hinv
 simp only at hdf sa e5 e6 e7 e8
 have n9 := gq (m := 4) (b := na) (by omega)
 subst hdf rZ
 cases p3 with
 | nil =>
  have eu : (decide (bS < (List.length ad : Int))) = false := fy fN gL
  simp only [Ad, hs, reduceCtorEq] at h
  replace h := qW _ h
  try dsimp only at h
  try simp only [hs] at h
  try simp only [vz, tyf, g4, n9, e5, e6, e7, e8, eu, nm, seval]
  refine eh (x := (.lit (.int .i64 (-1)))) (by first | (simp only [Tryz.results151, resV, resL, aR, ei, ej, uw, cr, tyf, g4, n9, eu, nm, seval] <;> rfl) | rfl) ?_
  obtain rfl := kF _ h
  refine eD ?_ ?_
  ·simp only [tre, aG, Bool.and_self]
  ·first | (simp only [outV, uw, ep, cr, tyf, nrm, aE, g4, n9, e5, e6, e7, e8, eu, nm, seval] <;> rfl) | rfl
 | cons e3 p3 =>
  have gu : (decide (bS < (List.length ad : Int))) = true := fz fN gL
  have pZ := eg fN gL
  have oY := f2 fN gL g4
  simp only [Ad, hs, reduceCtorEq] at h
  cases bV : (dZ == e3)
  ·simp only [bV, hs] at h
   simp only [vz, tyf, g4, n9, e5, e6, e7, e8, gu, (au pZ), oY, bV, nm, seval]
   exact ⟨List.length p3, qZc _, by rw [kf]; refine ⟨p3, bS + 1, rfl, Int.le_trans fN (Int.le_add_one (qZe _)), bK fN gL, rfl, (show 4 ≤ na + 11 by omega), e5, e6, e7, ?_, (by first | exact h | (simp only [gu, bV]; exact h))⟩ <;> first | (simp only [ua, n9, e5, e6, e7, e8, gu, oY, bV, nm, seval] <;> rfl) | rfl⟩
  simp only [bV, hs] at h
  try simp only [vz, tyf, g4, n9, e5, e6, e7, e8, gu, (au pZ), oY, bV, nm, seval]
  refine eh (x := (.lit (.int .i64 bS))) (by first | (simp only [Tryz.results151, resV, resL, aR, ei, ej, uw, cr, tyf, g4, n9, gu, (au pZ), oY, bV, nm, seval] <;> rfl) | rfl) ?_
  replace h := rY _ h
  try dsimp only at h
  obtain rfl := kF _ h
  refine eD ?_ ?_
  ·simp only [tre, aG, Bool.and_self]
  ·first | (simp only [outV, uw, ep, cr, tyf, nrm, aE, g4, n9, e5, e6, e7, e8, gu, (au pZ), oY, bV, nm, seval] <;> rfl) | rfl
def z7 (ad : List Int) (dZ : Int) : Option (Bool) := Option.bind (Gp ad dZ) (fun r1 => some (decide (r1 ≥ 0)))
theorem Gb (ad : List Int) (dZ : Int) (R : Bool) (h : z7 ad dZ = some R) : ag Tryz.prog G0 117 [.sl (aa eI ad) (List.length ad) false, .lit (.int .i64 dZ)] (.tree (.lit (.bool R))) := by
 refine ag.runR mixed Tryz.call117 Tryz.func117 rfl (by simp [Tryz.ntmps117]; kernel_rfl) ?_
 obtain ⟨KF, h, kF, kN⟩ := eC h
 simp only [z7] at h
 obtain ⟨r2, o3, h⟩ := optI h kN
 try simp only [hs] at h
 simp only [vz, tyf, nm, seval]
 refine ktA (zhy _ _ _ o3) ?_
 refine b5 (fun tm => tm 7 = .lit (.int .i64 r2) ∧ True) (by refine ⟨?_, trivial⟩ <;> first | (simp only [ua, nm, seval] <;> rfl) | rfl) ?_
 rintro tm ⟨e4, _⟩
 try simp only [vz, tyf, e4, nm, seval]
 obtain rfl := kF _ h
 exact bz Tryz.results117 rfl
end Go.V
end
