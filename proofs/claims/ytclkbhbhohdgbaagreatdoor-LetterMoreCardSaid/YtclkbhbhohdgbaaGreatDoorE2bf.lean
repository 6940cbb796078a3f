/- Part of a proof. -/
import Derived.Test.YtclkbhbhohdgbaaGreatDoorE2be
set_option linter.all false
set_option maxRecDepth 4000
set_option maxHeartbeats 40000000
section
namespace Go.V
open Go Go.Proofs IntKind Tryz
def ru (au : List GLp) (aU : Int) : List GLp → Int → Option (LOut (Bool) (Unit))
 | [], d5 => some (.go ())
 | e0 :: p0, d5 => Option.bind (nt 0 e0.Left (i64.wrap (aU - 1))) (fun r1 => cond (r1) (Option.bind (nt 0 e0.Right (i64.wrap (aU - 1))) (fun r2 => cond (r2) (Option.bind (ur 0 e0.Space 9) (fun r3 => cond (r3) (cond (decide (d5 > 0)) (Option.bind (getI au (i64.wrap (d5 - 1))) (fun x4 => Option.bind (zq x4 e0) (fun r5 => cond (decide (r5 ≥ 0)) (some (.ret false)) (ru au aU p0 (d5 + 1))))) (ru au aU p0 (d5 + 1))) (some (.ret false)))) (some (.ret false)))) (some (.ret false)))
def zr (au : List GLp) (aU : Int) : Option (Bool) := cond (decide ((List.length au : Int) > 6)) (some false) (cond (lenOk au) (lbind (ru au aU au 0) (fun r7 => some r7) (fun c6 => some true) (fun _ _ => none)) none)
theorem Ww (au : List GLp) (aU : Int) (R : Bool) (h : zr au aU = some R) : ah prog G0 110 [.sl (ad cGLp au) (List.length au) false, .lit (.int .i64 aU)] (.tree (.lit (.bool R))) := by
 refine ah.runR mixed call110 func110 rfl (by simp [ntmps110]; kernel_rfl) ?_
 obtain ⟨KF, h, kF, kN⟩ := fg h
 simp only [zr] at h
 cases d8 : (decide ((List.length au : Int) > 6))
 ·simp only [d8, hs] at h
  cases eZ : (lenOk au)
  ·simp only [eZ, hs] at h
   exact absurd h kN
  simp only [eZ, hs] at h
  simp only [vz, tyf, d8, eZ, nm, seval]
  obtain ⟨K9, h, uu, wE, S4, qt⟩ := iy h kN
  obtain ⟨f9, zt, h⟩ := call2 h
  obtain ⟨I9, lW⟩ : ∃ I : Nat → St → Prop, I = (fun m st => ∃ (p9 : List GLp) (cZ : Int), m = List.length p9 ∧ 0 ≤ cZ ∧ List.drop (Int.toNat cZ) au = p9 ∧ st.df = [] ∧ 7 ≤ st.nx ∧ st.tm 0 = .sl (ad cGLp au) (List.length au) false ∧ st.tm 1 = .lit (.int .i64 aU) ∧ st.tm 10 = .sl (ad cGLp au) (List.length au) false ∧ st.tm 11 = .lit (.int .i64 (List.length au : Int)) ∧ st.tm 12 = .lit (.int .i64 cZ) ∧ K9 (f9 p9 cZ)) := ⟨_, rfl⟩
  refine loopK mixed (by kernel_rfl) I9 (List.length au) (by rw [lW]; refine ⟨au, 0, rfl, qZf _, rfl, rfl, (show 7 ≤ 7 by omega), ?_, ?_, ?_, ?_, ?_, h⟩ <;> first | (simp only [ua, d8, nm, seval] <;> rfl) | rfl) ?_
  rintro m ⟨tm, H, im, df⟩ ba
  rw [lW] at ba
  obtain ⟨p9, cZ, rfl, gk, i5, hdf, zu, aB, aL, bF, bN, cJ, h⟩ := ba
  simp only at hdf zu aB aL bF bN cJ
  have iV := ib (m := 7) (b := im) (by omega)
  subst hdf zt
  cases p9 with
  | nil =>
   have iq : (decide (cZ < (List.length au : Int))) = false := ic gk i5
   simp only [ru, hs, reduceCtorEq] at h
   replace h := wE _ h
   try dsimp only at h
   try simp only [hs] at h
   try simp only [vz, tyf, d8, eZ, iV, aB, aL, bF, bN, cJ, iq, nm, seval]
   obtain rfl := kF _ h
   exact bB results110 rfl
  | cons e9 p9 =>
   have jm : (decide (cZ < (List.length au : Int))) = true := gZ gk i5
   have lp := fA gk i5
   have uv := hC gk i5 eZ
   simp only [ru, hs, reduceCtorEq] at h
   obtain ⟨ss, iA, h⟩ := optI h qt
   try simp only [hs] at h
   simp only [vz, tyf, d8, eZ, iV, aB, aL, bF, bN, cJ, jm, (cL lp), uv, nm, seval]
   refine ktA (rv _ _ _ _ iA) ?_
   refine bQ (fun tm => tm 0 = .sl (ad cGLp au) (List.length au) false ∧ tm 1 = .lit (.int .i64 aU) ∧ tm 5 = .lit (.int .i64 cZ) ∧ tm 6 = .ptr (im + 4) 0 ∧ tm 10 = .sl (ad cGLp au) (List.length au) false ∧ tm 11 = .lit (.int .i64 (List.length au : Int)) ∧ tm 12 = .lit (.int .i64 cZ) ∧ tm 21 = .lit (.bool ss) ∧ True) (by refine ⟨aB, aL, ?_, ?_, bF, bN, cJ, ?_, trivial⟩ <;> first | (simp only [ua, d8, iV, aB, aL, bF, bN, cJ, jm, uv, nm, seval] <;> rfl) | rfl) ?_
   rintro tm ⟨dy, dX, dj, cK, dk, du, d6, dD, _⟩
   cases cO : (ss)
   ·simp only [cO, hs] at h
    try simp only [vz, tyf, d8, eZ, iV, jm, (cL lp), uv, dy, dX, dj, cK, dk, du, d6, dD, cO, nm, seval]
    replace h := uu _ h
    try dsimp only at h
    obtain rfl := kF _ h
    exact bB results110 rfl
   simp only [cO, hs] at h
   obtain ⟨zw, zx, h⟩ := optI h qt
   try simp only [hs] at h
   simp only [vz, tyf, d8, eZ, iV, jm, (cL lp), uv, dy, dX, dj, cK, dk, du, d6, dD, cO, nm, seval]
   refine ktA (rv _ _ _ _ zx) ?_
   refine bQ (fun tm => tm 0 = .sl (ad cGLp au) (List.length au) false ∧ tm 1 = .lit (.int .i64 aU) ∧ tm 5 = .lit (.int .i64 cZ) ∧ tm 6 = .ptr (im + 4) 0 ∧ tm 10 = .sl (ad cGLp au) (List.length au) false ∧ tm 11 = .lit (.int .i64 (List.length au : Int)) ∧ tm 12 = .lit (.int .i64 cZ) ∧ tm 23 = .lit (.bool false) ∧ tm 28 = .lit (.bool zw) ∧ True) (by refine ⟨dy, dX, dj, cK, dk, du, d6, ?_, ?_, trivial⟩ <;> first | (simp only [ua, d8, iV, jm, uv, dy, dX, dj, cK, dk, du, d6, dD, cO, nm, seval] <;> rfl) | rfl) ?_
   rintro tm ⟨gS, gJ, cU, cC, bP, cD, cP, dY, cS, _⟩
   cases oh : (zw)
   ·simp only [oh, hs] at h
    have Wx := qZj d8 (qZj eZ (qZj iV (qZj jm (qZj uv (qZj cO oh)))))
    try simp only [vz, tyf, Wx, (cL lp), gS, gJ, cU, cC, bP, cD, cP, dY, cS, nm, seval]
    replace h := uu _ h
    try dsimp only at h
    obtain rfl := kF _ h
    exact bB results110 rfl
   simp only [oh, hs] at h
   have lz := qZj d8 (qZj eZ (qZj iV (qZj jm (qZj uv (qZj cO oh)))))
   obtain ⟨S5, wF, h⟩ := optI h qt
   try simp only [hs] at h
   simp only [vz, tyf, lz, (cL lp), gS, gJ, cU, cC, bP, cD, cP, dY, cS, nm, seval]
   refine ktA (HY _ _ _ _ wF) ?_
   refine bQ (fun tm => tm 0 = .sl (ad cGLp au) (List.length au) false ∧ tm 1 = .lit (.int .i64 aU) ∧ tm 5 = .lit (.int .i64 cZ) ∧ tm 6 = .ptr (im + 4) 0 ∧ tm 10 = .sl (ad cGLp au) (List.length au) false ∧ tm 11 = .lit (.int .i64 (List.length au : Int)) ∧ tm 12 = .lit (.int .i64 cZ) ∧ tm 31 = .lit (.bool false) ∧ tm 34 = .lit (.bool S5) ∧ True) (by refine ⟨gS, gJ, cU, cC, bP, cD, cP, ?_, ?_, trivial⟩ <;> first | (simp only [ua, lz, gS, gJ, cU, cC, bP, cD, cP, dY, cS, nm, seval] <;> rfl) | rfl) ?_
   rintro tm ⟨fj, dR, dq, dt, dF, om, lX, qu, kM, _⟩
   cases mF : (S5)
   ·simp only [mF, hs] at h
    try simp only [vz, tyf, lz, (cL lp), fj, dR, dq, dt, dF, om, lX, qu, kM, mF, nm, seval]
    replace h := uu _ h
    try dsimp only at h
    obtain rfl := kF _ h
    exact bB results110 rfl
   simp only [mF, hs] at h
   simp only [vz, tyf, lz, (cL lp), fj, dR, dq, dt, dF, om, lX, qu, kM, mF, nm, seval]
   refine tZ (fun tm => tm 0 = .sl (ad cGLp au) (List.length au) false ∧ tm 1 = .lit (.int .i64 aU) ∧ tm 5 = .lit (.int .i64 cZ) ∧ tm 6 = .ptr (im + 4) 0 ∧ tm 10 = .sl (ad cGLp au) (List.length au) false ∧ tm 11 = .lit (.int .i64 (List.length au : Int)) ∧ tm 12 = .lit (.int .i64 cZ) ∧ True) (by refine ⟨fj, dR, dq, dt, dF, om, lX, trivial⟩ <;> first | (simp only [ua, lz, fj, dR, dq, dt, dF, om, lX, qu, kM, mF, nm, seval] <;> rfl) | rfl) ?_
   rintro tm ⟨mG, k7, lK, oB, ka, k8, lL, _⟩
   cases jn : (decide (cZ > 0))
   ·simp only [jn, hs] at h
    simp only [vz, tyf, lz, (cL lp), mF, mG, k7, lK, oB, ka, k8, lL, jn, nm, seval]
    exact ⟨List.length p9, qZc _, by rw [lW]; refine ⟨p9, cZ + 1, rfl, qZl gk (qZk (qZf _)), dm gk i5, rfl, (show 7 ≤ im + 41 by omega), mG, k7, ka, k8, ?_, (by first | exact h | (simp only [lz, mF, jn]; exact h))⟩ <;> first | (simp only [ua, lz, mF, mG, k7, lK, oB, ka, k8, lL, jn, nm, seval] <;> rfl) | rfl⟩
   simp only [jn, hs] at h
   obtain ⟨x66, zy, h⟩ := optI h qt
   try simp only [hs] at h
   obtain ⟨zz, HZ, h⟩ := optI h qt
   try simp only [hs] at h
   simp only [vz, tyf, lz, (cL lp), mF, mG, k7, lK, oB, ka, k8, lL, jn, (cL zy), nm, seval]
   refine dktA (Wy _ _ _ HZ) ?_
   refine bQ (fun tm => tm 0 = .sl (ad cGLp au) (List.length au) false ∧ tm 1 = .lit (.int .i64 aU) ∧ tm 10 = .sl (ad cGLp au) (List.length au) false ∧ tm 11 = .lit (.int .i64 (List.length au : Int)) ∧ tm 12 = .lit (.int .i64 cZ) ∧ tm 39 = .lit (.bool true) ∧ tm 46 = .lit (.int .i64 zz) ∧ True) (by refine ⟨mG, k7, ka, k8, lL, ?_, ?_, trivial⟩ <;> first | (simp only [ua, lz, mF, mG, k7, lK, oB, ka, k8, lL, jn, nm, seval] <;> rfl) | rfl) ?_
   rintro tm ⟨fF, sD, sF, Dh, ux, uy, ry, _⟩
   cases jo : (decide (zz ≥ 0))
   ·simp only [jo, hs] at h
    simp only [vz, tyf, lz, (cL lp), mF, jn, (cL zy), fF, sD, sF, Dh, ux, uy, ry, jo, nm, seval]
    exact ⟨List.length p9, qZc _, by rw [lW]; refine ⟨p9, cZ + 1, rfl, qZl gk (qZk (qZf _)), dm gk i5, rfl, (show 7 ≤ im + 41 by omega), fF, sD, sF, Dh, ?_, (by first | exact h | (simp only [lz, mF, jn, jo]; exact h))⟩ <;> first | (simp only [ua, lz, mF, jn, fF, sD, sF, Dh, ux, uy, ry, jo, nm, seval] <;> rfl) | rfl⟩
   simp only [jo, hs] at h
   try simp only [vz, tyf, lz, (cL lp), mF, jn, (cL zy), fF, sD, sF, Dh, ux, uy, ry, jo, nm, seval]
   replace h := uu _ h
   try dsimp only at h
   obtain rfl := kF _ h
   exact bB results110 rfl
 simp only [d8, hs] at h
 try simp only [vz, tyf, d8, nm, seval]
 obtain rfl := kF _ h
 exact bB results110 rfl
def wG (ak : List Int) : List Int → Int → Option (LOut (Bool) (Unit))
 | [], uz => some (.go ())
 | e0 :: p0, uz => Option.bind (getI ak (i64.wrap (uz - 1))) (fun x1 => cond (decide (e0 ≤ x1)) (some (.ret false)) (wG ak p0 (uz + 1)))
def wH (aV : Int) (ak : List Int) (bt : Int) : Option (Bool) := cond (lenOk ak) (cond (leB 0 1) (lbind (wG ak (List.drop (Int.toNat 1) ak) 1) (fun r4 => some r4) (fun c2 => Option.bind (u4 aV ak bt) (fun r3 => some r3)) (fun _ _ => none)) none) none
theorem Wz (aV : Int) (ak : List Int) (bt : Int) (R : Bool) (h : wH aV ak bt = some R) : ah prog G0 149 [.lit (.int .i64 aV), .sl (ad eI ak) (List.length ak) false, .lit (.int .i64 bt)] (.tree (.lit (.bool R))) := by
 refine ah.runR mixed call149 func149 rfl (by simp [ntmps149]; kernel_rfl) ?_
 obtain ⟨KF, h, kF, kN⟩ := fg h
 simp only [wH] at h
 cases g6 : (lenOk ak)
 ·simp only [g6, hs] at h
  exact absurd h kN
 simp only [g6, hs] at h
 cases g7 : (leB 0 1)
 ·simp only [g7, hs] at h
  exact absurd h kN
 simp only [g7, hs] at h
 simp only [vz, tyf, g6, g7, nm, seval]
 obtain ⟨K5, h, W6, W7, kB5, W8⟩ := iy h kN
 obtain ⟨f5, W9, h⟩ := call2 h
 obtain ⟨I5, Ia⟩ : ∃ I : Nat → St → Prop, I = (fun m st => ∃ (p5 : List Int) (jR : Int), m = List.length p5 ∧ 0 ≤ jR ∧ List.drop (Int.toNat jR) ak = p5 ∧ st.df = [] ∧ 2 ≤ st.nx ∧ st.tm 0 = .lit (.int .i64 aV) ∧ st.tm 1 = .sl (ad eI ak) (List.length ak) false ∧ st.tm 2 = .lit (.int .i64 bt) ∧ st.tm 7 = .lit (.int .i64 jR) ∧ K5 (f5 p5 jR)) := ⟨_, rfl⟩
 refine loopK mixed (by kernel_rfl) I5 (List.length (List.drop (Int.toNat 1) ak)) (by rw [Ia]; refine ⟨List.drop (Int.toNat 1) ak, 1, rfl, of_decide_eq_true g7, rfl, rfl, (show 2 ≤ 2 by omega), ?_, ?_, ?_, ?_, h⟩ <;> first | (simp only [ua, nm, seval] <;> rfl) | rfl) ?_
 rintro m ⟨tm, H, S6, df⟩ ba
 rw [Ia] at ba
 obtain ⟨p5, jR, rfl, wI, z4, hdf, sG, e8, e9, aE, aB, h⟩ := ba
 simp only at hdf sG e8 e9 aE aB
 have kO := ib (m := 2) (b := S6) (by omega)
 subst hdf W9
 cases p5 with
 | nil =>
  have cQ : (decide (jR < (List.length ak : Int))) = false := ic wI z4
  simp only [wG, hs, reduceCtorEq] at h
  replace h := W7 _ h
  try dsimp only at h
  try simp only [hs] at h
  obtain ⟨wJ, u5, h⟩ := optI h kN
  try simp only [hs] at h
  simp only [vz, tyf, g6, g7, kO, e8, e9, aE, aB, cQ, nm, seval]
  refine ktA (Ib _ _ _ _ u5) ?_
  refine bQ (fun tm => tm 27 = .lit (.bool wJ) ∧ True) (by refine ⟨?_, trivial⟩ <;> first | (simp only [ua, kO, e8, e9, aE, aB, cQ, nm, seval] <;> rfl) | rfl) ?_
  rintro tm ⟨dv, _⟩
  try simp only [vz, tyf, g6, g7, kO, cQ, dv, nm, seval]
  obtain rfl := kF _ h
  exact bB results149 rfl
 | cons e5 p5 =>
  have iq : (decide (jR < (List.length ak : Int))) = true := gZ wI z4
  have Ic := fA wI z4
  have z5 := hC wI z4 g6
  simp only [wG, hs, reduceCtorEq] at h
  simp only [vz, tyf, g6, g7, kO, e8, e9, aE, aB, iq, (ai Ic), z5, nm, seval]
  refine tZ (fun tm => tm 0 = .lit (.int .i64 aV) ∧ tm 1 = .sl (ad eI ak) (List.length ak) false ∧ tm 2 = .lit (.int .i64 bt) ∧ tm 7 = .lit (.int .i64 jR) ∧ True) (by refine ⟨e8, e9, aE, aB, trivial⟩ <;> first | (simp only [ua, kO, e8, e9, aE, aB, iq, z5, nm, seval] <;> rfl) | rfl) ?_
  rintro tm ⟨gM, dL, fM, dy, _⟩
  obtain ⟨WA, wK, h⟩ := optI h W8
  try simp only [hs] at h
  cases wL : (decide (e5 ≤ WA))
  ·simp only [wL, hs] at h
   simp only [vz, tyf, g6, g7, kO, iq, (ai Ic), z5, gM, dL, fM, dy, (ai wK), wL, nm, seval]
   exact ⟨List.length p5, qZc _, by rw [Ia]; refine ⟨p5, jR + 1, rfl, qZl wI (qZk (qZf _)), dm wI z4, rfl, (show 2 ≤ S6 + 17 by omega), gM, dL, fM, ?_, (by first | exact h | (simp only [iq, wL]; exact h))⟩ <;> first | (simp only [ua, kO, iq, z5, gM, dL, fM, dy, wL, nm, seval] <;> rfl) | rfl⟩
  simp only [wL, hs] at h
  try simp only [vz, tyf, g6, g7, kO, iq, (ai Ic), z5, gM, dL, fM, dy, (ai wK), wL, nm, seval]
  replace h := W6 _ h
  try dsimp only at h
  obtain rfl := kF _ h
  exact bB results149 rfl
def wM (aU : Int) : List GLw → Int → Option (LOut (Bool) (Unit))
 | [], sH => some (.go ())
 | e0 :: p0, sH => Option.bind (nt 1 (List.length e0.Signs : Int) 6) (fun r2 => cond (r2) (Option.bind (u4 0 e0.Signs (i64.wrap (aU - 1))) (fun r3 => cond (r3) (Option.bind (wH 1 e0.Cuts (i64.wrap ((List.length e0.Signs : Int) - 1))) (fun r4 => cond (r4) (wM aU p0 (sH + 1)) (some (.ret false)))) (some (.ret false)))) (some (.ret false)))
def z6 (aZ : List GLw) (aU : Int) : Option (Bool) := Option.bind (nt 1 (List.length aZ : Int) 4) (fun r1 => cond (r1) (cond (lenOk aZ) (lbind (wM aU aZ 0) (fun r6 => some r6) (fun c5 => some true) (fun _ _ => none)) none) (some false))
theorem WB (aZ : List GLw) (aU : Int) (R : Bool) (h : z6 aZ aU = some R) : ah prog G0 113 [.sl (ad cGLw aZ) (List.length aZ) false, .lit (.int .i64 aU)] (.tree (.lit (.bool R))) := by
 refine ah.runR mixed call113 func113 rfl (by simp [ntmps113]; kernel_rfl) ?_
 obtain ⟨KF, h, kF, kN⟩ := fg h
 simp only [z6] at h
 obtain ⟨r7, o8, h⟩ := optI h kN
 try simp only [hs] at h
 simp only [vz, tyf, nm, seval]
 refine ktA (rv _ _ _ _ o8) ?_
 refine bQ (fun tm => tm 0 = .sl (ad cGLw aZ) (List.length aZ) false ∧ tm 1 = .lit (.int .i64 aU) ∧ tm 10 = .lit (.bool r7) ∧ True) (by refine ⟨?_, ?_, ?_, trivial⟩ <;> first | (simp only [ua, nm, seval] <;> rfl) | rfl) ?_
 rintro tm ⟨e9, aE, aB, _⟩
 cases jA : (r7)
 ·simp only [jA, hs] at h
  try simp only [vz, tyf, e9, aE, aB, jA, nm, seval]
  obtain rfl := kF _ h
  exact bB results113 rfl
 simp only [jA, hs] at h
 cases qv : (lenOk aZ)
 ·simp only [qv, hs] at h
  exact absurd h kN
 simp only [qv, hs] at h
 simp only [vz, tyf, e9, aE, aB, jA, qv, nm, seval]
 obtain ⟨WC, h, u6, Ie, WD, u7⟩ := iy h kN
 obtain ⟨WE, Ig, h⟩ := call2 h
 obtain ⟨WG, u9⟩ : ∃ I : Nat → St → Prop, I = (fun m st => ∃ (sJ : List GLw) (dS : Int), m = List.length sJ ∧ 0 ≤ dS ∧ List.drop (Int.toNat dS) aZ = sJ ∧ st.df = [] ∧ 8 ≤ st.nx ∧ st.tm 1 = .lit (.int .i64 aU) ∧ st.tm 12 = .sl (ad cGLw aZ) (List.length aZ) false ∧ st.tm 13 = .lit (.int .i64 (List.length aZ : Int)) ∧ st.tm 14 = .lit (.int .i64 dS) ∧ WC (WE sJ dS)) := ⟨_, rfl⟩
 refine loopK mixed (by kernel_rfl) WG (List.length aZ) (by rw [u9]; refine ⟨aZ, 0, rfl, qZf _, rfl, rfl, (show 8 ≤ 8 by omega), aE, ?_, ?_, ?_, h⟩ <;> first | (simp only [ua, e9, aE, aB, jA, nm, seval] <;> rfl) | rfl) ?_
 rintro m ⟨tm, H, rz, df⟩ ba
 rw [u9] at ba
 obtain ⟨sJ, dS, rfl, nu, oM, hdf, Ih, cJ, dv, di, cM, h⟩ := ba
 simp only at hdf Ih cJ dv di cM
 have jS := ib (m := 8) (b := rz) (by omega)
 subst hdf Ig
 cases sJ with
 | nil =>
  have dc : (decide (dS < (List.length aZ : Int))) = false := ic nu oM
  simp only [wM, hs, reduceCtorEq] at h
  replace h := Ie _ h
  try dsimp only at h
  try simp only [hs] at h
  try simp only [vz, tyf, jA, qv, jS, cJ, dv, di, cM, dc, nm, seval]
  obtain rfl := kF _ h
  exact bB results113 rfl
 | cons bF sJ =>
  have lA : (decide (dS < (List.length aZ : Int))) = true := gZ nu oM
  have qV := fA nu oM
  have sx := hC nu oM qv
  simp only [wM, hs, reduceCtorEq] at h
  obtain ⟨z7, wK, h⟩ := optI h u7
  try simp only [hs] at h
  simp only [vz, tyf, jA, qv, jS, cJ, dv, di, cM, lA, (aF qV), sx, nm, seval]
  refine ktA (rv _ _ _ _ wK) ?_
  refine bQ (fun tm => tm 1 = .lit (.int .i64 aU) ∧ tm 6 = .ptr (rz + 3) 0 ∧ tm 7 = .lit (.int .i64 (List.length bF.Signs : Int)) ∧ tm 12 = .sl (ad cGLw aZ) (List.length aZ) false ∧ tm 13 = .lit (.int .i64 (List.length aZ : Int)) ∧ tm 14 = .lit (.int .i64 dS) ∧ tm 22 = .lit (.bool z7) ∧ True) (by refine ⟨cJ, ?_, ?_, dv, di, cM, ?_, trivial⟩ <;> first | (simp only [ua, jA, jS, cJ, dv, di, cM, lA, sx, nm, seval] <;> rfl) | rfl) ?_
  rintro tm ⟨cK, dk, du, d6, dD, ir, hY, _⟩
  cases jT : (z7)
  ·simp only [jT, hs] at h
   try simp only [vz, tyf, jA, qv, jS, lA, (aF qV), sx, cK, dk, du, d6, dD, ir, hY, jT, nm, seval]
   replace h := u6 _ h
   try dsimp only at h
   obtain rfl := kF _ h
   exact bB results113 rfl
  simp only [jT, hs] at h
  obtain ⟨z8, sK, h⟩ := optI h u7
  try simp only [hs] at h
  simp only [vz, tyf, jA, qv, jS, lA, (aF qV), sx, cK, dk, du, d6, dD, ir, hY, jT, nm, seval]
  refine ktA (Ib _ _ _ _ sK) ?_
  refine bQ (fun tm => tm 1 = .lit (.int .i64 aU) ∧ tm 6 = .ptr (rz + 3) 0 ∧ tm 7 = .lit (.int .i64 (List.length bF.Signs : Int)) ∧ tm 12 = .sl (ad cGLw aZ) (List.length aZ) false ∧ tm 13 = .lit (.int .i64 (List.length aZ : Int)) ∧ tm 14 = .lit (.int .i64 dS) ∧ tm 24 = .lit (.bool false) ∧ tm 29 = .lit (.bool z8) ∧ True) (by refine ⟨cK, dk, du, d6, dD, ir, ?_, ?_, trivial⟩ <;> first | (simp only [ua, jA, jS, lA, sx, cK, dk, du, d6, dD, ir, hY, jT, nm, seval] <;> rfl) | rfl) ?_
  rintro tm ⟨cU, cC, bP, cD, cP, dY, cS, dM, _⟩
  cases Di : (z8)
  ·simp only [Di, hs] at h
   have lz := qZj jA (qZj qv (qZj jS (qZj lA (qZj sx (qZj jT Di)))))
   try simp only [vz, tyf, lz, (aF qV), cU, cC, bP, cD, cP, dY, cS, dM, nm, seval]
   replace h := u6 _ h
   try dsimp only at h
   obtain rfl := kF _ h
   exact bB results113 rfl
  simp only [Di, hs] at h
  have qw := qZj jA (qZj qv (qZj jS (qZj lA (qZj sx (qZj jT Di)))))
  obtain ⟨S7, fW, h⟩ := optI h u7
  try simp only [hs] at h
  simp only [vz, tyf, qw, (aF qV), cU, cC, bP, cD, cP, dY, cS, dM, nm, seval]
  refine ktA (Wz _ _ _ _ fW) ?_
  refine bQ (fun tm => tm 1 = .lit (.int .i64 aU) ∧ tm 12 = .sl (ad cGLw aZ) (List.length aZ) false ∧ tm 13 = .lit (.int .i64 (List.length aZ : Int)) ∧ tm 14 = .lit (.int .i64 dS) ∧ tm 32 = .lit (.bool false) ∧ tm 37 = .lit (.bool S7) ∧ True) (by refine ⟨cU, cD, cP, dY, ?_, ?_, trivial⟩ <;> first | (simp only [ua, qw, cU, cC, bP, cD, cP, dY, cS, dM, nm, seval] <;> rfl) | rfl) ?_
  rintro tm ⟨dR, dq, dt, dF, om, lX, _⟩
  cases wN : (S7)
  ·simp only [wN, hs] at h
   try simp only [vz, tyf, qw, (aF qV), dR, dq, dt, dF, om, lX, wN, nm, seval]
   replace h := u6 _ h
   try dsimp only at h
   obtain rfl := kF _ h
   exact bB results113 rfl
  simp only [wN, hs] at h
  simp only [vz, tyf, qw, (aF qV), dR, dq, dt, dF, om, lX, wN, nm, seval]
  exact ⟨List.length sJ, qZc _, by rw [u9]; refine ⟨sJ, dS + 1, rfl, qZl nu (qZk (qZf _)), dm nu oM, rfl, (show 8 ≤ rz + 30 by omega), dR, dq, dt, ?_, (by first | exact h | (simp only [qw, wN]; exact h))⟩ <;> first | (simp only [ua, qw, dR, dq, dt, dF, om, lX, wN, nm, seval] <;> rfl) | rfl⟩
def rA (ae : GLs) : Option (Bool) := Option.bind (z9 ae.Widths) (fun r1 => cond (r1) (Option.bind (zr ae.Pairs (List.length ae.Widths : Int)) (fun r2 => cond (r2) (Option.bind (ur 0 ae.Other 9) (fun r3 => cond (r3) (Option.bind (ur 0 ae.Gap 20) (fun r4 => cond (r4) (Option.bind (nt 1 ae.Hyphen 20) (fun r5 => cond (r5) (Option.bind (z6 ae.Words (List.length ae.Widths : Int)) (fun r6 => cond (r6) (Option.bind (nt 1 ae.Wide 400) (fun r7 => cond (r7) (Option.bind (nt 1 ae.Rows 3) (fun r8 => some r8)) (some false))) (some false))) (some false))) (some false))) (some false))) (some false))) (some false))
theorem Ii (ae : GLs) (R : Bool) (h : rA ae = some R) : ah prog G0 68 [.agg (cGLs ae)] (.tree (.lit (.bool R))) := by
 refine ah.runR mixed call68 func68 rfl (by simp [ntmps68]; kernel_rfl) ?_
 obtain ⟨KF, h, kF, kN⟩ := fg h
 simp only [rA] at h
 obtain ⟨r9, Ij, h⟩ := optI h kN
 try simp only [hs] at h
 simp only [vz, tyf, nm, seval]
 refine ktA (WH _ _ Ij) ?_
 refine bQ (fun tm => tm 1 = .ptr 0 0 ∧ tm 5 = .lit (.bool r9) ∧ True) (by refine ⟨?_, ?_, trivial⟩ <;> first | (simp only [ua, nm, seval] <;> rfl) | rfl) ?_
 rintro tm ⟨aB, aL, _⟩
 cases cQ : (r9)
 ·simp only [cQ, hs] at h
  try simp only [vz, tyf, aB, aL, cQ, nm, seval]
  obtain rfl := kF _ h
  exact bB results68 rfl
 simp only [cQ, hs] at h
 obtain ⟨wJ, u5, h⟩ := optI h kN
 try simp only [hs] at h
 simp only [vz, tyf, aB, aL, cQ, nm, seval]
 refine ktA (Ww _ _ _ u5) ?_
 refine bQ (fun tm => tm 1 = .ptr 0 0 ∧ tm 6 = .lit (.bool true) ∧ tm 12 = .lit (.bool wJ) ∧ True) (by refine ⟨aB, ?_, ?_, trivial⟩ <;> first | (simp only [ua, aB, aL, cQ, nm, seval] <;> rfl) | rfl) ?_
 rintro tm ⟨dv, di, cM, _⟩
 cases iE : (wJ)
 ·simp only [iE, hs] at h
  try simp only [vz, tyf, cQ, dv, di, cM, iE, nm, seval]
  obtain rfl := kF _ h
  exact bB results68 rfl
 simp only [iE, hs] at h
 obtain ⟨S8, Ik, h⟩ := optI h kN
 try simp only [hs] at h
 simp only [vz, tyf, cQ, dv, di, cM, iE, nm, seval]
 refine ktA (HY _ _ _ _ Ik) ?_
 refine bQ (fun tm => tm 1 = .ptr 0 0 ∧ tm 14 = .lit (.bool true) ∧ tm 17 = .lit (.bool S8) ∧ True) (by refine ⟨dv, ?_, ?_, trivial⟩ <;> first | (simp only [ua, cQ, dv, di, cM, iE, nm, seval] <;> rfl) | rfl) ?_
 rintro tm ⟨fM, dy, dX, _⟩
 cases iW : (S8)
 ·simp only [iW, hs] at h
  try simp only [vz, tyf, cQ, iE, fM, dy, dX, iW, nm, seval]
  obtain rfl := kF _ h
  exact bB results68 rfl
 simp only [iW, hs] at h
 obtain ⟨wO, oN, h⟩ := optI h kN
 try simp only [hs] at h
 simp only [vz, tyf, cQ, iE, fM, dy, dX, iW, nm, seval]
 refine ktA (HY _ _ _ _ oN) ?_
 refine bQ (fun tm => tm 1 = .ptr 0 0 ∧ tm 19 = .lit (.bool true) ∧ tm 22 = .lit (.bool wO) ∧ True) (by refine ⟨fM, ?_, ?_, trivial⟩ <;> first | (simp only [ua, cQ, iE, fM, dy, dX, iW, nm, seval] <;> rfl) | rfl) ?_
 rintro tm ⟨du, d6, dD, _⟩
 cases cO : (wO)
 ·simp only [cO, hs] at h
  try simp only [vz, tyf, cQ, iE, iW, du, d6, dD, cO, nm, seval]
  obtain rfl := kF _ h
  exact bB results68 rfl
 simp only [cO, hs] at h
 obtain ⟨zw, zx, h⟩ := optI h kN
 try simp only [hs] at h
 simp only [vz, tyf, cQ, iE, iW, du, d6, dD, cO, nm, seval]
 refine ktA (rv _ _ _ _ zx) ?_
 refine bQ (fun tm => tm 1 = .ptr 0 0 ∧ tm 24 = .lit (.bool true) ∧ tm 27 = .lit (.bool zw) ∧ True) (by refine ⟨du, ?_, ?_, trivial⟩ <;> first | (simp only [ua, cQ, iE, iW, du, d6, dD, cO, nm, seval] <;> rfl) | rfl) ?_
 rintro tm ⟨gS, gJ, cU, _⟩
 cases gw : (zw)
 ·simp only [gw, hs] at h
  try simp only [vz, tyf, cQ, iE, iW, cO, gS, gJ, cU, gw, nm, seval]
  obtain rfl := kF _ h
  exact bB results68 rfl
 simp only [gw, hs] at h
 obtain ⟨S9, WI, h⟩ := optI h kN
 try simp only [hs] at h
 simp only [vz, tyf, cQ, iE, iW, cO, gS, gJ, cU, gw, nm, seval]
 refine ktA (WB _ _ _ WI) ?_
 refine bQ (fun tm => tm 1 = .ptr 0 0 ∧ tm 29 = .lit (.bool true) ∧ tm 35 = .lit (.bool S9) ∧ True) (by refine ⟨gS, ?_, ?_, trivial⟩ <;> first | (simp only [ua, cQ, iE, iW, cO, gS, gJ, cU, gw, nm, seval] <;> rfl) | rfl) ?_
 rintro tm ⟨cP, dY, cS, _⟩
 cases oh : (S9)
 ·simp only [oh, hs] at h
  try simp only [vz, tyf, cQ, iE, iW, cO, gw, cP, dY, cS, oh, nm, seval]
  obtain rfl := kF _ h
  exact bB results68 rfl
 simp only [oh, hs] at h
 obtain ⟨SA, WJ, h⟩ := optI h kN
 try simp only [hs] at h
 simp only [vz, tyf, cQ, iE, iW, cO, gw, cP, dY, cS, oh, nm, seval]
 refine ktA (rv _ _ _ _ WJ) ?_
 refine bQ (fun tm => tm 1 = .ptr 0 0 ∧ tm 37 = .lit (.bool true) ∧ tm 40 = .lit (.bool SA) ∧ True) (by refine ⟨cP, ?_, ?_, trivial⟩ <;> first | (simp only [ua, cQ, iE, iW, cO, gw, cP, dY, cS, oh, nm, seval] <;> rfl) | rfl) ?_
 rintro tm ⟨fc, fe, fj, _⟩
 cases eA : (SA)
 ·simp only [eA, hs] at h
  have WK := qZj cQ (qZj iE (qZj iW (qZj cO (qZj gw (qZj oh eA)))))
  try simp only [vz, tyf, WK, fc, fe, fj, nm, seval]
  obtain rfl := kF _ h
  exact bB results68 rfl
 simp only [eA, hs] at h
 have Il := qZj cQ (qZj iE (qZj iW (qZj cO (qZj gw (qZj oh eA)))))
 obtain ⟨Dj, Im, h⟩ := optI h kN
 try simp only [hs] at h
 simp only [vz, tyf, Il, fc, fe, fj, nm, seval]
 refine ktA (rv _ _ _ _ Im) ?_
 refine bQ (fun tm => tm 42 = .lit (.bool true) ∧ tm 45 = .lit (.bool Dj) ∧ True) (by refine ⟨?_, ?_, trivial⟩ <;> first | (simp only [ua, Il, fc, fe, fj, nm, seval] <;> rfl) | rfl) ?_
 rintro tm ⟨lX, qu, _⟩
 try simp only [vz, tyf, Il, lX, qu, nm, seval]
 obtain rfl := kF _ h
 exact bB results68 rfl
def lY (iX : Int) (iY : Int) (iF : Int) : Option (Bool) := cond (decide (iX ≥ iY)) (some (decide (iX ≤ iF))) (some false)
theorem oO (iX : Int) (iY : Int) (iF : Int) (R : Bool) (h : lY iX iY iF = some R) : ah prog G0 73 [.lit (.int .i64 iX), .lit (.int .i64 iY), .lit (.int .i64 iF)] (.tree (.lit (.bool R))) := by
 refine ah.runR mixed call73 func73 rfl (by simp [ntmps73]; kernel_rfl) ?_
 obtain ⟨KF, h, kF, kN⟩ := fg h
 simp only [lY] at h
 cases d1 : (decide (iX ≥ iY))
 ·simp only [d1, hs] at h
  try simp only [vz, tyf, d1, nm, seval]
  obtain rfl := kF _ h
  exact bB results73 rfl
 simp only [d1, hs] at h
 try simp only [vz, tyf, d1, nm, seval]
 obtain rfl := kF _ h
 exact bB results73 rfl
def uA (ae : GLs) (aD : Int) : Option (Bool) := Option.bind (lY aD 0 (i64.wrap ((List.length ae.Widths : Int) - 1))) (fun r1 => some r1)
theorem Io (ae : GLs) (aD : Int) (R : Bool) (h : uA ae aD = some R) : ah prog G0 119 [.agg (cGLs ae), .lit (.int .i64 aD)] (.tree (.lit (.bool R))) := by
 refine ah.runR mixed call119 func119 rfl (by simp [ntmps119]; kernel_rfl) ?_
 obtain ⟨KF, h, kF, kN⟩ := fg h
 simp only [uA] at h
 obtain ⟨r2, o3, h⟩ := optI h kN
 try simp only [hs] at h
 simp only [vz, tyf, nm, seval]
 refine ktA (oO _ _ _ _ o3) ?_
 refine bQ (fun tm => tm 10 = .lit (.bool r2) ∧ True) (by refine ⟨?_, trivial⟩ <;> first | (simp only [ua, nm, seval] <;> rfl) | rfl) ?_
 rintro tm ⟨e4, _⟩
 try simp only [vz, tyf, e4, nm, seval]
 obtain rfl := kF _ h
 exact bB results119 rfl
def rB (dg : GLw) : List Int → Int → Option (LOut (Bool) (Unit))
 | [], oP => some (.go ())
 | e1 :: p1, oP => Option.bind (lY e1 1 (i64.wrap ((List.length dg.Signs : Int) - 1))) (fun r3 => cond (r3) (cond (decide (oP > 0)) (Option.bind (getI dg.Cuts (i64.wrap (oP - 1))) (fun x4 => cond (decide (e1 ≤ x4)) (some (.ret false)) (rB dg p1 (oP + 1)))) (rB dg p1 (oP + 1))) (some (.ret false)))
def wP (ae : GLs) : List Int → Int → Option (LOut (Bool) (Unit))
 | [], cN => some (.go ())
 | e0 :: p0, cN => Option.bind (uA ae e0) (fun r1 => cond (r1) (wP ae p0 (cN + 1)) (some (.ret false)))
def zA (ae : GLs) (dg : GLw) : Option (Bool) := cond (lenOk dg.Signs) (lbind (wP ae dg.Signs 0) (fun r8 => some r8) (fun c2 => cond (lenOk dg.Cuts) (lbind (rB dg dg.Cuts 0) (fun r7 => some r7) (fun c5 => Option.bind (lY (List.length dg.Signs : Int) 1 6) (fun r6 => some r6)) (fun _ _ => none)) none) (fun _ _ => none)) none
theorem WL (ae : GLs) (dg : GLw) (R : Bool) (h : zA ae dg = some R) : ah prog G0 74 [.agg (cGLs ae), .agg (cGLw dg)] (.tree (.lit (.bool R))) := by
 refine ah.runR mixed call74 func74 rfl (by simp [ntmps74]; kernel_rfl) ?_
 obtain ⟨KF, h, kF, kN⟩ := fg h
 simp only [zA] at h
 cases eZ : (lenOk dg.Signs)
 ·simp only [eZ, hs] at h
  exact absurd h kN
 simp only [eZ, hs] at h
 simp only [vz, tyf, eZ, nm, seval]
 obtain ⟨K9, h, uu, wE, S4, qt⟩ := iy h kN
 obtain ⟨f9, zt, h⟩ := call2 h
 obtain ⟨I9, lW⟩ : ∃ I : Nat → St → Prop, I = (fun m st => ∃ (p9 : List Int) (jq : Int), m = List.length p9 ∧ 0 ≤ jq ∧ List.drop (Int.toNat jq) dg.Signs = p9 ∧ st.df = [] ∧ 4 ≤ st.nx ∧ st.H 0 = some (.cells (some 28) (cGLs ae)) ∧ st.H 1 = some (.cells (some 79) (cGLw dg)) ∧ st.tm 2 = .ptr 0 0 ∧ st.tm 3 = .ptr 1 0 ∧ st.tm 5 = .lit (.int .i64 jq) ∧ K9 (f9 p9 jq)) := ⟨_, rfl⟩
 refine loopK mixed (by kernel_rfl) I9 (List.length dg.Signs) (by rw [lW]; refine ⟨dg.Signs, 0, rfl, qZf _, rfl, rfl, (show 4 ≤ 4 by omega), ?_, ?_, ?_, ?_, ?_, h⟩ <;> first | (simp only [ua, nm, seval] <;> rfl) | rfl) ?_
 rintro m ⟨tm, H, im, df⟩ ba
 rw [lW] at ba
 obtain ⟨p9, jq, rfl, gk, i5, hdf, zu, iu, jr, bF, bN, cJ, h⟩ := ba
 simp only at hdf zu iu jr bF bN cJ
 have iV := ib (m := 4) (b := im) (by omega)
 subst hdf zt
 cases p9 with
 | nil =>
  have iq : (decide (jq < (List.length dg.Signs : Int))) = false := ic gk i5
  simp only [wP, hs, reduceCtorEq] at h
  replace h := wE _ h
  try dsimp only at h
  try simp only [hs] at h
  cases sM : (lenOk dg.Cuts)
  ·simp only [sM, hs] at h
   exact absurd h kN
  simp only [sM, hs] at h
  simp only [vz, tyf, eZ, iV, bF, bN, cJ, iu, jr, iq, sM, nm, seval]
  obtain ⟨WM, h, zB, Ip, WN, zC⟩ := iy h kN
  obtain ⟨WO, Iq, h⟩ := call2 h
  obtain ⟨WQ, rC⟩ : ∃ I : Nat → St → Prop, I = (fun m st => ∃ (qx : List Int) (fk : Int), m = List.length qx ∧ 0 ≤ fk ∧ List.drop (Int.toNat fk) dg.Cuts = qx ∧ st.df = [] ∧ im + 6 ≤ st.nx ∧ st.H 1 = some (.cells (some 79) (cGLw dg)) ∧ st.tm 3 = .ptr 1 0 ∧ st.tm 6 = .lit (.int .i64 fk) ∧ WM (WO qx fk)) := ⟨_, rfl⟩
  refine loopK mixed (by kernel_rfl) WQ (List.length dg.Cuts) (by rw [rC]; refine ⟨dg.Cuts, 0, rfl, qZf _, rfl, rfl, (show im + 6 ≤ im + 6 by omega), ?_, bN, ?_, h⟩ <;> first | (simp only [ua, iV, bF, bN, cJ, iu, jr, iq, nm, seval] <;> rfl) | rfl) ?_
  rintro m ⟨tm, H, rD, df⟩ ba
  rw [rC] at ba
  obtain ⟨qx, fk, rfl, kP, nv, hdf, Ir, jF, dL, fM, h⟩ := ba
  simp only at hdf Ir jF dL fM
  have wQ := ib (m := 4) (b := rD) (by omega)
  have wR := wo (a := im) (m := 6) (b := rD) (by omega)
  subst hdf Iq
  cases qx with
  | nil =>
   have iW : (decide (fk < (List.length dg.Cuts : Int))) = false := ic kP nv
   simp only [rB, hs, reduceCtorEq] at h
   replace h := Ip _ h
   try dsimp only at h
   try simp only [hs] at h
   obtain ⟨wO, oN, h⟩ := optI h kN
   try simp only [hs] at h
   simp only [vz, tyf, eZ, iV, iq, sM, wQ, wR, dL, fM, jF, iW, nm, seval]
   refine ktA (oO _ _ _ _ oN) ?_
   refine bQ (fun tm => tm 61 = .lit (.bool wO) ∧ True) (by refine ⟨?_, trivial⟩ <;> first | (simp only [ua, iV, iq, wQ, wR, dL, fM, jF, iW, nm, seval] <;> rfl) | rfl) ?_
   rintro tm ⟨du, _⟩
   have uB := qZj eZ (qZj iV (qZj iq (qZj sM (qZj wQ (qZj wR (qZj jF iW))))))
   try simp only [vz, tyf, uB, du, nm, seval]
   obtain rfl := kF _ h
   exact bB results74 rfl
  | cons cM qx =>
   have fX : (decide (fk < (List.length dg.Cuts : Int))) = true := gZ kP nv
   have wS := fA kP nv
   have Is := hC kP nv sM
   simp only [rB, hs, reduceCtorEq] at h
   simp only [vz, tyf, eZ, iV, iq, sM, wQ, wR, dL, fM, jF, fX, (ai wS), Is, nm, seval]
   refine tZ (fun tm => tm 3 = .ptr 1 0 ∧ tm 6 = .lit (.int .i64 fk) ∧ True) (by refine ⟨dL, fM, trivial⟩ <;> first | (simp only [ua, iV, iq, wQ, wR, dL, fM, jF, fX, Is, nm, seval] <;> rfl) | rfl) ?_
   rintro tm ⟨fI, gS, _⟩
   have qy := qZj eZ (qZj iV (qZj iq (qZj sM (qZj wQ (qZj wR (qZj jF (qZj fX Is)))))))
   obtain ⟨zD, It, h⟩ := optI h zC
   try simp only [hs] at h
   simp only [vz, tyf, qy, (ai wS), fI, gS, nm, seval]
   refine dktA (oO _ _ _ _ It) ?_
   refine bQ (fun tm => tm 3 = .ptr 1 0 ∧ tm 6 = .lit (.int .i64 fk) ∧ tm 38 = .lit (.bool zD) ∧ True) (by refine ⟨fI, gS, ?_, trivial⟩ <;> first | (simp only [ua, qy, fI, gS, nm, seval] <;> rfl) | rfl) ?_
   rintro tm ⟨bP, cD, cP, _⟩
   cases cV : (zD)
   ·simp only [cV, hs] at h
    try simp only [vz, tyf, qy, (ai wS), bP, cD, cP, cV, nm, seval]
    replace h := zB _ h
    try dsimp only at h
    obtain rfl := kF _ h
    exact bB results74 rfl
   simp only [cV, hs] at h
   cases dC : (decide (fk > 0))
   ·simp only [dC, hs] at h
    simp only [vz, tyf, qy, (ai wS), bP, cD, cP, cV, dC, nm, seval]
    exact ⟨List.length qx, qZc _, by rw [rC]; refine ⟨qx, fk + 1, rfl, qZl kP (qZk (qZf _)), dm kP nv, rfl, (show im + 6 ≤ rD + 37 by omega), ?_, bP, ?_, (by first | exact h | (simp only [qy, cV, dC]; exact h))⟩ <;> first | (simp only [ua, qy, bP, cD, cP, cV, dC, nm, seval] <;> rfl) | rfl⟩
   simp only [dC, hs] at h
   obtain ⟨WR, Dk, h⟩ := optI h zC
   try simp only [hs] at h
   cases fE : (decide (cM ≤ WR))
   ·simp only [fE, hs] at h
    simp only [vz, tyf, qy, (ai wS), bP, cD, cP, cV, dC, (ai Dk), fE, nm, seval]
    exact ⟨List.length qx, qZc _, by rw [rC]; refine ⟨qx, fk + 1, rfl, qZl kP (qZk (qZf _)), dm kP nv, rfl, (show im + 6 ≤ rD + 37 by omega), ?_, bP, ?_, (by first | exact h | (simp only [qy, cV, dC, fE]; exact h))⟩ <;> first | (simp only [ua, qy, bP, cD, cP, cV, dC, fE, nm, seval] <;> rfl) | rfl⟩
   simp only [fE, hs] at h
   try simp only [vz, tyf, qy, (ai wS), bP, cD, cP, cV, dC, (ai Dk), fE, nm, seval]
   replace h := zB _ h
   try dsimp only at h
   obtain rfl := kF _ h
   exact bB results74 rfl
 | cons e9 p9 =>
  have wT : (decide (jq < (List.length dg.Signs : Int))) = true := gZ gk i5
  have fW := fA gk i5
  have wU := hC gk i5 eZ
  simp only [wP, hs, reduceCtorEq] at h
  simp only [vz, tyf, eZ, iV, bF, bN, cJ, iu, jr, wT, (ai fW), wU, nm, seval]
  refine tZ (fun tm => tm 2 = .ptr 0 0 ∧ tm 3 = .ptr 1 0 ∧ tm 5 = .lit (.int .i64 jq) ∧ True) (by refine ⟨bF, bN, cJ, trivial⟩ <;> first | (simp only [ua, iV, bF, bN, cJ, iu, jr, wT, wU, nm, seval] <;> rfl) | rfl) ?_
  rintro tm ⟨dR, dq, dt, _⟩
  obtain ⟨Dj, Im, h⟩ := optI h qt
  try simp only [hs] at h
  simp only [vz, tyf, eZ, iV, iu, jr, wT, (ai fW), wU, dR, dq, dt, nm, seval]
  refine dktA (Io _ _ _ Im) ?_
  refine bQ (fun tm => tm 2 = .ptr 0 0 ∧ tm 3 = .ptr 1 0 ∧ tm 5 = .lit (.int .i64 jq) ∧ tm 20 = .lit (.bool Dj) ∧ True) (by refine ⟨dR, dq, dt, ?_, trivial⟩ <;> first | (simp only [ua, iV, iu, jr, wT, wU, dR, dq, dt, nm, seval] <;> rfl) | rfl) ?_
  rintro tm ⟨lX, qu, kM, oo, _⟩
  cases ra : (Dj)
  ·simp only [ra, hs] at h
   have tW := qZj eZ (qZj iV (qZj iu (qZj jr (qZj wT (qZj wU ra)))))
   try simp only [vz, tyf, tW, (ai fW), lX, qu, kM, oo, nm, seval]
   replace h := uu _ h
   try dsimp only at h
   obtain rfl := kF _ h
   exact bB results74 rfl
  simp only [ra, hs] at h
  have m8 := qZj eZ (qZj iV (qZj iu (qZj jr (qZj wT (qZj wU ra)))))
  simp only [vz, tyf, m8, (ai fW), lX, qu, kM, oo, nm, seval]
  exact ⟨List.length p9, qZc _, by rw [lW]; refine ⟨p9, jq + 1, rfl, qZl gk (qZk (qZf _)), dm gk i5, rfl, (show 4 ≤ im + 16 by omega), ?_, ?_, lX, qu, ?_, (by first | exact h | (simp only [m8]; exact h))⟩ <;> first | (simp only [ua, m8, lX, qu, kM, oo, nm, seval] <;> rfl) | rfl⟩
def uC (ae : GSpan) (fJ : Int) : Option (Bool) := Option.bind (lY ae.Low 0 fJ) (fun r1 => cond (r1) (Option.bind (lY ae.High ae.Low fJ) (fun r2 => some r2)) (some false))
theorem Iu (ae : GSpan) (fJ : Int) (R : Bool) (h : uC ae fJ = some R) : ah prog G0 76 [.agg (cGSpan ae), .lit (.int .i64 fJ)] (.tree (.lit (.bool R))) := by
 refine ah.runR mixed call76 func76 rfl (by simp [ntmps76]; kernel_rfl) ?_
 obtain ⟨KF, h, kF, kN⟩ := fg h
 simp only [uC] at h
 obtain ⟨r3, o4, h⟩ := optI h kN
 try simp only [hs] at h
 simp only [vz, tyf, nm, seval]
 refine ktA (oO _ _ _ _ o4) ?_
 refine bQ (fun tm => tm 1 = .lit (.int .i64 fJ) ∧ tm 2 = .ptr 0 0 ∧ tm 8 = .lit (.bool r3) ∧ True) (by refine ⟨?_, ?_, ?_, trivial⟩ <;> first | (simp only [ua, nm, seval] <;> rfl) | rfl) ?_
 rintro tm ⟨e5, e6, e7, _⟩
 cases d8 : (r3)
 ·simp only [d8, hs] at h
  try simp only [vz, tyf, e5, e6, e7, d8, nm, seval]
  obtain rfl := kF _ h
  exact bB results76 rfl
 simp only [d8, hs] at h
 obtain ⟨r9, Ij, h⟩ := optI h kN
 try simp only [hs] at h
 simp only [vz, tyf, e5, e6, e7, d8, nm, seval]
 refine ktA (oO _ _ _ _ Ij) ?_
 refine bQ (fun tm => tm 9 = .lit (.bool true) ∧ tm 15 = .lit (.bool r9) ∧ True) (by refine ⟨?_, ?_, trivial⟩ <;> first | (simp only [ua, e5, e6, e7, d8, nm, seval] <;> rfl) | rfl) ?_
 rintro tm ⟨aB, aL, _⟩
 try simp only [vz, tyf, d8, aB, aL, nm, seval]
 obtain rfl := kF _ h
 exact bB results76 rfl
theorem ah.runRQ {P : Program} {G : Gb} (hm : P.follows .mixedOrders = true) {f : FuncId} {fn : Func} {code : Code} {args : List VV} {r : PRes} (hc : Callable P f) (hf : P.funcs[f]? = some fn) (hb : fn.body = some code)
  (hst : (decide (args.length ≤ fn.ntmps) && codeQ fn.ntmps code) = true) (h : CWp P (G.at (some none)) fn.ntmps code (OpenPostD P G fn (RR r) (RPn r)) { tm := bk args, H := fun _ => none, nx := 0, df := [] }) : ah P G f args r := by
 rw [Bool.and_eq_true] at hst
 exact ah.runR hm hc hf hb (by rw [Bool.and_eq_true]; exact ⟨hst.1, oQ hst.2⟩) h
def qz (ae : GLs) : List GLp → Int → Option (LOut (Bool) (Unit))
 | [], ep => some (.go ())
 | e0 :: p0, ep => Option.bind (uA ae e0.Left) (fun r1 => cond (r1) (Option.bind (uA ae e0.Right) (fun r2 => cond (r2) (Option.bind (uC e0.Space 9) (fun r3 => cond (r3) (cond (decide (ep > 0)) (Option.bind (getI ae.Pairs (i64.wrap (ep - 1))) (fun x4 => cond (decide (x4.Left > e0.Left)) (some (.ret false)) (cond (x4.Left == e0.Left) (cond (decide (x4.Right ≥ e0.Right)) (some (.ret false)) (qz ae p0 (ep + 1))) (qz ae p0 (ep + 1))))) (qz ae p0 (ep + 1))) (some (.ret false)))) (some (.ret false)))) (some (.ret false)))
def zE (ae : GLs) : Option (Bool) := cond (lenOk ae.Pairs) (lbind (qz ae ae.Pairs 0) (fun r6 => some r6) (fun c5 => some (decide ((List.length ae.Pairs : Int) ≤ 6))) (fun _ _ => none)) none
theorem WS (ae : GLs) (R : Bool) (h : zE ae = some R) : ah prog G0 75 [.agg (cGLs ae)] (.tree (.lit (.bool R))) := by
 refine ah.runRQ mixed call75 func75 rfl (by simp [ntmps75]; kernel_rfl) ?_
 obtain ⟨KF, h, kF, kN⟩ := fg h
 simp only [zE] at h
 cases g8 : (lenOk ae.Pairs)
 ·simp only [g8, hs] at h
  exact absurd h kN
 simp only [g8, hs] at h
 simp only [vz, tyf, g8, nm, seval]
 obtain ⟨K7, h, wW, wX, WT, uD⟩ := iy h kN
 obtain ⟨f7, Iv, h⟩ := call2 h
 obtain ⟨I7, q9⟩ : ∃ I : Nat → St → Prop, I = (fun m st => ∃ (p7 : List GLp) (gy : Int), m = List.length p7 ∧ 0 ≤ gy ∧ List.drop (Int.toNat gy) ae.Pairs = p7 ∧ st.df = [] ∧ 3 ≤ st.nx ∧ st.H 0 = some (.cells (some 28) (cGLs ae)) ∧ st.tm 1 = .ptr 0 0 ∧ st.tm 3 = .lit (.int .i64 gy) ∧ K7 (f7 p7 gy)) := ⟨_, rfl⟩
 refine loopK mixed (oQ (by kernel_rfl)) I7 (List.length ae.Pairs) (by rw [q9]; refine ⟨ae.Pairs, 0, rfl, qZf _, rfl, rfl, (show 3 ≤ 3 by omega), ?_, ?_, ?_, h⟩ <;> first | (simp only [ua, nm, seval] <;> rfl) | rfl) ?_
 rintro m ⟨tm, H, fa, df⟩ ba
 rw [q9] at ba
 obtain ⟨p7, gy, rfl, iZ, kj, hdf, Iw, H9, aE, aB, h⟩ := ba
 simp only at hdf Iw H9 aE aB
 have kO := ib (m := 3) (b := fa) (by omega)
 subst hdf Iv
 cases p7 with
 | nil =>
  have cQ : (decide (gy < (List.length ae.Pairs : Int))) = false := ic iZ kj
  simp only [qz, hs, reduceCtorEq] at h
  replace h := wX _ h
  try dsimp only at h
  try simp only [hs] at h
  try simp only [vz, tyf, g8, kO, aE, aB, H9, cQ, nm, seval]
  obtain rfl := kF _ h
  exact bB results75 rfl
 | cons e7 p7 =>
  have cy : (decide (gy < (List.length ae.Pairs : Int))) = true := gZ iZ kj
  have lB := fA iZ kj
  have uE := hC iZ kj g8
  simp only [qz, hs, reduceCtorEq] at h
  obtain ⟨SB, re, h⟩ := optI h uD
  try simp only [hs] at h
  simp only [vz, tyf, g8, kO, aE, aB, H9, cy, (cL lB), uE, nm, seval]
  refine ktA (Io _ _ _ re) ?_
  refine bQ (fun tm => tm 1 = .ptr 0 0 ∧ tm 3 = .lit (.int .i64 gy) ∧ tm 4 = .ptr (fa + 10) 0 ∧ tm 20 = .lit (.bool SB) ∧ True) (by refine ⟨aE, aB, ?_, ?_, trivial⟩ <;> first | (simp only [ua, kO, aE, aB, H9, cy, uE, nm, seval] <;> rfl) | rfl) ?_
  rintro tm ⟨fm, gM, dL, fM, _⟩
  cases lZ : (SB)
  ·simp only [lZ, hs] at h
   try simp only [vz, tyf, g8, kO, H9, cy, (cL lB), uE, fm, gM, dL, fM, lZ, nm, seval]
   replace h := wW _ h
   try dsimp only at h
   obtain rfl := kF _ h
   exact bB results75 rfl
  simp only [lZ, hs] at h
  obtain ⟨z7, wK, h⟩ := optI h uD
  try simp only [hs] at h
  simp only [vz, tyf, g8, kO, H9, cy, (cL lB), uE, fm, gM, dL, fM, lZ, nm, seval]
  refine ktA (Io _ _ _ wK) ?_
  refine bQ (fun tm => tm 1 = .ptr 0 0 ∧ tm 3 = .lit (.int .i64 gy) ∧ tm 4 = .ptr (fa + 10) 0 ∧ tm 22 = .lit (.bool false) ∧ tm 26 = .lit (.bool z7) ∧ True) (by refine ⟨fm, gM, dL, ?_, ?_, trivial⟩ <;> first | (simp only [ua, kO, H9, cy, uE, fm, gM, dL, fM, lZ, nm, seval] <;> rfl) | rfl) ?_
  rintro tm ⟨cK, dk, du, d6, dD, _⟩
  cases cO : (z7)
  ·simp only [cO, hs] at h
   have WU := qZj g8 (qZj kO (qZj H9 (qZj cy (qZj uE (qZj lZ cO)))))
   try simp only [vz, tyf, WU, (cL lB), cK, dk, du, d6, dD, nm, seval]
   replace h := wW _ h
   try dsimp only at h
   obtain rfl := kF _ h
   exact bB results75 rfl
  simp only [cO, hs] at h
  have lC := qZj g8 (qZj kO (qZj H9 (qZj cy (qZj uE (qZj lZ cO)))))
  obtain ⟨z8, sK, h⟩ := optI h uD
  try simp only [hs] at h
  simp only [vz, tyf, lC, (cL lB), cK, dk, du, d6, dD, nm, seval]
  refine ktA (Iu _ _ _ sK) ?_
  refine bQ (fun tm => tm 1 = .ptr 0 0 ∧ tm 3 = .lit (.int .i64 gy) ∧ tm 4 = .ptr (fa + 10) 0 ∧ tm 29 = .lit (.bool false) ∧ tm 32 = .lit (.bool z8) ∧ True) (by refine ⟨cK, dk, du, ?_, ?_, trivial⟩ <;> first | (simp only [ua, lC, cK, dk, du, d6, dD, nm, seval] <;> rfl) | rfl) ?_
  rintro tm ⟨cU, cC, bP, cD, cP, _⟩
  cases cV : (z8)
  ·simp only [cV, hs] at h
   try simp only [vz, tyf, lC, (cL lB), cU, cC, bP, cD, cP, cV, nm, seval]
   replace h := wW _ h
   try dsimp only at h
   obtain rfl := kF _ h
   exact bB results75 rfl
  simp only [cV, hs] at h
  simp only [vz, tyf, lC, (cL lB), cU, cC, bP, cD, cP, cV, nm, seval]
  refine tZ (fun tm => tm 1 = .ptr 0 0 ∧ tm 3 = .lit (.int .i64 gy) ∧ tm 4 = .ptr (fa + 10) 0 ∧ True) (by refine ⟨cU, cC, bP, trivial⟩ <;> first | (simp only [ua, lC, cU, cC, bP, cD, cP, cV, nm, seval] <;> rfl) | rfl) ?_
  rintro tm ⟨cS, dM, cA, _⟩
  cases fE : (decide (gy > 0))
  ·simp only [fE, hs] at h
   simp only [vz, tyf, lC, (cL lB), cV, cS, dM, cA, fE, nm, seval]
   exact ⟨List.length p7, qZc _, by rw [q9]; refine ⟨p7, gy + 1, rfl, qZl iZ (qZk (qZf _)), dm iZ kj, rfl, (show 3 ≤ fa + 71 by omega), ?_, cS, ?_, (by first | exact h | (simp only [lC, cV, fE]; exact h))⟩ <;> first | (simp only [ua, lC, cV, cS, dM, cA, fE, nm, seval] <;> rfl) | rfl⟩
  simp only [fE, hs] at h
  obtain ⟨Ix, wF, h⟩ := optI h uD
  try simp only [hs] at h
  cases qA : (decide (Ix.Left > e7.Left))
  ·simp only [qA, hs] at h
   cases eA : (Ix.Left == e7.Left)
   ·simp only [eA, hs] at h
    simp only [vz, tyf, lC, (cL lB), cV, cS, dM, cA, fE, (cL wF), qA, eA, nm, seval]
    exact ⟨List.length p7, qZc _, by rw [q9]; refine ⟨p7, gy + 1, rfl, qZl iZ (qZk (qZf _)), dm iZ kj, rfl, (show 3 ≤ fa + 71 by omega), ?_, cS, ?_, (by first | exact h | (simp only [lC, cV, fE, qA, eA]; exact h))⟩ <;> first | (simp only [ua, lC, cV, cS, dM, cA, fE, qA, eA, nm, seval] <;> rfl) | rfl⟩
   simp only [eA, hs] at h
   cases wY : (decide (Ix.Right ≥ e7.Right))
   ·simp only [wY, hs] at h
    simp only [vz, tyf, lC, (cL lB), cV, cS, dM, cA, fE, (cL wF), qA, eA, wY, nm, seval]
    exact ⟨List.length p7, qZc _, by rw [q9]; refine ⟨p7, gy + 1, rfl, qZl iZ (qZk (qZf _)), dm iZ kj, rfl, (show 3 ≤ fa + 71 by omega), ?_, cS, ?_, (by first | exact h | (simp only [lC, cV, fE, qA, eA, wY]; exact h))⟩ <;> first | (simp only [ua, lC, cV, cS, dM, cA, fE, qA, eA, wY, nm, seval] <;> rfl) | rfl⟩
   simp only [wY, hs] at h
   try simp only [vz, tyf, lC, (cL lB), cV, cS, dM, cA, fE, (cL wF), qA, eA, wY, nm, seval]
   replace h := wW _ h
   try dsimp only at h
   obtain rfl := kF _ h
   exact bB results75 rfl
  simp only [qA, hs] at h
  try simp only [vz, tyf, lC, (cL lB), cV, cS, dM, cA, fE, (cL wF), qA, nm, seval]
  replace h := wW _ h
  try dsimp only at h
  obtain rfl := kF _ h
  exact bB results75 rfl
def zF (iX : Int) : Option (Bool) := Option.bind (lY iX 1 400) (fun r1 => some r1)
theorem WV (iX : Int) (R : Bool) (h : zF iX = some R) : ah prog G0 57 [.lit (.int .i64 iX)] (.tree (.lit (.bool R))) := by
 refine ah.runR mixed call57 func57 rfl (by simp [ntmps57]; kernel_rfl) ?_
 obtain ⟨KF, h, kF, kN⟩ := fg h
 simp only [zF] at h
 obtain ⟨r2, o3, h⟩ := optI h kN
 try simp only [hs] at h
 simp only [vz, tyf, nm, seval]
 refine ktA (oO _ _ _ _ o3) ?_
 refine bQ (fun tm => tm 4 = .lit (.bool r2) ∧ True) (by refine ⟨?_, trivial⟩ <;> first | (simp only [ua, nm, seval] <;> rfl) | rfl) ?_
 rintro tm ⟨e4, _⟩
 try simp only [vz, tyf, e4, nm, seval]
 obtain rfl := kF _ h
 exact bB results57 rfl
def wZ (ae : GLs) : List GLw → Int → Option (LOut (Bool) (Unit))
 | [], zG => some (.go ())
 | e1 :: p1, zG => Option.bind (zA ae e1) (fun r3 => cond (r3) (wZ ae p1 (zG + 1)) (some (.ret false)))
def xa  : List Int → Int → Option (LOut (Bool) (Unit))
 | [], ep => some (.go ())
 | e0 :: p0, ep => Option.bind (lY e0 1 20) (fun r1 => cond (r1) (xa p0 (ep + 1)) (some (.ret false)))
def zH (ae : GLs) : Option (Bool) := cond (lenOk ae.Widths) (lbind (xa ae.Widths 0) (fun wJ => some wJ) (fun c2 => cond (lenOk ae.Words) (lbind (wZ ae ae.Words 0) (fun E5 => some E5) (fun c4 => Option.bind (lY (List.length ae.Widths : Int) 1 6) (fun r5 => cond (r5) (Option.bind (zE ae) (fun r6 => cond (r6) (Option.bind (uC ae.Other 9) (fun r7 => cond (r7) (Option.bind (uC ae.Gap 20) (fun r8 => cond (r8) (Option.bind (lY ae.Hyphen 1 20) (fun r9 => cond (r9) (Option.bind (lY (List.length ae.Words : Int) 1 4) (fun nT => cond (nT) (Option.bind (zF ae.Wide) (fun lD => cond (lD) (Option.bind (lY ae.Rows 1 3) (fun ky => some ky)) (some false))) (some false))) (some false))) (some false))) (some false))) (some false))) (some false))) (fun _ _ => none)) none) (fun _ _ => none)) none
theorem WX (ae : GLs) (R : Bool) (h : zH ae = some R) : ah prog G0 22 [.agg (cGLs ae)] (.tree (.lit (.bool R))) := by
 refine ah.runR mixed call22 func22 rfl (by simp [ntmps22]; kernel_rfl) ?_
 obtain ⟨KF, h, kF, kN⟩ := fg h
 simp only [zH] at h
 cases oq : (lenOk ae.Widths)
 ·simp only [oq, hs] at h
  exact absurd h kN
 simp only [oq, hs] at h
 simp only [vz, tyf, oq, nm, seval]
 obtain ⟨WY, h, Iy, Iz, WZ, I0⟩ := iy h kN
 obtain ⟨Xa, I1, h⟩ := call2 h
 obtain ⟨Xb, uF⟩ : ∃ I : Nat → St → Prop, I = (fun m st => ∃ (sN : List Int) (gN : Int), m = List.length sN ∧ 0 ≤ gN ∧ List.drop (Int.toNat gN) ae.Widths = sN ∧ st.df = [] ∧ 3 ≤ st.nx ∧ st.H 0 = some (.cells (some 28) (cGLs ae)) ∧ st.tm 1 = .ptr 0 0 ∧ st.tm 3 = .lit (.int .i64 gN) ∧ WY (Xa sN gN)) := ⟨_, rfl⟩
 refine loopK mixed (by kernel_rfl) Xb (List.length ae.Widths) (by rw [uF]; refine ⟨ae.Widths, 0, rfl, qZf _, rfl, rfl, (show 3 ≤ 3 by omega), ?_, ?_, ?_, h⟩ <;> first | (simp only [ua, nm, seval] <;> rfl) | rfl) ?_
 rintro m ⟨tm, H, ma, df⟩ ba
 rw [uF] at ba
 obtain ⟨sN, gN, rfl, ny, oR, hdf, I2, jZ, cM, fm, h⟩ := ba
 simp only at hdf I2 jZ cM fm
 have nz := ib (m := 3) (b := ma) (by omega)
 subst hdf I1
 cases sN with
 | nil =>
  have lA : (decide (gN < (List.length ae.Widths : Int))) = false := ic ny oR
  simp only [xa, hs, reduceCtorEq] at h
  replace h := Iz _ h
  try dsimp only at h
  try simp only [hs] at h
  cases kQ : (lenOk ae.Words)
  ·simp only [kQ, hs] at h
   exact absurd h kN
  simp only [kQ, hs] at h
  simp only [vz, tyf, oq, nz, cM, fm, jZ, lA, kQ, nm, seval]
  obtain ⟨Xc, h, I8, IA, Xd, IB⟩ := iy h kN
  obtain ⟨Xe, IC, h⟩ := call2 h
  obtain ⟨Xf, uG⟩ : ∃ I : Nat → St → Prop, I = (fun m st => ∃ (sO : List GLw) (gm : Int), m = List.length sO ∧ 0 ≤ gm ∧ List.drop (Int.toNat gm) ae.Words = sO ∧ st.df = [] ∧ ma + 6 ≤ st.nx ∧ st.H 0 = some (.cells (some 28) (cGLs ae)) ∧ st.tm 1 = .ptr 0 0 ∧ st.tm 4 = .lit (.int .i64 gm) ∧ Xc (Xe sO gm)) := ⟨_, rfl⟩
  refine loopK mixed (by kernel_rfl) Xf (List.length ae.Words) (by rw [uG]; refine ⟨ae.Words, 0, rfl, qZf _, rfl, rfl, (show ma + 6 ≤ ma + 6 by omega), ?_, cM, ?_, h⟩ <;> first | (simp only [ua, nz, cM, fm, jZ, lA, nm, seval] <;> rfl) | rfl) ?_
  rintro m ⟨tm, H, uH, df⟩ ba
  rw [uG] at ba
  obtain ⟨sO, gm, rfl, nA, oS, hdf, ID, uI, dj, cK, h⟩ := ba
  simp only at hdf ID uI dj cK
  have xb := ib (m := 3) (b := uH) (by omega)
  have j6 := wo (a := ma) (m := 6) (b := uH) (by omega)
  subst hdf IC
  cases sO with
  | nil =>
   have lH : (decide (gm < (List.length ae.Words : Int))) = false := ic nA oS
   simp only [wZ, hs, reduceCtorEq] at h
   replace h := IA _ h
   try dsimp only at h
   try simp only [hs] at h
   obtain ⟨SC, Xg, h⟩ := optI h kN
   try simp only [hs] at h
   simp only [vz, tyf, oq, nz, lA, kQ, xb, j6, dj, cK, uI, lH, nm, seval]
   refine ktA (oO _ _ _ _ Xg) ?_
   refine bQ (fun tm => tm 1 = .ptr 0 0 ∧ tm 37 = .lit (.bool SC) ∧ True) (by refine ⟨dj, ?_, trivial⟩ <;> first | (simp only [ua, nz, lA, xb, j6, dj, cK, uI, lH, nm, seval] <;> rfl) | rfl) ?_
   rintro tm ⟨hY, fI, _⟩
   have kR := qZj oq (qZj nz (qZj lA (qZj kQ (qZj xb (qZj j6 (qZj uI lH))))))
   cases iG : (SC)
   ·simp only [iG, hs] at h
    try simp only [vz, tyf, kR, hY, fI, iG, nm, seval]
    obtain rfl := kF _ h
    exact bB results22 rfl
   simp only [iG, hs] at h
   obtain ⟨zD, It, h⟩ := optI h kN
   try simp only [hs] at h
   simp only [vz, tyf, kR, hY, fI, iG, nm, seval]
   refine ktA (WS _ _ It) ?_
   refine bQ (fun tm => tm 1 = .ptr 0 0 ∧ tm 38 = .lit (.bool true) ∧ tm 40 = .lit (.bool zD) ∧ True) (by refine ⟨hY, ?_, ?_, trivial⟩ <;> first | (simp only [ua, kR, hY, fI, iG, nm, seval] <;> rfl) | rfl) ?_
   rintro tm ⟨bP, cD, cP, _⟩
   cases cV : (zD)
   ·simp only [cV, hs] at h
    try simp only [vz, tyf, kR, iG, bP, cD, cP, cV, nm, seval]
    obtain rfl := kF _ h
    exact bB results22 rfl
   simp only [cV, hs] at h
   obtain ⟨iB, Fi, h⟩ := optI h kN
   try simp only [hs] at h
   simp only [vz, tyf, kR, iG, bP, cD, cP, cV, nm, seval]
   refine ktA (Iu _ _ _ Fi) ?_
   refine bQ (fun tm => tm 1 = .ptr 0 0 ∧ tm 42 = .lit (.bool true) ∧ tm 45 = .lit (.bool iB) ∧ True) (by refine ⟨bP, ?_, ?_, trivial⟩ <;> first | (simp only [ua, kR, iG, bP, cD, cP, cV, nm, seval] <;> rfl) | rfl) ?_
   rintro tm ⟨cA, fb, fc, _⟩
   cases i6 : (iB)
   ·simp only [i6, hs] at h
    try simp only [vz, tyf, kR, iG, cV, cA, fb, fc, i6, nm, seval]
    obtain rfl := kF _ h
    exact bB results22 rfl
   simp only [i6, hs] at h
   obtain ⟨SD, Xh, h⟩ := optI h kN
   try simp only [hs] at h
   simp only [vz, tyf, kR, iG, cV, cA, fb, fc, i6, nm, seval]
   refine ktA (Iu _ _ _ Xh) ?_
   refine bQ (fun tm => tm 1 = .ptr 0 0 ∧ tm 47 = .lit (.bool true) ∧ tm 50 = .lit (.bool SD) ∧ True) (by refine ⟨cA, ?_, ?_, trivial⟩ <;> first | (simp only [ua, kR, iG, cV, cA, fb, fc, i6, nm, seval] <;> rfl) | rfl) ?_
   rintro tm ⟨dq, dt, dF, _⟩
   cases k6 : (SD)
   ·simp only [k6, hs] at h
    try simp only [vz, tyf, kR, iG, cV, i6, dq, dt, dF, k6, nm, seval]
    obtain rfl := kF _ h
    exact bB results22 rfl
   simp only [k6, hs] at h
   obtain ⟨ot, zI, h⟩ := optI h kN
   try simp only [hs] at h
   simp only [vz, tyf, kR, iG, cV, i6, dq, dt, dF, k6, nm, seval]
   refine ktA (oO _ _ _ _ zI) ?_
   refine bQ (fun tm => tm 1 = .ptr 0 0 ∧ tm 52 = .lit (.bool true) ∧ tm 55 = .lit (.bool ot) ∧ True) (by refine ⟨dq, ?_, ?_, trivial⟩ <;> first | (simp only [ua, kR, iG, cV, i6, dq, dt, dF, k6, nm, seval] <;> rfl) | rfl) ?_
   rintro tm ⟨kM, oo, mG, _⟩
   cases uJ : (ot)
   ·simp only [uJ, hs] at h
    try simp only [vz, tyf, kR, iG, cV, i6, k6, kM, oo, mG, uJ, nm, seval]
    obtain rfl := kF _ h
    exact bB results22 rfl
   simp only [uJ, hs] at h
   obtain ⟨SE, Xi, h⟩ := optI h kN
   try simp only [hs] at h
   simp only [vz, tyf, kR, iG, cV, i6, k6, kM, oo, mG, uJ, nm, seval]
   refine ktA (oO _ _ _ _ Xi) ?_
   refine bQ (fun tm => tm 1 = .ptr 0 0 ∧ tm 57 = .lit (.bool true) ∧ tm 61 = .lit (.bool SE) ∧ True) (by refine ⟨kM, ?_, ?_, trivial⟩ <;> first | (simp only [ua, kR, iG, cV, i6, k6, kM, oo, mG, uJ, nm, seval] <;> rfl) | rfl) ?_
   rintro tm ⟨ka, k8, lL, _⟩
   cases jn : (SE)
   ·simp only [jn, hs] at h
    have kS := qZj kR (qZj iG (qZj cV (qZj i6 (qZj k6 (qZj uJ jn)))))
    try simp only [vz, tyf, kS, ka, k8, lL, nm, seval]
    obtain rfl := kF _ h
    exact bB results22 rfl
   simp only [jn, hs] at h
   have xc := qZj kR (qZj iG (qZj cV (qZj i6 (qZj k6 (qZj uJ jn)))))
   obtain ⟨zz, HZ, h⟩ := optI h kN
   try simp only [hs] at h
   simp only [vz, tyf, xc, ka, k8, lL, nm, seval]
   refine ktA (WV _ _ HZ) ?_
   refine bQ (fun tm => tm 1 = .ptr 0 0 ∧ tm 63 = .lit (.bool true) ∧ tm 66 = .lit (.bool zz) ∧ True) (by refine ⟨ka, ?_, ?_, trivial⟩ <;> first | (simp only [ua, xc, ka, k8, lL, nm, seval] <;> rfl) | rfl) ?_
   rintro tm ⟨fF, sD, sF, _⟩
   cases xd : (zz)
   ·simp only [xd, hs] at h
    try simp only [vz, tyf, xc, fF, sD, sF, xd, nm, seval]
    obtain rfl := kF _ h
    exact bB results22 rfl
   simp only [xd, hs] at h
   obtain ⟨Xj, Xk, h⟩ := optI h kN
   try simp only [hs] at h
   simp only [vz, tyf, xc, fF, sD, sF, xd, nm, seval]
   refine ktA (oO _ _ _ _ Xk) ?_
   refine bQ (fun tm => tm 68 = .lit (.bool true) ∧ tm 71 = .lit (.bool Xj) ∧ True) (by refine ⟨?_, ?_, trivial⟩ <;> first | (simp only [ua, xc, fF, sD, sF, xd, nm, seval] <;> rfl) | rfl) ?_
   rintro tm ⟨ry, ga, _⟩
   try simp only [vz, tyf, xc, xd, ry, ga, nm, seval]
   obtain rfl := kF _ h
   exact bB results22 rfl
  | cons fM sO =>
   have IE : (decide (gm < (List.length ae.Words : Int))) = true := gZ nA oS
   have sP := fA nA oS
   have IF := hC nA oS kQ
   simp only [wZ, hs, reduceCtorEq] at h
   simp only [vz, tyf, oq, nz, lA, kQ, xb, j6, dj, cK, uI, IE, (aF sP), IF, nm, seval]
   refine tZ (fun tm => tm 1 = .ptr 0 0 ∧ tm 4 = .lit (.int .i64 gm) ∧ True) (by refine ⟨dj, cK, trivial⟩ <;> first | (simp only [ua, nz, lA, xb, j6, dj, cK, uI, IE, IF, nm, seval] <;> rfl) | rfl) ?_
   rintro tm ⟨fB, fC, _⟩
   have xe := qZj oq (qZj nz (qZj lA (qZj kQ (qZj xb (qZj j6 (qZj uI (qZj IE IF)))))))
   obtain ⟨SF, bK, h⟩ := optI h IB
   try simp only [hs] at h
   simp only [vz, tyf, xe, (aF sP), fB, fC, nm, seval]
   refine dktA (WL _ _ _ bK) ?_
   refine bQ (fun tm => tm 1 = .ptr 0 0 ∧ tm 4 = .lit (.int .i64 gm) ∧ tm 32 = .lit (.bool SF) ∧ True) (by refine ⟨fB, fC, ?_, trivial⟩ <;> first | (simp only [ua, xe, fB, fC, nm, seval] <;> rfl) | rfl) ?_
   rintro tm ⟨fv, fO, iz, _⟩
   cases dO : (SF)
   ·simp only [dO, hs] at h
    try simp only [vz, tyf, xe, (aF sP), fv, fO, iz, dO, nm, seval]
    replace h := I8 _ h
    try dsimp only at h
    obtain rfl := kF _ h
    exact bB results22 rfl
   simp only [dO, hs] at h
   simp only [vz, tyf, xe, (aF sP), fv, fO, iz, dO, nm, seval]
   exact ⟨List.length sO, qZc _, by rw [uG]; refine ⟨sO, gm + 1, rfl, qZl nA (qZk (qZf _)), dm nA oS, rfl, (show ma + 6 ≤ uH + 16 by omega), ?_, fv, ?_, (by first | exact h | (simp only [xe, dO]; exact h))⟩ <;> first | (simp only [ua, xe, fv, fO, iz, dO, nm, seval] <;> rfl) | rfl⟩
 | cons cJ sN =>
  have xf : (decide (gN < (List.length ae.Widths : Int))) = true := gZ ny oR
  have IG := fA ny oR
  have zJ := hC ny oR oq
  simp only [xa, hs, reduceCtorEq] at h
  obtain ⟨SG, Xl, h⟩ := optI h I0
  try simp only [hs] at h
  simp only [vz, tyf, oq, nz, cM, fm, jZ, xf, (ai IG), zJ, nm, seval]
  refine ktA (oO _ _ _ _ Xl) ?_
  refine bQ (fun tm => tm 1 = .ptr 0 0 ∧ tm 3 = .lit (.int .i64 gN) ∧ tm 17 = .lit (.bool SG) ∧ True) (by refine ⟨cM, fm, ?_, trivial⟩ <;> first | (simp only [ua, nz, cM, fm, jZ, xf, zJ, nm, seval] <;> rfl) | rfl) ?_
  rintro tm ⟨sQ, uK, uL, _⟩
  cases xg : (SG)
  ·simp only [xg, hs] at h
   try simp only [vz, tyf, oq, nz, jZ, xf, (ai IG), zJ, sQ, uK, uL, xg, nm, seval]
   replace h := Iy _ h
   try dsimp only at h
   obtain rfl := kF _ h
   exact bB results22 rfl
  simp only [xg, hs] at h
  simp only [vz, tyf, oq, nz, jZ, xf, (ai IG), zJ, sQ, uK, uL, xg, nm, seval]
  exact ⟨List.length sN, qZc _, by rw [uF]; refine ⟨sN, gN + 1, rfl, qZl ny (qZk (qZf _)), dm ny oR, rfl, (show 3 ≤ ma + 15 by omega), ?_, sQ, ?_, (by first | exact h | (simp only [xf, xg]; exact h))⟩ <;> first | (simp only [ua, nz, jZ, xf, zJ, sQ, uK, uL, xg, nm, seval] <;> rfl) | rfl⟩
def xh  : List GLw → Int → Option (LOut (Bool) (Unit))
 | [], ep => some (.go ())
 | e0 :: p0, ep => cond (decide (ep < 6)) (cond (decide ((List.length e0.Signs : Int) > 8)) (some (.ret false)) (cond (decide ((List.length e0.Cuts : Int) > 8)) (some (.ret false)) (xh p0 (ep + 1)))) (some (.go ()))
def zK (ae : GLs) : Option (Bool) := cond (lenOk ae.Words) (lbind (xh ae.Words 0) (fun r2 => some r2) (fun c1 => cond (decide ((List.length ae.Widths : Int) ≤ 8)) (cond (decide ((List.length ae.Pairs : Int) ≤ 8)) (some (decide ((List.length ae.Words : Int) ≤ 6))) (some false)) (some false)) (fun _ _ => none)) none
theorem Xm (ae : GLs) (R : Bool) (h : zK ae = some R) : ah prog G0 17 [.agg (cGLs ae)] (.tree (.lit (.bool R))) := by
 refine ah.runR mixed call17 func17 rfl (by simp [ntmps17]; kernel_rfl) ?_
 obtain ⟨KF, h, kF, kN⟩ := fg h
 simp only [zK] at h
 cases g4 : (lenOk ae.Words)
 ·simp only [g4, hs] at h
  exact absurd h kN
 simp only [g4, hs] at h
 simp only [vz, tyf, g4, nm, seval]
 obtain ⟨K3, h, sq, qm, CK, CL⟩ := iy h kN
 obtain ⟨f3, qW, h⟩ := call2 h
 obtain ⟨I3, jL⟩ : ∃ I : Nat → St → Prop, I = (fun m st => ∃ (p3 : List GLw) (eu : Int), m = List.length p3 ∧ 0 ≤ eu ∧ List.drop (Int.toNat eu) ae.Words = p3 ∧ st.df = [] ∧ 3 ≤ st.nx ∧ st.H 0 = some (.cells (some 28) (cGLs ae)) ∧ st.tm 1 = .ptr 0 0 ∧ st.tm 3 = .lit (.int .i64 eu) ∧ K3 (f3 p3 eu)) := ⟨_, rfl⟩
 refine loopK mixed (by kernel_rfl) I3 (List.length ae.Words) (by rw [jL]; refine ⟨ae.Words, 0, rfl, qZf _, rfl, rfl, (show 3 ≤ 3 by omega), ?_, ?_, ?_, h⟩ <;> first | (simp only [ua, nm, seval] <;> rfl) | rfl) ?_
 rintro m ⟨tm, H, m6, df⟩ ba
 rw [jL] at ba
 obtain ⟨p3, eu, rfl, fG, gH, hdf, lM, H5, e6, e7, h⟩ := ba
 simp only at hdf lM H5 e6 e7
 have n8 := ib (m := 3) (b := m6) (by omega)
 subst hdf qW
 cases p3 with
 | nil =>
  have d9 : (decide (eu < (List.length ae.Words : Int))) = false := ic fG gH
  simp only [xh, hs, reduceCtorEq] at h
  replace h := qm _ h
  try dsimp only at h
  try simp only [hs] at h
  cases dB : (decide ((List.length ae.Widths : Int) ≤ 8))
  ·simp only [dB, hs] at h
   try simp only [vz, tyf, g4, n8, e6, e7, H5, d9, dB, nm, seval]
   obtain rfl := kF _ h
   exact bB results17 rfl
  simp only [dB, hs] at h
  cases dZ : (decide ((List.length ae.Pairs : Int) ≤ 8))
  ·simp only [dZ, hs] at h
   try simp only [vz, tyf, g4, n8, e6, e7, H5, d9, dB, dZ, nm, seval]
   obtain rfl := kF _ h
   exact bB results17 rfl
  simp only [dZ, hs] at h
  try simp only [vz, tyf, g4, n8, e6, e7, H5, d9, dB, dZ, nm, seval]
  obtain rfl := kF _ h
  exact bB results17 rfl
 | cons e3 p3 =>
  have jA : (decide (eu < (List.length ae.Words : Int))) = true := gZ fG gH
  have xi := fA fG gH
  have Dl := hC fG gH g4
  simp only [xh, hs, reduceCtorEq] at h
  cases dE : (decide (eu < 6))
  ·simp only [dE, hs] at h
   replace h := qm _ h
   try dsimp only at h
   try simp only [hs] at h
   cases ed : (decide ((List.length ae.Widths : Int) ≤ 8))
   ·simp only [ed, hs] at h
    have Xn := qZj g4 (qZj n8 (qZj H5 (qZj jA (qZj Dl (qZj dE ed)))))
    try simp only [vz, tyf, Xn, e6, e7, (aF xi), nm, seval]
    obtain rfl := kF _ h
    exact bB results17 rfl
   simp only [ed, hs] at h
   have SH := qZj g4 (qZj n8 (qZj H5 (qZj jA (qZj Dl (qZj dE ed)))))
   cases iE : (decide ((List.length ae.Pairs : Int) ≤ 8))
   ·simp only [iE, hs] at h
    try simp only [vz, tyf, SH, e6, e7, (aF xi), iE, nm, seval]
    obtain rfl := kF _ h
    exact bB results17 rfl
   simp only [iE, hs] at h
   try simp only [vz, tyf, SH, e6, e7, (aF xi), iE, nm, seval]
   obtain rfl := kF _ h
   exact bB results17 rfl
  simp only [dE, hs] at h
  cases dc : (decide ((List.length e3.Signs : Int) > 8))
  ·simp only [dc, hs] at h
   have Dm := qZj g4 (qZj n8 (qZj H5 (qZj jA (qZj Dl (qZj dE dc)))))
   cases js : (decide ((List.length e3.Cuts : Int) > 8))
   ·simp only [js, hs] at h
    simp only [vz, tyf, Dm, e6, e7, (aF xi), js, nm, seval]
    exact ⟨List.length p3, qZc _, by rw [jL]; refine ⟨p3, eu + 1, rfl, qZl fG (qZk (qZf _)), dm fG gH, rfl, (show 3 ≤ m6 + 30 by omega), ?_, e6, ?_, (by first | exact h | (simp only [Dm, js]; exact h))⟩ <;> first | (simp only [ua, Dm, e6, e7, js, nm, seval] <;> rfl) | rfl⟩
   simp only [js, hs] at h
   try simp only [vz, tyf, Dm, e6, e7, (aF xi), js, nm, seval]
   replace h := sq _ h
   try dsimp only at h
   obtain rfl := kF _ h
   exact bB results17 rfl
  simp only [dc, hs] at h
  have Xo := qZj g4 (qZj n8 (qZj H5 (qZj jA (qZj Dl (qZj dE dc)))))
  try simp only [vz, tyf, Xo, e6, e7, (aF xi), nm, seval]
  replace h := sq _ h
  try dsimp only at h
  obtain rfl := kF _ h
  exact bB results17 rfl







theorem uM (a n b : Int) : nt a n b = some (inB a b n) := by
 unfold nt inB
 cases decide (a ≤ n) <;> rfl
theorem in_eq (n a b : Int) : lY n a b = some (inB a b n) := by
 unfold lY inB
 show cond (decide (a ≤ n)) _ _ = _
 cases decide (a ≤ n) <;> rfl
def spanB (m : Int) (x : GSpan) : Bool := decide (0 ≤ x.Low) && (decide (x.Low ≤ x.High) && decide (x.High ≤ m))
theorem IH (x : GSpan) (m : Int) : ur 0 x m = some (spanB m x) := by
 unfold ur spanB
 cases decide (0 ≤ x.Low) <;> cases decide (x.Low ≤ x.High) <;> rfl
theorem uN (x : GSpan) (m : Int) : uC x m = some (spanB m x) := by
 unfold uC
 simp only [in_eq, Option.bind_some]
 by_cases h1 : 0 ≤ x.Low <;> by_cases h2 : x.Low ≤ x.High <;> by_cases h3 : x.High ≤ m <;> by_cases h4 : x.Low ≤ m <;> simp [inB, spanB, h1, h2, h3, h4] <;> omega
theorem SI (a b : Int) : ∀ (p : List Int) (i : Int), xj a b p i = goB (p.all (inB a b))
 | [], _ => rfl
 | e :: p, i => by
  simp only [xj, m9, cnot, cand, uM, Option.bind_some, SI a b p, List.all_cons]
theorem II (a b : Int) (xs : List Int) (h : lenOk xs = true) : u4 a xs b = some (xs.all (inB a b)) := by
 simp only [u4, h, cond_true, SI]
 cases xs.all (inB a b) <;> rfl
def incr : Int → List Int → Bool
 | _, [] => true
 | q, e :: p => !decide (e ≤ q) && incr e p
def incrL : List Int → Bool
 | [] => true
 | e :: p => incr e p
variable {i : Int}
theorem Dn {α : Type} {xs p : List α} {q : α} (h0 : 1 ≤ i) (hi : i < 9223372036854775808) (h : xs.drop (i - 1).toNat = q :: p) : getI xs (i64.wrap (i - 1)) = some q := by
 rw [jJ (by omega) (by omega)]
 exact fA (by omega) h
theorem Dp {α : Type} {xs p : List α} {n : Nat} (h : xs.drop n = p) : n + p.length ≤ xs.length ∨ p = [] := by
 subst h
 by_cases hn : n ≤ xs.length
 ·left; simp; omega
 ·right; exact List.drop_eq_nil_of_le (by omega)
theorem SJ (xs : List Int) (hl : lenOk xs = true) : ∀ (p : List Int) (q i : Int), 1 ≤ i → xs.drop (i - 1).toNat = q :: p → wG xs p i = goB (incr q p)
 | [], _, _, _, _ => rfl
 | e :: p, q, i, h0, h => by
  have hb := Dq hl
  have hle := Dp h
  simp only [List.length_cons] at hle
  have hi : i < 9223372036854775808 := by
   rcases hle with hle | hle
   ·omega
   ·cases hle
  have hn : xs.drop (i + 1 - 1).toNat = e :: p := by
   have := dm (i := i - 1) (by omega) h
   rwa [show i - 1 + 1 = i + 1 - 1 by omega] at this
  simp only [wG, m9, cnot, cand, Dn h0 hi h, Option.bind_some, SJ xs hl p e (i + 1) (by omega) hn, incr]
theorem SK (a b : Int) (xs : List Int) (h : lenOk xs = true) : wH a xs b = some (incrL xs && xs.all (inB a b)) := by
 have h1 : leB 0 1 = true := rfl
 simp only [wH, h, h1, cond_true, II a b xs h]
 cases xs with
 | nil => rfl
 | cons e p =>
  have := SJ (e :: p) h p e 1 (by omega) (by rfl)
  rw [show List.drop (Int.toNat 1) (e :: p) = p from rfl, this]
  simp only [incrL]
  cases incr e p <;> rfl
def cutsB (hi : Int) : Option Int → List Int → Bool
 | _, [] => true
 | none, e :: p => inB 1 hi e && cutsB hi (some e) p
 | some q, e :: p => inB 1 hi e && (!decide (e ≤ q) && cutsB hi (some e) p)
theorem SL (hi : Int) : ∀ (p : List Int) (q : Int), cutsB hi (some q) p = (incr q p && p.all (inB 1 hi))
 | [], _ => rfl
 | e :: p, q => by
  simp only [cutsB, SL hi p e, incr, List.all_cons]
  cases h1 : inB 1 hi e <;> cases h2 : decide (e ≤ q) <;> cases h3 : incr e p <;> simp [h1, h2, h3]
theorem IJ (hi : Int) : ∀ (p : List Int), cutsB hi none p = (incrL p && p.all (inB 1 hi))
 | [] => rfl
 | e :: p => by
  simp only [cutsB, SL, incrL, List.all_cons]
  cases h1 : inB 1 hi e <;> cases h2 : incr e p <;> simp [h1, h2]
theorem SM (w : GLw) (hl : lenOk w.Cuts = true) : ∀ (p : List Int) (q : Int) (i : Int), 1 ≤ i → w.Cuts.drop (i - 1).toNat = q :: p →
  rB w p i = goB (cutsB (i64.wrap ((w.Signs.length : Int) - 1)) (some q) p)
 | [], _, _, _, _ => rfl
 | e :: p, q, i, h0, h => by
  have hb := Dq hl
  have hle := Dp h
  simp only [List.length_cons] at hle
  have hi : i < 9223372036854775808 := by
   rcases hle with hle | hle
   ·omega
   ·cases hle
  have hn : w.Cuts.drop (i + 1 - 1).toNat = e :: p := by
   have := dm (i := i - 1) (by omega) h
   rwa [show i - 1 + 1 = i + 1 - 1 by omega] at this
  have hp : decide (i > 0) = true := by simp; omega
  simp only [rB, m9, cnot, cand, in_eq, Dn h0 hi h, hp, Option.bind_some, SM w hl p e (i + 1) (by omega) hn, cutsB, cond_true]
theorem IK (w : GLw) (hl : lenOk w.Cuts = true) : rB w w.Cuts 0 = goB (cutsB (i64.wrap ((w.Signs.length : Int) - 1)) none w.Cuts) := by
 generalize hc : w.Cuts = cs
 cases cs with
 | nil => rfl
 | cons e p =>
  have := SM w hl p e (0 + 1) (by omega) (by rw [hc]; rfl)
  simp only [rB, m9, cnot, cand, in_eq, Option.bind_some, this, cutsB, show decide ((0 : Int) > 0) = false from rfl, cond_false]
theorem uO (s : GLs) (n : Int) : uA s n = some (inB 0 (i64.wrap ((s.Widths.length : Int) - 1)) n) := by
 simp only [uA, in_eq, Option.bind_some]
theorem SN (s : GLs) : ∀ (p : List Int) (i : Int), wP s p i = goB (p.all (inB 0 (i64.wrap ((s.Widths.length : Int) - 1))))
 | [], _ => rfl
 | e :: p, i => by
  simp only [wP, m9, cnot, cand, uO, Option.bind_some, SN s p, List.all_cons]
def wordB (n : Int) (w : GLw) : Bool := inB 1 6 w.Signs.length && (w.Signs.all (inB 0 n) && (incrL w.Cuts && w.Cuts.all (inB 1 (i64.wrap ((w.Signs.length : Int) - 1)))))
theorem IL (s : GLs) (w : GLw) (h1 : lenOk w.Signs = true) (h2 : lenOk w.Cuts = true) : zA s w = some (wordB (i64.wrap ((s.Widths.length : Int) - 1)) w) := by
 simp only [zA, h1, h2, cond_true, SN, IK w h2, in_eq, Option.bind_some, IJ, wordB]
 cases w.Signs.all _ <;> cases (incrL w.Cuts && w.Cuts.all _) <;> cases inB 1 6 _ <;> rfl
def Fine (w : GLw) : Prop := lenOk w.Signs = true ∧ lenOk w.Cuts = true
theorem SO (s : GLs) : ∀ (p : List GLw) (i : Int), (∀ w ∈ p, Fine w) → wZ s p i = goB (p.all (wordB (i64.wrap ((s.Widths.length : Int) - 1))))
 | [], _, _ => rfl
 | e :: p, i, h => by
  have he := h e (qZb ..)
  simp only [wZ, m9, cnot, cand, IL s e he.1 he.2, Option.bind_some, SO s p (i + 1) (fun w hw => h w (qZa _ hw)), List.all_cons]
theorem SP (n : Int) : ∀ (p : List GLw) (i : Int), (∀ w ∈ p, Fine w) → wM n p i = goB (p.all (wordB (i64.wrap (n - 1))))
 | [], _, _ => rfl
 | e :: p, i, h => by
  have he := h e (qZb ..)
  simp only [wM, m9, cnot, cand, uM, II _ _ _ he.1, SK _ _ _ he.2, Option.bind_some, SP n p (i + 1) (fun w hw => h w (qZa _ hw)), List.all_cons, wordB]
theorem SQ : ∀ (p : List Int) (i : Int), xa p i = goB (p.all (inB 1 20))
 | [], _ => rfl
 | e :: p, i => by
  simp only [xa, m9, cnot, cand, in_eq, Option.bind_some, SQ p, List.all_cons]
def sgn (a b : Int) : Int := if a < b then -1 else if a > b then 1 else 0
theorem SS (a b : Int) : sR a b = some (sgn a b) := by
 unfold sR zL sgn
 by_cases h1 : a < b <;> by_cases h2 : a > b <;> simp [h1, h2]
def pairGe (a b : GLp) : Bool := cond (decide (a.Left > b.Left)) true (cond (a.Left == b.Left) (decide (a.Right ≥ b.Right)) false)
theorem or_eq (a b : Int) : xk [a, b] = some (if a = 0 then b else a) := by
 have e : (fun x : Int => x != 0) a = !decide (a = 0) := by by_cases h : a = 0 <;> simp [h]
 have e' : (b != 0) = !decide (b = 0) := by by_cases h : b = 0 <;> simp [h]
 simp only [] at e
 by_cases h : a = 0 <;> by_cases h' : b = 0 <;> simp [xk, zM, lenOk, lbind, e, e', h, h']
theorem Xp (a b : GLp) : ∃ r, zq a b = some r ∧ decide (r ≥ 0) = pairGe a b := by
 refine ⟨_, by simp only [zq, SS, or_eq, Option.bind_some]; rfl, ?_⟩
 unfold sgn pairGe
 by_cases h1 : a.Left < b.Left
 ·have : ¬ a.Left > b.Left := by omega
  have h3 : ¬ a.Left = b.Left := by omega
  simp [h1, this, h3]
 ·by_cases h2 : a.Left > b.Left
  ·simp [h1, h2]
  ·have h3 : a.Left = b.Left := by omega
   by_cases h4 : a.Right < b.Right
   ·have : ¬ a.Right ≥ b.Right := by omega
    simp [h3, h4]
   ·by_cases h5 : a.Right > b.Right
    ·simp [h3, h4, h5]; omega
    ·simp [h3, h4, h5]; omega
def pairB (m : Int) (e : GLp) : Bool := inB 0 m e.Left && (inB 0 m e.Right && spanB 9 e.Space)
def pairsG (m : Int) : Option GLp → List GLp → Bool
 | _, [] => true
 | none, e :: p => pairB m e && pairsG m (some e) p
 | some q, e :: p => pairB m e && (!pairGe q e && pairsG m (some e) p)
theorem SU (s : GLs) (hl : lenOk s.Pairs = true) : ∀ (p : List GLp) (q : GLp) (i : Int), 1 ≤ i → s.Pairs.drop (i - 1).toNat = q :: p →
  qz s p i = goB (pairsG (i64.wrap ((s.Widths.length : Int) - 1)) (some q) p)
 | [], _, _, _, _ => rfl
 | e :: p, q, i, h0, h => by
  have hb := Dq hl
  have hle := Dp h
  simp only [List.length_cons] at hle
  have hi : i < 9223372036854775808 := by
   rcases hle with hle | hle
   ·omega
   ·cases hle
  have hn : s.Pairs.drop (i + 1 - 1).toNat = e :: p := by
   have := dm (i := i - 1) (by omega) h
   rwa [show i - 1 + 1 = i + 1 - 1 by omega] at this
  have hp : decide (i > 0) = true := by simp; omega
  simp only [qz, m9, cnot, uO, uN, Dn h0 hi h, hp, Option.bind_some, SU s hl p e (i + 1) (by omega) hn, pairsG, pairB, cand, cond_true, pairGe]
  cases decide (q.Left > e.Left) <;> cases (q.Left == e.Left) <;> rfl
theorem Xq (s : GLs) (hl : lenOk s.Pairs = true) : qz s s.Pairs 0 = goB (pairsG (i64.wrap ((s.Widths.length : Int) - 1)) none s.Pairs) := by
 generalize hc : s.Pairs = cs
 cases cs with
 | nil => rfl
 | cons e p =>
  have := SU s hl p e (0 + 1) (by omega) (by rw [hc]; rfl)
  simp only [qz, m9, cnot, cand, uO, uN, Option.bind_some, this, pairsG, pairB, show decide ((0 : Int) > 0) = false from rfl, cond_false]
theorem SV (xs : List GLp) (n : Int) (hl : lenOk xs = true) : ∀ (p : List GLp) (q : GLp) (i : Int), 1 ≤ i → xs.drop (i - 1).toNat = q :: p →
  ru xs n p i = goB (pairsG (i64.wrap (n - 1)) (some q) p)
 | [], _, _, _, _ => rfl
 | e :: p, q, i, h0, h => by
  have hb := Dq hl
  have hle := Dp h
  simp only [List.length_cons] at hle
  have hi : i < 9223372036854775808 := by
   rcases hle with hle | hle
   ·omega
   ·cases hle
  have hn : xs.drop (i + 1 - 1).toNat = e :: p := by
   have := dm (i := i - 1) (by omega) h
   rwa [show i - 1 + 1 = i + 1 - 1 by omega] at this
  have hp : decide (i > 0) = true := by simp; omega
  obtain ⟨r, hr, hr'⟩ := Xp q e
  simp only [ru, m9, cnot, uM, IH, Dn h0 hi h, hp, hr, hr', Option.bind_some, SV xs n hl p e (i + 1) (by omega) hn, pairsG, pairB, cand, cond_true]
theorem Xr (xs : List GLp) (n : Int) (hl : lenOk xs = true) : ru xs n xs 0 = goB (pairsG (i64.wrap (n - 1)) none xs) := by
 cases xs with
 | nil => rfl
 | cons e p =>
  have := SV (e :: p) n hl p e (0 + 1) (by omega) rfl
  simp only [ru, m9, cnot, cand, uM, IH, Option.bind_some, this, pairsG, pairB, show decide ((0 : Int) > 0) = false from rfl, cond_false]
def FineS (s : GLs) : Prop := lenOk s.Widths = true ∧ lenOk s.Pairs = true ∧ lenOk s.Words = true ∧ ∀ w ∈ s.Words, Fine w
def sheetB (s : GLs) : Bool :=
 inB 1 6 s.Widths.length && s.Widths.all (inB 1 20) &&
 (decide ((s.Pairs.length : Int) ≤ 6) && pairsG (i64.wrap ((s.Widths.length : Int) - 1)) none s.Pairs) &&
 spanB 9 s.Other && spanB 20 s.Gap && inB 1 20 s.Hyphen &&
 (inB 1 4 s.Words.length && s.Words.all (wordB (i64.wrap ((s.Widths.length : Int) - 1)))) &&
 inB 1 400 s.Wide && inB 1 3 s.Rows
theorem IM (n : Int) : zF n = some (inB 1 400 n) := by
 simp only [zF, in_eq, Option.bind_some]
theorem IN (s : GLs) (h : lenOk s.Pairs = true) : zE s = some (decide ((s.Pairs.length : Int) ≤ 6) && pairsG (i64.wrap ((s.Widths.length : Int) - 1)) none s.Pairs) := by
 simp only [zE, h, cond_true, Xq s h, wy, csome]
 rw [Bool.and_comm]
theorem IP (xs : List GLp) (n : Int) (h : lenOk xs = true) : zr xs n = some (decide ((xs.length : Int) ≤ 6) && pairsG (i64.wrap (n - 1)) none xs) := by
 simp only [zr, h, cond_true, Xr xs n h, wy]
 by_cases hn : (xs.length : Int) ≤ 6
 ·have : ¬ (xs.length : Int) > 6 := by omega
  simp only [hn, this, decide_true, decide_false, cond_false, Bool.true_and]
  cases pairsG _ _ xs <;> rfl
 ·have : (xs.length : Int) > 6 := by omega
  simp only [hn, this, decide_true, decide_false, cond_true, Bool.false_and]
theorem IQ (s : GLs) (h : FineS s) : zH s = some (sheetB s) := by
 obtain ⟨h1, h2, h3, h4⟩ := h
 simp only [zH, h1, h3, cond_true, SQ, SO s _ _ h4, wy, in_eq, uN, IM, IN s h2, Option.bind_some, csome, sheetB, ← Bool.and_assoc]
 congr 1
 simp only [Bool.and_assoc]
 cases s.Widths.all _ <;> cases s.Words.all _ <;> simp [Bool.and_comm, Bool.and_left_comm]
theorem Xs (xs : List Int) (h : lenOk xs = true) : z9 xs = some (inB 1 6 xs.length && xs.all (inB 1 20)) := by
 simp only [z9, uM, II _ _ _ h, Option.bind_some, csome]
theorem IS (xs : List GLw) (n : Int) (h : lenOk xs = true) (hw : ∀ w ∈ xs, Fine w) : z6 xs n = some (inB 1 4 xs.length && xs.all (wordB (i64.wrap (n - 1)))) := by
 simp only [z6, uM, Option.bind_some, h, cond_true, SP n xs 0 hw, wy, csome, Bool.and_true]
theorem Dr (s : GLs) (h : FineS s) : rA s = some (sheetB s) := by
 obtain ⟨h1, h2, h3, h4⟩ := h
 simp only [rA, Xs _ h1, IP _ _ h2, IS _ _ h3 h4, uM, IH, Option.bind_some, csome, sheetB, Bool.and_assoc]
def Ds (ae : GLs) : List Int → Int → Option (LOut (Bool) (Unit))
 | [], ku => some (.go ())
 | e0 :: p0, ku => Option.bind (getI ae.Words e0) (fun x2 => cond (x2.Free) (Ds ae p0 (ku + 1)) (some (.ret false)))
def IT (ae : GLs) (bM : List Int) : Option (Bool) := cond (decide ((List.length bM : Int) ≥ (List.length ae.Words : Int))) (some false) (Option.bind (wH 0 bM (i64.wrap ((List.length ae.Words : Int) - 1))) (fun r1 => cond (r1) (cond (lenOk bM) (lbind (Ds ae bM 0) (fun r4 => some r4) (fun c3 => some true) (fun _ _ => none)) none) (some false)))
def xl (eU : Int) : List Int → Int → Option (LOut (Int) (Unit))
 | [], hT => some (.go ())
 | e0 :: p0, hT => cond (eU == e0) (some (.ret hT)) (xl eU p0 (hT + 1))
def Dt (ae : List Int) (eU : Int) : Option (Int) := cond (lenOk ae) (lbind (xl eU ae 0) (fun r2 => some r2) (fun c1 => some (-1)) (fun _ _ => none)) none
theorem Xt (ae : List Int) (eU : Int) (R : Int) (h : Dt ae eU = some R) : ah prog G0 151 [.sl (ad eI ae) (List.length ae) false, .lit (.int .i64 eU)] (.tree (.lit (.int .i64 R))) := by
 refine ah.runR mixed call151 func151 rfl (by simp [ntmps151]; kernel_rfl) ?_
 obtain ⟨KF, h, kF, kN⟩ := fg h
 simp only [Dt] at h
 cases g4 : (lenOk ae)
 ·simp only [g4, hs] at h
  exact absurd h kN
 simp only [g4, hs] at h
 simp only [vz, tyf, g4, nm, seval]
 obtain ⟨K3, h, sq, qm, CK, CL⟩ := iy h kN
 obtain ⟨f3, qW, h⟩ := call2 h
 obtain ⟨I3, jL⟩ : ∃ I : Nat → St → Prop, I = (fun m st => ∃ (p3 : List Int) (dp : Int), m = List.length p3 ∧ 0 ≤ dp ∧ List.drop (Int.toNat dp) ae = p3 ∧ st.df = [] ∧ 4 ≤ st.nx ∧ st.tm 0 = .sl (ad eI ae) (List.length ae) false ∧ st.tm 1 = .lit (.int .i64 eU) ∧ st.tm 7 = .lit (.int .i64 (List.length ae : Int)) ∧ st.tm 8 = .lit (.int .i64 dp) ∧ K3 (f3 p3 dp)) := ⟨_, rfl⟩
 refine loopK mixed (by kernel_rfl) I3 (List.length ae) (by rw [jL]; refine ⟨ae, 0, rfl, qZf _, rfl, rfl, (show 4 ≤ 4 by omega), ?_, ?_, ?_, ?_, h⟩ <;> first | (simp only [ua, nm, seval] <;> rfl) | rfl) ?_
 rintro m ⟨tm, H, m6, df⟩ ba
 rw [jL] at ba
 obtain ⟨p3, dp, rfl, fG, gH, hdf, lM, e5, e6, e7, e8, h⟩ := ba
 simp only at hdf lM e5 e6 e7 e8
 have n9 := ib (m := 4) (b := m6) (by omega)
 subst hdf qW
 cases p3 with
 | nil =>
  have dB : (decide (dp < (List.length ae : Int))) = false := ic fG gH
  simp only [xl, hs, reduceCtorEq] at h
  replace h := qm _ h
  try dsimp only at h
  try simp only [hs] at h
  try simp only [vz, tyf, g4, n9, e5, e6, e7, e8, dB, nm, seval]
  refine bO (x := (.lit (.int .i64 (-1)))) (by first | (simp only [results151, resV, resL, aw, cn, cq, uw, cr, tyf, g4, n9, dB, nm, seval] <;> rfl) | rfl) ?_
  obtain rfl := kF _ h
  refine cm ?_ ?_
  ·simp only [tre, an, Bool.and_self]
  ·first | (simp only [outV, uw, cw, cr, tyf, nrm, aq, g4, n9, e5, e6, e7, e8, dB, nm, seval] <;> rfl) | rfl
 | cons e3 p3 =>
  have dZ : (decide (dp < (List.length ae : Int))) = true := gZ fG gH
  have kI := fA fG gH
  have kJ := hC fG gH g4
  simp only [xl, hs, reduceCtorEq] at h
  cases cy : (eU == e3)
  ·simp only [cy, hs] at h
   simp only [vz, tyf, g4, n9, e5, e6, e7, e8, dZ, (ai kI), kJ, cy, nm, seval]
   exact ⟨List.length p3, qZc _, by rw [jL]; refine ⟨p3, dp + 1, rfl, qZl fG (qZk (qZf _)), dm fG gH, rfl, (show 4 ≤ m6 + 11 by omega), e5, e6, e7, ?_, (by first | exact h | (simp only [dZ, cy]; exact h))⟩ <;> first | (simp only [ua, n9, e5, e6, e7, e8, dZ, kJ, cy, nm, seval] <;> rfl) | rfl⟩
  simp only [cy, hs] at h
  try simp only [vz, tyf, g4, n9, e5, e6, e7, e8, dZ, (ai kI), kJ, cy, nm, seval]
  refine bO (x := (.lit (.int .i64 dp))) (by first | (simp only [results151, resV, resL, aw, cn, cq, uw, cr, tyf, g4, n9, dZ, (ai kI), kJ, cy, nm, seval] <;> rfl) | rfl) ?_
  replace h := sq _ h
  try dsimp only at h
  obtain rfl := kF _ h
  refine cm ?_ ?_
  ·simp only [tre, an, Bool.and_self]
  ·first | (simp only [outV, uw, cw, cr, tyf, nrm, aq, g4, n9, e5, e6, e7, e8, dZ, (ai kI), kJ, cy, nm, seval] <;> rfl) | rfl
def wj (ae : List Int) (eU : Int) : Option (Bool) := Option.bind (Dt ae eU) (fun r1 => some (decide (r1 ≥ 0)))
theorem R3 (ae : List Int) (eU : Int) (R : Bool) (h : wj ae eU = some R) : ah prog G0 117 [.sl (ad eI ae) (List.length ae) false, .lit (.int .i64 eU)] (.tree (.lit (.bool R))) := by
 refine ah.runR mixed call117 func117 rfl (by simp [ntmps117]; kernel_rfl) ?_
 obtain ⟨KF, h, kF, kN⟩ := fg h
 simp only [wj] at h
 obtain ⟨r2, o3, h⟩ := optI h kN
 try simp only [hs] at h
 simp only [vz, tyf, nm, seval]
 refine ktA (Xt _ _ _ o3) ?_
 refine bQ (fun tm => tm 7 = .lit (.int .i64 r2) ∧ True) (by refine ⟨?_, trivial⟩ <;> first | (simp only [ua, nm, seval] <;> rfl) | rfl) ?_
 rintro tm ⟨e4, _⟩
 try simp only [vz, tyf, e4, nm, seval]
 obtain rfl := kF _ h
 exact bB results117 rfl
def uP (d5 : Int) : List Int → Int → (List GLe) → Option (LOut (List GLe) ((List GLe)))
 | [], sS, rE => some (.go rE)
 | e1 :: p1, sS, rE => cond (ar 16 (List.length (rE ++ [(GLe.mk d5 e1)]))) (uP d5 p1 (sS + 1) (rE ++ [(GLe.mk d5 e1)])) none
def sT (bM : List Int) : List GLw → Int → (List GLe) → Option (LOut (List GLe) ((List GLe)))
 | [], d5, cN => some (.go cN)
 | e0 :: p0, d5, cN => Option.bind (wj bM d5) (fun r1 => cond (r1) (sT bM p0 (d5 + 1) cN) (cond (lenOk e0.Cuts) (lbind (uP d5 e0.Cuts 0 cN) (fun r3 => some (.ret r3)) (fun c2 => cond (ar 16 (List.length (c2 ++ [(GLe.mk d5 (List.length e0.Signs : Int))]))) (sT bM p0 (d5 + 1) (c2 ++ [(GLe.mk d5 (List.length e0.Signs : Int))])) none) (fun _ _ => none)) none))
def uQ (ae : GLs) (bM : List Int) : Option (List GLe) := cond (lenOk ae.Words) (lbind (sT bM ae.Words 0 ([] : List GLe)) (fun r5 => some r5) (fun c4 => some c4) (fun _ _ => none)) none
theorem Xu (ae : GLs) (bM : List Int) (R : List GLe) (h : uQ ae bM = some R) : ah prog G0 116 [.agg (cGLs ae), .sl (ad eI bM) (List.length bM) false] (.tree (.sl (ad cGLe R) (List.length R) false)) := by
 refine ah.runR mixed call116 func116 rfl (by simp [ntmps116]; kernel_rfl) ?_
 obtain ⟨KF, h, kF, kN⟩ := fg h
 simp only [uQ] at h
 cases g7 : (lenOk ae.Words)
 ·simp only [g7, hs] at h
  exact absurd h kN
 simp only [g7, hs] at h
 simp only [vz, tyf, g7, nm, seval]
 obtain ⟨K6, h, Ff, yE, RI, m7⟩ := iy h kN
 obtain ⟨f6, yF, h⟩ := call3 h
 obtain ⟨I6, jM⟩ : ∃ I : Nat → St → Prop, I = (fun m st => ∃ (p6 : List GLw) (bE : Int) (cz : List GLe) (hU : VV), m = List.length p6 ∧ 0 ≤ bE ∧ List.drop (Int.toNat bE) ae.Words = p6 ∧ st.df = [] ∧ 7 ≤ st.nx ∧ st.H 0 = some (.cells (some 28) (cGLs ae)) ∧ st.tm 1 = .sl (ad eI bM) (List.length bM) false ∧ st.tm 2 = .ptr 0 0 ∧ st.tm 11 = .lit (.int .i64 (List.length ae.Words : Int)) ∧ st.tm 5 = hU ∧ st.tm 12 = .lit (.int .i64 bE) ∧ ((∃ (β : Nat) (el : Option TypeId), hU = .ref β 0 (List.length cz) 2 (List.length cz) ∧ β < st.nx ∧ β ≠ 0 ∧ st.H β = some (.cells el (ad cGLe cz))) ∨ (hU = .lit (.slice none 0 0) ∧ cz = [])) ∧ K6 (f6 p6 bE cz)) := ⟨_, rfl⟩
 refine loopK mixed (by kernel_rfl) I6 (List.length ae.Words) (by rw [jM]; refine ⟨ae.Words, 0, ([] : List GLe), .lit (.slice none 0 0), rfl, qZf _, rfl, rfl, (show 7 ≤ 7 by omega), ?_, ?_, ?_, ?_, ?_, ?_, Or.inr ⟨rfl, rfl⟩, h⟩ <;> first | (simp only [ua, nm, seval] <;> rfl) | rfl) ?_
 rintro m ⟨tm, H, gA, df⟩ ba
 rw [jM] at ba
 obtain ⟨p6, bE, cz, hU, rfl, fy, i0, hdf, qn, H8, e9, aE, aB, aL, bF, gI, h⟩ := ba
 simp only at hdf qn H8 e9 aE aB aL bF gI
 have de := ib (m := 7) (b := gA) (by omega)
 subst hdf yF
 cases p6 with
 | nil =>
  have dE : (decide (bE < (List.length ae.Words : Int))) = false := ic fy i0
  simp only [sT, hs, reduceCtorEq] at h
  replace h := yE _ h
  try dsimp only at h
  try simp only [hs] at h
  rcases gI with ⟨zN, IU, rfl, IV, tU, jZ⟩ | ⟨rfl, rfl⟩
  ·have IW := jH IV
   have qY := ne_f tU
   try simp only [vz, tyf, g7, de, e9, aE, aB, aL, bF, H8, dE, IW, jZ, qY, nm, seval]
   refine bO (x := (.ref zN 0 (List.length cz) 2 (List.length cz))) (by first | (simp only [results116, resV, resL, aw, cn, cq, uw, cr, tyf, g7, de, H8, dE, IW, jZ, qY, nm, seval] <;> rfl) | rfl) ?_
   obtain rfl := kF _ h
   refine cm ?_ ?_
   ·simp only [tre, an, Bool.and_self]
   ·first | (simp only [outV, uw, cw, cr, tyf, nrm, aq, g7, de, e9, aE, aB, aL, bF, H8, dE, IW, jZ, qY, nm, seval] <;> rfl) | rfl
  ·try simp only [vz, tyf, g7, de, e9, aE, aB, aL, bF, H8, dE, nm, seval]
   refine bO (x := (.lit (.slice none 0 0))) (by first | (simp only [results116, resV, resL, aw, cn, cq, uw, cr, tyf, g7, de, H8, dE, nm, seval] <;> rfl) | rfl) ?_
   obtain rfl := kF _ h
   refine cm ?_ ?_
   ·simp only [tre, an, Bool.and_self]
   ·first | (simp only [outV, uw, cw, cr, tyf, nrm, aq, g7, de, e9, aE, aB, aL, bF, H8, dE, nm, seval] <;> rfl) | rfl
 | cons e6 p6 =>
  have dc : (decide (bE < (List.length ae.Words : Int))) = true := gZ fy i0
  have iA := fA fy i0
  have iv := hC fy i0 g7
  simp only [sT, hs, reduceCtorEq] at h
  obtain ⟨SW, Xv, h⟩ := optI h m7
  try simp only [hs] at h
  simp only [vz, tyf, g7, de, e9, aE, aB, aL, bF, H8, dc, (aF iA), iv, nm, seval]
  refine ktA (R3 _ _ _ Xv) ?_
  refine bQ (fun tm => tm 1 = .sl (ad eI bM) (List.length bM) false ∧ tm 2 = .ptr 0 0 ∧ tm 5 = hU ∧ tm 6 = .lit (.int .i64 bE) ∧ tm 11 = .lit (.int .i64 (List.length ae.Words : Int)) ∧ tm 12 = .lit (.int .i64 bE) ∧ tm 17 = .lit (.bool SW) ∧ True) (by refine ⟨e9, aE, aL, ?_, aB, bF, ?_, trivial⟩ <;> first | (simp only [ua, de, e9, aE, aB, aL, bF, H8, dc, iv, nm, seval] <;> rfl) | rfl) ?_
  rintro tm ⟨dj, cK, dk, du, d6, dD, ir, _⟩
  cases dT : (SW)
  ·simp only [dT, hs] at h
   cases kl : (lenOk e6.Cuts)
   ·simp only [kl, hs] at h
    exact absurd h m7
   simp only [kl, hs] at h
   simp only [vz, tyf, g7, de, H8, dc, (aF iA), iv, dj, cK, dk, du, d6, dD, ir, dT, kl, nm, seval]
   obtain ⟨Xw, h, Xx, IX, Xy, zO⟩ := iy h m7
   obtain ⟨Xz, IY, h⟩ := call3 h
   obtain ⟨X0, rF⟩ : ∃ I : Nat → St → Prop, I = (fun m st => ∃ (qB : List Int) (ff : Int) (dG : List GLe) (mH : VV), m = List.length qB ∧ 0 ≤ ff ∧ List.drop (Int.toNat ff) e6.Cuts = qB ∧ st.df = [] ∧ gA + 14 ≤ st.nx ∧ st.H 0 = some (.cells (some 28) (cGLs ae)) ∧ st.tm 1 = .sl (ad eI bM) (List.length bM) false ∧ st.tm 2 = .ptr 0 0 ∧ st.tm 6 = .lit (.int .i64 bE) ∧ st.tm 11 = .lit (.int .i64 (List.length ae.Words : Int)) ∧ st.tm 12 = .lit (.int .i64 bE) ∧ st.tm 23 = .sl (ad eI e6.Cuts) (List.length e6.Cuts) false ∧ st.tm 24 = .lit (.int .i64 (List.length e6.Cuts : Int)) ∧ st.tm 5 = mH ∧ st.tm 25 = .lit (.int .i64 ff) ∧ ((∃ (β : Nat) (el : Option TypeId), mH = .ref β 0 (List.length dG) 2 (List.length dG) ∧ β < st.nx ∧ β ≠ 0 ∧ st.H β = some (.cells el (ad cGLe dG))) ∨ (mH = .lit (.slice none 0 0) ∧ dG = [])) ∧ Xw (Xz qB ff dG)) := ⟨_, rfl⟩
   refine loopK mixed (by kernel_rfl) X0 (List.length e6.Cuts) (by rw [rF]; refine ⟨e6.Cuts, 0, cz, hU, rfl, qZf _, rfl, rfl, (show gA + 14 ≤ gA + 14 by omega), ?_, dj, cK, du, d6, dD, ?_, ?_, ?_, ?_, (match gI with | Or.inl ⟨β0, m5, nd, gR, oC, kE⟩ => Or.inl ⟨β0, m5, nd, (by first | assumption | omega | (simp only [nm, seval]; done) | (simp only [nm, seval]; omega)), (by first | assumption | omega | (simp only [nm, seval]; done) | (simp only [nm, seval]; omega)), (by first | exact kE | (simp only [aQ, bp, jH gR, ne_f oC, nm, seval]; exact kE))⟩ | Or.inr lN => Or.inr lN), h⟩ <;> first | (simp only [ua, de, H8, dc, iv, dj, cK, dk, du, d6, dD, ir, dT, nm, seval] <;> rfl) | rfl) ?_
   rintro m ⟨tm, H, gO, df⟩ ba
   rw [rF] at ba
   obtain ⟨qB, ff, dG, mH, rfl, kT, nB, hdf, IZ, fu, cU, cC, bP, cD, cP, dY, cS, dM, cA, mb, h⟩ := ba
   simp only at hdf IZ fu cU cC bP cD cP dY cS dM cA mb
   have fh := ib (m := 7) (b := gO) (by omega)
   have gU := wo (a := gA) (m := 14) (b := gO) (by omega)
   subst hdf IY
   cases qB with
   | nil =>
    have i6 : (decide (ff < (List.length e6.Cuts : Int))) = false := ic kT nB
    simp only [uP, hs, reduceCtorEq] at h
    replace h := IX _ h
    try dsimp only at h
    try simp only [hs] at h
    rcases mb with ⟨SX, oT, rfl, tC, tD, uR⟩ | ⟨rfl, rfl⟩
    ·have nU := jH tC
     have nV := ne_f tD
     cases uS : (ar 16 (List.length (dG ++ [(GLe.mk bE (List.length e6.Signs : Int))])))
     ·simp only [uS, hs] at h
      exact absurd h m7
     simp only [uS, hs] at h
     simp only [vz, tyf, g7, de, dc, (aF iA), iv, dT, kl, fh, gU, cU, cC, bP, cD, cP, dY, cS, dM, cA, fu, i6, nU, uR, nV, uS, nm, seval]
     refine k_app (w := 2) (enc := cGLe) (xs := dG) (ys := ([(GLe.mk bE (List.length e6.Signs : Int))])) (el := oT) (fx := (some 100)) (fun _ => rfl) iR iS underlying29 (by first | rfl | assumption | (simp only [aQ, bp, md, de, fh, gU, fu, nU, uR, nV, nm, seval] <;> rfl) | (simp only [aQ, bp, cY, cT, cW, cX, tyf, g7, de, dc, (aF iA), iv, dT, kl, fh, gU, cU, cC, bP, cD, cP, dY, cS, dM, cA, fu, i6, nU, uR, nV, uS, nm, seval]; done)) (by first | rfl | assumption | (simp only [aQ, bp, md, de, fh, gU, fu, nU, uR, nV, nm, seval] <;> rfl) | (simp only [aQ, bp, cY, cT, cW, cX, tyf, g7, de, dc, (aF iA), iv, dT, kl, fh, gU, cU, cC, bP, cD, cP, dY, cS, dM, cA, fu, i6, nU, uR, nV, uS, nm, seval]; done)) (qZm _) uS ?_
     simp only [vz, tyf, g7, de, dc, (aF iA), iv, dT, kl, fh, gU, cU, cC, bP, cD, cP, dY, cS, dM, cA, fu, i6, nU, uR, nV, uS, nm, seval]
     exact ⟨List.length p6, qZc _, by rw [jM]; refine ⟨p6, bE + 1, (dG ++ [(GLe.mk bE (List.length e6.Signs : Int))]), .ref (gO + 12) 0 (List.length (dG ++ [(GLe.mk bE (List.length e6.Signs : Int))])) 2 (List.length (dG ++ [(GLe.mk bE (List.length e6.Signs : Int))])), rfl, qZl fy (qZk (qZf _)), dm fy i0, rfl, (show 7 ≤ gO + 16 by omega), ?_, cU, cC, cD, ?_, ?_, Or.inl ⟨gO + 12, (sameEl oT 100), rfl, (by first | omega | (simp only [nm, seval]; done) | (simp only [nm, seval]; omega)), (by first | omega | (intro hh; simp only [de, fh, gU, nU, nV, reduceCtorEq] at hh)), ?_⟩, (by first | exact h | (simp only [dc, dT, i6]; exact h))⟩ <;> first | (simp only [ua, de, dc, iv, dT, fh, gU, cU, cC, bP, cD, cP, dY, cS, dM, cA, fu, i6, nU, uR, nV, nm, seval] <;> rfl) | rfl⟩
    ·cases me : (ar 16 (List.length (([] : List GLe) ++ [(GLe.mk bE (List.length e6.Signs : Int))])))
     ·simp only [me, hs] at h
      exact absurd h m7
     simp only [me, hs] at h
     simp only [vz, tyf, g7, de, dc, (aF iA), iv, dT, kl, fh, gU, cU, cC, bP, cD, cP, dY, cS, dM, cA, fu, i6, me, nm, seval]
     refine ni (w := 2) (enc := cGLe) (ys := ([(GLe.mk bE (List.length e6.Signs : Int))])) (fx := (some 100)) (fun _ => rfl) iR iS underlying29 (by first | rfl | assumption | (simp only [aQ, bp, md, de, fh, gU, fu, nm, seval] <;> rfl) | (simp only [aQ, bp, cY, cT, cW, cX, tyf, g7, de, dc, (aF iA), iv, dT, kl, fh, gU, cU, cC, bP, cD, cP, dY, cS, dM, cA, fu, i6, me, nm, seval]; done)) (qZm _) me ?_
     simp only [vz, tyf, g7, de, dc, (aF iA), iv, dT, kl, fh, gU, cU, cC, bP, cD, cP, dY, cS, dM, cA, fu, i6, me, nm, seval]
     exact ⟨List.length p6, qZc _, by rw [jM]; refine ⟨p6, bE + 1, (([] : List GLe) ++ [(GLe.mk bE (List.length e6.Signs : Int))]), .ref (gO + 12) 0 (List.length (([] : List GLe) ++ [(GLe.mk bE (List.length e6.Signs : Int))])) 2 (List.length (([] : List GLe) ++ [(GLe.mk bE (List.length e6.Signs : Int))])), rfl, qZl fy (qZk (qZf _)), dm fy i0, rfl, (show 7 ≤ gO + 16 by omega), ?_, cU, cC, cD, ?_, ?_, Or.inl ⟨gO + 12, (some 100), rfl, (by first | omega | (simp only [nm, seval]; done) | (simp only [nm, seval]; omega)), (by first | omega | (intro hh; simp only [de, fh, gU, reduceCtorEq] at hh)), ?_⟩, (by first | exact h | (simp only [dc, dT, i6]; exact h))⟩ <;> first | (simp only [ua, de, dc, iv, dT, fh, gU, cU, cC, bP, cD, cP, dY, cS, dM, cA, fu, i6, nm, seval] <;> rfl) | rfl⟩
   | cons fI qB =>
    have lJ : (decide (ff < (List.length e6.Cuts : Int))) = true := gZ kT nB
    have ie := fA kT nB
    have mX := hC kT nB kl
    simp only [uP, hs, reduceCtorEq] at h
    rcases mb with ⟨SY, oU, rfl, Ja, Jb, uT⟩ | ⟨rfl, rfl⟩
    ·have sU := jH Ja
     have sV := ne_f Jb
     cases lS : (ar 16 (List.length (dG ++ [(GLe.mk bE fI)])))
     ·simp only [lS, hs] at h
      exact absurd h zO
     simp only [lS, hs] at h
     simp only [vz, tyf, g7, de, dc, (aF iA), iv, dT, kl, fh, gU, cU, cC, bP, cD, cP, dY, cS, dM, cA, fu, lJ, (ai ie), mX, sU, uT, sV, lS, nm, seval]
     refine k_app (w := 2) (enc := cGLe) (xs := dG) (ys := ([(GLe.mk bE fI)])) (el := oU) (fx := (some 100)) (fun _ => rfl) iR iS underlying29 (by first | rfl | assumption | (simp only [aQ, bp, md, de, fh, gU, fu, sU, uT, sV, nm, seval] <;> rfl) | (simp only [aQ, bp, cY, cT, cW, cX, tyf, g7, de, dc, (aF iA), iv, dT, kl, fh, gU, cU, cC, bP, cD, cP, dY, cS, dM, cA, fu, lJ, (ai ie), mX, sU, uT, sV, lS, nm, seval]; done)) (by first | rfl | assumption | (simp only [aQ, bp, md, de, fh, gU, fu, sU, uT, sV, nm, seval] <;> rfl) | (simp only [aQ, bp, cY, cT, cW, cX, tyf, g7, de, dc, (aF iA), iv, dT, kl, fh, gU, cU, cC, bP, cD, cP, dY, cS, dM, cA, fu, lJ, (ai ie), mX, sU, uT, sV, lS, nm, seval]; done)) (qZm _) lS ?_
     simp only [vz, tyf, g7, de, dc, (aF iA), iv, dT, kl, fh, gU, cU, cC, bP, cD, cP, dY, cS, dM, cA, fu, lJ, (ai ie), mX, sU, uT, sV, lS, nm, seval]
     exact ⟨List.length qB, qZc _, by rw [rF]; refine ⟨qB, ff + 1, (dG ++ [(GLe.mk bE fI)]), .ref (gO + 9) 0 (List.length (dG ++ [(GLe.mk bE fI)])) 2 (List.length (dG ++ [(GLe.mk bE fI)])), rfl, qZl kT (qZk (qZf _)), dm kT nB, rfl, (show gA + 14 ≤ gO + 13 by omega), ?_, cU, cC, bP, cD, cP, dY, cS, ?_, ?_, Or.inl ⟨gO + 9, (sameEl oU 100), rfl, (by first | omega | (simp only [nm, seval]; done) | (simp only [nm, seval]; omega)), (by first | omega | (intro hh; simp only [de, fh, gU, sU, sV, reduceCtorEq] at hh)), ?_⟩, (by first | exact h | (simp only [dc, dT, lJ]; exact h))⟩ <;> first | (simp only [ua, de, dc, iv, dT, fh, gU, cU, cC, bP, cD, cP, dY, cS, dM, cA, fu, lJ, mX, sU, uT, sV, nm, seval] <;> rfl) | rfl⟩
    ·cases lT : (ar 16 (List.length (([] : List GLe) ++ [(GLe.mk bE fI)])))
     ·simp only [lT, hs] at h
      exact absurd h zO
     simp only [lT, hs] at h
     simp only [vz, tyf, g7, de, dc, (aF iA), iv, dT, kl, fh, gU, cU, cC, bP, cD, cP, dY, cS, dM, cA, fu, lJ, (ai ie), mX, lT, nm, seval]
     refine ni (w := 2) (enc := cGLe) (ys := ([(GLe.mk bE fI)])) (fx := (some 100)) (fun _ => rfl) iR iS underlying29 (by first | rfl | assumption | (simp only [aQ, bp, md, de, fh, gU, fu, nm, seval] <;> rfl) | (simp only [aQ, bp, cY, cT, cW, cX, tyf, g7, de, dc, (aF iA), iv, dT, kl, fh, gU, cU, cC, bP, cD, cP, dY, cS, dM, cA, fu, lJ, (ai ie), mX, lT, nm, seval]; done)) (qZm _) lT ?_
     simp only [vz, tyf, g7, de, dc, (aF iA), iv, dT, kl, fh, gU, cU, cC, bP, cD, cP, dY, cS, dM, cA, fu, lJ, (ai ie), mX, lT, nm, seval]
     exact ⟨List.length qB, qZc _, by rw [rF]; refine ⟨qB, ff + 1, (([] : List GLe) ++ [(GLe.mk bE fI)]), .ref (gO + 9) 0 (List.length (([] : List GLe) ++ [(GLe.mk bE fI)])) 2 (List.length (([] : List GLe) ++ [(GLe.mk bE fI)])), rfl, qZl kT (qZk (qZf _)), dm kT nB, rfl, (show gA + 14 ≤ gO + 13 by omega), ?_, cU, cC, bP, cD, cP, dY, cS, ?_, ?_, Or.inl ⟨gO + 9, (some 100), rfl, (by first | omega | (simp only [nm, seval]; done) | (simp only [nm, seval]; omega)), (by first | omega | (intro hh; simp only [de, fh, gU, reduceCtorEq] at hh)), ?_⟩, (by first | exact h | (simp only [dc, dT, lJ]; exact h))⟩ <;> first | (simp only [ua, de, dc, iv, dT, fh, gU, cU, cC, bP, cD, cP, dY, cS, dM, cA, fu, lJ, mX, nm, seval] <;> rfl) | rfl⟩
  simp only [dT, hs] at h
  rcases gI with ⟨sW, uU, rfl, Jc, Jd, SZ⟩ | ⟨rfl, rfl⟩
  ·have Je := jH Jc
   have Jf := ne_f Jd
   simp only [vz, tyf, g7, de, H8, dc, (aF iA), iv, dj, cK, dk, du, d6, dD, ir, dT, Je, SZ, Jf, nm, seval]
   exact ⟨List.length p6, qZc _, by rw [jM]; refine ⟨p6, bE + 1, cz, .ref sW 0 (List.length cz) 2 (List.length cz), rfl, qZl fy (qZk (qZf _)), dm fy i0, rfl, (show 7 ≤ gA + 8 by omega), ?_, dj, cK, d6, ?_, ?_, Or.inl ⟨sW, uU, rfl, (by first | omega | (simp only [nm, seval]; done) | (simp only [nm, seval]; omega)), (by first | omega | (intro hh; simp only [de, Je, Jf, reduceCtorEq] at hh)), ?_⟩, (by first | exact h | (simp only [dc, dT]; exact h))⟩ <;> first | (simp only [ua, de, H8, dc, iv, dj, cK, dk, du, d6, dD, ir, dT, Je, SZ, Jf, nm, seval] <;> rfl) | rfl⟩
  ·simp only [vz, tyf, g7, de, H8, dc, (aF iA), iv, dj, cK, dk, du, d6, dD, ir, dT, nm, seval]
   exact ⟨List.length p6, qZc _, by rw [jM]; refine ⟨p6, bE + 1, ([] : List GLe), .lit (.slice none 0 0), rfl, qZl fy (qZk (qZf _)), dm fy i0, rfl, (show 7 ≤ gA + 8 by omega), ?_, dj, cK, d6, ?_, ?_, Or.inr ⟨rfl, rfl⟩, (by first | exact h | (simp only [dc, dT]; exact h))⟩ <;> first | (simp only [ua, de, H8, dc, iv, dj, cK, dk, du, d6, dD, ir, dT, nm, seval] <;> rfl) | rfl⟩
def uW (eU : GLe) : List GLe → Int → Option (LOut (Int) (Unit))
 | [], hT => some (.go ())
 | e0 :: p0, hT => cond (eU.Word == e0.Word && (eU.Letters == e0.Letters)) (some (.ret hT)) (uW eU p0 (hT + 1))
def Ta (ae : List GLe) (eU : GLe) : Option (Int) := cond (lenOk ae) (lbind (uW eU ae 0) (fun r2 => some r2) (fun c1 => some (-1)) (fun _ _ => none)) none
def zP  : List GLe → Int → (List GLe) → Option (LOut (Bool) ((List GLe)))
 | [], sX, oV => some (.go oV)
 | e0 :: p0, sX, oV => Option.bind (Ta oV e0) (fun r1 => cond (decide (r1 < 0)) (some (.ret false)) (Option.bind (sliceO oV (i64.wrap (r1 + 1)) (List.length oV : Int)) (fun s2 => zP p0 (sX + 1) s2)))
def Jg (mI : List GLe) (kU : List GLe) : Option (Bool) := cond (lenOk mI) (lbind (zP mI 0 kU) (fun r4 => some r4) (fun c3 => some ((List.length c3 : Int) == 0)) (fun _ _ => none)) none
def Jh (ae : GLs) (dK : GLx) : Option (Bool) := Option.bind (IT ae dK.Out) (fun r1 => cond (r1) (Option.bind (uQ ae dK.Out) (fun r2 => Option.bind (Jg dK.Ends r2) (fun r3 => some r3))) (some false))
theorem zQ (n : Int) : ∀ (p : List Int) (i : Int), 0 ≤ i → ∃ r, xl n p i = some r ∧ ((p.contains n = true ∧ ∃ j, r = .ret j ∧ 0 ≤ j) ∨ (p.contains n = false ∧ r = .go ()))
 | [], _, _ => ⟨_, rfl, .inr ⟨rfl, rfl⟩⟩
 | e :: p, i, hi => by
  simp only [xl, List.contains_cons]
  cases h : (n == e) with
  | true => exact ⟨_, rfl, .inl ⟨by simp, i, rfl, hi⟩⟩
  | false =>
   obtain ⟨r, h1, h2⟩ := zQ n p (i + 1) (by omega)
   exact ⟨r, h1, by simpa using h2⟩
theorem RF (l : List Int) (n : Int) (h : lenOk l = true) : wj l n = some (l.contains n) := by
 obtain ⟨r, h1, h2⟩ := zQ n l 0 (by omega)
 simp only [wj, Dt, h, cond_true, h1]
 rcases h2 with ⟨h2, j, rfl, hj⟩ | ⟨h2, rfl⟩
 ·simp only [Es, Option.bind_some, h2]
  rw [decide_eq_true (show j ≥ 0 from hj)]
 ·simp only [my, Option.bind_some, h2]
  rfl
def freeB (s : GLs) (i : Int) : Bool := match getI s.Words i with | some w => w.Free | none => false
def outB (s : GLs) (out : List Int) : Bool := decide ((out.length : Int) < s.Words.length) && ((incrL out && out.all (inB 0 ((s.Words.length : Int) - 1))) && out.all (freeB s))
variable {s : GLs}
theorem Ji (h : inB 0 ((s.Words.length : Int) - 1) i = true) : ∃ w, getI s.Words i = some w ∧ w ∈ s.Words := by
 rw [oW] at h
 exact F3 h.1 (by omega)
theorem zR (s : GLs) : ∀ (p : List Int) (i : Int), p.all (inB 0 ((s.Words.length : Int) - 1)) = true → Ds s p i = goB (p.all (freeB s))
 | [], _, _ => rfl
 | e :: p, i, h => by
  simp only [List.all_cons, Bool.and_eq_true] at h
  obtain ⟨w, hw, _⟩ := Ji h.1
  have hf : freeB s e = w.Free := by simp [freeB, hw]
  simp only [Ds, hw, Option.bind_some, zR s p (i + 1) h.2, List.all_cons, hf, m9]
theorem Jj (s : GLs) (out : List Int) (hl : lenOk out = true) (hw : (s.Words.length : Int) < 1000) : IT s out = some (outB s out) := by
 unfold IT outB
 by_cases h : (out.length : Int) < s.Words.length
 ·rw [decide_eq_false (show ¬ ((out.length : Int) ≥ s.Words.length) by omega), decide_eq_true h, cond_false, jJ (by omega) (by omega), SK _ _ _ hl, Option.bind_some]
  cases hb : (incrL out && out.all (inB 0 ((s.Words.length : Int) - 1))) with
  | false => rfl
  | true =>
   have h2 := (Bool.and_eq_true _ _ ▸ hb).2
   simp only [cond_true, hl, zR s out 0 h2, wy, Bool.true_and]
   cases out.all (freeB s) <;> rfl
 ·rw [decide_eq_true (show ((out.length : Int) ≥ s.Words.length) by omega), decide_eq_false h]
  rfl
structure Sh (s : GLs) : Prop where
 nwid : 1 ≤ s.Widths.length ∧ s.Widths.length ≤ 6
 wid : ∀ x ∈ s.Widths, 1 ≤ x ∧ x ≤ 20
 npair : s.Pairs.length ≤ 6
 pair : ∀ p ∈ s.Pairs, 0 ≤ p.Left ∧ 0 ≤ p.Right ∧ 0 ≤ p.Space.Low ∧ p.Space.Low ≤ p.Space.High ∧ p.Space.High ≤ 9
 other : 0 ≤ s.Other.Low ∧ s.Other.Low ≤ s.Other.High ∧ s.Other.High ≤ 9
 gap : 0 ≤ s.Gap.Low ∧ s.Gap.Low ≤ s.Gap.High ∧ s.Gap.High ≤ 20
 hyp : 1 ≤ s.Hyphen ∧ s.Hyphen ≤ 20
 nw : 1 ≤ s.Words.length ∧ s.Words.length ≤ 4
 wlen : ∀ w ∈ s.Words, 1 ≤ w.Signs.length ∧ w.Signs.length ≤ 6
 wsign : ∀ w ∈ s.Words, ∀ c ∈ w.Signs, 0 ≤ c ∧ c < s.Widths.length
 wcut : ∀ w ∈ s.Words, incrL w.Cuts = true ∧ (∀ c ∈ w.Cuts, 1 ≤ c ∧ c < w.Signs.length) ∧ w.Cuts.length ≤ 5
 wide : 1 ≤ s.Wide ∧ s.Wide ≤ 400
 rows : 1 ≤ s.Rows ∧ s.Rows ≤ 3
theorem zS {hi : Int} : ∀ (p : List Int) (q : Int), incr q p = true → p.all (inB 1 hi) = true → q ≤ hi → q + p.length ≤ hi
 | [], q, _, _, h => by simpa using h
 | e :: p, q, h1, h2, h3 => by
  simp only [incr, Bool.and_eq_true, Bool.not_eq_true', decide_eq_false_iff_not] at h1
  simp only [List.all_cons, Bool.and_eq_true, oW] at h2
  have := zS p e h1.2 h2.2 h2.1.2
  simp only [List.length_cons]
  omega
theorem Jk {m : Int} : ∀ (p : List GLp) (q : Option GLp), pairsG m q p = true → ∀ x ∈ p, pairB m x = true
 | [], _, _, x, hx => by cases hx
 | e :: p, none, h, x, hx => by
  simp only [pairsG, Bool.and_eq_true] at h
  rcases List.mem_cons.1 hx with rfl | hx
  ·exact h.1
  ·exact Jk p _ h.2 x hx
 | e :: p, some q, h, x, hx => by
  simp only [pairsG, Bool.and_eq_true] at h
  rcases List.mem_cons.1 hx with rfl | hx
  ·exact h.1
  ·exact Jk p _ h.2.2 x hx
theorem sh_of (h : sheetB s = true) : Sh s := by
 unfold sheetB at h
 simp only [Bool.and_eq_true, oW, List.all_eq_true, decide_eq_true_eq] at h
 obtain ⟨⟨⟨⟨⟨⟨⟨⟨⟨h1, h1'⟩, h2⟩, h3, h3'⟩, h4⟩, h5⟩, h6⟩, h7, h7'⟩, h8⟩, h9⟩ := h
 have hw : i64.wrap ((s.Widths.length : Int) - 1) = (s.Widths.length : Int) - 1 := jJ (by omega) (by omega)
 rw [hw] at h3' h7'
 have hsp : ∀ {m : Int} {x : GSpan}, spanB m x = true → 0 ≤ x.Low ∧ x.Low ≤ x.High ∧ x.High ≤ m := by
  intro m x h
  simpa [spanB] using h
 have hwd : ∀ w ∈ s.Words, (1 ≤ w.Signs.length ∧ w.Signs.length ≤ 6) ∧ (∀ c ∈ w.Signs, 0 ≤ c ∧ c < s.Widths.length) ∧ incrL w.Cuts = true ∧ (w.Cuts.all (inB 1 ((w.Signs.length : Int) - 1)) = true) := by
  intro w hw
  have := h7' w hw
  simp only [wordB, Bool.and_eq_true, oW] at this
  obtain ⟨a, b, c, d⟩ := this
  rw [jJ (by omega) (by omega)] at d
  refine ⟨by omega, fun x hx => ?_, c, d⟩
  have := List.all_eq_true.1 b x hx
  rw [oW] at this
  omega
 refine ⟨by omega, h2, by omega, fun p hp => ?_, hsp h4, hsp h5, h6, by omega, fun w hw => (hwd w hw).1, fun w hw => (hwd w hw).2.1, fun w hw => ?_, h8, h9⟩
 ·have := Jk _ _ h3' p hp
  simp only [pairB, Bool.and_eq_true, oW] at this
  have h := hsp this.2.2
  omega
 ·obtain ⟨⟨a, a'⟩, b, c, d⟩ := hwd w hw
  have d' : ∀ x ∈ w.Cuts, 1 ≤ x ∧ x < w.Signs.length := by
   intro x hx
   have := List.all_eq_true.1 d x hx
   rw [oW] at this
   omega
  refine ⟨c, d', ?_⟩
  cases hc : w.Cuts with
  | nil => simp
  | cons e p =>
   rw [hc] at c d d'
   have h1 := d' e (qZb ..)
   simp only [List.all_cons, Bool.and_eq_true] at d
   have := zS p e c d.2 (by omega)
   simp only [List.length_cons]
   omega
def befE (a b : GLe) : Prop := a.Word < b.Word ∨ a.Word = b.Word ∧ a.Letters < b.Letters
theorem nX {a : GLe} : ¬ befE a a := by unfold befE; omega
theorem tS {a b c : GLe} (h : befE a b) (k : befE b c) : befE a c := by unfold befE at *; omega
def posW (i : Int) (w : GLw) : List GLe := w.Cuts.map (GLe.mk i) ++ [GLe.mk i (w.Signs.length : Int)]
def possL (out : List Int) : List GLw → Int → List GLe
 | [], _ => []
 | w :: ws, i => cond (out.contains i) (possL out ws (i + 1)) (posW i w ++ possL out ws (i + 1))
theorem roomOk16 {n : Nat} (h : n ≤ 1000) : ar 16 n = true := by simp [ar]; omega
theorem zT (i : Int) : ∀ (p : List Int) (c : Int) (acc : List GLe), acc.length + p.length ≤ 1000 → uP i p c acc = some (.go (acc ++ p.map (GLe.mk i)))
 | [], _, acc, _ => by simp [uP]
 | e :: p, c, acc, h => by
  simp only [List.length_cons] at h
  simp only [uP]
  rw [roomOk16 (by simp; omega), cond_true, zT i p (c + 1) _ (by simp; omega)]
  simp
theorem zU (out : List Int) : ∀ (ws : List GLw) (i : Int), (∀ w ∈ ws, w.Cuts.length ≤ 5) → (possL out ws i).length ≤ 6 * ws.length
 | [], _, _ => by simp [possL]
 | w :: ws, i, h => by
  have h1 := zU out ws (i + 1) fun x hx => h x (qZa _ hx)
  have h2 := h w (qZb ..)
  unfold possL
  cases out.contains i <;> simp [posW] <;> omega
theorem uX (out : List Int) (hl : lenOk out = true) : ∀ (ws : List GLw) (i : Int) (acc : List GLe), (∀ w ∈ ws, w.Cuts.length ≤ 5) → acc.length + 6 * ws.length ≤ 1000 → sT out ws i acc = some (.go (acc ++ possL out ws i))
 | [], _, acc, _, _ => by simp [sT, possL]
 | w :: ws, i, acc, h, hn => by
  have h1 : ∀ x ∈ ws, x.Cuts.length ≤ 5 := fun x hx => h x (qZa _ hx)
  have h2 := h w (qZb ..)
  simp only [List.length_cons] at hn
  simp only [sT, RF _ _ hl, Option.bind_some, possL]
  cases out.contains i with
  | true => simp only [cond_true]; exact uX out hl ws (i + 1) acc h1 (by omega)
  | false =>
   simp only [cond_false]
   rw [kH (by omega), cond_true, zT i w.Cuts 0 acc (by omega), my, roomOk16 (by simp; omega), cond_true, uX out hl ws (i + 1) _ h1 (by simp; omega)]
   simp [posW]
theorem zV (h : Sh s) (out : List Int) (hl : lenOk out = true) : uQ s out = some (possL out s.Words 0) := by
 simp only [uQ]
 have := h.nw
 rw [kH (by omega), cond_true, uX out hl s.Words 0 [] (fun w hw => (h.wcut w hw).2.2) (by simp; omega), List.nil_append]
 rfl
theorem Du : ∀ (p : List Int) (q : Int), incr q p = true → (q :: p).Pairwise (· < ·)
 | [], q, _ => List.pairwise_singleton _ _
 | e :: p, q, h => by
  simp only [incr, Bool.and_eq_true, Bool.not_eq_true', decide_eq_false_iff_not] at h
  have ih := Du p e h.2
  rw [List.pairwise_cons]
  refine ⟨fun x hx => ?_, ih⟩
  rcases List.mem_cons.1 hx with rfl | hx
  ·omega
  ·have := (List.pairwise_cons.1 ih).1 x hx
   omega
theorem Jl : ∀ (p : List Int), incrL p = true → p.Pairwise (· < ·)
 | [], _ => List.Pairwise.nil
 | e :: p, h => Du p e h
theorem CG {w : GLw} {e : GLe} : e ∈ posW i w ↔ e.Word = i ∧ (e.Letters ∈ w.Cuts ∨ e.Letters = w.Signs.length) := by
 obtain ⟨a, b⟩ := e
 simp only [posW, List.mem_append, List.mem_map, List.mem_singleton, GLe.mk.injEq]
 constructor
 ·rintro (⟨c, hc, rfl, rfl⟩ | ⟨rfl, rfl⟩)
  ·exact ⟨rfl, .inl hc⟩
  ·exact ⟨rfl, .inr rfl⟩
 ·rintro ⟨rfl, h | rfl⟩
  ·exact .inl ⟨b, h, rfl, rfl⟩
  ·exact .inr ⟨rfl, rfl⟩
theorem Jm (out : List Int) : ∀ (ws : List GLw) (i : Int) (e : GLe), e ∈ possL out ws i ↔ ∃ k : Nat, ∃ w, ws[k]? = some w ∧ out.contains (i + k) = false ∧ e ∈ posW (i + k) w
 | [], i, e => by simp [possL]
 | w :: ws, i, e => by
  have ih := Jm out ws (i + 1) e
  have hsh : (∃ k : Nat, ∃ x, (w :: ws)[k]? = some x ∧ out.contains (i + k) = false ∧ e ∈ posW (i + k) x) ↔ (out.contains i = false ∧ e ∈ posW i w) ∨ ∃ k : Nat, ∃ x, ws[k]? = some x ∧ out.contains (i + 1 + k) = false ∧ e ∈ posW (i + 1 + k) x := by
   constructor
   ·rintro ⟨k, x, h1, h2, h3⟩
    cases k with
    | zero =>
     simp only [List.getElem?_cons_zero, Option.some.injEq] at h1
     subst h1
     simp only [Int.natCast_zero, Int.add_zero] at h2 h3
     exact .inl ⟨h2, h3⟩
    | succ k =>
     have e1 : i + ((k + 1 : Nat) : Int) = i + 1 + k := by omega
     rw [e1] at h2 h3
     exact .inr ⟨k, x, by simpa using h1, h2, h3⟩
   ·rintro (⟨h2, h3⟩ | ⟨k, x, h1, h2, h3⟩)
    ·exact ⟨0, w, rfl, by simpa using h2, by simpa using h3⟩
    ·have e1 : i + ((k + 1 : Nat) : Int) = i + 1 + k := by omega
     exact ⟨k + 1, x, by simpa using h1, by rw [e1]; exact h2, by rw [e1]; exact h3⟩
  rw [hsh]
  unfold possL
  cases hc : out.contains i with
  | true => simp only [cond_true]; rw [ih]; simp
  | false => simp only [cond_false, List.mem_append, ih]; simp
theorem Jn {w : GLw} (h : incrL w.Cuts = true) (h2 : ∀ c ∈ w.Cuts, 1 ≤ c ∧ c < (w.Signs.length : Int)) : (posW i w).Pairwise befE := by
 unfold posW
 rw [List.pairwise_append]
 refine ⟨?_, List.pairwise_singleton _ _, ?_⟩
 ·rw [List.pairwise_map]
  exact (Jl _ h).imp fun h => .inr ⟨rfl, h⟩
 ·intro a ha b hb
  obtain ⟨c, hc, rfl⟩ := List.mem_map.1 ha
  rw [List.mem_singleton.1 hb]
  exact .inr ⟨rfl, (h2 c hc).2⟩
theorem zW (out : List Int) : ∀ (ws : List GLw) (i : Int), (∀ w ∈ ws, incrL w.Cuts = true ∧ ∀ c ∈ w.Cuts, 1 ≤ c ∧ c < (w.Signs.length : Int)) → (possL out ws i).Pairwise befE
 | [], _, _ => List.Pairwise.nil
 | w :: ws, i, h => by
  have ih := zW out ws (i + 1) fun x hx => h x (qZa _ hx)
  have hw := h w (qZb ..)
  unfold possL
  cases out.contains i with
  | true => exact ih
  | false =>
   simp only [cond_false]
   rw [List.pairwise_append]
   refine ⟨Jn hw.1 hw.2, ih, fun a ha b hb => ?_⟩
   obtain ⟨ha, _⟩ := CG.1 ha
   obtain ⟨k, x, _, _, hb⟩ := (Jm out ws (i + 1) b).1 hb
   obtain ⟨hb, _⟩ := CG.1 hb
   left
   omega
def dropTo (e : GLe) : List GLe → Option (List GLe)
 | [] => none
 | f :: r => if e = f then some r else dropTo e r
def areE : List GLe → List GLe → Bool
 | [], r => r.isEmpty
 | e :: p, r => match dropTo e r with
  | none => false
  | some r' => areE p r'
theorem CB (a b : GLe) : (a.Word == b.Word && (a.Letters == b.Letters)) = decide (a = b) := by
 obtain ⟨a1, a2⟩ := a
 obtain ⟨b1, b2⟩ := b
 simp only [GLe.mk.injEq]
 by_cases h1 : a1 = b1 <;> by_cases h2 : a2 = b2 <;> simp [h1, h2]
theorem Tb (e : GLe) : ∀ (p : List GLe) (i : Int), match dropTo e p with
  | none => uW e p i = some (.go ())
  | some r => ∃ k : Nat, uW e p i = some (.ret (i + k)) ∧ k < p.length ∧ r = p.drop (k + 1)
 | [], i => rfl
 | f :: p, i => by
  unfold dropTo
  by_cases h : e = f
  ·simp only [h, if_true]
   exact ⟨0, by simp [uW, CB], by simp, by simp⟩
  ·rw [if_neg h]
   have ih := Tb e p (i + 1)
   cases hd : dropTo e p with
   | none =>
    rw [hd] at ih
    simp only at ih ⊢
    simp only [uW, CB, decide_eq_false h, cond_false, ih]
   | some r =>
    rw [hd] at ih
    simp only at ih ⊢
    obtain ⟨k, h1, h2, h3⟩ := ih
    refine ⟨k + 1, ?_, by simpa using h2, by simpa using h3⟩
    simp only [uW, CB, decide_eq_false h, cond_false, h1]
    congr 2
    omega
theorem Tc : ∀ (p : List GLe) (i : Int) (r : List GLe), r.length ≤ 1000 → (zP p i r = some (.ret false) ∧ areE p r = false) ∨ ∃ r', zP p i r = some (.go r') ∧ areE p r = r'.isEmpty
 | [], i, r, _ => .inr ⟨r, rfl, rfl⟩
 | e :: p, i, r, h => by
  have hx := Tb e r 0
  have hl := kH (xs := r) (by omega)
  unfold areE
  simp only [zP, Ta, hl, cond_true]
  cases hd : dropTo e r with
  | none =>
   rw [hd] at hx
   simp only at hx ⊢
   left
   rw [hx]
   simp [lbind]
  | some r' =>
   rw [hd] at hx
   simp only at hx ⊢
   obtain ⟨k, h1, h2, h3⟩ := hx
   rw [h1, Es, Option.bind_some, decide_eq_false (show ¬ ((0 : Int) + k < 0) by omega), cond_false, jJ (by omega) (by omega)]
   have hs : sliceO r (0 + (k : Int) + 1) (r.length : Int) = some r' := by
    unfold sliceO
    rw [if_pos (by omega)]
    congr 1
    rw [show ((0 : Int) + k + 1).toNat = k + 1 by omega, h3]
    exact List.take_of_length_le (by simp; omega)
   rw [hs, Option.bind_some]
   exact Tc p (i + 1) r' (by rw [h3]; simp; omega)
theorem Jo (ends r : List GLe) (hl : lenOk ends = true) (hr : r.length ≤ 1000) : Jg ends r = some (areE ends r) := by
 simp only [Jg, hl, cond_true]
 rcases Tc ends 0 r hr with ⟨h1, h2⟩ | ⟨r', h1, h2⟩
 ·rw [h1, h2]; rfl
 ·rw [h1, h2, my]
  cases r' with
  | nil => rfl
  | cons a l => simp; omega
def IsS (poss ends : List GLe) : Prop := ends.Pairwise befE ∧ (∀ e ∈ ends, e ∈ poss) ∧ ends.getLast? = poss.getLast?
theorem Jp {e : GLe} : ∀ {r r' : List GLe}, dropTo e r = some r' → ∃ a, r = a ++ e :: r'
 | [], _, h => by cases h
 | f :: r, r', h => by
  unfold dropTo at h
  split at h
  ·rename_i hf
   simp only [Option.some.injEq] at h
   subst h hf
   exact ⟨[], rfl⟩
  ·obtain ⟨a, ha⟩ := Jp h
   exact ⟨f :: a, by rw [ha]; rfl⟩
theorem Td {e : GLe} : ∀ {r : List GLe}, e ∈ r → ∃ r', dropTo e r = some r'
 | [], h => by cases h
 | f :: r, h => by
  unfold dropTo
  split
  ·exact ⟨r, rfl⟩
  ·rename_i hf
   rcases List.mem_cons.1 h with h | h
   ·exact absurd h hf
   ·exact Td h
theorem Jq : ∀ (p r : List GLe), r.Pairwise befE → (areE p r = true ↔ IsS r p)
 | [], r, _ => by
  unfold areE IsS
  cases r with
  | nil => simp
  | cons a l =>
   simp only [List.isEmpty_cons, Bool.false_eq_true, false_iff]
   rintro ⟨_, _, h⟩
   simp [List.getLast?_cons] at h
 | e :: p, r, hr => by
  unfold areE
  constructor
  ·intro h
   cases hd : dropTo e r with
   | none => rw [hd] at h; cases h
   | some r' =>
    rw [hd] at h
    obtain ⟨a, rfl⟩ := Jp hd
    rw [List.pairwise_append] at hr
    obtain ⟨_, mf, _⟩ := hr
    rw [List.pairwise_cons] at mf
    obtain ⟨h1, h2, h3⟩ := (Jq p r' mf.2).1 h
    refine ⟨List.pairwise_cons.2 ⟨fun x hx => mf.1 x (h2 x hx), h1⟩, fun x hx => ?_, ?_⟩
    ·rcases List.mem_cons.1 hx with rfl | hx
     ·simp
     ·have := h2 x hx
      simp [this]
    ·rw [List.getLast?_append, List.getLast?_cons, List.getLast?_cons, h3]
     simp
  ·rintro ⟨h1, h2, h3⟩
   obtain ⟨r', hd⟩ := Td (h2 e (qZb ..))
   rw [hd]
   obtain ⟨a, rfl⟩ := Jp hd
   rw [List.pairwise_append] at hr
   obtain ⟨hra, mf, Jr⟩ := hr
   rw [List.pairwise_cons] at mf h1
   refine (Jq p r' mf.2).2 ⟨h1.2, fun x hx => ?_, ?_⟩
   ·have hb := h1.1 x hx
    rcases List.mem_append.1 (h2 x (qZa _ hx)) with hx' | hx'
    ·exact absurd (tS hb (Jr x hx' e (qZb ..))) nX
    ·rcases List.mem_cons.1 hx' with rfl | hx'
     ·exact absurd hb nX
     ·exact hx'
   ·rw [List.getLast?_append, List.getLast?_cons, List.getLast?_cons] at h3
    simp only [Option.some_or, Option.some.injEq] at h3
    cases hp : p.getLast? with
    | none =>
     rw [hp] at h3
     cases hr' : r'.getLast? with
     | none => rfl
     | some y =>
      rw [hr'] at h3
      simp only [Option.getD_none, Option.getD_some] at h3
      subst h3
      exact absurd (mf.1 _ (List.mem_of_getLast? hr')) nX
    | some z =>
     rw [hp] at h3
     cases hr' : r'.getLast? with
     | none =>
      rw [hr'] at h3
      simp only [Option.getD_none, Option.getD_some] at h3
      subst h3
      exact absurd (h1.1 _ (List.mem_of_getLast? hp)) nX
     | some y =>
      rw [hr'] at h3
      simp only [Option.getD_some] at h3
      rw [h3]
abbrev poss (s : GLs) (out : List Int) : List GLe := possL out s.Words 0
theorem zX (h : Sh s) (out : List Int) : (poss s out).Pairwise befE := zW out _ _ fun w hw => ⟨(h.wcut w hw).1, (h.wcut w hw).2.1⟩
theorem zY (h : Sh s) (out : List Int) : (possL out s.Words 0).length ≤ 24 := by
 have := zU out s.Words 0 fun w hw => (h.wcut w hw).2.2
 have := h.nw
 omega
theorem X1 (h : Sh s) (x : GLx) (hl : lenOk x.Out = true) (he : lenOk x.Ends = true) : Jh s x = some (outB s x.Out && areE x.Ends (poss s x.Out)) := by
 have := h.nw
 have hn := zY h x.Out
 simp only [Jh, Jj s _ hl (by omega), zV h _ hl, Option.bind_some]
 rw [Jo _ _ he (by omega), Option.bind_some, csome]
instance {a b : GLe} : Decidable (befE a b) := inferInstanceAs (Decidable (_ ∨ _))
theorem zZ {hi : Int} : ∀ (p : List Int) (q : Int), incr q p = true → (p.length : Int) < hi - q → ∃ j, q < j ∧ j ≤ hi ∧ j ∉ p
 | [], q, _, h => ⟨q + 1, by omega, by simp at h; omega, by simp⟩
 | e :: p, q, h1, h2 => by
  simp only [incr, Bool.and_eq_true, Bool.not_eq_true', decide_eq_false_iff_not] at h1
  simp only [List.length_cons] at h2
  by_cases he : e = q + 1
  ·obtain ⟨j, a, b, c⟩ := zZ (hi := hi) p e h1.2 (by omega)
   refine ⟨j, by omega, b, fun hm => ?_⟩
   rcases List.mem_cons.1 hm with hm | hm
   ·omega
   ·exact c hm
  ·refine ⟨q + 1, by omega, by omega, fun hm => ?_⟩
   have hpw := Du p e h1.2
   rcases List.mem_cons.1 hm with hm | hm
   ·omega
   ·have := (List.pairwise_cons.1 hpw).1 _ hm
    omega
variable {out : List Int}
theorem Js (h : outB s out = true) : ∃ j : Nat, j < s.Words.length ∧ out.contains (j : Int) = false := by
 simp only [outB, Bool.and_eq_true, decide_eq_true_eq] at h
 obtain ⟨h1, ⟨h2, h2'⟩, _⟩ := h
 have : ∃ j, (-1 : Int) < j ∧ j ≤ (s.Words.length : Int) - 1 ∧ j ∉ out := by
  cases out with
  | nil => exact ⟨0, by omega, by simp at h1; omega, by simp⟩
  | cons e p =>
   simp only [List.length_cons] at h1
   refine zZ (e :: p) (-1) ?_ (by simp only [List.length_cons]; omega)
   simp only [List.all_cons, Bool.and_eq_true, oW] at h2'
   simp only [incrL] at h2
   simp only [incr, h2, Bool.and_true, Bool.not_eq_true', decide_eq_false_iff_not]
   omega
 obtain ⟨j, a, b, c⟩ := this
 exact ⟨j.toNat, by omega, by rw [show ((j.toNat : Nat) : Int) = j by omega]; simpa using c⟩
theorem Jt (h : outB s out = true) : possL out s.Words 0 ≠ [] := by
 obtain ⟨j, h1, h2⟩ := Js h
 intro hn
 have : GLe.mk (j : Int) (s.Words[j].Signs.length : Int) ∈ possL out s.Words 0 := by
  rw [Jm]
  exact ⟨j, s.Words[j], qZi h1, by rw [Int.zero_add]; exact h2, CG.2 ⟨by simp, .inr rfl⟩⟩
 rw [hn] at this
 cases this
end Go.V
end
section
namespace Go.V
open Go Go.Proofs IntKind Tryz
section
variable {P : Program} {K V : Type} {q : K → K → Bool} {kv : K → Value} {ew : V → VV} {t kt et : TypeId} {H : Nat → Option Vo}
theorem X2 {fs : Array Field} {z : V} (hm : P.underlying t = some (.map kt et)) (hu : P.underlying kt = some (.struct fs)) (he : ∀ a b, aG P (Op.equal kt (kv a) (kv b)) = some (q a b)) (hc : ∀ b k, aG P (Instr.checkKey b 10000 kt (kv k)) = some ())
  (hz : ((P.info? et).bind (·.zero)).map ofVal2 = some (ew z)) {l : List (K × V)} {kx : VV} {k : K} (hk : kx.val? = some (kv k)) :
  vlookup P H t (.mt (mtK kv l) (mtV ew l)) kx true = some (.tup [ew (mapGet q z l k), .lit (.bool (mapHas q l k))]) := by
 have := X3 (H := fun _ => some (.map (encM kv ew l))) (β := 0) hm hu he hc hz hk rfl
 unfold vlookup at this ⊢
 rw [Aa]
 exact this
end
end Go.V
end
section
namespace Go.V
open Go Go.Proofs IntKind Tryz
def dQ (a b : Glp) : Bool := ((a.left == b.left) && ((a.right == b.right) && true))
theorem oX (a b : Glp) : aG prog (Op.equal 142 (dx a) (dx b)) = some (dQ a b) := by
 unfold Op.equal
 exact Ju 5 142 _ _ _ (by kernel_rfl) 9995
theorem oY (b : Bool) (k : Glp) : aG prog (Instr.checkKey b 10000 142 (dx k)) = some () := by
 cases b <;> kernel_rfl
theorem sn (a b : Glp) (h : dQ a b = true) : a = b := by
 obtain ⟨aleft, aright⟩ := a
 obtain ⟨bleft, bright⟩ := b
 simp only [dQ, Bool.and_true, Bool.and_eq_true, beq_iff_eq] at h
 simp only [h]
theorem tN (a : Glp) : dQ a a = true := by simp [dQ]
theorem Ab (a : Glp) : Instr.sameBits 10000 (dx a) (dx a) = true := by
 simp [dx, Instr.sameBits]
theorem Ac : ((prog.info? 25).bind (·.zero)).map ofVal2 = some (f8 (GSpan.mk 0 0)) := by kernel_rfl
theorem Ad (k : Glp) : VV.val? (.agg [.lit (.int .i64 k.left), .lit (.int .i64 k.right)]) = some (dx k) := rfl
theorem EY {β : Nat} (l : List (Glp × GSpan)) (k : Glp) (n : GSpan) (H : Nat → Option Vo) (hb : H β = some (.map (encM dx f8 l))) : vmapUpdate prog H 90 (.mp β) (.agg [.lit (.int .i64 k.left), .lit (.int .i64 k.right)]) (.agg [.lit (.int .i64 n.Low), .lit (.int .i64 n.High)]) = some (.upd β (.map (encM dx f8 (mapSet dQ l k n)))) :=
 Jv underlying90 underlying142 oX oY sn Ab (Ad k) hb
theorem Jw {c : VV} {cs : List VV} : aS prog 90 (c :: cs) = some c := by
 have h1 : aggT prog 90 = some false := by kernel_rfl
 simp [aS, vpart, h1]
theorem Jx : szT prog 90 = some 1 := by kernel_rfl
theorem Ae : vzl prog 90 = some [.lit (.map none)] := by kernel_rfl
variable {l : List (Glp × GSpan)} {a_left a_right : Int} {H : Nat → Option Vo}
theorem Af : vlookup prog H 90 (.mt (mtK dx l) (mtV f8 l)) (.agg [.lit (.int .i64 a_left), .lit (.int .i64 a_right)]) false = some (.agg (cGSpan (mapGet dQ (GSpan.mk 0 0) l (Glp.mk a_left a_right)))) :=
 Jy underlying90 underlying142 oX oY Ac (k := (Glp.mk a_left a_right)) rfl
theorem lkto90 : vlookup prog H 90 (.mt (mtK dx l) (mtV f8 l)) (.agg [.lit (.int .i64 a_left), .lit (.int .i64 a_right)]) true = some (.tup [.agg (cGSpan (mapGet dQ (GSpan.mk 0 0) l (Glp.mk a_left a_right))), .lit (.bool (mapHas dQ l (Glp.mk a_left a_right)))]) :=
 X2 underlying90 underlying142 oX oY Ac (k := (Glp.mk a_left a_right)) rfl
theorem Jz (H : Nat → Option Vo) (d : Nat) (n : GSpan) : showV H d (f8 n) = f8 n := by cases d <;> simp [f8, showV, aq, nrm]
theorem J0 {kv : Glp → Value} {d : Nat} : ((encM kv f8 l).map (·.2)).map (showV H d) = mtV f8 l := J1 Jz
def mqr := (qZj (qZj @Dv @Ag) (qZj @oZ True.intro))
def mqt := (qZj (qZj (qZj @Jw @Jx) (qZj @Ae @Af)) (qZj (qZj @lkto90 @Dv) (qZj @Ag (qZj @ln @J0))))
end Go.V
end
