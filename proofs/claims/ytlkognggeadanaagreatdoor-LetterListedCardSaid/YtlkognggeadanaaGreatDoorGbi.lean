/- Part of a proof. -/
import Derived.Test.YtlkognggeadanaaGreatDoorGbh
set_option linter.all false
set_option maxRecDepth 4000
set_option maxHeartbeats 40000000
section
namespace Go.V
open Go Go.Proofs IntKind
def rZ (dP : Int) (jv : Int) : Option (Int) := Option.bind (xH dP) (fun r1 => Option.bind (xH jv) (fun r2 => cond (r1) (cond (r2) (some 0) (some (-1))) (cond (r2) (some 1) (cond (decide (dP < jv)) (some (-1)) (cond (decide (dP > jv)) (some 1) (some 0))))))
theorem Ci (dP : Int) (jv : Int) (R : Int) (h : rZ dP jv = some R) : ad Tryz.prog G0 125 [.lit (.int .i64 dP), .lit (.int .i64 jv)] (.tree (.lit (.int .i64 R))) := by
 refine ad.runR mixed Tryz.call125 Tryz.func125 rfl (by simp [Tryz.ntmps125]; kernel_rfl) ?_
 obtain ⟨KF, h, kF, kN⟩ := dC h
 simp only [rZ] at h
 obtain ⟨r3, o4, h⟩ := optI h kN
 try simp only [hs] at h
 simp only [vz, tyf, nm, seval]
 refine ktA (PU _ _ o4) ?_
 refine bw (fun tm => tm 0 = .lit (.int .i64 dP) ∧ tm 1 = .lit (.int .i64 jv) ∧ tm 8 = .lit (.bool r3) ∧ True) (by refine ⟨?_, ?_, ?_, trivial⟩ <;> first | (simp only [ua, nm, seval] <;> rfl) | rfl) ?_
 rintro tm ⟨e5, e6, e7, _⟩
 obtain ⟨r8, o9, h⟩ := optI h kN
 try simp only [hs] at h
 simp only [vz, tyf, e5, e6, e7, nm, seval]
 refine ktA (PU _ _ o9) ?_
 refine bw (fun tm => tm 0 = .lit (.int .i64 dP) ∧ tm 1 = .lit (.int .i64 jv) ∧ tm 5 = .lit (.bool r3) ∧ tm 10 = .lit (.bool r8) ∧ True) (by refine ⟨e5, e6, ?_, ?_, trivial⟩ <;> first | (simp only [ua, e5, e6, e7, nm, seval] <;> rfl) | rfl) ?_
 rintro tm ⟨aZ, bc, bT, bC, _⟩
 cases bQ : (r3)
 ·simp only [bQ, hs] at h
  cases eh : (r8)
  ·simp only [eh, hs] at h
   cases gO : (decide (dP < jv))
   ·simp only [gO, hs] at h
    cases fg : (decide (dP > jv))
    ·simp only [fg, hs] at h
     try simp only [vz, tyf, aZ, bc, bT, bC, bQ, eh, gO, fg, nm, seval]
     refine cX (x := (.lit (.int .i64 0))) (by first | (simp only [Tryz.results125, resV, resL, aG, d6, dA, uw, cr, tyf, bQ, eh, gO, fg, nm, seval] <;> rfl) | rfl) ?_
     obtain rfl := kF _ h
     refine dB ?_ ?_
     ·simp only [tre, ar, Bool.and_self]
     ·first | (simp only [outV, uw, eF, cr, tyf, nrm, an, aZ, bc, bT, bC, bQ, eh, gO, fg, nm, seval] <;> rfl) | rfl
    simp only [fg, hs] at h
    try simp only [vz, tyf, aZ, bc, bT, bC, bQ, eh, gO, fg, nm, seval]
    refine cX (x := (.lit (.int .i64 1))) (by first | (simp only [Tryz.results125, resV, resL, aG, d6, dA, uw, cr, tyf, bQ, eh, gO, fg, nm, seval] <;> rfl) | rfl) ?_
    obtain rfl := kF _ h
    refine dB ?_ ?_
    ·simp only [tre, ar, Bool.and_self]
    ·first | (simp only [outV, uw, eF, cr, tyf, nrm, an, aZ, bc, bT, bC, bQ, eh, gO, fg, nm, seval] <;> rfl) | rfl
   simp only [gO, hs] at h
   try simp only [vz, tyf, aZ, bc, bT, bC, bQ, eh, gO, nm, seval]
   refine cX (x := (.lit (.int .i64 (-1)))) (by first | (simp only [Tryz.results125, resV, resL, aG, d6, dA, uw, cr, tyf, bQ, eh, gO, nm, seval] <;> rfl) | rfl) ?_
   obtain rfl := kF _ h
   refine dB ?_ ?_
   ·simp only [tre, ar, Bool.and_self]
   ·first | (simp only [outV, uw, eF, cr, tyf, nrm, an, aZ, bc, bT, bC, bQ, eh, gO, nm, seval] <;> rfl) | rfl
  simp only [eh, hs] at h
  try simp only [vz, tyf, aZ, bc, bT, bC, bQ, eh, nm, seval]
  refine cX (x := (.lit (.int .i64 1))) (by first | (simp only [Tryz.results125, resV, resL, aG, d6, dA, uw, cr, tyf, bQ, eh, nm, seval] <;> rfl) | rfl) ?_
  obtain rfl := kF _ h
  refine dB ?_ ?_
  ·simp only [tre, ar, Bool.and_self]
  ·first | (simp only [outV, uw, eF, cr, tyf, nrm, an, aZ, bc, bT, bC, bQ, eh, nm, seval] <;> rfl) | rfl
 simp only [bQ, hs] at h
 cases j9 : (r8)
 ·simp only [j9, hs] at h
  try simp only [vz, tyf, aZ, bc, bT, bC, bQ, j9, nm, seval]
  refine cX (x := (.lit (.int .i64 (-1)))) (by first | (simp only [Tryz.results125, resV, resL, aG, d6, dA, uw, cr, tyf, bQ, j9, nm, seval] <;> rfl) | rfl) ?_
  obtain rfl := kF _ h
  refine dB ?_ ?_
  ·simp only [tre, ar, Bool.and_self]
  ·first | (simp only [outV, uw, eF, cr, tyf, nrm, an, aZ, bc, bT, bC, bQ, j9, nm, seval] <;> rfl) | rfl
 simp only [j9, hs] at h
 try simp only [vz, tyf, aZ, bc, bT, bC, bQ, j9, nm, seval]
 refine cX (x := (.lit (.int .i64 0))) (by first | (simp only [Tryz.results125, resV, resL, aG, d6, dA, uw, cr, tyf, bQ, j9, nm, seval] <;> rfl) | rfl) ?_
 obtain rfl := kF _ h
 refine dB ?_ ?_
 ·simp only [tre, ar, Bool.and_self]
 ·first | (simp only [outV, uw, eF, cr, tyf, nrm, an, aZ, bc, bT, bC, bQ, j9, nm, seval] <;> rfl) | rfl
def xI  : List Int → Int → Option (LOut (Int) (Unit))
 | [], gP => some (.go ())
 | e0 :: p0, gP => cond (e0 != 0) (some (.ret e0)) (xI p0 (gP + 1))
def vv (bM : List Int) : Option (Int) := cond (lenOk bM) (lbind (xI bM 0) (fun r2 => some r2) (fun c1 => some 0) (fun _ _ => none)) none
theorem P6 (bM : List Int) (R : Int) (h : vv bM = some R) : ad Tryz.prog G0 124 [.sl (aa eI bM) (List.length bM) false] (.tree (.lit (.int .i64 R))) := by
 refine ad.runR mixed Tryz.call124 Tryz.func124 rfl (by simp [Tryz.ntmps124]; kernel_rfl) ?_
 obtain ⟨KF, h, kF, kN⟩ := dC h
 simp only [vv] at h
 cases g4 : (lenOk bM)
 ·simp only [g4, hs] at h
  exact absurd h kN
 simp only [g4, hs] at h
 simp only [vz, tyf, g4, nm, seval]
 obtain ⟨K3, h, oP, oh, xJ, xK⟩ := fW h kN
 obtain ⟨f3, oQ, h⟩ := call2 h
 obtain ⟨I3, iJ⟩ : ∃ I : Nat → St → Prop, I = (fun m st => ∃ (p3 : List Int) (bN : Int), m = List.length p3 ∧ 0 ≤ bN ∧ List.drop (Int.toNat bN) bM = p3 ∧ st.df = [] ∧ 5 ≤ st.nx ∧ st.tm 3 = .lit (.int .i64 0) ∧ st.tm 6 = .sl (aa eI bM) (List.length bM) false ∧ st.tm 7 = .lit (.int .i64 (List.length bM : Int)) ∧ st.tm 8 = .lit (.int .i64 bN) ∧ K3 (f3 p3 bN)) := ⟨_, rfl⟩
 refine loopK mixed (by kernel_rfl) I3 (List.length bM) (by rw [iJ]; refine ⟨bM, 0, rfl, qZf _, rfl, rfl, (show 5 ≤ 5 by omega), ?_, ?_, ?_, ?_, h⟩ <;> first | (simp only [ua, nm, seval] <;> rfl) | rfl) ?_
 rintro m ⟨tm, H, kI, df⟩ hinv
 rw [iJ] at hinv
 obtain ⟨p3, bN, rfl, eG, fj, hdf, oR, e5, e6, e7, e8, h⟩ := hinv
 simp only at hdf oR e5 e6 e7 e8
 have n9 := fX (m := 5) (b := kI) (by omega)
 subst hdf oQ
 cases p3 with
 | nil =>
  have cm : (decide (bN < (List.length bM : Int))) = false := fc eG fj
  simp only [xI, hs, reduceCtorEq] at h
  replace h := oh _ h
  try dsimp only at h
  try simp only [hs] at h
  try simp only [vz, tyf, g4, n9, e5, e6, e7, e8, cm, nm, seval]
  refine cX (x := (.lit (.int .i64 0))) (by first | (simp only [Tryz.results124, resV, resL, aG, d6, dA, uw, cr, tyf, g4, n9, cm, nm, seval] <;> rfl) | rfl) ?_
  obtain rfl := kF _ h
  refine dB ?_ ?_
  ·simp only [tre, ar, Bool.and_self]
  ·first | (simp only [outV, uw, eF, cr, tyf, nrm, an, g4, n9, e5, e6, e7, e8, cm, nm, seval] <;> rfl) | rfl
 | cons e3 p3 =>
  have eR : (decide (bN < (List.length bM : Int))) = true := fb eG fj
  have nk := dZ eG fj
  have m6 := fe eG fj g4
  simp only [xI, hs, reduceCtorEq] at h
  cases bQ : (e3 != 0)
  ·simp only [bQ, hs] at h
   simp only [vz, tyf, g4, n9, e5, e6, e7, e8, eR, (aA nk), m6, bQ, nm, seval]
   exact ⟨List.length p3, qZc _, by rw [iJ]; refine ⟨p3, bN + 1, rfl, Int.le_trans eG (Int.le_add_one (qZf _)), bW eG fj, rfl, (show 5 ≤ kI + 9 by omega), e5, e6, e7, ?_, (by first | exact h | (simp only [eR, bQ]; exact h))⟩ <;> first | (simp only [ua, n9, e5, e6, e7, e8, eR, m6, bQ, nm, seval] <;> rfl) | rfl⟩
  simp only [bQ, hs] at h
  try simp only [vz, tyf, g4, n9, e5, e6, e7, e8, eR, (aA nk), m6, bQ, nm, seval]
  refine cX (x := (.lit (.int .i64 e3))) (by first | (simp only [Tryz.results124, resV, resL, aG, d6, dA, uw, cr, tyf, g4, n9, eR, (aA nk), m6, bQ, nm, seval] <;> rfl) | rfl) ?_
  replace h := oP _ h
  try dsimp only at h
  obtain rfl := kF _ h
  refine dB ?_ ?_
  ·simp only [tre, ar, Bool.and_self]
  ·first | (simp only [outV, uw, eF, cr, tyf, nrm, an, g4, n9, e5, e6, e7, e8, eR, (aA nk), m6, bQ, nm, seval] <;> rfl) | rfl
def xL (bg : GLp) (bn : GLp) : Option (Int) := Option.bind (rZ bg.Left bn.Left) (fun r1 => Option.bind (rZ bg.Right bn.Right) (fun r2 => Option.bind (vv ([r1, r2])) (fun r3 => some r3)))
theorem T1 (bg : GLp) (bn : GLp) (R : Int) (h : xL bg bn = some R) : ad Tryz.prog G0 148 [.agg (cGLp bg), .agg (cGLp bn)] (.tree (.lit (.int .i64 R))) := by
 refine ad.runR mixed Tryz.call148 Tryz.func148 rfl (by simp [Tryz.ntmps148]; kernel_rfl) ?_
 obtain ⟨KF, h, kF, kN⟩ := dC h
 simp only [xL] at h
 simp only [vz, tyf, nm, seval]
 refine tg (fun tm => tm 2 = .ptr 0 0 ∧ tm 3 = .ptr 1 0 ∧ True) (by refine ⟨?_, ?_, trivial⟩ <;> first | (simp only [ua, nm, seval] <;> rfl) | rfl) ?_
 rintro tm ⟨e4, e5, _⟩
 obtain ⟨r6, o7, h⟩ := optI h kN
 try simp only [hs] at h
 simp only [vz, tyf, e4, e5, nm, seval]
 refine dktA (Ci _ _ _ o7) ?_
 refine bw (fun tm => tm 2 = .ptr 0 0 ∧ tm 3 = .ptr 1 0 ∧ tm 9 = .lit (.int .i64 r6) ∧ True) (by refine ⟨e4, e5, ?_, trivial⟩ <;> first | (simp only [ua, e4, e5, nm, seval] <;> rfl) | rfl) ?_
 rintro tm ⟨e8, e9, aZ, _⟩
 obtain ⟨nh, iz, h⟩ := optI h kN
 try simp only [hs] at h
 simp only [vz, tyf, e8, e9, aZ, nm, seval]
 refine dktA (Ci _ _ _ iz) ?_
 refine bw (fun tm => tm 9 = .lit (.int .i64 r6) ∧ tm 14 = .lit (.int .i64 nh) ∧ True) (by refine ⟨aZ, ?_, trivial⟩ <;> first | (simp only [ua, e8, e9, aZ, nm, seval] <;> rfl) | rfl) ?_
 rintro tm ⟨bC, cG, _⟩
 obtain ⟨th, ia, h⟩ := optI h kN
 try simp only [hs] at h
 simp only [vz, tyf, bC, cG, nm, seval]
 refine dkseen1 (w := 1) (enc := eI) (xs := ([r6, nh])) (el := (some 3)) ⟨eI_ok.tree, eI_ok.norm⟩ (fun _ => rfl) (by simp only [List.length_cons, List.length_nil]; decide) (by simp only [bt, bY, jo, nm, seval] <;> rfl) (P6 _ _ ia) (by first | rfl | simp only [VV.flat, flatL, Bool.and_self]) ?_
 refine bw (fun tm => tm 16 = .lit (.int .i64 th) ∧ True) (by refine ⟨?_, trivial⟩ <;> first | (simp only [ua, bC, cG, nm, seval] <;> rfl) | rfl) ?_
 rintro tm ⟨cI, _⟩
 simp only [vz, tyf, cI, nm, seval]
 refine mY ⟨?_, ?_⟩
 ·simp only [mZ, nd, hZ, nf, and_true, true_and]
  repeat' (first | exact trivial | refine And.intro ?_ ?_ | rw [hZ] | rw [ng] | exact Or.inl (by decide +kernel) | exact Or.inl (by dsimp only; decide +kernel) | (refine Or.inr ⟨?_, ?_⟩ <;> simp; done) | (refine Or.inr ⟨?_, ?_⟩ <;> simp <;> omega) | (refine Or.inr ⟨?_, ?_⟩ <;> simp [VEff.wr] <;> omega))
 try simp only [vz, tyf, cI, nm, seval]
 refine cX (x := (.lit (.int .i64 th))) (by first | (simp only [Tryz.results148, resV, resL, aG, d6, dA, uw, cr, tyf, nm, seval] <;> rfl) | rfl) ?_
 obtain rfl := kF _ h
 refine dB ?_ ?_
 ·simp only [tre, ar, Bool.and_self]
 ·first | (simp only [outV, uw, eF, cr, tyf, nrm, an, cI, nm, seval] <;> rfl) | rfl
def qO (aj : List GLp) (aN : Int) : List GLp → Int → Option (LOut (Bool) (Unit))
 | [], cY => some (.go ())
 | e0 :: p0, cY => Option.bind (m7 0 e0.Left (i64.wrap (aN - 1))) (fun r1 => cond (r1) (Option.bind (m7 0 e0.Right (i64.wrap (aN - 1))) (fun r2 => cond (r2) (Option.bind (t7 0 e0.Space 9) (fun r3 => cond (r3) (cond (decide (cY > 0)) (Option.bind (getI aj (i64.wrap (cY - 1))) (fun x4 => Option.bind (xL x4 e0) (fun r5 => cond (decide (r5 ≥ 0)) (some (.ret false)) (qO aj aN p0 (cY + 1))))) (qO aj aN p0 (cY + 1))) (some (.ret false)))) (some (.ret false)))) (some (.ret false)))
def xM (aj : List GLp) (aN : Int) : Option (Bool) := cond (decide ((List.length aj : Int) > 6)) (some false) (cond (lenOk aj) (lbind (qO aj aN aj 0) (fun r7 => some r7) (fun c6 => some true) (fun _ _ => none)) none)
theorem T2 (aj : List GLp) (aN : Int) (R : Bool) (h : xM aj aN = some R) : ad Tryz.prog G0 110 [.sl (aa cGLp aj) (List.length aj) false, .lit (.int .i64 aN)] (.tree (.lit (.bool R))) := by
 refine ad.runR mixed Tryz.call110 Tryz.func110 rfl (by simp [Tryz.ntmps110]; kernel_rfl) ?_
 obtain ⟨KF, h, kF, kN⟩ := dC h
 simp only [xM] at h
 cases d8 : (decide ((List.length aj : Int) > 6))
 ·simp only [d8, hs] at h
  cases iA : (lenOk aj)
  ·simp only [iA, hs] at h
   exact absurd h kN
  simp only [iA, hs] at h
  simp only [vz, tyf, d8, iA, nm, seval]
  obtain ⟨K9, h, v8, EK, T3, t8⟩ := fW h kN
  obtain ⟨f9, EL, h⟩ := call2 h
  obtain ⟨I9, se⟩ : ∃ I : Nat → St → Prop, I = (fun m st => ∃ (p9 : List GLp) (cz : Int), m = List.length p9 ∧ 0 ≤ cz ∧ List.drop (Int.toNat cz) aj = p9 ∧ st.df = [] ∧ 7 ≤ st.nx ∧ st.tm 0 = .sl (aa cGLp aj) (List.length aj) false ∧ st.tm 1 = .lit (.int .i64 aN) ∧ st.tm 10 = .sl (aa cGLp aj) (List.length aj) false ∧ st.tm 11 = .lit (.int .i64 (List.length aj : Int)) ∧ st.tm 12 = .lit (.int .i64 cz) ∧ K9 (f9 p9 cz)) := ⟨_, rfl⟩
  refine loopK mixed (by kernel_rfl) I9 (List.length aj) (by rw [se]; refine ⟨aj, 0, rfl, qZf _, rfl, rfl, (show 7 ≤ 7 by omega), ?_, ?_, ?_, ?_, ?_, h⟩ <;> first | (simp only [ua, d8, nm, seval] <;> rfl) | rfl) ?_
  rintro m ⟨tm, H, lr, df⟩ hinv
  rw [se] at hinv
  obtain ⟨p9, cz, rfl, lS, om, hdf, EM, bc, bT, bC, cG, dM, h⟩ := hinv
  simp only at hdf EM bc bT bC cG dM
  have iK := fX (m := 7) (b := lr) (by omega)
  subst hdf EL
  cases p9 with
  | nil =>
   have fg : (decide (cz < (List.length aj : Int))) = false := fc lS om
   simp only [qO, hs, reduceCtorEq] at h
   replace h := EK _ h
   try dsimp only at h
   try simp only [hs] at h
   try simp only [vz, tyf, d8, iA, iK, bc, bT, bC, cG, dM, fg, nm, seval]
   obtain rfl := kF _ h
   exact bk Tryz.results110 rfl
  | cons e9 p9 =>
   have j9 : (decide (cz < (List.length aj : Int))) = true := fb lS om
   have k8 := dZ lS om
   have t9 := fe lS om iA
   simp only [qO, hs, reduceCtorEq] at h
   obtain ⟨xN, EN, h⟩ := optI h t8
   try simp only [hs] at h
   simp only [vz, tyf, d8, iA, iK, bc, bT, bC, cG, dM, j9, (cn k8), t9, nm, seval]
   refine ktA (qq _ _ _ _ EN) ?_
   refine bw (fun tm => tm 0 = .sl (aa cGLp aj) (List.length aj) false ∧ tm 1 = .lit (.int .i64 aN) ∧ tm 5 = .lit (.int .i64 cz) ∧ tm 6 = .ptr (lr + 4) 0 ∧ tm 10 = .sl (aa cGLp aj) (List.length aj) false ∧ tm 11 = .lit (.int .i64 (List.length aj : Int)) ∧ tm 12 = .lit (.int .i64 cz) ∧ tm 21 = .lit (.bool xN) ∧ True) (by refine ⟨bc, bT, ?_, ?_, bC, cG, dM, ?_, trivial⟩ <;> first | (simp only [ua, d8, iK, bc, bT, bC, cG, dM, j9, t9, nm, seval] <;> rfl) | rfl) ?_
   rintro tm ⟨cZ, dH, dN, dI, ec, eQ, fY, bU, _⟩
   cases ic : (xN)
   ·simp only [ic, hs] at h
    try simp only [vz, tyf, d8, iA, iK, j9, (cn k8), t9, cZ, dH, dN, dI, ec, eQ, fY, bU, ic, nm, seval]
    replace h := v8 _ h
    try dsimp only at h
    obtain rfl := kF _ h
    exact bk Tryz.results110 rfl
   simp only [ic, hs] at h
   obtain ⟨sf, xO, h⟩ := optI h t8
   try simp only [hs] at h
   simp only [vz, tyf, d8, iA, iK, j9, (cn k8), t9, cZ, dH, dN, dI, ec, eQ, fY, bU, ic, nm, seval]
   refine ktA (qq _ _ _ _ xO) ?_
   refine bw (fun tm => tm 0 = .sl (aa cGLp aj) (List.length aj) false ∧ tm 1 = .lit (.int .i64 aN) ∧ tm 5 = .lit (.int .i64 cz) ∧ tm 6 = .ptr (lr + 4) 0 ∧ tm 10 = .sl (aa cGLp aj) (List.length aj) false ∧ tm 11 = .lit (.int .i64 (List.length aj : Int)) ∧ tm 12 = .lit (.int .i64 cz) ∧ tm 23 = .lit (.bool false) ∧ tm 28 = .lit (.bool sf) ∧ True) (by refine ⟨cZ, dH, dN, dI, ec, eQ, fY, ?_, ?_, trivial⟩ <;> first | (simp only [ua, d8, iK, j9, t9, cZ, dH, dN, dI, ec, eQ, fY, bU, ic, nm, seval] <;> rfl) | rfl) ?_
   rintro tm ⟨gQ, lT, dX, cb, bH, bR, bO, bS, bD, _⟩
   cases oo : (sf)
   ·simp only [oo, hs] at h
    have T4 := And.intro d8 (And.intro iA (And.intro iK (And.intro j9 (And.intro t9 (And.intro ic oo)))))
    try simp only [vz, tyf, T4, (cn k8), gQ, lT, dX, cb, bH, bR, bO, bS, bD, nm, seval]
    replace h := v8 _ h
    try dsimp only at h
    obtain rfl := kF _ h
    exact bk Tryz.results110 rfl
   simp only [oo, hs] at h
   have lu := And.intro d8 (And.intro iA (And.intro iK (And.intro j9 (And.intro t9 (And.intro ic oo)))))
   obtain ⟨PV, v9, h⟩ := optI h t8
   try simp only [hs] at h
   simp only [vz, tyf, lu, (cn k8), gQ, lT, dX, cb, bH, bR, bO, bS, bD, nm, seval]
   refine ktA (EO _ _ _ _ v9) ?_
   refine bw (fun tm => tm 0 = .sl (aa cGLp aj) (List.length aj) false ∧ tm 1 = .lit (.int .i64 aN) ∧ tm 5 = .lit (.int .i64 cz) ∧ tm 6 = .ptr (lr + 4) 0 ∧ tm 10 = .sl (aa cGLp aj) (List.length aj) false ∧ tm 11 = .lit (.int .i64 (List.length aj : Int)) ∧ tm 12 = .lit (.int .i64 cz) ∧ tm 31 = .lit (.bool false) ∧ tm 34 = .lit (.bool PV) ∧ True) (by refine ⟨gQ, lT, dX, cb, bH, bR, bO, ?_, ?_, trivial⟩ <;> first | (simp only [ua, lu, gQ, lT, dX, cb, bH, bR, bO, bS, bD, nm, seval] <;> rfl) | rfl) ?_
   rintro tm ⟨ie, fZ, jk, kJ, oq, si, jA, lU, kK, _⟩
   cases m8 : (PV)
   ·simp only [m8, hs] at h
    try simp only [vz, tyf, lu, (cn k8), ie, fZ, jk, kJ, oq, si, jA, lU, kK, m8, nm, seval]
    replace h := v8 _ h
    try dsimp only at h
    obtain rfl := kF _ h
    exact bk Tryz.results110 rfl
   simp only [m8, hs] at h
   simp only [vz, tyf, lu, (cn k8), ie, fZ, jk, kJ, oq, si, jA, lU, kK, m8, nm, seval]
   refine m3 (fun tm => tm 0 = .sl (aa cGLp aj) (List.length aj) false ∧ tm 1 = .lit (.int .i64 aN) ∧ tm 5 = .lit (.int .i64 cz) ∧ tm 6 = .ptr (lr + 4) 0 ∧ tm 10 = .sl (aa cGLp aj) (List.length aj) false ∧ tm 11 = .lit (.int .i64 (List.length aj : Int)) ∧ tm 12 = .lit (.int .i64 cz) ∧ True) (by refine ⟨ie, fZ, jk, kJ, oq, si, jA, trivial⟩ <;> first | (simp only [ua, lu, ie, fZ, jk, kJ, oq, si, jA, lU, kK, m8, nm, seval] <;> rfl) | rfl) ?_
   rintro tm ⟨jB, jO, oS, oT, fC, fS, gI, _⟩
   cases lv : (decide (cz > 0))
   ·simp only [lv, hs] at h
    simp only [vz, tyf, lu, (cn k8), m8, jB, jO, oS, oT, fC, fS, gI, lv, nm, seval]
    exact ⟨List.length p9, qZc _, by rw [se]; refine ⟨p9, cz + 1, rfl, Int.le_trans lS (Int.le_add_one (qZf _)), bW lS om, rfl, (show 7 ≤ lr + 41 by omega), jB, jO, fC, fS, ?_, (by first | exact h | (simp only [lu, m8, lv]; exact h))⟩ <;> first | (simp only [ua, lu, m8, jB, jO, oS, oT, fC, fS, gI, lv, nm, seval] <;> rfl) | rfl⟩
   simp only [lv, hs] at h
   obtain ⟨XC, xP, h⟩ := optI h t8
   try simp only [hs] at h
   obtain ⟨xQ, EP, h⟩ := optI h t8
   try simp only [hs] at h
   simp only [vz, tyf, lu, (cn k8), m8, jB, jO, oS, oT, fC, fS, gI, lv, (cn xP), nm, seval]
   refine dktA (T1 _ _ _ EP) ?_
   refine bw (fun tm => tm 0 = .sl (aa cGLp aj) (List.length aj) false ∧ tm 1 = .lit (.int .i64 aN) ∧ tm 10 = .sl (aa cGLp aj) (List.length aj) false ∧ tm 11 = .lit (.int .i64 (List.length aj : Int)) ∧ tm 12 = .lit (.int .i64 cz) ∧ tm 39 = .lit (.bool true) ∧ tm 46 = .lit (.int .i64 xQ) ∧ True) (by refine ⟨jB, jO, fC, fS, gI, ?_, ?_, trivial⟩ <;> first | (simp only [ua, lu, m8, jB, jO, oS, oT, fC, fS, gI, lv, nm, seval] <;> rfl) | rfl) ?_
   rintro tm ⟨fk, m9, lV, qs, iL, iM, fm, _⟩
   cases vA : (decide (xQ ≥ 0))
   ·simp only [vA, hs] at h
    simp only [vz, tyf, lu, (cn k8), m8, lv, (cn xP), fk, m9, lV, qs, iL, iM, fm, vA, nm, seval]
    exact ⟨List.length p9, qZc _, by rw [se]; refine ⟨p9, cz + 1, rfl, Int.le_trans lS (Int.le_add_one (qZf _)), bW lS om, rfl, (show 7 ≤ lr + 41 by omega), fk, m9, lV, qs, ?_, (by first | exact h | (simp only [lu, m8, lv, vA]; exact h))⟩ <;> first | (simp only [ua, lu, m8, lv, fk, m9, lV, qs, iL, iM, fm, vA, nm, seval] <;> rfl) | rfl⟩
   simp only [vA, hs] at h
   try simp only [vz, tyf, lu, (cn k8), m8, lv, (cn xP), fk, m9, lV, qs, iL, iM, fm, vA, nm, seval]
   replace h := v8 _ h
   try dsimp only at h
   obtain rfl := kF _ h
   exact bk Tryz.results110 rfl
 simp only [d8, hs] at h
 try simp only [vz, tyf, d8, nm, seval]
 obtain rfl := kF _ h
 exact bk Tryz.results110 rfl
def vB (ah : List Int) : List Int → Int → Option (LOut (Bool) (Unit))
 | [], tA => some (.go ())
 | e0 :: p0, tA => Option.bind (getI ah (i64.wrap (tA - 1))) (fun x1 => cond (decide (e0 ≤ x1)) (some (.ret false)) (vB ah p0 (tA + 1)))
def vC (aO : Int) (ah : List Int) (bd : Int) : Option (Bool) := cond (lenOk ah) (cond (leB 0 1) (lbind (vB ah (List.drop (Int.toNat 1) ah) 1) (fun r4 => some r4) (fun c2 => Option.bind (tB aO ah bd) (fun r3 => some r3)) (fun _ _ => none)) none) none
theorem PW (aO : Int) (ah : List Int) (bd : Int) (R : Bool) (h : vC aO ah bd = some R) : ad Tryz.prog G0 149 [.lit (.int .i64 aO), .sl (aa eI ah) (List.length ah) false, .lit (.int .i64 bd)] (.tree (.lit (.bool R))) := by
 refine ad.runR mixed Tryz.call149 Tryz.func149 rfl (by simp [Tryz.ntmps149]; kernel_rfl) ?_
 obtain ⟨KF, h, kF, kN⟩ := dC h
 simp only [vC] at h
 cases g6 : (lenOk ah)
 ·simp only [g6, hs] at h
  exact absurd h kN
 simp only [g6, hs] at h
 cases g7 : (leB 0 1)
 ·simp only [g7, hs] at h
  exact absurd h kN
 simp only [g7, hs] at h
 simp only [vz, tyf, g6, g7, nm, seval]
 obtain ⟨K5, h, tC, tD, ES, sj⟩ := fW h kN
 obtain ⟨f5, tE, h⟩ := call2 h
 obtain ⟨I5, lW⟩ : ∃ I : Nat → St → Prop, I = (fun m st => ∃ (p5 : List Int) (jP : Int), m = List.length p5 ∧ 0 ≤ jP ∧ List.drop (Int.toNat jP) ah = p5 ∧ st.df = [] ∧ 2 ≤ st.nx ∧ st.tm 0 = .lit (.int .i64 aO) ∧ st.tm 1 = .sl (aa eI ah) (List.length ah) false ∧ st.tm 2 = .lit (.int .i64 bd) ∧ st.tm 7 = .lit (.int .i64 jP) ∧ K5 (f5 p5 jP)) := ⟨_, rfl⟩
 refine loopK mixed (by kernel_rfl) I5 (List.length (List.drop (Int.toNat 1) ah)) (by rw [lW]; refine ⟨List.drop (Int.toNat 1) ah, 1, rfl, of_decide_eq_true g7, rfl, rfl, (show 2 ≤ 2 by omega), ?_, ?_, ?_, ?_, h⟩ <;> first | (simp only [ua, nm, seval] <;> rfl) | rfl) ?_
 rintro m ⟨tm, H, oU, df⟩ hinv
 rw [lW] at hinv
 obtain ⟨p5, jP, rfl, gR, iN, hdf, m0, e8, e9, aZ, bc, h⟩ := hinv
 simp only at hdf m0 e8 e9 aZ bc
 have ig := fX (m := 2) (b := oU) (by omega)
 subst hdf tE
 cases p5 with
 | nil =>
  have br : (decide (jP < (List.length ah : Int))) = false := fc gR iN
  simp only [vB, hs, reduceCtorEq] at h
  replace h := tD _ h
  try dsimp only at h
  try simp only [hs] at h
  obtain ⟨iO, ly, h⟩ := optI h kN
  try simp only [hs] at h
  simp only [vz, tyf, g6, g7, ig, e8, e9, aZ, bc, br, nm, seval]
  refine ktA (ET _ _ _ _ ly) ?_
  refine bw (fun tm => tm 27 = .lit (.bool iO) ∧ True) (by refine ⟨?_, trivial⟩ <;> first | (simp only [ua, ig, e8, e9, aZ, bc, br, nm, seval] <;> rfl) | rfl) ?_
  rintro tm ⟨da, _⟩
  try simp only [vz, tyf, g6, g7, ig, br, da, nm, seval]
  obtain rfl := kF _ h
  exact bk Tryz.results149 rfl
 | cons e5 p5 =>
  have fg : (decide (jP < (List.length ah : Int))) = true := fb gR iN
  have oV := dZ gR iN
  have xR := fe gR iN g6
  simp only [vB, hs, reduceCtorEq] at h
  simp only [vz, tyf, g6, g7, ig, e8, e9, aZ, bc, fg, (aA oV), xR, nm, seval]
  refine m3 (fun tm => tm 0 = .lit (.int .i64 aO) ∧ tm 1 = .sl (aa eI ah) (List.length ah) false ∧ tm 2 = .lit (.int .i64 bd) ∧ tm 7 = .lit (.int .i64 jP) ∧ True) (by refine ⟨e8, e9, aZ, bc, trivial⟩ <;> first | (simp only [ua, ig, e8, e9, aZ, bc, fg, xR, nm, seval] <;> rfl) | rfl) ?_
  rintro tm ⟨gJ, dQ, cg, cZ, _⟩
  obtain ⟨T5, sk, h⟩ := optI h sj
  try simp only [hs] at h
  cases ot : (decide (e5 ≤ T5))
  ·simp only [ot, hs] at h
   simp only [vz, tyf, g6, g7, ig, fg, (aA oV), xR, gJ, dQ, cg, cZ, (aA sk), ot, nm, seval]
   exact ⟨List.length p5, qZc _, by rw [lW]; refine ⟨p5, jP + 1, rfl, Int.le_trans gR (Int.le_add_one (qZf _)), bW gR iN, rfl, (show 2 ≤ oU + 17 by omega), gJ, dQ, cg, ?_, (by first | exact h | (simp only [fg, ot]; exact h))⟩ <;> first | (simp only [ua, ig, fg, xR, gJ, dQ, cg, cZ, ot, nm, seval] <;> rfl) | rfl⟩
  simp only [ot, hs] at h
  try simp only [vz, tyf, g6, g7, ig, fg, (aA oV), xR, gJ, dQ, cg, cZ, (aA sk), ot, nm, seval]
  replace h := tC _ h
  try dsimp only at h
  obtain rfl := kF _ h
  exact bk Tryz.results149 rfl
def vD (aN : Int) : List GLw → Int → Option (LOut (Bool) (Unit))
 | [], sm => some (.go ())
 | e0 :: p0, sm => Option.bind (m7 1 (List.length e0.Signs : Int) 6) (fun r2 => cond (r2) (Option.bind (tB 0 e0.Signs (i64.wrap (aN - 1))) (fun r3 => cond (r3) (Option.bind (vC 1 e0.Cuts (i64.wrap ((List.length e0.Signs : Int) - 1))) (fun r4 => cond (r4) (vD aN p0 (sm + 1)) (some (.ret false)))) (some (.ret false)))) (some (.ret false)))
def xS (aT : List GLw) (aN : Int) : Option (Bool) := Option.bind (m7 1 (List.length aT : Int) 4) (fun r1 => cond (r1) (cond (lenOk aT) (lbind (vD aN aT 0) (fun r6 => some r6) (fun c5 => some true) (fun _ _ => none)) none) (some false))
theorem T6 (aT : List GLw) (aN : Int) (R : Bool) (h : xS aT aN = some R) : ad Tryz.prog G0 113 [.sl (aa cGLw aT) (List.length aT) false, .lit (.int .i64 aN)] (.tree (.lit (.bool R))) := by
 refine ad.runR mixed Tryz.call113 Tryz.func113 rfl (by simp [Tryz.ntmps113]; kernel_rfl) ?_
 obtain ⟨KF, h, kF, kN⟩ := dC h
 simp only [xS] at h
 obtain ⟨r7, o8, h⟩ := optI h kN
 try simp only [hs] at h
 simp only [vz, tyf, nm, seval]
 refine ktA (qq _ _ _ _ o8) ?_
 refine bw (fun tm => tm 0 = .sl (aa cGLw aT) (List.length aT) false ∧ tm 1 = .lit (.int .i64 aN) ∧ tm 10 = .lit (.bool r7) ∧ True) (by refine ⟨?_, ?_, ?_, trivial⟩ <;> first | (simp only [ua, nm, seval] <;> rfl) | rfl) ?_
 rintro tm ⟨e9, aZ, bc, _⟩
 cases bz : (r7)
 ·simp only [bz, hs] at h
  try simp only [vz, tyf, e9, aZ, bc, bz, nm, seval]
  obtain rfl := kF _ h
  exact bk Tryz.results113 rfl
 simp only [bz, hs] at h
 cases k9 : (lenOk aT)
 ·simp only [k9, hs] at h
  exact absurd h kN
 simp only [k9, hs] at h
 simp only [vz, tyf, e9, aZ, bc, bz, k9, nm, seval]
 obtain ⟨EU, h, oW, tF, EV, oX⟩ := fW h kN
 obtain ⟨EW, tG, h⟩ := call2 h
 obtain ⟨EX, lX⟩ : ∃ I : Nat → St → Prop, I = (fun m st => ∃ (kL : List GLw) (dR : Int), m = List.length kL ∧ 0 ≤ dR ∧ List.drop (Int.toNat dR) aT = kL ∧ st.df = [] ∧ 8 ≤ st.nx ∧ st.tm 1 = .lit (.int .i64 aN) ∧ st.tm 12 = .sl (aa cGLw aT) (List.length aT) false ∧ st.tm 13 = .lit (.int .i64 (List.length aT : Int)) ∧ st.tm 14 = .lit (.int .i64 dR) ∧ EU (EW kL dR)) := ⟨_, rfl⟩
 refine loopK mixed (by kernel_rfl) EX (List.length aT) (by rw [lX]; refine ⟨aT, 0, rfl, qZf _, rfl, rfl, (show 8 ≤ 8 by omega), aZ, ?_, ?_, ?_, h⟩ <;> first | (simp only [ua, e9, aZ, bc, bz, nm, seval] <;> rfl) | rfl) ?_
 rintro m ⟨tm, H, lY, df⟩ hinv
 rw [lX] at hinv
 obtain ⟨kL, dR, rfl, gS, iP, hdf, tH, dM, da, cI, cj, h⟩ := hinv
 simp only at hdf tH dM da cI cj
 have sn := fX (m := 8) (b := lY) (by omega)
 subst hdf tG
 cases kL with
 | nil =>
  have cw : (decide (dR < (List.length aT : Int))) = false := fc gS iP
  simp only [vD, hs, reduceCtorEq] at h
  replace h := tF _ h
  try dsimp only at h
  try simp only [hs] at h
  try simp only [vz, tyf, bz, k9, sn, dM, da, cI, cj, cw, nm, seval]
  obtain rfl := kF _ h
  exact bk Tryz.results113 rfl
 | cons bC kL =>
  have gj : (decide (dR < (List.length aT : Int))) = true := fb gS iP
  have oY := dZ gS iP
  have so := fe gS iP k9
  simp only [vD, hs, reduceCtorEq] at h
  obtain ⟨xT, sk, h⟩ := optI h oX
  try simp only [hs] at h
  simp only [vz, tyf, bz, k9, sn, dM, da, cI, cj, gj, (aE oY), so, nm, seval]
  refine ktA (qq _ _ _ _ sk) ?_
  refine bw (fun tm => tm 1 = .lit (.int .i64 aN) ∧ tm 6 = .ptr (lY + 3) 0 ∧ tm 7 = .lit (.int .i64 (List.length bC.Signs : Int)) ∧ tm 12 = .sl (aa cGLw aT) (List.length aT) false ∧ tm 13 = .lit (.int .i64 (List.length aT : Int)) ∧ tm 14 = .lit (.int .i64 dR) ∧ tm 22 = .lit (.bool xT) ∧ True) (by refine ⟨dM, ?_, ?_, da, cI, cj, ?_, trivial⟩ <;> first | (simp only [ua, bz, sn, dM, da, cI, cj, gj, so, nm, seval] <;> rfl) | rfl) ?_
  rintro tm ⟨dI, ec, eQ, fY, bU, mA, lZ, _⟩
  cases tI : (xT)
  ·simp only [tI, hs] at h
   try simp only [vz, tyf, bz, k9, sn, gj, (aE oY), so, dI, ec, eQ, fY, bU, mA, lZ, tI, nm, seval]
   replace h := oW _ h
   try dsimp only at h
   obtain rfl := kF _ h
   exact bk Tryz.results113 rfl
  simp only [tI, hs] at h
  obtain ⟨xU, EY, h⟩ := optI h oX
  try simp only [hs] at h
  simp only [vz, tyf, bz, k9, sn, gj, (aE oY), so, dI, ec, eQ, fY, bU, mA, lZ, tI, nm, seval]
  refine ktA (ET _ _ _ _ EY) ?_
  refine bw (fun tm => tm 1 = .lit (.int .i64 aN) ∧ tm 6 = .ptr (lY + 3) 0 ∧ tm 7 = .lit (.int .i64 (List.length bC.Signs : Int)) ∧ tm 12 = .sl (aa cGLw aT) (List.length aT) false ∧ tm 13 = .lit (.int .i64 (List.length aT : Int)) ∧ tm 14 = .lit (.int .i64 dR) ∧ tm 24 = .lit (.bool false) ∧ tm 29 = .lit (.bool xU) ∧ True) (by refine ⟨dI, ec, eQ, fY, bU, mA, ?_, ?_, trivial⟩ <;> first | (simp only [ua, bz, sn, gj, so, dI, ec, eQ, fY, bU, mA, lZ, tI, nm, seval] <;> rfl) | rfl) ?_
  rintro tm ⟨dX, cb, bH, bR, bO, bS, bD, bV, _⟩
  cases sq : (xU)
  ·simp only [sq, hs] at h
   have lu := And.intro bz (And.intro k9 (And.intro sn (And.intro gj (And.intro so (And.intro tI sq)))))
   try simp only [vz, tyf, lu, (aE oY), dX, cb, bH, bR, bO, bS, bD, bV, nm, seval]
   replace h := oW _ h
   try dsimp only at h
   obtain rfl := kF _ h
   exact bk Tryz.results113 rfl
  simp only [sq, hs] at h
  have vE := And.intro bz (And.intro k9 (And.intro sn (And.intro gj (And.intro so (And.intro tI sq)))))
  obtain ⟨PX, vF, h⟩ := optI h oX
  try simp only [hs] at h
  simp only [vz, tyf, vE, (aE oY), dX, cb, bH, bR, bO, bS, bD, bV, nm, seval]
  refine ktA (PW _ _ _ _ vF) ?_
  refine bw (fun tm => tm 1 = .lit (.int .i64 aN) ∧ tm 12 = .sl (aa cGLw aT) (List.length aT) false ∧ tm 13 = .lit (.int .i64 (List.length aT : Int)) ∧ tm 14 = .lit (.int .i64 dR) ∧ tm 32 = .lit (.bool false) ∧ tm 37 = .lit (.bool PX) ∧ True) (by refine ⟨dX, bR, bO, bS, ?_, ?_, trivial⟩ <;> first | (simp only [ua, vE, dX, cb, bH, bR, bO, bS, bD, bV, nm, seval] <;> rfl) | rfl) ?_
  rintro tm ⟨fZ, jk, kJ, oq, si, jA, _⟩
  cases vG : (PX)
  ·simp only [vG, hs] at h
   try simp only [vz, tyf, vE, (aE oY), fZ, jk, kJ, oq, si, jA, vG, nm, seval]
   replace h := oW _ h
   try dsimp only at h
   obtain rfl := kF _ h
   exact bk Tryz.results113 rfl
  simp only [vG, hs] at h
  simp only [vz, tyf, vE, (aE oY), fZ, jk, kJ, oq, si, jA, vG, nm, seval]
  exact ⟨List.length kL, qZc _, by rw [lX]; refine ⟨kL, dR + 1, rfl, Int.le_trans gS (Int.le_add_one (qZf _)), bW gS iP, rfl, (show 8 ≤ lY + 30 by omega), fZ, jk, kJ, ?_, (by first | exact h | (simp only [vE, vG]; exact h))⟩ <;> first | (simp only [ua, vE, fZ, jk, kJ, oq, si, jA, vG, nm, seval] <;> rfl) | rfl⟩
def qL (ag : GLs) : Option (Bool) := Option.bind (xV ag.Widths) (fun r1 => cond (r1) (Option.bind (xM ag.Pairs (List.length ag.Widths : Int)) (fun r2 => cond (r2) (Option.bind (t7 0 ag.Other 9) (fun r3 => cond (r3) (Option.bind (t7 0 ag.Gap 20) (fun r4 => cond (r4) (Option.bind (m7 1 ag.Hyphen 20) (fun r5 => cond (r5) (Option.bind (xS ag.Words (List.length ag.Widths : Int)) (fun r6 => cond (r6) (Option.bind (m7 1 ag.Wide 400) (fun r7 => cond (r7) (Option.bind (m7 1 ag.Rows 3) (fun r8 => some r8)) (some false))) (some false))) (some false))) (some false))) (some false))) (some false))) (some false))
theorem DT (ag : GLs) (R : Bool) (h : qL ag = some R) : ad Tryz.prog G0 68 [.agg (cGLs ag)] (.tree (.lit (.bool R))) := by
 refine ad.runR mixed Tryz.call68 Tryz.func68 rfl (by simp [Tryz.ntmps68]; kernel_rfl) ?_
 obtain ⟨KF, h, kF, kN⟩ := dC h
 simp only [qL] at h
 obtain ⟨r9, xW, h⟩ := optI h kN
 try simp only [hs] at h
 simp only [vz, tyf, nm, seval]
 refine ktA (T7 _ _ xW) ?_
 refine bw (fun tm => tm 1 = .ptr 0 0 ∧ tm 5 = .lit (.bool r9) ∧ True) (by refine ⟨?_, ?_, trivial⟩ <;> first | (simp only [ua, nm, seval] <;> rfl) | rfl) ?_
 rintro tm ⟨bc, bT, _⟩
 cases br : (r9)
 ·simp only [br, hs] at h
  try simp only [vz, tyf, bc, bT, br, nm, seval]
  obtain rfl := kF _ h
  exact bk Tryz.results68 rfl
 simp only [br, hs] at h
 obtain ⟨iO, ly, h⟩ := optI h kN
 try simp only [hs] at h
 simp only [vz, tyf, bc, bT, br, nm, seval]
 refine ktA (T2 _ _ _ ly) ?_
 refine bw (fun tm => tm 1 = .ptr 0 0 ∧ tm 6 = .lit (.bool true) ∧ tm 12 = .lit (.bool iO) ∧ True) (by refine ⟨bc, ?_, ?_, trivial⟩ <;> first | (simp only [ua, bc, bT, br, nm, seval] <;> rfl) | rfl) ?_
 rintro tm ⟨da, cI, cj, _⟩
 cases f8 : (iO)
 ·simp only [f8, hs] at h
  try simp only [vz, tyf, br, da, cI, cj, f8, nm, seval]
  obtain rfl := kF _ h
  exact bk Tryz.results68 rfl
 simp only [f8, hs] at h
 obtain ⟨ss, iQ, h⟩ := optI h kN
 try simp only [hs] at h
 simp only [vz, tyf, br, da, cI, cj, f8, nm, seval]
 refine ktA (EO _ _ _ _ iQ) ?_
 refine bw (fun tm => tm 1 = .ptr 0 0 ∧ tm 14 = .lit (.bool true) ∧ tm 17 = .lit (.bool ss) ∧ True) (by refine ⟨da, ?_, ?_, trivial⟩ <;> first | (simp only [ua, br, da, cI, cj, f8, nm, seval] <;> rfl) | rfl) ?_
 rintro tm ⟨cg, cZ, dH, _⟩
 cases jC : (ss)
 ·simp only [jC, hs] at h
  try simp only [vz, tyf, br, f8, cg, cZ, dH, jC, nm, seval]
  obtain rfl := kF _ h
  exact bk Tryz.results68 rfl
 simp only [jC, hs] at h
 obtain ⟨oZ, xX, h⟩ := optI h kN
 try simp only [hs] at h
 simp only [vz, tyf, br, f8, cg, cZ, dH, jC, nm, seval]
 refine ktA (EO _ _ _ _ xX) ?_
 refine bw (fun tm => tm 1 = .ptr 0 0 ∧ tm 19 = .lit (.bool true) ∧ tm 22 = .lit (.bool oZ) ∧ True) (by refine ⟨cg, ?_, ?_, trivial⟩ <;> first | (simp only [ua, br, f8, cg, cZ, dH, jC, nm, seval] <;> rfl) | rfl) ?_
 rintro tm ⟨eQ, fY, bU, _⟩
 cases ic : (oZ)
 ·simp only [ic, hs] at h
  try simp only [vz, tyf, br, f8, jC, eQ, fY, bU, ic, nm, seval]
  obtain rfl := kF _ h
  exact bk Tryz.results68 rfl
 simp only [ic, hs] at h
 obtain ⟨sf, xO, h⟩ := optI h kN
 try simp only [hs] at h
 simp only [vz, tyf, br, f8, jC, eQ, fY, bU, ic, nm, seval]
 refine ktA (qq _ _ _ _ xO) ?_
 refine bw (fun tm => tm 1 = .ptr 0 0 ∧ tm 24 = .lit (.bool true) ∧ tm 27 = .lit (.bool sf) ∧ True) (by refine ⟨eQ, ?_, ?_, trivial⟩ <;> first | (simp only [ua, br, f8, jC, eQ, fY, bU, ic, nm, seval] <;> rfl) | rfl) ?_
 rintro tm ⟨gQ, lT, dX, _⟩
 cases qt : (sf)
 ·simp only [qt, hs] at h
  try simp only [vz, tyf, br, f8, jC, ic, gQ, lT, dX, qt, nm, seval]
  obtain rfl := kF _ h
  exact bk Tryz.results68 rfl
 simp only [qt, hs] at h
 obtain ⟨PY, T8, h⟩ := optI h kN
 try simp only [hs] at h
 simp only [vz, tyf, br, f8, jC, ic, gQ, lT, dX, qt, nm, seval]
 refine ktA (T6 _ _ _ T8) ?_
 refine bw (fun tm => tm 1 = .ptr 0 0 ∧ tm 29 = .lit (.bool true) ∧ tm 35 = .lit (.bool PY) ∧ True) (by refine ⟨gQ, ?_, ?_, trivial⟩ <;> first | (simp only [ua, br, f8, jC, ic, gQ, lT, dX, qt, nm, seval] <;> rfl) | rfl) ?_
 rintro tm ⟨bO, bS, bD, _⟩
 cases oo : (PY)
 ·simp only [oo, hs] at h
  try simp only [vz, tyf, br, f8, jC, ic, qt, bO, bS, bD, oo, nm, seval]
  obtain rfl := kF _ h
  exact bk Tryz.results68 rfl
 simp only [oo, hs] at h
 obtain ⟨PZ, T9, h⟩ := optI h kN
 try simp only [hs] at h
 simp only [vz, tyf, br, f8, jC, ic, qt, bO, bS, bD, oo, nm, seval]
 refine ktA (qq _ _ _ _ T9) ?_
 refine bw (fun tm => tm 1 = .ptr 0 0 ∧ tm 37 = .lit (.bool true) ∧ tm 40 = .lit (.bool PZ) ∧ True) (by refine ⟨bO, ?_, ?_, trivial⟩ <;> first | (simp only [ua, br, f8, jC, ic, qt, bO, bS, bD, oo, nm, seval] <;> rfl) | rfl) ?_
 rintro tm ⟨jw, jx, ie, _⟩
 cases jQ : (PZ)
 ·simp only [jQ, hs] at h
  have su := And.intro br (And.intro f8 (And.intro jC (And.intro ic (And.intro qt (And.intro oo jQ)))))
  try simp only [vz, tyf, su, jw, jx, ie, nm, seval]
  obtain rfl := kF _ h
  exact bk Tryz.results68 rfl
 simp only [jQ, hs] at h
 have gm := And.intro br (And.intro f8 (And.intro jC (And.intro ic (And.intro qt (And.intro oo jQ)))))
 obtain ⟨tJ, xY, h⟩ := optI h kN
 try simp only [hs] at h
 simp only [vz, tyf, gm, jw, jx, ie, nm, seval]
 refine ktA (qq _ _ _ _ xY) ?_
 refine bw (fun tm => tm 42 = .lit (.bool true) ∧ tm 45 = .lit (.bool tJ) ∧ True) (by refine ⟨?_, ?_, trivial⟩ <;> first | (simp only [ua, gm, jw, jx, ie, nm, seval] <;> rfl) | rfl) ?_
 rintro tm ⟨jA, lU, _⟩
 try simp only [vz, tyf, gm, jA, lU, nm, seval]
 obtain rfl := kF _ h
 exact bk Tryz.results68 rfl
def kM (fD : Int) (iR : Int) (iB : Int) : Option (Bool) := cond (decide (fD ≥ iR)) (some (decide (fD ≤ iB))) (some false)
theorem nn (fD : Int) (iR : Int) (iB : Int) (R : Bool) (h : kM fD iR iB = some R) : ad Tryz.prog G0 73 [.lit (.int .i64 fD), .lit (.int .i64 iR), .lit (.int .i64 iB)] (.tree (.lit (.bool R))) := by
 refine ad.runR mixed Tryz.call73 Tryz.func73 rfl (by simp [Tryz.ntmps73]; kernel_rfl) ?_
 obtain ⟨KF, h, kF, kN⟩ := dC h
 simp only [kM] at h
 cases d1 : (decide (fD ≥ iR))
 ·simp only [d1, hs] at h
  try simp only [vz, tyf, d1, nm, seval]
  obtain rfl := kF _ h
  exact bk Tryz.results73 rfl
 simp only [d1, hs] at h
 try simp only [vz, tyf, d1, nm, seval]
 obtain rfl := kF _ h
 exact bk Tryz.results73 rfl
def tK (ag : GLs) (ej : Int) : Option (Bool) := Option.bind (kM ej 0 (i64.wrap ((List.length ag.Widths : Int) - 1))) (fun r1 => some r1)
theorem EZ (ag : GLs) (ej : Int) (R : Bool) (h : tK ag ej = some R) : ad Tryz.prog G0 119 [.agg (cGLs ag), .lit (.int .i64 ej)] (.tree (.lit (.bool R))) := by
 refine ad.runR mixed Tryz.call119 Tryz.func119 rfl (by simp [Tryz.ntmps119]; kernel_rfl) ?_
 obtain ⟨KF, h, kF, kN⟩ := dC h
 simp only [tK] at h
 obtain ⟨r2, o3, h⟩ := optI h kN
 try simp only [hs] at h
 simp only [vz, tyf, nm, seval]
 refine ktA (nn _ _ _ _ o3) ?_
 refine bw (fun tm => tm 10 = .lit (.bool r2) ∧ True) (by refine ⟨?_, trivial⟩ <;> first | (simp only [ua, nm, seval] <;> rfl) | rfl) ?_
 rintro tm ⟨e4, _⟩
 try simp only [vz, tyf, e4, nm, seval]
 obtain rfl := kF _ h
 exact bk Tryz.results119 rfl
def qP (cJ : GLw) : List Int → Int → Option (LOut (Bool) (Unit))
 | [], pa => some (.go ())
 | e1 :: p1, pa => Option.bind (kM e1 1 (i64.wrap ((List.length cJ.Signs : Int) - 1))) (fun r3 => cond (r3) (cond (decide (pa > 0)) (Option.bind (getI cJ.Cuts (i64.wrap (pa - 1))) (fun x4 => cond (decide (e1 ≤ x4)) (some (.ret false)) (qP cJ p1 (pa + 1)))) (qP cJ p1 (pa + 1))) (some (.ret false)))
def vH (ag : GLs) : List Int → Int → Option (LOut (Bool) (Unit))
 | [], bE => some (.go ())
 | e0 :: p0, bE => Option.bind (tK ag e0) (fun r1 => cond (r1) (vH ag p0 (bE + 1)) (some (.ret false)))
def xZ (ag : GLs) (cJ : GLw) : Option (Bool) := cond (lenOk cJ.Signs) (lbind (vH ag cJ.Signs 0) (fun r8 => some r8) (fun c2 => cond (lenOk cJ.Cuts) (lbind (qP cJ cJ.Cuts 0) (fun r7 => some r7) (fun c5 => Option.bind (kM (List.length cJ.Signs : Int) 1 6) (fun r6 => some r6)) (fun _ _ => none)) none) (fun _ _ => none)) none
theorem TA (ag : GLs) (cJ : GLw) (R : Bool) (h : xZ ag cJ = some R) : ad Tryz.prog G0 74 [.agg (cGLs ag), .agg (cGLw cJ)] (.tree (.lit (.bool R))) := by
 refine ad.runR mixed Tryz.call74 Tryz.func74 rfl (by simp [Tryz.ntmps74]; kernel_rfl) ?_
 obtain ⟨KF, h, kF, kN⟩ := dC h
 simp only [xZ] at h
 cases iA : (lenOk cJ.Signs)
 ·simp only [iA, hs] at h
  exact absurd h kN
 simp only [iA, hs] at h
 simp only [vz, tyf, iA, nm, seval]
 obtain ⟨K9, h, v8, EK, T3, t8⟩ := fW h kN
 obtain ⟨f9, EL, h⟩ := call2 h
 obtain ⟨I9, se⟩ : ∃ I : Nat → St → Prop, I = (fun m st => ∃ (p9 : List Int) (jy : Int), m = List.length p9 ∧ 0 ≤ jy ∧ List.drop (Int.toNat jy) cJ.Signs = p9 ∧ st.df = [] ∧ 4 ≤ st.nx ∧ st.H 0 = some (.cells (some 28) (cGLs ag)) ∧ st.H 1 = some (.cells (some 79) (cGLw cJ)) ∧ st.tm 2 = .ptr 0 0 ∧ st.tm 3 = .ptr 1 0 ∧ st.tm 5 = .lit (.int .i64 jy) ∧ K9 (f9 p9 jy)) := ⟨_, rfl⟩
 refine loopK mixed (by kernel_rfl) I9 (List.length cJ.Signs) (by rw [se]; refine ⟨cJ.Signs, 0, rfl, qZf _, rfl, rfl, (show 4 ≤ 4 by omega), ?_, ?_, ?_, ?_, ?_, h⟩ <;> first | (simp only [ua, nm, seval] <;> rfl) | rfl) ?_
 rintro m ⟨tm, H, lr, df⟩ hinv
 rw [se] at hinv
 obtain ⟨p9, jy, rfl, lS, om, hdf, EM, mB, qQ, bC, cG, dM, h⟩ := hinv
 simp only at hdf EM mB qQ bC cG dM
 have iK := fX (m := 4) (b := lr) (by omega)
 subst hdf EL
 cases p9 with
 | nil =>
  have fg : (decide (jy < (List.length cJ.Signs : Int))) = false := fc lS om
  simp only [vH, hs, reduceCtorEq] at h
  replace h := EK _ h
  try dsimp only at h
  try simp only [hs] at h
  cases sv : (lenOk cJ.Cuts)
  ·simp only [sv, hs] at h
   exact absurd h kN
  simp only [sv, hs] at h
  simp only [vz, tyf, iA, iK, bC, cG, dM, mB, qQ, fg, sv, nm, seval]
  obtain ⟨TB, h, ya, Fa, TC, yb⟩ := fW h kN
  obtain ⟨TD, Fb, h⟩ := call2 h
  obtain ⟨TE, qR⟩ : ∃ I : Nat → St → Prop, I = (fun m st => ∃ (qu : List Int) (eZ : Int), m = List.length qu ∧ 0 ≤ eZ ∧ List.drop (Int.toNat eZ) cJ.Cuts = qu ∧ st.df = [] ∧ lr + 6 ≤ st.nx ∧ st.H 1 = some (.cells (some 79) (cGLw cJ)) ∧ st.tm 3 = .ptr 1 0 ∧ st.tm 6 = .lit (.int .i64 eZ) ∧ TB (TD qu eZ)) := ⟨_, rfl⟩
  refine loopK mixed (by kernel_rfl) TE (List.length cJ.Cuts) (by rw [qR]; refine ⟨cJ.Cuts, 0, rfl, qZf _, rfl, rfl, (show lr + 6 ≤ lr + 6 by omega), ?_, cG, ?_, h⟩ <;> first | (simp only [ua, iK, bC, cG, dM, mB, qQ, fg, nm, seval] <;> rfl) | rfl) ?_
  rintro m ⟨tm, H, qS, df⟩ hinv
  rw [qR] at hinv
  obtain ⟨qu, eZ, rfl, kO, np, hdf, Fc, nq, dQ, cg, h⟩ := hinv
  simp only at hdf Fc nq dQ cg
  have vI := fX (m := 4) (b := qS) (by omega)
  have vJ := qT (a := lr) (m := 6) (b := qS) (by omega)
  subst hdf Fb
  cases qu with
  | nil =>
   have jC : (decide (eZ < (List.length cJ.Cuts : Int))) = false := fc kO np
   simp only [qP, hs, reduceCtorEq] at h
   replace h := Fa _ h
   try dsimp only at h
   try simp only [hs] at h
   obtain ⟨oZ, xX, h⟩ := optI h kN
   try simp only [hs] at h
   simp only [vz, tyf, iA, iK, fg, sv, vI, vJ, dQ, cg, nq, jC, nm, seval]
   refine ktA (nn _ _ _ _ xX) ?_
   refine bw (fun tm => tm 61 = .lit (.bool oZ) ∧ True) (by refine ⟨?_, trivial⟩ <;> first | (simp only [ua, iK, fg, vI, vJ, dQ, cg, nq, jC, nm, seval] <;> rfl) | rfl) ?_
   rintro tm ⟨eQ, _⟩
   have vK := And.intro iA (And.intro iK (And.intro fg (And.intro sv (And.intro vI (And.intro vJ (And.intro nq jC))))))
   try simp only [vz, tyf, vK, eQ, nm, seval]
   obtain rfl := kF _ h
   exact bk Tryz.results74 rfl
  | cons cj qu =>
   have tL : (decide (eZ < (List.length cJ.Cuts : Int))) = true := fb kO np
   have sw := dZ kO np
   have Fe := fe kO np sv
   simp only [qP, hs, reduceCtorEq] at h
   simp only [vz, tyf, iA, iK, fg, sv, vI, vJ, dQ, cg, nq, tL, (aA sw), Fe, nm, seval]
   refine m3 (fun tm => tm 3 = .ptr 1 0 ∧ tm 6 = .lit (.int .i64 eZ) ∧ True) (by refine ⟨dQ, cg, trivial⟩ <;> first | (simp only [ua, iK, fg, vI, vJ, dQ, cg, nq, tL, Fe, nm, seval] <;> rfl) | rfl) ?_
   rintro tm ⟨ga, gQ, _⟩
   have qv := And.intro iA (And.intro iK (And.intro fg (And.intro sv (And.intro vI (And.intro vJ (And.intro nq (And.intro tL Fe)))))))
   obtain ⟨yc, Ff, h⟩ := optI h yb
   try simp only [hs] at h
   simp only [vz, tyf, qv, (aA sw), ga, gQ, nm, seval]
   refine dktA (nn _ _ _ _ Ff) ?_
   refine bw (fun tm => tm 3 = .ptr 1 0 ∧ tm 6 = .lit (.int .i64 eZ) ∧ tm 38 = .lit (.bool yc) ∧ True) (by refine ⟨ga, gQ, ?_, trivial⟩ <;> first | (simp only [ua, qv, ga, gQ, nm, seval] <;> rfl) | rfl) ?_
   rintro tm ⟨bH, bR, bO, _⟩
   cases ed : (yc)
   ·simp only [ed, hs] at h
    try simp only [vz, tyf, qv, (aA sw), bH, bR, bO, ed, nm, seval]
    replace h := ya _ h
    try dsimp only at h
    obtain rfl := kF _ h
    exact bk Tryz.results74 rfl
   simp only [ed, hs] at h
   cases qU : (decide (eZ > 0))
   ·simp only [qU, hs] at h
    simp only [vz, tyf, qv, (aA sw), bH, bR, bO, ed, qU, nm, seval]
    exact ⟨List.length qu, qZc _, by rw [qR]; refine ⟨qu, eZ + 1, rfl, Int.le_trans kO (Int.le_add_one (qZf _)), bW kO np, rfl, (show lr + 6 ≤ qS + 37 by omega), ?_, bH, ?_, (by first | exact h | (simp only [qv, ed, qU]; exact h))⟩ <;> first | (simp only [ua, qv, bH, bR, bO, ed, qU, nm, seval] <;> rfl) | rfl⟩
   simp only [qU, hs] at h
   obtain ⟨TF, Qa, h⟩ := optI h yb
   try simp only [hs] at h
   cases gp : (decide (cj ≤ TF))
   ·simp only [gp, hs] at h
    simp only [vz, tyf, qv, (aA sw), bH, bR, bO, ed, qU, (aA Qa), gp, nm, seval]
    exact ⟨List.length qu, qZc _, by rw [qR]; refine ⟨qu, eZ + 1, rfl, Int.le_trans kO (Int.le_add_one (qZf _)), bW kO np, rfl, (show lr + 6 ≤ qS + 37 by omega), ?_, bH, ?_, (by first | exact h | (simp only [qv, ed, qU, gp]; exact h))⟩ <;> first | (simp only [ua, qv, bH, bR, bO, ed, qU, gp, nm, seval] <;> rfl) | rfl⟩
   simp only [gp, hs] at h
   try simp only [vz, tyf, qv, (aA sw), bH, bR, bO, ed, qU, (aA Qa), gp, nm, seval]
   replace h := ya _ h
   try dsimp only at h
   obtain rfl := kF _ h
   exact bk Tryz.results74 rfl
 | cons e9 p9 =>
  have mC : (decide (jy < (List.length cJ.Signs : Int))) = true := fb lS om
  have vF := dZ lS om
  have vL := fe lS om iA
  simp only [vH, hs, reduceCtorEq] at h
  simp only [vz, tyf, iA, iK, bC, cG, dM, mB, qQ, mC, (aA vF), vL, nm, seval]
  refine m3 (fun tm => tm 2 = .ptr 0 0 ∧ tm 3 = .ptr 1 0 ∧ tm 5 = .lit (.int .i64 jy) ∧ True) (by refine ⟨bC, cG, dM, trivial⟩ <;> first | (simp only [ua, iK, bC, cG, dM, mB, qQ, mC, vL, nm, seval] <;> rfl) | rfl) ?_
  rintro tm ⟨fZ, jk, kJ, _⟩
  obtain ⟨tJ, xY, h⟩ := optI h t8
  try simp only [hs] at h
  simp only [vz, tyf, iA, iK, mB, qQ, mC, (aA vF), vL, fZ, jk, kJ, nm, seval]
  refine dktA (EZ _ _ _ xY) ?_
  refine bw (fun tm => tm 2 = .ptr 0 0 ∧ tm 3 = .ptr 1 0 ∧ tm 5 = .lit (.int .i64 jy) ∧ tm 20 = .lit (.bool tJ) ∧ True) (by refine ⟨fZ, jk, kJ, ?_, trivial⟩ <;> first | (simp only [ua, iK, mB, qQ, mC, vL, fZ, jk, kJ, nm, seval] <;> rfl) | rfl) ?_
  rintro tm ⟨jA, lU, kK, jz, _⟩
  cases iS : (tJ)
  ·simp only [iS, hs] at h
   have TG := And.intro iA (And.intro iK (And.intro mB (And.intro qQ (And.intro mC (And.intro vL iS)))))
   try simp only [vz, tyf, TG, (aA vF), jA, lU, kK, jz, nm, seval]
   replace h := v8 _ h
   try dsimp only at h
   obtain rfl := kF _ h
   exact bk Tryz.results74 rfl
  simp only [iS, hs] at h
  have Fg := And.intro iA (And.intro iK (And.intro mB (And.intro qQ (And.intro mC (And.intro vL iS)))))
  simp only [vz, tyf, Fg, (aA vF), jA, lU, kK, jz, nm, seval]
  exact ⟨List.length p9, qZc _, by rw [se]; refine ⟨p9, jy + 1, rfl, Int.le_trans lS (Int.le_add_one (qZf _)), bW lS om, rfl, (show 4 ≤ lr + 16 by omega), ?_, ?_, jA, lU, ?_, (by first | exact h | (simp only [Fg]; exact h))⟩ <;> first | (simp only [ua, Fg, jA, lU, kK, jz, nm, seval] <;> rfl) | rfl⟩
def tM (ag : GSpan) (fA : Int) : Option (Bool) := Option.bind (kM ag.Low 0 fA) (fun r1 => cond (r1) (Option.bind (kM ag.High ag.Low fA) (fun r2 => some r2)) (some false))
theorem Fh (ag : GSpan) (fA : Int) (R : Bool) (h : tM ag fA = some R) : ad Tryz.prog G0 76 [.agg (cGSpan ag), .lit (.int .i64 fA)] (.tree (.lit (.bool R))) := by
 refine ad.runR mixed Tryz.call76 Tryz.func76 rfl (by simp [Tryz.ntmps76]; kernel_rfl) ?_
 obtain ⟨KF, h, kF, kN⟩ := dC h
 simp only [tM] at h
 obtain ⟨r3, o4, h⟩ := optI h kN
 try simp only [hs] at h
 simp only [vz, tyf, nm, seval]
 refine ktA (nn _ _ _ _ o4) ?_
 refine bw (fun tm => tm 1 = .lit (.int .i64 fA) ∧ tm 2 = .ptr 0 0 ∧ tm 8 = .lit (.bool r3) ∧ True) (by refine ⟨?_, ?_, ?_, trivial⟩ <;> first | (simp only [ua, nm, seval] <;> rfl) | rfl) ?_
 rintro tm ⟨e5, e6, e7, _⟩
 cases d8 : (r3)
 ·simp only [d8, hs] at h
  try simp only [vz, tyf, e5, e6, e7, d8, nm, seval]
  obtain rfl := kF _ h
  exact bk Tryz.results76 rfl
 simp only [d8, hs] at h
 obtain ⟨r9, xW, h⟩ := optI h kN
 try simp only [hs] at h
 simp only [vz, tyf, e5, e6, e7, d8, nm, seval]
 refine ktA (nn _ _ _ _ xW) ?_
 refine bw (fun tm => tm 9 = .lit (.bool true) ∧ tm 15 = .lit (.bool r9) ∧ True) (by refine ⟨?_, ?_, trivial⟩ <;> first | (simp only [ua, e5, e6, e7, d8, nm, seval] <;> rfl) | rfl) ?_
 rintro tm ⟨bc, bT, _⟩
 try simp only [vz, tyf, d8, bc, bT, nm, seval]
 obtain rfl := kF _ h
 exact bk Tryz.results76 rfl
theorem ad.runRQ {P : Program} {G : Glob} (hm : P.follows .mixedOrders = true) {f : FuncId} {fn : Func} {code : Code} {args : List VV} {r : PRes} (hc : Callable P f) (hf : P.funcs[f]? = some fn) (hb : fn.body = some code)
  (hst : (decide (args.length ≤ fn.ntmps) && codeQ fn.ntmps code) = true) (h : CWp P (G.at (some none)) fn.ntmps code (OpenPostD P G fn (RR r) (RPn r)) { tm := aS args, H := fun _ => none, nx := 0, df := [] }) : ad P G f args r := by
 rw [Bool.and_eq_true] at hst
 exact ad.runR hm hc hf hb (by rw [Bool.and_eq_true]; exact ⟨hst.1, nr hst.2⟩) h
def qw (ag : GLs) : List GLp → Int → Option (LOut (Bool) (Unit))
 | [], fp => some (.go ())
 | e0 :: p0, fp => Option.bind (tK ag e0.Left) (fun r1 => cond (r1) (Option.bind (tK ag e0.Right) (fun r2 => cond (r2) (Option.bind (tM e0.Space 9) (fun r3 => cond (r3) (cond (decide (fp > 0)) (Option.bind (getI ag.Pairs (i64.wrap (fp - 1))) (fun x4 => cond (decide (x4.Left > e0.Left)) (some (.ret false)) (cond (x4.Left == e0.Left) (cond (decide (x4.Right ≥ e0.Right)) (some (.ret false)) (qw ag p0 (fp + 1))) (qw ag p0 (fp + 1))))) (qw ag p0 (fp + 1))) (some (.ret false)))) (some (.ret false)))) (some (.ret false)))
def yd (ag : GLs) : Option (Bool) := cond (lenOk ag.Pairs) (lbind (qw ag ag.Pairs 0) (fun r6 => some r6) (fun c5 => some (decide ((List.length ag.Pairs : Int) ≤ 6))) (fun _ _ => none)) none
theorem TH (ag : GLs) (R : Bool) (h : yd ag = some R) : ad Tryz.prog G0 75 [.agg (cGLs ag)] (.tree (.lit (.bool R))) := by
 refine ad.runRQ mixed Tryz.call75 Tryz.func75 rfl (by simp [Tryz.ntmps75]; kernel_rfl) ?_
 obtain ⟨KF, h, kF, kN⟩ := dC h
 simp only [yd] at h
 cases g8 : (lenOk ag.Pairs)
 ·simp only [g8, hs] at h
  exact absurd h kN
 simp only [g8, hs] at h
 simp only [vz, tyf, g8, nm, seval]
 obtain ⟨K7, h, ye, TI, XD, Cp⟩ := fW h kN
 obtain ⟨f7, TJ, h⟩ := call2 h
 obtain ⟨I7, yf⟩ : ∃ I : Nat → St → Prop, I = (fun m st => ∃ (p7 : List GLp) (gb : Int), m = List.length p7 ∧ 0 ≤ gb ∧ List.drop (Int.toNat gb) ag.Pairs = p7 ∧ st.df = [] ∧ 3 ≤ st.nx ∧ st.H 0 = some (.cells (some 28) (cGLs ag)) ∧ st.tm 1 = .ptr 0 0 ∧ st.tm 3 = .lit (.int .i64 gb) ∧ K7 (f7 p7 gb)) := ⟨_, rfl⟩
 refine loopK mixed (nr (by kernel_rfl)) I7 (List.length ag.Pairs) (by rw [yf]; refine ⟨ag.Pairs, 0, rfl, qZf _, rfl, rfl, (show 3 ≤ 3 by omega), ?_, ?_, ?_, h⟩ <;> first | (simp only [ua, nm, seval] <;> rfl) | rfl) ?_
 rintro m ⟨tm, H, sx, df⟩ hinv
 rw [yf] at hinv
 obtain ⟨p7, gb, rfl, qx, tN, hdf, TK, H9, aZ, bc, h⟩ := hinv
 simp only at hdf TK H9 aZ bc
 have ig := fX (m := 3) (b := sx) (by omega)
 subst hdf TJ
 cases p7 with
 | nil =>
  have br : (decide (gb < (List.length ag.Pairs : Int))) = false := fc qx tN
  simp only [qw, hs, reduceCtorEq] at h
  replace h := TI _ h
  try dsimp only at h
  try simp only [hs] at h
  try simp only [vz, tyf, g8, ig, aZ, bc, H9, br, nm, seval]
  obtain rfl := kF _ h
  exact bk Tryz.results75 rfl
 | cons e7 p7 =>
  have bQ : (decide (gb < (List.length ag.Pairs : Int))) = true := fb qx tN
  have ia := dZ qx tN
  have ma := fe qx tN g8
  simp only [qw, hs, reduceCtorEq] at h
  obtain ⟨Cq, pb, h⟩ := optI h Cp
  try simp only [hs] at h
  simp only [vz, tyf, g8, ig, aZ, bc, H9, bQ, (cn ia), ma, nm, seval]
  refine ktA (EZ _ _ _ pb) ?_
  refine bw (fun tm => tm 1 = .ptr 0 0 ∧ tm 3 = .lit (.int .i64 gb) ∧ tm 4 = .ptr (sx + 10) 0 ∧ tm 20 = .lit (.bool Cq) ∧ True) (by refine ⟨aZ, bc, ?_, ?_, trivial⟩ <;> first | (simp only [ua, ig, aZ, bc, H9, bQ, ma, nm, seval] <;> rfl) | rfl) ?_
  rintro tm ⟨dv, gJ, dQ, cg, _⟩
  cases kP : (Cq)
  ·simp only [kP, hs] at h
   try simp only [vz, tyf, g8, ig, H9, bQ, (cn ia), ma, dv, gJ, dQ, cg, kP, nm, seval]
   replace h := ye _ h
   try dsimp only at h
   obtain rfl := kF _ h
   exact bk Tryz.results75 rfl
  simp only [kP, hs] at h
  obtain ⟨xT, sk, h⟩ := optI h Cp
  try simp only [hs] at h
  simp only [vz, tyf, g8, ig, H9, bQ, (cn ia), ma, dv, gJ, dQ, cg, kP, nm, seval]
  refine ktA (EZ _ _ _ sk) ?_
  refine bw (fun tm => tm 1 = .ptr 0 0 ∧ tm 3 = .lit (.int .i64 gb) ∧ tm 4 = .ptr (sx + 10) 0 ∧ tm 22 = .lit (.bool false) ∧ tm 26 = .lit (.bool xT) ∧ True) (by refine ⟨dv, gJ, dQ, ?_, ?_, trivial⟩ <;> first | (simp only [ua, ig, H9, bQ, ma, dv, gJ, dQ, cg, kP, nm, seval] <;> rfl) | rfl) ?_
  rintro tm ⟨dI, ec, eQ, fY, bU, _⟩
  cases ic : (xT)
  ·simp only [ic, hs] at h
   have TL := And.intro g8 (And.intro ig (And.intro H9 (And.intro bQ (And.intro ma (And.intro kP ic)))))
   try simp only [vz, tyf, TL, (cn ia), dI, ec, eQ, fY, bU, nm, seval]
   replace h := ye _ h
   try dsimp only at h
   obtain rfl := kF _ h
   exact bk Tryz.results75 rfl
  simp only [ic, hs] at h
  have lz := And.intro g8 (And.intro ig (And.intro H9 (And.intro bQ (And.intro ma (And.intro kP ic)))))
  obtain ⟨xU, EY, h⟩ := optI h Cp
  try simp only [hs] at h
  simp only [vz, tyf, lz, (cn ia), dI, ec, eQ, fY, bU, nm, seval]
  refine ktA (Fh _ _ _ EY) ?_
  refine bw (fun tm => tm 1 = .ptr 0 0 ∧ tm 3 = .lit (.int .i64 gb) ∧ tm 4 = .ptr (sx + 10) 0 ∧ tm 29 = .lit (.bool false) ∧ tm 32 = .lit (.bool xU) ∧ True) (by refine ⟨dI, ec, eQ, ?_, ?_, trivial⟩ <;> first | (simp only [ua, lz, dI, ec, eQ, fY, bU, nm, seval] <;> rfl) | rfl) ?_
  rintro tm ⟨dX, cb, bH, bR, bO, _⟩
  cases ed : (xU)
  ·simp only [ed, hs] at h
   try simp only [vz, tyf, lz, (cn ia), dX, cb, bH, bR, bO, ed, nm, seval]
   replace h := ye _ h
   try dsimp only at h
   obtain rfl := kF _ h
   exact bk Tryz.results75 rfl
  simp only [ed, hs] at h
  simp only [vz, tyf, lz, (cn ia), dX, cb, bH, bR, bO, ed, nm, seval]
  refine m3 (fun tm => tm 1 = .ptr 0 0 ∧ tm 3 = .lit (.int .i64 gb) ∧ tm 4 = .ptr (sx + 10) 0 ∧ True) (by refine ⟨dX, cb, bH, trivial⟩ <;> first | (simp only [ua, lz, dX, cb, bH, bR, bO, ed, nm, seval] <;> rfl) | rfl) ?_
  rintro tm ⟨bD, bV, cq, _⟩
  cases gp : (decide (gb > 0))
  ·simp only [gp, hs] at h
   simp only [vz, tyf, lz, (cn ia), ed, bD, bV, cq, gp, nm, seval]
   exact ⟨List.length p7, qZc _, by rw [yf]; refine ⟨p7, gb + 1, rfl, Int.le_trans qx (Int.le_add_one (qZf _)), bW qx tN, rfl, (show 3 ≤ sx + 71 by omega), ?_, bD, ?_, (by first | exact h | (simp only [lz, ed, gp]; exact h))⟩ <;> first | (simp only [ua, lz, ed, bD, bV, cq, gp, nm, seval] <;> rfl) | rfl⟩
  simp only [gp, hs] at h
  obtain ⟨Fi, v9, h⟩ := optI h Cp
  try simp only [hs] at h
  cases lA : (decide (Fi.Left > e7.Left))
  ·simp only [lA, hs] at h
   cases jQ : (Fi.Left == e7.Left)
   ·simp only [jQ, hs] at h
    simp only [vz, tyf, lz, (cn ia), ed, bD, bV, cq, gp, (cn v9), lA, jQ, nm, seval]
    exact ⟨List.length p7, qZc _, by rw [yf]; refine ⟨p7, gb + 1, rfl, Int.le_trans qx (Int.le_add_one (qZf _)), bW qx tN, rfl, (show 3 ≤ sx + 71 by omega), ?_, bD, ?_, (by first | exact h | (simp only [lz, ed, gp, lA, jQ]; exact h))⟩ <;> first | (simp only [ua, lz, ed, bD, bV, cq, gp, lA, jQ, nm, seval] <;> rfl) | rfl⟩
   simp only [jQ, hs] at h
   cases nt : (decide (Fi.Right ≥ e7.Right))
   ·simp only [nt, hs] at h
    simp only [vz, tyf, lz, (cn ia), ed, bD, bV, cq, gp, (cn v9), lA, jQ, nt, nm, seval]
    exact ⟨List.length p7, qZc _, by rw [yf]; refine ⟨p7, gb + 1, rfl, Int.le_trans qx (Int.le_add_one (qZf _)), bW qx tN, rfl, (show 3 ≤ sx + 71 by omega), ?_, bD, ?_, (by first | exact h | (simp only [lz, ed, gp, lA, jQ, nt]; exact h))⟩ <;> first | (simp only [ua, lz, ed, bD, bV, cq, gp, lA, jQ, nt, nm, seval] <;> rfl) | rfl⟩
   simp only [nt, hs] at h
   try simp only [vz, tyf, lz, (cn ia), ed, bD, bV, cq, gp, (cn v9), lA, jQ, nt, nm, seval]
   replace h := ye _ h
   try dsimp only at h
   obtain rfl := kF _ h
   exact bk Tryz.results75 rfl
  simp only [lA, hs] at h
  try simp only [vz, tyf, lz, (cn ia), ed, bD, bV, cq, gp, (cn v9), lA, nm, seval]
  replace h := ye _ h
  try dsimp only at h
  obtain rfl := kF _ h
  exact bk Tryz.results75 rfl
def yg (fD : Int) : Option (Bool) := Option.bind (kM fD 1 400) (fun r1 => some r1)
theorem TM (fD : Int) (R : Bool) (h : yg fD = some R) : ad Tryz.prog G0 57 [.lit (.int .i64 fD)] (.tree (.lit (.bool R))) := by
 refine ad.runR mixed Tryz.call57 Tryz.func57 rfl (by simp [Tryz.ntmps57]; kernel_rfl) ?_
 obtain ⟨KF, h, kF, kN⟩ := dC h
 simp only [yg] at h
 obtain ⟨r2, o3, h⟩ := optI h kN
 try simp only [hs] at h
 simp only [vz, tyf, nm, seval]
 refine ktA (nn _ _ _ _ o3) ?_
 refine bw (fun tm => tm 4 = .lit (.bool r2) ∧ True) (by refine ⟨?_, trivial⟩ <;> first | (simp only [ua, nm, seval] <;> rfl) | rfl) ?_
 rintro tm ⟨e4, _⟩
 try simp only [vz, tyf, e4, nm, seval]
 obtain rfl := kF _ h
 exact bk Tryz.results57 rfl
def vM (ag : GLs) : List GLw → Int → Option (LOut (Bool) (Unit))
 | [], yh => some (.go ())
 | e1 :: p1, yh => Option.bind (xZ ag e1) (fun r3 => cond (r3) (vM ag p1 (yh + 1)) (some (.ret false)))
def vN  : List Int → Int → Option (LOut (Bool) (Unit))
 | [], fp => some (.go ())
 | e0 :: p0, fp => Option.bind (kM e0 1 20) (fun r1 => cond (r1) (vN p0 (fp + 1)) (some (.ret false)))
def yi (ag : GLs) : Option (Bool) := cond (lenOk ag.Widths) (lbind (vN ag.Widths 0) (fun iO => some iO) (fun c2 => cond (lenOk ag.Words) (lbind (vM ag ag.Words 0) (fun vO => some vO) (fun c4 => Option.bind (kM (List.length ag.Widths : Int) 1 6) (fun r5 => cond (r5) (Option.bind (yd ag) (fun r6 => cond (r6) (Option.bind (tM ag.Other 9) (fun r7 => cond (r7) (Option.bind (tM ag.Gap 20) (fun r8 => cond (r8) (Option.bind (kM ag.Hyphen 1 20) (fun r9 => cond (r9) (Option.bind (kM (List.length ag.Words : Int) 1 4) (fun Fj => cond (Fj) (Option.bind (yg ag.Wide) (fun nh => cond (nh) (Option.bind (kM ag.Rows 1 3) (fun vP => some vP)) (some false))) (some false))) (some false))) (some false))) (some false))) (some false))) (some false))) (fun _ _ => none)) none) (fun _ _ => none)) none
theorem TN (ag : GLs) (R : Bool) (h : yi ag = some R) : ad Tryz.prog G0 22 [.agg (cGLs ag)] (.tree (.lit (.bool R))) := by
 refine ad.runR mixed Tryz.call22 Tryz.func22 rfl (by simp [Tryz.ntmps22]; kernel_rfl) ?_
 obtain ⟨KF, h, kF, kN⟩ := dC h
 simp only [yi] at h
 cases ov : (lenOk ag.Widths)
 ·simp only [ov, hs] at h
  exact absurd h kN
 simp only [ov, hs] at h
 simp only [vz, tyf, ov, nm, seval]
 obtain ⟨TO, h, Fk, Fl, TP, Fm⟩ := fW h kN
 obtain ⟨TQ, Fo, h⟩ := call2 h
 obtain ⟨TR, tO⟩ : ∃ I : Nat → St → Prop, I = (fun m st => ∃ (sy : List Int) (gq : Int), m = List.length sy ∧ 0 ≤ gq ∧ List.drop (Int.toNat gq) ag.Widths = sy ∧ st.df = [] ∧ 3 ≤ st.nx ∧ st.H 0 = some (.cells (some 28) (cGLs ag)) ∧ st.tm 1 = .ptr 0 0 ∧ st.tm 3 = .lit (.int .i64 gq) ∧ TO (TQ sy gq)) := ⟨_, rfl⟩
 refine loopK mixed (by kernel_rfl) TR (List.length ag.Widths) (by rw [tO]; refine ⟨ag.Widths, 0, rfl, qZf _, rfl, rfl, (show 3 ≤ 3 by omega), ?_, ?_, ?_, h⟩ <;> first | (simp only [ua, nm, seval] <;> rfl) | rfl) ?_
 rintro m ⟨tm, H, mb, df⟩ hinv
 rw [tO] at hinv
 obtain ⟨sy, gq, rfl, nu, pc, hdf, Fp, mD, cj, dv, h⟩ := hinv
 simp only at hdf Fp mD cj dv
 have kQ := fX (m := 3) (b := mb) (by omega)
 subst hdf Fo
 cases sy with
 | nil =>
  have gj : (decide (gq < (List.length ag.Widths : Int))) = false := fc nu pc
  simp only [vN, hs, reduceCtorEq] at h
  replace h := Fl _ h
  try dsimp only at h
  try simp only [hs] at h
  cases kR : (lenOk ag.Words)
  ·simp only [kR, hs] at h
   exact absurd h kN
  simp only [kR, hs] at h
  simp only [vz, tyf, ov, kQ, cj, dv, mD, gj, kR, nm, seval]
  obtain ⟨Fq, h, md, tP, Fs, j0⟩ := fW h kN
  obtain ⟨Ft, tQ, h⟩ := call2 h
  obtain ⟨Fu, j1⟩ : ∃ I : Nat → St → Prop, I = (fun m st => ∃ (iT : List GLw) (fT : Int), m = List.length iT ∧ 0 ≤ fT ∧ List.drop (Int.toNat fT) ag.Words = iT ∧ st.df = [] ∧ mb + 6 ≤ st.nx ∧ st.H 0 = some (.cells (some 28) (cGLs ag)) ∧ st.tm 1 = .ptr 0 0 ∧ st.tm 4 = .lit (.int .i64 fT) ∧ Fq (Ft iT fT)) := ⟨_, rfl⟩
  refine loopK mixed (by kernel_rfl) Fu (List.length ag.Words) (by rw [j1]; refine ⟨ag.Words, 0, rfl, qZf _, rfl, rfl, (show mb + 6 ≤ mb + 6 by omega), ?_, cj, ?_, h⟩ <;> first | (simp only [ua, kQ, cj, dv, mD, gj, nm, seval] <;> rfl) | rfl) ?_
  rintro m ⟨tm, H, gT, df⟩ hinv
  rw [j1] at hinv
  obtain ⟨iT, fT, rfl, eT, gu, hdf, tR, me, dN, dI, h⟩ := hinv
  simp only at hdf tR me dN dI
  have vQ := fX (m := 3) (b := gT) (by omega)
  have iU := qT (a := mb) (m := 6) (b := gT) (by omega)
  subst hdf tQ
  cases iT with
  | nil =>
   have iV : (decide (fT < (List.length ag.Words : Int))) = false := fc eT gu
   simp only [vM, hs, reduceCtorEq] at h
   replace h := tP _ h
   try dsimp only at h
   try simp only [hs] at h
   obtain ⟨Qb, TS, h⟩ := optI h kN
   try simp only [hs] at h
   simp only [vz, tyf, ov, kQ, gj, kR, vQ, iU, dN, dI, me, iV, nm, seval]
   refine ktA (nn _ _ _ _ TS) ?_
   refine bw (fun tm => tm 1 = .ptr 0 0 ∧ tm 37 = .lit (.bool Qb) ∧ True) (by refine ⟨dN, ?_, trivial⟩ <;> first | (simp only [ua, kQ, gj, vQ, iU, dN, dI, me, iV, nm, seval] <;> rfl) | rfl) ?_
   rintro tm ⟨lZ, ga, _⟩
   have kS := And.intro ov (And.intro kQ (And.intro gj (And.intro kR (And.intro vQ (And.intro iU (And.intro me iV))))))
   cases gU : (Qb)
   ·simp only [gU, hs] at h
    try simp only [vz, tyf, kS, lZ, ga, gU, nm, seval]
    obtain rfl := kF _ h
    exact bk Tryz.results22 rfl
   simp only [gU, hs] at h
   obtain ⟨yc, Ff, h⟩ := optI h kN
   try simp only [hs] at h
   simp only [vz, tyf, kS, lZ, ga, gU, nm, seval]
   refine ktA (TH _ _ Ff) ?_
   refine bw (fun tm => tm 1 = .ptr 0 0 ∧ tm 38 = .lit (.bool true) ∧ tm 40 = .lit (.bool yc) ∧ True) (by refine ⟨lZ, ?_, ?_, trivial⟩ <;> first | (simp only [ua, kS, lZ, ga, gU, nm, seval] <;> rfl) | rfl) ?_
   rintro tm ⟨bH, bR, bO, _⟩
   cases ed : (yc)
   ·simp only [ed, hs] at h
    try simp only [vz, tyf, kS, gU, bH, bR, bO, ed, nm, seval]
    obtain rfl := kF _ h
    exact bk Tryz.results22 rfl
   simp only [ed, hs] at h
   obtain ⟨Qc, Fv, h⟩ := optI h kN
   try simp only [hs] at h
   simp only [vz, tyf, kS, gU, bH, bR, bO, ed, nm, seval]
   refine ktA (Fh _ _ _ Fv) ?_
   refine bw (fun tm => tm 1 = .ptr 0 0 ∧ tm 42 = .lit (.bool true) ∧ tm 45 = .lit (.bool Qc) ∧ True) (by refine ⟨bH, ?_, ?_, trivial⟩ <;> first | (simp only [ua, kS, gU, bH, bR, bO, ed, nm, seval] <;> rfl) | rfl) ?_
   rintro tm ⟨cq, jR, jw, _⟩
   cases jD : (Qc)
   ·simp only [jD, hs] at h
    try simp only [vz, tyf, kS, gU, ed, cq, jR, jw, jD, nm, seval]
    obtain rfl := kF _ h
    exact bk Tryz.results22 rfl
   simp only [jD, hs] at h
   obtain ⟨Qd, TT, h⟩ := optI h kN
   try simp only [hs] at h
   simp only [vz, tyf, kS, gU, ed, cq, jR, jw, jD, nm, seval]
   refine ktA (Fh _ _ _ TT) ?_
   refine bw (fun tm => tm 1 = .ptr 0 0 ∧ tm 47 = .lit (.bool true) ∧ tm 50 = .lit (.bool Qd) ∧ True) (by refine ⟨cq, ?_, ?_, trivial⟩ <;> first | (simp only [ua, kS, gU, ed, cq, jR, jw, jD, nm, seval] <;> rfl) | rfl) ?_
   rintro tm ⟨jk, kJ, oq, _⟩
   cases gL : (Qd)
   ·simp only [gL, hs] at h
    try simp only [vz, tyf, kS, gU, ed, jD, jk, kJ, oq, gL, nm, seval]
    obtain rfl := kF _ h
    exact bk Tryz.results22 rfl
   simp only [gL, hs] at h
   obtain ⟨Qe, TU, h⟩ := optI h kN
   try simp only [hs] at h
   simp only [vz, tyf, kS, gU, ed, jD, jk, kJ, oq, gL, nm, seval]
   refine ktA (nn _ _ _ _ TU) ?_
   refine bw (fun tm => tm 1 = .ptr 0 0 ∧ tm 52 = .lit (.bool true) ∧ tm 55 = .lit (.bool Qe) ∧ True) (by refine ⟨jk, ?_, ?_, trivial⟩ <;> first | (simp only [ua, kS, gU, ed, jD, jk, kJ, oq, gL, nm, seval] <;> rfl) | rfl) ?_
   rintro tm ⟨kK, jz, jB, _⟩
   cases fE : (Qe)
   ·simp only [fE, hs] at h
    try simp only [vz, tyf, kS, gU, ed, jD, gL, kK, jz, jB, fE, nm, seval]
    obtain rfl := kF _ h
    exact bk Tryz.results22 rfl
   simp only [fE, hs] at h
   obtain ⟨yj, Fx, h⟩ := optI h kN
   try simp only [hs] at h
   simp only [vz, tyf, kS, gU, ed, jD, gL, kK, jz, jB, fE, nm, seval]
   refine ktA (nn _ _ _ _ Fx) ?_
   refine bw (fun tm => tm 1 = .ptr 0 0 ∧ tm 57 = .lit (.bool true) ∧ tm 61 = .lit (.bool yj) ∧ True) (by refine ⟨kK, ?_, ?_, trivial⟩ <;> first | (simp only [ua, kS, gU, ed, jD, gL, kK, jz, jB, fE, nm, seval] <;> rfl) | rfl) ?_
   rintro tm ⟨fC, fS, gI, _⟩
   cases lv : (yj)
   ·simp only [lv, hs] at h
    have TV := And.intro kS (And.intro gU (And.intro ed (And.intro jD (And.intro gL (And.intro fE lv)))))
    try simp only [vz, tyf, TV, fC, fS, gI, nm, seval]
    obtain rfl := kF _ h
    exact bk Tryz.results22 rfl
   simp only [lv, hs] at h
   have vR := And.intro kS (And.intro gU (And.intro ed (And.intro jD (And.intro gL (And.intro fE lv)))))
   obtain ⟨xQ, EP, h⟩ := optI h kN
   try simp only [hs] at h
   simp only [vz, tyf, vR, fC, fS, gI, nm, seval]
   refine ktA (TM _ _ EP) ?_
   refine bw (fun tm => tm 1 = .ptr 0 0 ∧ tm 63 = .lit (.bool true) ∧ tm 66 = .lit (.bool xQ) ∧ True) (by refine ⟨fC, ?_, ?_, trivial⟩ <;> first | (simp only [ua, vR, fC, fS, gI, nm, seval] <;> rfl) | rfl) ?_
   rintro tm ⟨fk, m9, lV, _⟩
   cases vS : (xQ)
   ·simp only [vS, hs] at h
    try simp only [vz, tyf, vR, fk, m9, lV, vS, nm, seval]
    obtain rfl := kF _ h
    exact bk Tryz.results22 rfl
   simp only [vS, hs] at h
   obtain ⟨TW, TX, h⟩ := optI h kN
   try simp only [hs] at h
   simp only [vz, tyf, vR, fk, m9, lV, vS, nm, seval]
   refine ktA (nn _ _ _ _ TX) ?_
   refine bw (fun tm => tm 68 = .lit (.bool true) ∧ tm 71 = .lit (.bool TW) ∧ True) (by refine ⟨?_, ?_, trivial⟩ <;> first | (simp only [ua, vR, fk, m9, lV, vS, nm, seval] <;> rfl) | rfl) ?_
   rintro tm ⟨fm, dD, _⟩
   try simp only [vz, tyf, vR, vS, fm, dD, nm, seval]
   obtain rfl := kF _ h
   exact bk Tryz.results22 rfl
  | cons cg iT =>
   have Fy : (decide (fT < (List.length ag.Words : Int))) = true := fb eT gu
   have Cr := dZ eT gu
   have Fz := fe eT gu kR
   simp only [vM, hs, reduceCtorEq] at h
   simp only [vz, tyf, ov, kQ, gj, kR, vQ, iU, dN, dI, me, Fy, (aE Cr), Fz, nm, seval]
   refine m3 (fun tm => tm 1 = .ptr 0 0 ∧ tm 4 = .lit (.int .i64 fT) ∧ True) (by refine ⟨dN, dI, trivial⟩ <;> first | (simp only [ua, kQ, gj, vQ, iU, dN, dI, me, Fy, Fz, nm, seval] <;> rfl) | rfl) ?_
   rintro tm ⟨ck, ca, _⟩
   have vT := And.intro ov (And.intro kQ (And.intro gj (And.intro kR (And.intro vQ (And.intro iU (And.intro me (And.intro Fy Fz)))))))
   obtain ⟨Qf, TY, h⟩ := optI h j0
   try simp only [hs] at h
   simp only [vz, tyf, vT, (aE Cr), ck, ca, nm, seval]
   refine dktA (TA _ _ _ TY) ?_
   refine bw (fun tm => tm 1 = .ptr 0 0 ∧ tm 4 = .lit (.int .i64 fT) ∧ tm 32 = .lit (.bool Qf) ∧ True) (by refine ⟨ck, ca, ?_, trivial⟩ <;> first | (simp only [ua, vT, ck, ca, nm, seval] <;> rfl) | rfl) ?_
   rintro tm ⟨cy, cH, fF, _⟩
   cases vU : (Qf)
   ·simp only [vU, hs] at h
    try simp only [vz, tyf, vT, (aE Cr), cy, cH, fF, vU, nm, seval]
    replace h := md _ h
    try dsimp only at h
    obtain rfl := kF _ h
    exact bk Tryz.results22 rfl
   simp only [vU, hs] at h
   simp only [vz, tyf, vT, (aE Cr), cy, cH, fF, vU, nm, seval]
   exact ⟨List.length iT, qZc _, by rw [j1]; refine ⟨iT, fT + 1, rfl, Int.le_trans eT (Int.le_add_one (qZf _)), bW eT gu, rfl, (show mb + 6 ≤ gT + 16 by omega), ?_, cy, ?_, (by first | exact h | (simp only [vT, vU]; exact h))⟩ <;> first | (simp only [ua, vT, cy, cH, fF, vU, nm, seval] <;> rfl) | rfl⟩
 | cons dM sy =>
  have vV : (decide (gq < (List.length ag.Widths : Int))) = true := fb nu pc
  have F0 := dZ nu pc
  have yk := fe nu pc ov
  simp only [vN, hs, reduceCtorEq] at h
  obtain ⟨Qg, vW, h⟩ := optI h Fm
  try simp only [hs] at h
  simp only [vz, tyf, ov, kQ, cj, dv, mD, vV, (aA F0), yk, nm, seval]
  refine ktA (nn _ _ _ _ vW) ?_
  refine bw (fun tm => tm 1 = .ptr 0 0 ∧ tm 3 = .lit (.int .i64 gq) ∧ tm 17 = .lit (.bool Qg) ∧ True) (by refine ⟨cj, dv, ?_, trivial⟩ <;> first | (simp only [ua, kQ, cj, dv, mD, vV, yk, nm, seval] <;> rfl) | rfl) ?_
  rintro tm ⟨Cs, F1, F2, _⟩
  cases vX : (Qg)
  ·simp only [vX, hs] at h
   try simp only [vz, tyf, ov, kQ, mD, vV, (aA F0), yk, Cs, F1, F2, vX, nm, seval]
   replace h := Fk _ h
   try dsimp only at h
   obtain rfl := kF _ h
   exact bk Tryz.results22 rfl
  simp only [vX, hs] at h
  simp only [vz, tyf, ov, kQ, mD, vV, (aA F0), yk, Cs, F1, F2, vX, nm, seval]
  exact ⟨List.length sy, qZc _, by rw [tO]; refine ⟨sy, gq + 1, rfl, Int.le_trans nu (Int.le_add_one (qZf _)), bW nu pc, rfl, (show 3 ≤ mb + 15 by omega), ?_, Cs, ?_, (by first | exact h | (simp only [vV, vX]; exact h))⟩ <;> first | (simp only [ua, kQ, mD, vV, yk, Cs, F1, F2, vX, nm, seval] <;> rfl) | rfl⟩
end Go.V
end
