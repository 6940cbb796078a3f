/- Part of a proof. -/
import Derived.Test.YtlkognggeadanaaGreatDoorEbh
set_option linter.all false
set_option maxRecDepth 4000
set_option maxHeartbeats 40000000
section
namespace Go.V
open Go Go.Proofs IntKind
def tn (dN : Int) (jG : Int) : Option (Int) := Option.bind (zA dN) (fun r1 => Option.bind (zA jG) (fun r2 => cond (r1) (cond (r2) (some 0) (some (-1))) (cond (r2) (some 1) (cond (decide (dN < jG)) (some (-1)) (cond (decide (dN > jG)) (some 1) (some 0))))))
theorem CZ (dN : Int) (jG : Int) (R : Int) (h : tn dN jG = some R) : ad Tryz.prog G0 125 [.lit (.int .i64 dN), .lit (.int .i64 jG)] (.tree (.lit (.int .i64 R))) := by
 refine ad.runR mixed Tryz.call125 Tryz.func125 rfl (by simp [Tryz.ntmps125]; kernel_rfl) ?_
 obtain ⟨KF, h, kF, kN⟩ := dZ h
 simp only [tn] at h
 obtain ⟨r3, o4, h⟩ := optI h kN
 try simp only [hs] at h
 simp only [vz, tyf, nm, seval]
 refine ktA (Re _ _ o4) ?_
 refine bt (fun tm => tm 0 = .lit (.int .i64 dN) ∧ tm 1 = .lit (.int .i64 jG) ∧ tm 8 = .lit (.bool r3) ∧ True) (by refine ⟨?_, ?_, ?_, trivial⟩ <;> first | (simp only [ua, nm, seval] <;> rfl) | rfl) ?_
 rintro tm ⟨e5, e6, e7, _⟩
 obtain ⟨r8, o9, h⟩ := optI h kN
 try simp only [hs] at h
 simp only [vz, tyf, e5, e6, e7, nm, seval]
 refine ktA (Re _ _ o9) ?_
 refine bt (fun tm => tm 0 = .lit (.int .i64 dN) ∧ tm 1 = .lit (.int .i64 jG) ∧ tm 5 = .lit (.bool r3) ∧ tm 10 = .lit (.bool r8) ∧ True) (by refine ⟨e5, e6, ?_, ?_, trivial⟩ <;> first | (simp only [ua, e5, e6, e7, nm, seval] <;> rfl) | rfl) ?_
 rintro tm ⟨bh, bj, bR, bz, _⟩
 cases bO : (r3)
 ·simp only [bO, hs] at h
  cases cI : (r8)
  ·simp only [cI, hs] at h
   cases gY : (decide (dN < jG))
   ·simp only [gY, hs] at h
    cases bY : (decide (dN > jG))
    ·simp only [bY, hs] at h
     try simp only [vz, tyf, bh, bj, bR, bz, bO, cI, gY, bY, nm, seval]
     refine d4 (x := (.lit (.int .i64 0))) (by first | (simp only [Tryz.results125, resV, resL, aJ, dU, dT, uw, cr, tyf, bO, cI, gY, bY, nm, seval] <;> rfl) | rfl) ?_
     obtain rfl := kF _ h
     refine dW ?_ ?_
     ·simp only [tre, aw, Bool.and_self]
     ·first | (simp only [outV, uw, fu, cr, tyf, nrm, ar, bh, bj, bR, bz, bO, cI, gY, bY, nm, seval] <;> rfl) | rfl
    simp only [bY, hs] at h
    try simp only [vz, tyf, bh, bj, bR, bz, bO, cI, gY, bY, nm, seval]
    refine d4 (x := (.lit (.int .i64 1))) (by first | (simp only [Tryz.results125, resV, resL, aJ, dU, dT, uw, cr, tyf, bO, cI, gY, bY, nm, seval] <;> rfl) | rfl) ?_
    obtain rfl := kF _ h
    refine dW ?_ ?_
    ·simp only [tre, aw, Bool.and_self]
    ·first | (simp only [outV, uw, fu, cr, tyf, nrm, ar, bh, bj, bR, bz, bO, cI, gY, bY, nm, seval] <;> rfl) | rfl
   simp only [gY, hs] at h
   try simp only [vz, tyf, bh, bj, bR, bz, bO, cI, gY, nm, seval]
   refine d4 (x := (.lit (.int .i64 (-1)))) (by first | (simp only [Tryz.results125, resV, resL, aJ, dU, dT, uw, cr, tyf, bO, cI, gY, nm, seval] <;> rfl) | rfl) ?_
   obtain rfl := kF _ h
   refine dW ?_ ?_
   ·simp only [tre, aw, Bool.and_self]
   ·first | (simp only [outV, uw, fu, cr, tyf, nrm, ar, bh, bj, bR, bz, bO, cI, gY, nm, seval] <;> rfl) | rfl
  simp only [cI, hs] at h
  try simp only [vz, tyf, bh, bj, bR, bz, bO, cI, nm, seval]
  refine d4 (x := (.lit (.int .i64 1))) (by first | (simp only [Tryz.results125, resV, resL, aJ, dU, dT, uw, cr, tyf, bO, cI, nm, seval] <;> rfl) | rfl) ?_
  obtain rfl := kF _ h
  refine dW ?_ ?_
  ·simp only [tre, aw, Bool.and_self]
  ·first | (simp only [outV, uw, fu, cr, tyf, nrm, ar, bh, bj, bR, bz, bO, cI, nm, seval] <;> rfl) | rfl
 simp only [bO, hs] at h
 cases d6 : (r8)
 ·simp only [d6, hs] at h
  try simp only [vz, tyf, bh, bj, bR, bz, bO, d6, nm, seval]
  refine d4 (x := (.lit (.int .i64 (-1)))) (by first | (simp only [Tryz.results125, resV, resL, aJ, dU, dT, uw, cr, tyf, bO, d6, nm, seval] <;> rfl) | rfl) ?_
  obtain rfl := kF _ h
  refine dW ?_ ?_
  ·simp only [tre, aw, Bool.and_self]
  ·first | (simp only [outV, uw, fu, cr, tyf, nrm, ar, bh, bj, bR, bz, bO, d6, nm, seval] <;> rfl) | rfl
 simp only [d6, hs] at h
 try simp only [vz, tyf, bh, bj, bR, bz, bO, d6, nm, seval]
 refine d4 (x := (.lit (.int .i64 0))) (by first | (simp only [Tryz.results125, resV, resL, aJ, dU, dT, uw, cr, tyf, bO, d6, nm, seval] <;> rfl) | rfl) ?_
 obtain rfl := kF _ h
 refine dW ?_ ?_
 ·simp only [tre, aw, Bool.and_self]
 ·first | (simp only [outV, uw, fu, cr, tyf, nrm, ar, bh, bj, bR, bz, bO, d6, nm, seval] <;> rfl) | rfl
def zZ  : List Int → Int → Option (LOut (Int) (Unit))
 | [], gZ => some (.go ())
 | e0 :: p0, gZ => cond (e0 != 0) (some (.ret e0)) (zZ p0 (gZ + 1))
def wK (bL : List Int) : Option (Int) := cond (lenOk bL) (lbind (zZ bL 0) (fun r2 => some r2) (fun c1 => some 0) (fun _ _ => none)) none
theorem Rw (bL : List Int) (R : Int) (h : wK bL = some R) : ad Tryz.prog G0 124 [.sl (aa eI bL) (List.length bL) false] (.tree (.lit (.int .i64 R))) := by
 refine ad.runR mixed Tryz.call124 Tryz.func124 rfl (by simp [Tryz.ntmps124]; kernel_rfl) ?_
 obtain ⟨KF, h, kF, kN⟩ := dZ h
 simp only [wK] at h
 cases g4 : (lenOk bL)
 ·simp only [g4, hs] at h
  exact absurd h kN
 simp only [g4, hs] at h
 simp only [vz, tyf, g4, nm, seval]
 obtain ⟨K3, h, pV, oN, Aa, Ab⟩ := gu h kN
 obtain ⟨f3, pW, h⟩ := call2 h
 obtain ⟨I3, ja⟩ : ∃ I : Nat → St → Prop, I = (fun m st => ∃ (p3 : List Int) (bM : Int), m = List.length p3 ∧ 0 ≤ bM ∧ List.drop (Int.toNat bM) bL = p3 ∧ st.df = [] ∧ 5 ≤ st.nx ∧ st.tm 3 = .lit (.int .i64 0) ∧ st.tm 6 = .sl (aa eI bL) (List.length bL) false ∧ st.tm 7 = .lit (.int .i64 (List.length bL : Int)) ∧ st.tm 8 = .lit (.int .i64 bM) ∧ K3 (f3 p3 bM)) := ⟨_, rfl⟩
 refine loopK mixed (by kernel_rfl) I3 (List.length bL) (by rw [ja]; refine ⟨bL, 0, rfl, Int.le_refl _, rfl, rfl, (show 5 ≤ 5 by omega), ?_, ?_, ?_, ?_, h⟩ <;> first | (simp only [ua, nm, seval] <;> rfl) | rfl) ?_
 rintro m ⟨tm, H, lk, df⟩ hinv
 rw [ja] at hinv
 obtain ⟨p3, bM, rfl, eM, fx, hdf, pZ, e5, e6, e7, e8, h⟩ := hinv
 simp only at hdf pZ e5 e6 e7 e8
 have n9 := gv (m := 5) (b := lk) (by omega)
 subst hdf pW
 cases p3 with
 | nil =>
  have ck : (decide (bM < (List.length bL : Int))) = false := fj eM fx
  simp only [zZ, hs, reduceCtorEq] at h
  replace h := oN _ h
  try dsimp only at h
  try simp only [hs] at h
  try simp only [vz, tyf, g4, n9, e5, e6, e7, e8, ck, nm, seval]
  refine d4 (x := (.lit (.int .i64 0))) (by first | (simp only [Tryz.results124, resV, resL, aJ, dU, dT, uw, cr, tyf, g4, n9, ck, nm, seval] <;> rfl) | rfl) ?_
  obtain rfl := kF _ h
  refine dW ?_ ?_
  ·simp only [tre, aw, Bool.and_self]
  ·first | (simp only [outV, uw, fu, cr, tyf, nrm, ar, g4, n9, e5, e6, e7, e8, ck, nm, seval] <;> rfl) | rfl
 | cons e3 p3 =>
  have fg : (decide (bM < (List.length bL : Int))) = true := fk eM fx
  have ml := eg eM fx
  have mT := fm eM fx g4
  simp only [zZ, hs, reduceCtorEq] at h
  cases bO : (e3 != 0)
  ·simp only [bO, hs] at h
   simp only [vz, tyf, g4, n9, e5, e6, e7, e8, fg, (aD ml), mT, bO, nm, seval]
   exact ⟨List.length p3, Nat.lt_succ_self _, by rw [ja]; refine ⟨p3, bM + 1, rfl, Int.le_trans eM (Int.le_add_one (Int.le_refl _)), bS eM fx, rfl, (show 5 ≤ lk + 9 by omega), e5, e6, e7, ?_, (by first | exact h | (simp only [fg, bO]; exact h))⟩ <;> first | (simp only [ua, n9, e5, e6, e7, e8, fg, mT, bO, nm, seval] <;> rfl) | rfl⟩
  simp only [bO, hs] at h
  try simp only [vz, tyf, g4, n9, e5, e6, e7, e8, fg, (aD ml), mT, bO, nm, seval]
  refine d4 (x := (.lit (.int .i64 e3))) (by first | (simp only [Tryz.results124, resV, resL, aJ, dU, dT, uw, cr, tyf, g4, n9, fg, (aD ml), mT, bO, nm, seval] <;> rfl) | rfl) ?_
  replace h := pV _ h
  try dsimp only at h
  obtain rfl := kF _ h
  refine dW ?_ ?_
  ·simp only [tre, aw, Bool.and_self]
  ·first | (simp only [outV, uw, fu, cr, tyf, nrm, ar, g4, n9, e5, e6, e7, e8, fg, (aD ml), mT, bO, nm, seval] <;> rfl) | rfl
def Ac (bA : GLp) (bD : GLp) : Option (Int) := Option.bind (tn bA.Left bD.Left) (fun r1 => Option.bind (tn bA.Right bD.Right) (fun r2 => Option.bind (wK ([r1, r2])) (fun r3 => some r3)))
theorem Vj (bA : GLp) (bD : GLp) (R : Int) (h : Ac bA bD = some R) : ad Tryz.prog G0 148 [.agg (cGLp bA), .agg (cGLp bD)] (.tree (.lit (.int .i64 R))) := by
 refine ad.runR mixed Tryz.call148 Tryz.func148 rfl (by simp [Tryz.ntmps148]; kernel_rfl) ?_
 obtain ⟨KF, h, kF, kN⟩ := dZ h
 simp only [Ac] at h
 simp only [vz, tyf, nm, seval]
 refine uE (fun tm => tm 2 = .ptr 0 0 ∧ tm 3 = .ptr 1 0 ∧ True) (by refine ⟨?_, ?_, trivial⟩ <;> first | (simp only [ua, nm, seval] <;> rfl) | rfl) ?_
 rintro tm ⟨e4, e5, _⟩
 obtain ⟨r6, o7, h⟩ := optI h kN
 try simp only [hs] at h
 simp only [vz, tyf, e4, e5, nm, seval]
 refine dktA (CZ _ _ _ o7) ?_
 refine bt (fun tm => tm 2 = .ptr 0 0 ∧ tm 3 = .ptr 1 0 ∧ tm 9 = .lit (.int .i64 r6) ∧ True) (by refine ⟨e4, e5, ?_, trivial⟩ <;> first | (simp only [ua, e4, e5, nm, seval] <;> rfl) | rfl) ?_
 rintro tm ⟨e8, e9, bh, _⟩
 obtain ⟨mj, iI, h⟩ := optI h kN
 try simp only [hs] at h
 simp only [vz, tyf, e8, e9, bh, nm, seval]
 refine dktA (CZ _ _ _ iI) ?_
 refine bt (fun tm => tm 9 = .lit (.int .i64 r6) ∧ tm 14 = .lit (.int .i64 mj) ∧ True) (by refine ⟨bh, ?_, trivial⟩ <;> first | (simp only [ua, e8, e9, bh, nm, seval] <;> rfl) | rfl) ?_
 rintro tm ⟨bz, ca, _⟩
 obtain ⟨uF, ir, h⟩ := optI h kN
 try simp only [hs] at h
 simp only [vz, tyf, bz, ca, nm, seval]
 refine dkseen1 (w := 1) (enc := eI) (xs := ([r6, mj])) (el := (some 3)) ⟨eI_ok.tree, eI_ok.norm⟩ (fun _ => rfl) (by simp only [List.length_cons, List.length_nil]; decide) (by simp only [br, bW, jE, nm, seval] <;> rfl) (Rw _ _ ir) (by first | rfl | simp only [VV.flat, flatL, Bool.and_self]) ?_
 refine bt (fun tm => tm 16 = .lit (.int .i64 uF) ∧ True) (by refine ⟨?_, trivial⟩ <;> first | (simp only [ua, bz, ca, nm, seval] <;> rfl) | rfl) ?_
 rintro tm ⟨dV, _⟩
 simp only [vz, tyf, dV, nm, seval]
 refine nv ⟨?_, ?_⟩
 ·simp only [n6, n5, ic, ny, and_true, true_and]
  repeat' (first | exact trivial | refine And.intro ?_ ?_ | rw [ic] | rw [nz] | exact Or.inl (by decide +kernel) | exact Or.inl (by dsimp only; decide +kernel) | (refine Or.inr ⟨?_, ?_⟩ <;> simp; done) | (refine Or.inr ⟨?_, ?_⟩ <;> simp <;> omega) | (refine Or.inr ⟨?_, ?_⟩ <;> simp [VEff.wr] <;> omega))
 try simp only [vz, tyf, dV, nm, seval]
 refine d4 (x := (.lit (.int .i64 uF))) (by first | (simp only [Tryz.results148, resV, resL, aJ, dU, dT, uw, cr, tyf, nm, seval] <;> rfl) | rfl) ?_
 obtain rfl := kF _ h
 refine dW ?_ ?_
 ·simp only [tre, aw, Bool.and_self]
 ·first | (simp only [outV, uw, fu, cr, tyf, nrm, ar, dV, nm, seval] <;> rfl) | rfl
def rT (aj : List GLp) (aO : Int) : List GLp → Int → Option (LOut (Bool) (Unit))
 | [], dp => some (.go ())
 | e0 :: p0, dp => Option.bind (nL 0 e0.Left (i64.wrap (aO - 1))) (fun r1 => cond (r1) (Option.bind (nL 0 e0.Right (i64.wrap (aO - 1))) (fun r2 => cond (r2) (Option.bind (uo 0 e0.Space 9) (fun r3 => cond (r3) (cond (decide (dp > 0)) (Option.bind (getI aj (i64.wrap (dp - 1))) (fun x4 => Option.bind (Ac x4 e0) (fun r5 => cond (decide (r5 ≥ 0)) (some (.ret false)) (rT aj aO p0 (dp + 1))))) (rT aj aO p0 (dp + 1))) (some (.ret false)))) (some (.ret false)))) (some (.ret false)))
def Ad (aj : List GLp) (aO : Int) : Option (Bool) := cond (decide ((List.length aj : Int) > 6)) (some false) (cond (lenOk aj) (lbind (rT aj aO aj 0) (fun r7 => some r7) (fun c6 => some true) (fun _ _ => none)) none)
theorem Vk (aj : List GLp) (aO : Int) (R : Bool) (h : Ad aj aO = some R) : ad Tryz.prog G0 110 [.sl (aa cGLp aj) (List.length aj) false, .lit (.int .i64 aO)] (.tree (.lit (.bool R))) := by
 refine ad.runR mixed Tryz.call110 Tryz.func110 rfl (by simp [Tryz.ntmps110]; kernel_rfl) ?_
 obtain ⟨KF, h, kF, kN⟩ := dZ h
 simp only [Ad] at h
 cases d8 : (decide ((List.length aj : Int) > 6))
 ·simp only [d8, hs] at h
  cases iJ : (lenOk aj)
  ·simp only [iJ, hs] at h
   exact absurd h kN
  simp only [iJ, hs] at h
  simp only [vz, tyf, d8, iJ, nm, seval]
  obtain ⟨K9, h, wL, JH, Vl, uG⟩ := gu h kN
  obtain ⟨f9, JI, h⟩ := call2 h
  obtain ⟨I9, tq⟩ : ∃ I : Nat → St → Prop, I = (fun m st => ∃ (p9 : List GLp) (cA : Int), m = List.length p9 ∧ 0 ≤ cA ∧ List.drop (Int.toNat cA) aj = p9 ∧ st.df = [] ∧ 7 ≤ st.nx ∧ st.tm 0 = .sl (aa cGLp aj) (List.length aj) false ∧ st.tm 1 = .lit (.int .i64 aO) ∧ st.tm 10 = .sl (aa cGLp aj) (List.length aj) false ∧ st.tm 11 = .lit (.int .i64 (List.length aj : Int)) ∧ st.tm 12 = .lit (.int .i64 cA) ∧ K9 (f9 p9 cA)) := ⟨_, rfl⟩
  refine loopK mixed (by kernel_rfl) I9 (List.length aj) (by rw [tq]; refine ⟨aj, 0, rfl, Int.le_refl _, rfl, rfl, (show 7 ≤ 7 by omega), ?_, ?_, ?_, ?_, ?_, h⟩ <;> first | (simp only [ua, d8, nm, seval] <;> rfl) | rfl) ?_
  rintro m ⟨tm, H, lQ, df⟩ hinv
  rw [tq] at hinv
  obtain ⟨p9, cA, rfl, mz, oO, hdf, JJ, bj, bR, bz, ca, eU, h⟩ := hinv
  simp only at hdf JJ bj bR bz ca eU
  have jb := gv (m := 7) (b := lQ) (by omega)
  subst hdf JI
  cases p9 with
  | nil =>
   have bY : (decide (cA < (List.length aj : Int))) = false := fj mz oO
   simp only [rT, hs, reduceCtorEq] at h
   replace h := JH _ h
   try dsimp only at h
   try simp only [hs] at h
   try simp only [vz, tyf, d8, iJ, jb, bj, bR, bz, ca, eU, bY, nm, seval]
   obtain rfl := kF _ h
   exact bc Tryz.results110 rfl
  | cons e9 p9 =>
   have d6 : (decide (cA < (List.length aj : Int))) = true := fk mz oO
   have iQ := eg mz oO
   have uH := fm mz oO iJ
   simp only [rT, hs, reduceCtorEq] at h
   obtain ⟨Rx, Vm, h⟩ := optI h uG
   try simp only [hs] at h
   simp only [vz, tyf, d8, iJ, jb, bj, bR, bz, ca, eU, d6, (cn iQ), uH, nm, seval]
   refine ktA (rN _ _ _ _ Vm) ?_
   refine bt (fun tm => tm 0 = .sl (aa cGLp aj) (List.length aj) false ∧ tm 1 = .lit (.int .i64 aO) ∧ tm 5 = .lit (.int .i64 cA) ∧ tm 6 = .ptr (lQ + 4) 0 ∧ tm 10 = .sl (aa cGLp aj) (List.length aj) false ∧ tm 11 = .lit (.int .i64 (List.length aj : Int)) ∧ tm 12 = .lit (.int .i64 cA) ∧ tm 21 = .lit (.bool Rx) ∧ True) (by refine ⟨bj, bR, ?_, ?_, bz, ca, eU, ?_, trivial⟩ <;> first | (simp only [ua, d8, jb, bj, bR, bz, ca, eU, d6, uH, nm, seval] <;> rfl) | rfl) ?_
   rintro tm ⟨dz, ej, eW, dI, ec, eG, gf, bQ, _⟩
   cases iu : (Rx)
   ·simp only [iu, hs] at h
    try simp only [vz, tyf, d8, iJ, jb, d6, (cn iQ), uH, dz, ej, eW, dI, ec, eG, gf, bQ, iu, nm, seval]
    replace h := wL _ h
    try dsimp only at h
    obtain rfl := kF _ h
    exact bc Tryz.results110 rfl
   simp only [iu, hs] at h
   obtain ⟨Ae, JK, h⟩ := optI h uG
   try simp only [hs] at h
   simp only [vz, tyf, d8, iJ, jb, d6, (cn iQ), uH, dz, ej, eW, dI, ec, eG, gf, bQ, iu, nm, seval]
   refine ktA (rN _ _ _ _ JK) ?_
   refine bt (fun tm => tm 0 = .sl (aa cGLp aj) (List.length aj) false ∧ tm 1 = .lit (.int .i64 aO) ∧ tm 5 = .lit (.int .i64 cA) ∧ tm 6 = .ptr (lQ + 4) 0 ∧ tm 10 = .sl (aa cGLp aj) (List.length aj) false ∧ tm 11 = .lit (.int .i64 (List.length aj : Int)) ∧ tm 12 = .lit (.int .i64 cA) ∧ tm 23 = .lit (.bool false) ∧ tm 28 = .lit (.bool Ae) ∧ True) (by refine ⟨dz, ej, eW, dI, ec, eG, gf, ?_, ?_, trivial⟩ <;> first | (simp only [ua, d8, jb, d6, uH, dz, ej, eW, dI, ec, eG, gf, bQ, iu, nm, seval] <;> rfl) | rfl) ?_
   rintro tm ⟨eX, fK, cq, bT, bC, bG, bE, cm, bP, _⟩
   cases gU : (Ae)
   ·simp only [gU, hs] at h
    have Vn := And.intro d8 (And.intro iJ (And.intro jb (And.intro d6 (And.intro uH (And.intro iu gU)))))
    try simp only [vz, tyf, Vn, (cn iQ), eX, fK, cq, bT, bC, bG, bE, cm, bP, nm, seval]
    replace h := wL _ h
    try dsimp only at h
    obtain rfl := kF _ h
    exact bc Tryz.results110 rfl
   simp only [gU, hs] at h
   have lR := And.intro d8 (And.intro iJ (And.intro jb (And.intro d6 (And.intro uH (And.intro iu gU)))))
   obtain ⟨Ry, wM, h⟩ := optI h uG
   try simp only [hs] at h
   simp only [vz, tyf, lR, (cn iQ), eX, fK, cq, bT, bC, bG, bE, cm, bP, nm, seval]
   refine ktA (Ji _ _ _ _ wM) ?_
   refine bt (fun tm => tm 0 = .sl (aa cGLp aj) (List.length aj) false ∧ tm 1 = .lit (.int .i64 aO) ∧ tm 5 = .lit (.int .i64 cA) ∧ tm 6 = .ptr (lQ + 4) 0 ∧ tm 10 = .sl (aa cGLp aj) (List.length aj) false ∧ tm 11 = .lit (.int .i64 (List.length aj : Int)) ∧ tm 12 = .lit (.int .i64 cA) ∧ tm 31 = .lit (.bool false) ∧ tm 34 = .lit (.bool Ry) ∧ True) (by refine ⟨eX, fK, cq, bT, bC, bG, bE, ?_, ?_, trivial⟩ <;> first | (simp only [ua, lR, eX, fK, cq, bT, bC, bG, bE, cm, bP, nm, seval] <;> rfl) | rfl) ?_
   rintro tm ⟨gg, fp, gV, jx, kS, oI, jP, m0, ll, _⟩
   cases mU : (Ry)
   ·simp only [mU, hs] at h
    try simp only [vz, tyf, lR, (cn iQ), gg, fp, gV, jx, kS, oI, jP, m0, ll, mU, nm, seval]
    replace h := wL _ h
    try dsimp only at h
    obtain rfl := kF _ h
    exact bc Tryz.results110 rfl
   simp only [mU, hs] at h
   simp only [vz, tyf, lR, (cn iQ), gg, fp, gV, jx, kS, oI, jP, m0, ll, mU, nm, seval]
   refine mO (fun tm => tm 0 = .sl (aa cGLp aj) (List.length aj) false ∧ tm 1 = .lit (.int .i64 aO) ∧ tm 5 = .lit (.int .i64 cA) ∧ tm 6 = .ptr (lQ + 4) 0 ∧ tm 10 = .sl (aa cGLp aj) (List.length aj) false ∧ tm 11 = .lit (.int .i64 (List.length aj : Int)) ∧ tm 12 = .lit (.int .i64 cA) ∧ True) (by refine ⟨gg, fp, gV, jx, kS, oI, jP, trivial⟩ <;> first | (simp only [ua, lR, gg, fp, gV, jx, kS, oI, jP, m0, ll, mU, nm, seval] <;> rfl) | rfl) ?_
   rintro tm ⟨j9, jN, kL, kM, eV, eY, fE, _⟩
   cases lS : (decide (cA > 0))
   ·simp only [lS, hs] at h
    simp only [vz, tyf, lR, (cn iQ), mU, j9, jN, kL, kM, eV, eY, fE, lS, nm, seval]
    exact ⟨List.length p9, Nat.lt_succ_self _, by rw [tq]; refine ⟨p9, cA + 1, rfl, Int.le_trans mz (Int.le_add_one (Int.le_refl _)), bS mz oO, rfl, (show 7 ≤ lQ + 41 by omega), j9, jN, eV, eY, ?_, (by first | exact h | (simp only [lR, mU, lS]; exact h))⟩ <;> first | (simp only [ua, lR, mU, j9, jN, kL, kM, eV, eY, fE, lS, nm, seval] <;> rfl) | rfl⟩
   simp only [lS, hs] at h
   obtain ⟨Yi, Af, h⟩ := optI h uG
   try simp only [hs] at h
   obtain ⟨Ag, JL, h⟩ := optI h uG
   try simp only [hs] at h
   simp only [vz, tyf, lR, (cn iQ), mU, j9, jN, kL, kM, eV, eY, fE, lS, (cn Af), nm, seval]
   refine dktA (Vj _ _ _ JL) ?_
   refine bt (fun tm => tm 0 = .sl (aa cGLp aj) (List.length aj) false ∧ tm 1 = .lit (.int .i64 aO) ∧ tm 10 = .sl (aa cGLp aj) (List.length aj) false ∧ tm 11 = .lit (.int .i64 (List.length aj : Int)) ∧ tm 12 = .lit (.int .i64 cA) ∧ tm 39 = .lit (.bool true) ∧ tm 46 = .lit (.int .i64 Ag) ∧ True) (by refine ⟨j9, jN, eV, eY, fE, ?_, ?_, trivial⟩ <;> first | (simp only [ua, lR, mU, j9, jN, kL, kM, eV, eY, fE, lS, nm, seval] <;> rfl) | rfl) ?_
   rintro tm ⟨fy, mV, m3, jA, fF, fG, dX, _⟩
   cases wN : (decide (Ag ≥ 0))
   ·simp only [wN, hs] at h
    simp only [vz, tyf, lR, (cn iQ), mU, lS, (cn Af), fy, mV, m3, jA, fF, fG, dX, wN, nm, seval]
    exact ⟨List.length p9, Nat.lt_succ_self _, by rw [tq]; refine ⟨p9, cA + 1, rfl, Int.le_trans mz (Int.le_add_one (Int.le_refl _)), bS mz oO, rfl, (show 7 ≤ lQ + 41 by omega), fy, mV, m3, jA, ?_, (by first | exact h | (simp only [lR, mU, lS, wN]; exact h))⟩ <;> first | (simp only [ua, lR, mU, lS, fy, mV, m3, jA, fF, fG, dX, wN, nm, seval] <;> rfl) | rfl⟩
   simp only [wN, hs] at h
   try simp only [vz, tyf, lR, (cn iQ), mU, lS, (cn Af), fy, mV, m3, jA, fF, fG, dX, wN, nm, seval]
   replace h := wL _ h
   try dsimp only at h
   obtain rfl := kF _ h
   exact bc Tryz.results110 rfl
 simp only [d8, hs] at h
 try simp only [vz, tyf, d8, nm, seval]
 obtain rfl := kF _ h
 exact bc Tryz.results110 rfl
def wO (ah : List Int) : List Int → Int → Option (LOut (Bool) (Unit))
 | [], uI => some (.go ())
 | e0 :: p0, uI => Option.bind (getI ah (i64.wrap (uI - 1))) (fun x1 => cond (decide (e0 ≤ x1)) (some (.ret false)) (wO ah p0 (uI + 1)))
def wP (aN : Int) (ah : List Int) (ba : Int) : Option (Bool) := cond (lenOk ah) (cond (leB 0 1) (lbind (wO ah (List.drop (Int.toNat 1) ah) 1) (fun r4 => some r4) (fun c2 => Option.bind (uk aN ah ba) (fun r3 => some r3)) (fun _ _ => none)) none) none
theorem Rz (aN : Int) (ah : List Int) (ba : Int) (R : Bool) (h : wP aN ah ba = some R) : ad Tryz.prog G0 149 [.lit (.int .i64 aN), .sl (aa eI ah) (List.length ah) false, .lit (.int .i64 ba)] (.tree (.lit (.bool R))) := by
 refine ad.runR mixed Tryz.call149 Tryz.func149 rfl (by simp [Tryz.ntmps149]; kernel_rfl) ?_
 obtain ⟨KF, h, kF, kN⟩ := dZ h
 simp only [wP] at h
 cases g6 : (lenOk ah)
 ·simp only [g6, hs] at h
  exact absurd h kN
 simp only [g6, hs] at h
 cases g7 : (leB 0 1)
 ·simp only [g7, hs] at h
  exact absurd h kN
 simp only [g7, hs] at h
 simp only [vz, tyf, g6, g7, nm, seval]
 obtain ⟨K5, h, yi, wg, Qd, tO⟩ := gu h kN
 obtain ⟨f5, yj, h⟩ := call2 h
 obtain ⟨I5, pb⟩ : ∃ I : Nat → St → Prop, I = (fun m st => ∃ (p5 : List Int) (kh : Int), m = List.length p5 ∧ 0 ≤ kh ∧ List.drop (Int.toNat kh) ah = p5 ∧ st.df = [] ∧ 2 ≤ st.nx ∧ st.tm 0 = .lit (.int .i64 aN) ∧ st.tm 1 = .sl (aa eI ah) (List.length ah) false ∧ st.tm 2 = .lit (.int .i64 ba) ∧ st.tm 7 = .lit (.int .i64 kh) ∧ K5 (f5 p5 kh)) := ⟨_, rfl⟩
 refine loopK mixed (by kernel_rfl) I5 (List.length (List.drop (Int.toNat 1) ah)) (by rw [pb]; refine ⟨List.drop (Int.toNat 1) ah, 1, rfl, of_decide_eq_true g7, rfl, rfl, (show 2 ≤ 2 by omega), ?_, ?_, ?_, ?_, h⟩ <;> first | (simp only [ua, nm, seval] <;> rfl) | rfl) ?_
 rintro m ⟨tm, H, sQ, df⟩ hinv
 rw [pb] at hinv
 obtain ⟨p5, kh, rfl, jM, kR, hdf, oH, e8, e9, bh, bj, h⟩ := hinv
 simp only at hdf oH e8 e9 bh bj
 have iv := gv (m := 2) (b := sQ) (by omega)
 subst hdf yj
 cases p5 with
 | nil =>
  have bx : (decide (kh < (List.length ah : Int))) = false := fj jM kR
  simp only [wO, hs, reduceCtorEq] at h
  replace h := wg _ h
  try dsimp only at h
  try simp only [hs] at h
  obtain ⟨tt, mQ, h⟩ := optI h kN
  try simp only [hs] at h
  simp only [vz, tyf, g6, g7, iv, e8, e9, bh, bj, bx, nm, seval]
  refine ktA (Je _ _ _ _ mQ) ?_
  refine bt (fun tm => tm 27 = .lit (.bool tt) ∧ True) (by refine ⟨?_, trivial⟩ <;> first | (simp only [ua, iv, e8, e9, bh, bj, bx, nm, seval] <;> rfl) | rfl) ?_
  rintro tm ⟨dK, _⟩
  try simp only [vz, tyf, g6, g7, iv, bx, dK, nm, seval]
  obtain rfl := kF _ h
  exact bc Tryz.results149 rfl
 | cons e5 p5 =>
  have bY : (decide (kh < (List.length ah : Int))) = true := fk jM kR
  have Ah := eg jM kR
  have Ai := fm jM kR g6
  simp only [wO, hs, reduceCtorEq] at h
  simp only [vz, tyf, g6, g7, iv, e8, e9, bh, bj, bY, (aD Ah), Ai, nm, seval]
  refine mO (fun tm => tm 0 = .lit (.int .i64 aN) ∧ tm 1 = .sl (aa eI ah) (List.length ah) false ∧ tm 2 = .lit (.int .i64 ba) ∧ tm 7 = .lit (.int .i64 kh) ∧ True) (by refine ⟨e8, e9, bh, bj, trivial⟩ <;> first | (simp only [ua, iv, e8, e9, bh, bj, bY, Ai, nm, seval] <;> rfl) | rfl) ?_
  rintro tm ⟨gP, dL, bX, dz, _⟩
  obtain ⟨Vo, qG, h⟩ := optI h tO
  try simp only [hs] at h
  cases oP : (decide (e5 ≤ Vo))
  ·simp only [oP, hs] at h
   simp only [vz, tyf, g6, g7, iv, bY, (aD Ah), Ai, gP, dL, bX, dz, (aD qG), oP, nm, seval]
   exact ⟨List.length p5, Nat.lt_succ_self _, by rw [pb]; refine ⟨p5, kh + 1, rfl, Int.le_trans jM (Int.le_add_one (Int.le_refl _)), bS jM kR, rfl, (show 2 ≤ sQ + 17 by omega), gP, dL, bX, ?_, (by first | exact h | (simp only [bY, oP]; exact h))⟩ <;> first | (simp only [ua, iv, bY, Ai, gP, dL, bX, dz, oP, nm, seval] <;> rfl) | rfl⟩
  simp only [oP, hs] at h
  try simp only [vz, tyf, g6, g7, iv, bY, (aD Ah), Ai, gP, dL, bX, dz, (aD qG), oP, nm, seval]
  replace h := yi _ h
  try dsimp only at h
  obtain rfl := kF _ h
  exact bc Tryz.results149 rfl
def wQ (aO : Int) : List GLw → Int → Option (LOut (Bool) (Unit))
 | [], tu => some (.go ())
 | e0 :: p0, tu => Option.bind (nL 1 (List.length e0.Signs : Int) 6) (fun r2 => cond (r2) (Option.bind (uk 0 e0.Signs (i64.wrap (aO - 1))) (fun r3 => cond (r3) (Option.bind (wP 1 e0.Cuts (i64.wrap ((List.length e0.Signs : Int) - 1))) (fun r4 => cond (r4) (wQ aO p0 (tu + 1)) (some (.ret false)))) (some (.ret false)))) (some (.ret false)))
def Aj (aT : List GLw) (aO : Int) : Option (Bool) := Option.bind (nL 1 (List.length aT : Int) 4) (fun r1 => cond (r1) (cond (lenOk aT) (lbind (wQ aO aT 0) (fun r6 => some r6) (fun c5 => some true) (fun _ _ => none)) none) (some false))
theorem Vp (aT : List GLw) (aO : Int) (R : Bool) (h : Aj aT aO = some R) : ad Tryz.prog G0 113 [.sl (aa cGLw aT) (List.length aT) false, .lit (.int .i64 aO)] (.tree (.lit (.bool R))) := by
 refine ad.runR mixed Tryz.call113 Tryz.func113 rfl (by simp [Tryz.ntmps113]; kernel_rfl) ?_
 obtain ⟨KF, h, kF, kN⟩ := dZ h
 simp only [Aj] at h
 obtain ⟨r7, o8, h⟩ := optI h kN
 try simp only [hs] at h
 simp only [vz, tyf, nm, seval]
 refine ktA (rN _ _ _ _ o8) ?_
 refine bt (fun tm => tm 0 = .sl (aa cGLw aT) (List.length aT) false ∧ tm 1 = .lit (.int .i64 aO) ∧ tm 10 = .lit (.bool r7) ∧ True) (by refine ⟨?_, ?_, ?_, trivial⟩ <;> first | (simp only [ua, nm, seval] <;> rfl) | rfl) ?_
 rintro tm ⟨e9, bh, bj, _⟩
 cases dt : (r7)
 ·simp only [dt, hs] at h
  try simp only [vz, tyf, e9, bh, bj, dt, nm, seval]
  obtain rfl := kF _ h
  exact bc Tryz.results113 rfl
 simp only [dt, hs] at h
 cases kP : (lenOk aT)
 ·simp only [kP, hs] at h
  exact absurd h kN
 simp only [kP, hs] at h
 simp only [vz, tyf, e9, bh, bj, dt, kP, nm, seval]
 obtain ⟨JM, h, qa, uJ, JN, qb⟩ := gu h kN
 obtain ⟨JO, uK, h⟩ := call2 h
 obtain ⟨JP, m4⟩ : ∃ I : Nat → St → Prop, I = (fun m st => ∃ (ln : List GLw) (dP : Int), m = List.length ln ∧ 0 ≤ dP ∧ List.drop (Int.toNat dP) aT = ln ∧ st.df = [] ∧ 8 ≤ st.nx ∧ st.tm 1 = .lit (.int .i64 aO) ∧ st.tm 12 = .sl (aa cGLw aT) (List.length aT) false ∧ st.tm 13 = .lit (.int .i64 (List.length aT : Int)) ∧ st.tm 14 = .lit (.int .i64 dP) ∧ JM (JO ln dP)) := ⟨_, rfl⟩
 refine loopK mixed (by kernel_rfl) JP (List.length aT) (by rw [m4]; refine ⟨aT, 0, rfl, Int.le_refl _, rfl, rfl, (show 8 ≤ 8 by omega), bh, ?_, ?_, ?_, h⟩ <;> first | (simp only [ua, e9, bh, bj, dt, nm, seval] <;> rfl) | rfl) ?_
 rintro m ⟨tm, H, m5, df⟩ hinv
 rw [m4] at hinv
 obtain ⟨ln, dP, rfl, hC, jc, hdf, uL, eU, dK, dV, cl, h⟩ := hinv
 simp only at hdf uL eU dK dV cl
 have tv := gv (m := 8) (b := m5) (by omega)
 subst hdf uK
 cases ln with
 | nil =>
  have gQ : (decide (dP < (List.length aT : Int))) = false := fj hC jc
  simp only [wQ, hs, reduceCtorEq] at h
  replace h := uJ _ h
  try dsimp only at h
  try simp only [hs] at h
  try simp only [vz, tyf, dt, kP, tv, eU, dK, dV, cl, gQ, nm, seval]
  obtain rfl := kF _ h
  exact bc Tryz.results113 rfl
 | cons bz ln =>
  have eF : (decide (dP < (List.length aT : Int))) = true := fk hC jc
  have qc := eg hC jc
  have tw := fm hC jc kP
  simp only [wQ, hs, reduceCtorEq] at h
  obtain ⟨gT, qG, h⟩ := optI h qb
  try simp only [hs] at h
  simp only [vz, tyf, dt, kP, tv, eU, dK, dV, cl, eF, (aE qc), tw, nm, seval]
  refine ktA (rN _ _ _ _ qG) ?_
  refine bt (fun tm => tm 1 = .lit (.int .i64 aO) ∧ tm 6 = .ptr (m5 + 3) 0 ∧ tm 7 = .lit (.int .i64 (List.length bz.Signs : Int)) ∧ tm 12 = .sl (aa cGLw aT) (List.length aT) false ∧ tm 13 = .lit (.int .i64 (List.length aT : Int)) ∧ tm 14 = .lit (.int .i64 dP) ∧ tm 22 = .lit (.bool gT) ∧ True) (by refine ⟨eU, ?_, ?_, dK, dV, cl, ?_, trivial⟩ <;> first | (simp only [ua, dt, tv, eU, dK, dV, cl, eF, tw, nm, seval] <;> rfl) | rfl) ?_
  rintro tm ⟨dI, ec, eG, gf, bQ, uM, qd, _⟩
  cases uN : (gT)
  ·simp only [uN, hs] at h
   try simp only [vz, tyf, dt, kP, tv, eF, (aE qc), tw, dI, ec, eG, gf, bQ, uM, qd, uN, nm, seval]
   replace h := qa _ h
   try dsimp only at h
   obtain rfl := kF _ h
   exact bc Tryz.results113 rfl
  simp only [uN, hs] at h
  obtain ⟨Ak, JQ, h⟩ := optI h qb
  try simp only [hs] at h
  simp only [vz, tyf, dt, kP, tv, eF, (aE qc), tw, dI, ec, eG, gf, bQ, uM, qd, uN, nm, seval]
  refine ktA (Je _ _ _ _ JQ) ?_
  refine bt (fun tm => tm 1 = .lit (.int .i64 aO) ∧ tm 6 = .ptr (m5 + 3) 0 ∧ tm 7 = .lit (.int .i64 (List.length bz.Signs : Int)) ∧ tm 12 = .sl (aa cGLw aT) (List.length aT) false ∧ tm 13 = .lit (.int .i64 (List.length aT : Int)) ∧ tm 14 = .lit (.int .i64 dP) ∧ tm 24 = .lit (.bool false) ∧ tm 29 = .lit (.bool Ak) ∧ True) (by refine ⟨dI, ec, eG, gf, bQ, uM, ?_, ?_, trivial⟩ <;> first | (simp only [ua, dt, tv, eF, tw, dI, ec, eG, gf, bQ, uM, qd, uN, nm, seval] <;> rfl) | rfl) ?_
  rintro tm ⟨cq, bT, bC, bG, bE, cm, bP, cw, _⟩
  cases tx : (Ak)
  ·simp only [tx, hs] at h
   have lR := And.intro dt (And.intro kP (And.intro tv (And.intro eF (And.intro tw (And.intro uN tx)))))
   try simp only [vz, tyf, lR, (aE qc), cq, bT, bC, bG, bE, cm, bP, cw, nm, seval]
   replace h := qa _ h
   try dsimp only at h
   obtain rfl := kF _ h
   exact bc Tryz.results113 rfl
  simp only [tx, hs] at h
  have wR := And.intro dt (And.intro kP (And.intro tv (And.intro eF (And.intro tw (And.intro uN tx)))))
  obtain ⟨R0, wS, h⟩ := optI h qb
  try simp only [hs] at h
  simp only [vz, tyf, wR, (aE qc), cq, bT, bC, bG, bE, cm, bP, cw, nm, seval]
  refine ktA (Rz _ _ _ _ wS) ?_
  refine bt (fun tm => tm 1 = .lit (.int .i64 aO) ∧ tm 12 = .sl (aa cGLw aT) (List.length aT) false ∧ tm 13 = .lit (.int .i64 (List.length aT : Int)) ∧ tm 14 = .lit (.int .i64 dP) ∧ tm 32 = .lit (.bool false) ∧ tm 37 = .lit (.bool R0) ∧ True) (by refine ⟨cq, bG, bE, cm, ?_, ?_, trivial⟩ <;> first | (simp only [ua, wR, cq, bT, bC, bG, bE, cm, bP, cw, nm, seval] <;> rfl) | rfl) ?_
  rintro tm ⟨fp, gV, jx, kS, oI, jP, _⟩
  cases wT : (R0)
  ·simp only [wT, hs] at h
   try simp only [vz, tyf, wR, (aE qc), fp, gV, jx, kS, oI, jP, wT, nm, seval]
   replace h := qa _ h
   try dsimp only at h
   obtain rfl := kF _ h
   exact bc Tryz.results113 rfl
  simp only [wT, hs] at h
  simp only [vz, tyf, wR, (aE qc), fp, gV, jx, kS, oI, jP, wT, nm, seval]
  exact ⟨List.length ln, Nat.lt_succ_self _, by rw [m4]; refine ⟨ln, dP + 1, rfl, Int.le_trans hC (Int.le_add_one (Int.le_refl _)), bS hC jc, rfl, (show 8 ≤ m5 + 30 by omega), fp, gV, jx, ?_, (by first | exact h | (simp only [wR, wT]; exact h))⟩ <;> first | (simp only [ua, wR, fp, gV, jx, kS, oI, jP, wT, nm, seval] <;> rfl) | rfl⟩
def tl (ag : GLs) : Option (Bool) := Option.bind (z9 ag.Widths) (fun r1 => cond (r1) (Option.bind (Ad ag.Pairs (List.length ag.Widths : Int)) (fun r2 => cond (r2) (Option.bind (uo 0 ag.Other 9) (fun r3 => cond (r3) (Option.bind (uo 0 ag.Gap 20) (fun r4 => cond (r4) (Option.bind (nL 1 ag.Hyphen 20) (fun r5 => cond (r5) (Option.bind (Aj ag.Words (List.length ag.Widths : Int)) (fun r6 => cond (r6) (Option.bind (nL 1 ag.Wide 400) (fun r7 => cond (r7) (Option.bind (nL 1 ag.Rows 3) (fun r8 => some r8)) (some false))) (some false))) (some false))) (some false))) (some false))) (some false))) (some false))
theorem Rq (ag : GLs) (R : Bool) (h : tl ag = some R) : ad Tryz.prog G0 68 [.agg (cGLs ag)] (.tree (.lit (.bool R))) := by
 refine ad.runR mixed Tryz.call68 Tryz.func68 rfl (by simp [Tryz.ntmps68]; kernel_rfl) ?_
 obtain ⟨KF, h, kF, kN⟩ := dZ h
 simp only [tl] at h
 obtain ⟨r9, JR, h⟩ := optI h kN
 try simp only [hs] at h
 simp only [vz, tyf, nm, seval]
 refine ktA (Vb _ _ JR) ?_
 refine bt (fun tm => tm 1 = .ptr 0 0 ∧ tm 5 = .lit (.bool r9) ∧ True) (by refine ⟨?_, ?_, trivial⟩ <;> first | (simp only [ua, nm, seval] <;> rfl) | rfl) ?_
 rintro tm ⟨bj, bR, _⟩
 cases bx : (r9)
 ·simp only [bx, hs] at h
  try simp only [vz, tyf, bj, bR, bx, nm, seval]
  obtain rfl := kF _ h
  exact bc Tryz.results68 rfl
 simp only [bx, hs] at h
 obtain ⟨tt, mQ, h⟩ := optI h kN
 try simp only [hs] at h
 simp only [vz, tyf, bj, bR, bx, nm, seval]
 refine ktA (Vk _ _ _ mQ) ?_
 refine bt (fun tm => tm 1 = .ptr 0 0 ∧ tm 6 = .lit (.bool true) ∧ tm 12 = .lit (.bool tt) ∧ True) (by refine ⟨bj, ?_, ?_, trivial⟩ <;> first | (simp only [ua, bj, bR, bx, nm, seval] <;> rfl) | rfl) ?_
 rintro tm ⟨dK, dV, cl, _⟩
 cases fH : (tt)
 ·simp only [fH, hs] at h
  try simp only [vz, tyf, bx, dK, dV, cl, fH, nm, seval]
  obtain rfl := kF _ h
  exact bc Tryz.results68 rfl
 simp only [fH, hs] at h
 obtain ⟨tz, jd, h⟩ := optI h kN
 try simp only [hs] at h
 simp only [vz, tyf, bx, dK, dV, cl, fH, nm, seval]
 refine ktA (Ji _ _ _ _ jd) ?_
 refine bt (fun tm => tm 1 = .ptr 0 0 ∧ tm 14 = .lit (.bool true) ∧ tm 17 = .lit (.bool tz) ∧ True) (by refine ⟨dK, ?_, ?_, trivial⟩ <;> first | (simp only [ua, bx, dK, dV, cl, fH, nm, seval] <;> rfl) | rfl) ?_
 rintro tm ⟨bX, dz, ej, _⟩
 cases jQ : (tz)
 ·simp only [jQ, hs] at h
  try simp only [vz, tyf, bx, fH, bX, dz, ej, jQ, nm, seval]
  obtain rfl := kF _ h
  exact bc Tryz.results68 rfl
 simp only [jQ, hs] at h
 obtain ⟨Da, JS, h⟩ := optI h kN
 try simp only [hs] at h
 simp only [vz, tyf, bx, fH, bX, dz, ej, jQ, nm, seval]
 refine ktA (Ji _ _ _ _ JS) ?_
 refine bt (fun tm => tm 1 = .ptr 0 0 ∧ tm 19 = .lit (.bool true) ∧ tm 22 = .lit (.bool Da) ∧ True) (by refine ⟨bX, ?_, ?_, trivial⟩ <;> first | (simp only [ua, bx, fH, bX, dz, ej, jQ, nm, seval] <;> rfl) | rfl) ?_
 rintro tm ⟨eG, gf, bQ, _⟩
 cases iu : (Da)
 ·simp only [iu, hs] at h
  try simp only [vz, tyf, bx, fH, jQ, eG, gf, bQ, iu, nm, seval]
  obtain rfl := kF _ h
  exact bc Tryz.results68 rfl
 simp only [iu, hs] at h
 obtain ⟨Ae, JK, h⟩ := optI h kN
 try simp only [hs] at h
 simp only [vz, tyf, bx, fH, jQ, eG, gf, bQ, iu, nm, seval]
 refine ktA (rN _ _ _ _ JK) ?_
 refine bt (fun tm => tm 1 = .ptr 0 0 ∧ tm 24 = .lit (.bool true) ∧ tm 27 = .lit (.bool Ae) ∧ True) (by refine ⟨eG, ?_, ?_, trivial⟩ <;> first | (simp only [ua, bx, fH, jQ, eG, gf, bQ, iu, nm, seval] <;> rfl) | rfl) ?_
 rintro tm ⟨eX, fK, cq, _⟩
 cases qK : (Ae)
 ·simp only [qK, hs] at h
  try simp only [vz, tyf, bx, fH, jQ, iu, eX, fK, cq, qK, nm, seval]
  obtain rfl := kF _ h
  exact bc Tryz.results68 rfl
 simp only [qK, hs] at h
 obtain ⟨R1, Vq, h⟩ := optI h kN
 try simp only [hs] at h
 simp only [vz, tyf, bx, fH, jQ, iu, eX, fK, cq, qK, nm, seval]
 refine ktA (Vp _ _ _ Vq) ?_
 refine bt (fun tm => tm 1 = .ptr 0 0 ∧ tm 29 = .lit (.bool true) ∧ tm 35 = .lit (.bool R1) ∧ True) (by refine ⟨eX, ?_, ?_, trivial⟩ <;> first | (simp only [ua, bx, fH, jQ, iu, eX, fK, cq, qK, nm, seval] <;> rfl) | rfl) ?_
 rintro tm ⟨bE, cm, bP, _⟩
 cases gU : (R1)
 ·simp only [gU, hs] at h
  try simp only [vz, tyf, bx, fH, jQ, iu, qK, bE, cm, bP, gU, nm, seval]
  obtain rfl := kF _ h
  exact bc Tryz.results68 rfl
 simp only [gU, hs] at h
 obtain ⟨ym, EK, h⟩ := optI h kN
 try simp only [hs] at h
 simp only [vz, tyf, bx, fH, jQ, iu, qK, bE, cm, bP, gU, nm, seval]
 refine ktA (rN _ _ _ _ EK) ?_
 refine bt (fun tm => tm 1 = .ptr 0 0 ∧ tm 37 = .lit (.bool true) ∧ tm 40 = .lit (.bool ym) ∧ True) (by refine ⟨bE, ?_, ?_, trivial⟩ <;> first | (simp only [ua, bx, fH, jQ, iu, qK, bE, cm, bP, gU, nm, seval] <;> rfl) | rfl) ?_
 rintro tm ⟨ig, ij, gg, _⟩
 cases mW : (ym)
 ·simp only [mW, hs] at h
  have Vr := And.intro bx (And.intro fH (And.intro jQ (And.intro iu (And.intro qK (And.intro gU mW)))))
  try simp only [vz, tyf, Vr, ig, ij, gg, nm, seval]
  obtain rfl := kF _ h
  exact bc Tryz.results68 rfl
 simp only [mW, hs] at h
 have gB := And.intro bx (And.intro fH (And.intro jQ (And.intro iu (And.intro qK (And.intro gU mW)))))
 obtain ⟨uO, Al, h⟩ := optI h kN
 try simp only [hs] at h
 simp only [vz, tyf, gB, ig, ij, gg, nm, seval]
 refine ktA (rN _ _ _ _ Al) ?_
 refine bt (fun tm => tm 42 = .lit (.bool true) ∧ tm 45 = .lit (.bool uO) ∧ True) (by refine ⟨?_, ?_, trivial⟩ <;> first | (simp only [ua, gB, ig, ij, gg, nm, seval] <;> rfl) | rfl) ?_
 rintro tm ⟨jP, m0, _⟩
 try simp only [vz, tyf, gB, jP, m0, nm, seval]
 obtain rfl := kF _ h
 exact bc Tryz.results68 rfl
def lp (je : Int) (jf : Int) (iK : Int) : Option (Bool) := cond (decide (je ≥ jf)) (some (decide (je ≤ iK))) (some false)
theorem nN (je : Int) (jf : Int) (iK : Int) (R : Bool) (h : lp je jf iK = some R) : ad Tryz.prog G0 73 [.lit (.int .i64 je), .lit (.int .i64 jf), .lit (.int .i64 iK)] (.tree (.lit (.bool R))) := by
 refine ad.runR mixed Tryz.call73 Tryz.func73 rfl (by simp [Tryz.ntmps73]; kernel_rfl) ?_
 obtain ⟨KF, h, kF, kN⟩ := dZ h
 simp only [lp] at h
 cases d1 : (decide (je ≥ jf))
 ·simp only [d1, hs] at h
  try simp only [vz, tyf, d1, nm, seval]
  obtain rfl := kF _ h
  exact bc Tryz.results73 rfl
 simp only [d1, hs] at h
 try simp only [vz, tyf, d1, nm, seval]
 obtain rfl := kF _ h
 exact bc Tryz.results73 rfl
def uP (ag : GLs) (ep : Int) : Option (Bool) := Option.bind (lp ep 0 (i64.wrap ((List.length ag.Widths : Int) - 1))) (fun r1 => some r1)
theorem JT (ag : GLs) (ep : Int) (R : Bool) (h : uP ag ep = some R) : ad Tryz.prog G0 119 [.agg (cGLs ag), .lit (.int .i64 ep)] (.tree (.lit (.bool R))) := by
 refine ad.runR mixed Tryz.call119 Tryz.func119 rfl (by simp [Tryz.ntmps119]; kernel_rfl) ?_
 obtain ⟨KF, h, kF, kN⟩ := dZ h
 simp only [uP] at h
 obtain ⟨r2, o3, h⟩ := optI h kN
 try simp only [hs] at h
 simp only [vz, tyf, nm, seval]
 refine ktA (nN _ _ _ _ o3) ?_
 refine bt (fun tm => tm 10 = .lit (.bool r2) ∧ True) (by refine ⟨?_, trivial⟩ <;> first | (simp only [ua, nm, seval] <;> rfl) | rfl) ?_
 rintro tm ⟨e4, _⟩
 try simp only [vz, tyf, e4, nm, seval]
 obtain rfl := kF _ h
 exact bc Tryz.results119 rfl
def rU (cK : GLw) : List Int → Int → Option (LOut (Bool) (Unit))
 | [], qe => some (.go ())
 | e1 :: p1, qe => Option.bind (lp e1 1 (i64.wrap ((List.length cK.Signs : Int) - 1))) (fun r3 => cond (r3) (cond (decide (qe > 0)) (Option.bind (getI cK.Cuts (i64.wrap (qe - 1))) (fun x4 => cond (decide (e1 ≤ x4)) (some (.ret false)) (rU cK p1 (qe + 1)))) (rU cK p1 (qe + 1))) (some (.ret false)))
def wU (ag : GLs) : List Int → Int → Option (LOut (Bool) (Unit))
 | [], bB => some (.go ())
 | e0 :: p0, bB => Option.bind (uP ag e0) (fun r1 => cond (r1) (wU ag p0 (bB + 1)) (some (.ret false)))
def Am (ag : GLs) (cK : GLw) : Option (Bool) := cond (lenOk cK.Signs) (lbind (wU ag cK.Signs 0) (fun r8 => some r8) (fun c2 => cond (lenOk cK.Cuts) (lbind (rU cK cK.Cuts 0) (fun r7 => some r7) (fun c5 => Option.bind (lp (List.length cK.Signs : Int) 1 6) (fun r6 => some r6)) (fun _ _ => none)) none) (fun _ _ => none)) none
theorem Vs (ag : GLs) (cK : GLw) (R : Bool) (h : Am ag cK = some R) : ad Tryz.prog G0 74 [.agg (cGLs ag), .agg (cGLw cK)] (.tree (.lit (.bool R))) := by
 refine ad.runR mixed Tryz.call74 Tryz.func74 rfl (by simp [Tryz.ntmps74]; kernel_rfl) ?_
 obtain ⟨KF, h, kF, kN⟩ := dZ h
 simp only [Am] at h
 cases iJ : (lenOk cK.Signs)
 ·simp only [iJ, hs] at h
  exact absurd h kN
 simp only [iJ, hs] at h
 simp only [vz, tyf, iJ, nm, seval]
 obtain ⟨K9, h, wL, JH, Vl, uG⟩ := gu h kN
 obtain ⟨f9, JI, h⟩ := call2 h
 obtain ⟨I9, tq⟩ : ∃ I : Nat → St → Prop, I = (fun m st => ∃ (p9 : List Int) (jH : Int), m = List.length p9 ∧ 0 ≤ jH ∧ List.drop (Int.toNat jH) cK.Signs = p9 ∧ st.df = [] ∧ 4 ≤ st.nx ∧ st.H 0 = some (.cells (some 28) (cGLs ag)) ∧ st.H 1 = some (.cells (some 79) (cGLw cK)) ∧ st.tm 2 = .ptr 0 0 ∧ st.tm 3 = .ptr 1 0 ∧ st.tm 5 = .lit (.int .i64 jH) ∧ K9 (f9 p9 jH)) := ⟨_, rfl⟩
 refine loopK mixed (by kernel_rfl) I9 (List.length cK.Signs) (by rw [tq]; refine ⟨cK.Signs, 0, rfl, Int.le_refl _, rfl, rfl, (show 4 ≤ 4 by omega), ?_, ?_, ?_, ?_, ?_, h⟩ <;> first | (simp only [ua, nm, seval] <;> rfl) | rfl) ?_
 rintro m ⟨tm, H, lQ, df⟩ hinv
 rw [tq] at hinv
 obtain ⟨p9, jH, rfl, mz, oO, hdf, JJ, rV, rW, bz, ca, eU, h⟩ := hinv
 simp only at hdf JJ rV rW bz ca eU
 have jb := gv (m := 4) (b := lQ) (by omega)
 subst hdf JI
 cases p9 with
 | nil =>
  have bY : (decide (jH < (List.length cK.Signs : Int))) = false := fj mz oO
  simp only [wU, hs, reduceCtorEq] at h
  replace h := JH _ h
  try dsimp only at h
  try simp only [hs] at h
  cases t4 : (lenOk cK.Cuts)
  ·simp only [t4, hs] at h
   exact absurd h kN
  simp only [t4, hs] at h
  simp only [vz, tyf, iJ, jb, bz, ca, eU, rV, rW, bY, t4, nm, seval]
  obtain ⟨Vt, h, An, JU, Vu, Ao⟩ := gu h kN
  obtain ⟨Vv, JV, h⟩ := call2 h
  obtain ⟨Vw, rX⟩ : ∃ I : Nat → St → Prop, I = (fun m st => ∃ (qL : List Int) (fe : Int), m = List.length qL ∧ 0 ≤ fe ∧ List.drop (Int.toNat fe) cK.Cuts = qL ∧ st.df = [] ∧ lQ + 6 ≤ st.nx ∧ st.H 1 = some (.cells (some 79) (cGLw cK)) ∧ st.tm 3 = .ptr 1 0 ∧ st.tm 6 = .lit (.int .i64 fe) ∧ Vt (Vv qL fe)) := ⟨_, rfl⟩
  refine loopK mixed (by kernel_rfl) Vw (List.length cK.Cuts) (by rw [rX]; refine ⟨cK.Cuts, 0, rfl, Int.le_refl _, rfl, rfl, (show lQ + 6 ≤ lQ + 6 by omega), ?_, ca, ?_, h⟩ <;> first | (simp only [ua, jb, bz, ca, eU, rV, rW, bY, nm, seval] <;> rfl) | rfl) ?_
  rintro m ⟨tm, H, rY, df⟩ hinv
  rw [rX] at hinv
  obtain ⟨qL, fe, rfl, lq, nO, hdf, JW, nP, dL, bX, h⟩ := hinv
  simp only at hdf JW nP dL bX
  have wW := gv (m := 4) (b := rY) (by omega)
  have wX := rH (a := lQ) (m := 6) (b := rY) (by omega)
  subst hdf JV
  cases qL with
  | nil =>
   have jQ : (decide (fe < (List.length cK.Cuts : Int))) = false := fj lq nO
   simp only [rU, hs, reduceCtorEq] at h
   replace h := JU _ h
   try dsimp only at h
   try simp only [hs] at h
   obtain ⟨Da, JS, h⟩ := optI h kN
   try simp only [hs] at h
   simp only [vz, tyf, iJ, jb, bY, t4, wW, wX, dL, bX, nP, jQ, nm, seval]
   refine ktA (nN _ _ _ _ JS) ?_
   refine bt (fun tm => tm 61 = .lit (.bool Da) ∧ True) (by refine ⟨?_, trivial⟩ <;> first | (simp only [ua, jb, bY, wW, wX, dL, bX, nP, jQ, nm, seval] <;> rfl) | rfl) ?_
   rintro tm ⟨eG, _⟩
   have wY := And.intro iJ (And.intro jb (And.intro bY (And.intro t4 (And.intro wW (And.intro wX (And.intro nP jQ))))))
   try simp only [vz, tyf, wY, eG, nm, seval]
   obtain rfl := kF _ h
   exact bc Tryz.results74 rfl
  | cons cl qL =>
   have uQ : (decide (fe < (List.length cK.Cuts : Int))) = true := fk lq nO
   have qH := eg lq nO
   have JX := fm lq nO t4
   simp only [rU, hs, reduceCtorEq] at h
   simp only [vz, tyf, iJ, jb, bY, t4, wW, wX, dL, bX, nP, uQ, (aD qH), JX, nm, seval]
   refine mO (fun tm => tm 3 = .ptr 1 0 ∧ tm 6 = .lit (.int .i64 fe) ∧ True) (by refine ⟨dL, bX, trivial⟩ <;> first | (simp only [ua, jb, bY, wW, wX, dL, bX, nP, uQ, JX, nm, seval] <;> rfl) | rfl) ?_
   rintro tm ⟨ed, eX, _⟩
   have qM := And.intro iJ (And.intro jb (And.intro bY (And.intro t4 (And.intro wW (And.intro wX (And.intro nP (And.intro uQ JX)))))))
   obtain ⟨Ap, JY, h⟩ := optI h Ao
   try simp only [hs] at h
   simp only [vz, tyf, qM, (aD qH), ed, eX, nm, seval]
   refine dktA (nN _ _ _ _ JY) ?_
   refine bt (fun tm => tm 3 = .ptr 1 0 ∧ tm 6 = .lit (.int .i64 fe) ∧ tm 38 = .lit (.bool Ap) ∧ True) (by refine ⟨ed, eX, ?_, trivial⟩ <;> first | (simp only [ua, qM, ed, eX, nm, seval] <;> rfl) | rfl) ?_
   rintro tm ⟨bC, bG, bE, _⟩
   cases cb : (Ap)
   ·simp only [cb, hs] at h
    try simp only [vz, tyf, qM, (aD qH), bC, bG, bE, cb, nm, seval]
    replace h := An _ h
    try dsimp only at h
    obtain rfl := kF _ h
    exact bc Tryz.results74 rfl
   simp only [cb, hs] at h
   cases iA : (decide (fe > 0))
   ·simp only [iA, hs] at h
    simp only [vz, tyf, qM, (aD qH), bC, bG, bE, cb, iA, nm, seval]
    exact ⟨List.length qL, Nat.lt_succ_self _, by rw [rX]; refine ⟨qL, fe + 1, rfl, Int.le_trans lq (Int.le_add_one (Int.le_refl _)), bS lq nO, rfl, (show lQ + 6 ≤ rY + 37 by omega), ?_, bC, ?_, (by first | exact h | (simp only [qM, cb, iA]; exact h))⟩ <;> first | (simp only [ua, qM, bC, bG, bE, cb, iA, nm, seval] <;> rfl) | rfl⟩
   simp only [iA, hs] at h
   obtain ⟨Vx, R2, h⟩ := optI h Ao
   try simp only [hs] at h
   cases jR : (decide (cl ≤ Vx))
   ·simp only [jR, hs] at h
    simp only [vz, tyf, qM, (aD qH), bC, bG, bE, cb, iA, (aD R2), jR, nm, seval]
    exact ⟨List.length qL, Nat.lt_succ_self _, by rw [rX]; refine ⟨qL, fe + 1, rfl, Int.le_trans lq (Int.le_add_one (Int.le_refl _)), bS lq nO, rfl, (show lQ + 6 ≤ rY + 37 by omega), ?_, bC, ?_, (by first | exact h | (simp only [qM, cb, iA, jR]; exact h))⟩ <;> first | (simp only [ua, qM, bC, bG, bE, cb, iA, jR, nm, seval] <;> rfl) | rfl⟩
   simp only [jR, hs] at h
   try simp only [vz, tyf, qM, (aD qH), bC, bG, bE, cb, iA, (aD R2), jR, nm, seval]
   replace h := An _ h
   try dsimp only at h
   obtain rfl := kF _ h
   exact bc Tryz.results74 rfl
 | cons e9 p9 =>
  have wZ : (decide (jH < (List.length cK.Signs : Int))) = true := fk mz oO
  have wS := eg mz oO
  have xa := fm mz oO iJ
  simp only [wU, hs, reduceCtorEq] at h
  simp only [vz, tyf, iJ, jb, bz, ca, eU, rV, rW, wZ, (aD wS), xa, nm, seval]
  refine mO (fun tm => tm 2 = .ptr 0 0 ∧ tm 3 = .ptr 1 0 ∧ tm 5 = .lit (.int .i64 jH) ∧ True) (by refine ⟨bz, ca, eU, trivial⟩ <;> first | (simp only [ua, jb, bz, ca, eU, rV, rW, wZ, xa, nm, seval] <;> rfl) | rfl) ?_
  rintro tm ⟨fp, gV, jx, _⟩
  obtain ⟨uO, Al, h⟩ := optI h uG
  try simp only [hs] at h
  simp only [vz, tyf, iJ, jb, rV, rW, wZ, (aD wS), xa, fp, gV, jx, nm, seval]
  refine dktA (JT _ _ _ Al) ?_
  refine bt (fun tm => tm 2 = .ptr 0 0 ∧ tm 3 = .ptr 1 0 ∧ tm 5 = .lit (.int .i64 jH) ∧ tm 20 = .lit (.bool uO) ∧ True) (by refine ⟨fp, gV, jx, ?_, trivial⟩ <;> first | (simp only [ua, jb, rV, rW, wZ, xa, fp, gV, jx, nm, seval] <;> rfl) | rfl) ?_
  rintro tm ⟨jP, m0, ll, j8, _⟩
  cases jg : (uO)
  ·simp only [jg, hs] at h
   have Vy := And.intro iJ (And.intro jb (And.intro rV (And.intro rW (And.intro wZ (And.intro xa jg)))))
   try simp only [vz, tyf, Vy, (aD wS), jP, m0, ll, j8, nm, seval]
   replace h := wL _ h
   try dsimp only at h
   obtain rfl := kF _ h
   exact bc Tryz.results74 rfl
  simp only [jg, hs] at h
  have JZ := And.intro iJ (And.intro jb (And.intro rV (And.intro rW (And.intro wZ (And.intro xa jg)))))
  simp only [vz, tyf, JZ, (aD wS), jP, m0, ll, j8, nm, seval]
  exact ⟨List.length p9, Nat.lt_succ_self _, by rw [tq]; refine ⟨p9, jH + 1, rfl, Int.le_trans mz (Int.le_add_one (Int.le_refl _)), bS mz oO, rfl, (show 4 ≤ lQ + 16 by omega), ?_, ?_, jP, m0, ?_, (by first | exact h | (simp only [JZ]; exact h))⟩ <;> first | (simp only [ua, JZ, jP, m0, ll, j8, nm, seval] <;> rfl) | rfl⟩
def uR (ag : GSpan) (fI : Int) : Option (Bool) := Option.bind (lp ag.Low 0 fI) (fun r1 => cond (r1) (Option.bind (lp ag.High ag.Low fI) (fun r2 => some r2)) (some false))
theorem Ke (ag : GSpan) (fI : Int) (R : Bool) (h : uR ag fI = some R) : ad Tryz.prog G0 76 [.agg (cGSpan ag), .lit (.int .i64 fI)] (.tree (.lit (.bool R))) := by
 refine ad.runR mixed Tryz.call76 Tryz.func76 rfl (by simp [Tryz.ntmps76]; kernel_rfl) ?_
 obtain ⟨KF, h, kF, kN⟩ := dZ h
 simp only [uR] at h
 obtain ⟨r3, o4, h⟩ := optI h kN
 try simp only [hs] at h
 simp only [vz, tyf, nm, seval]
 refine ktA (nN _ _ _ _ o4) ?_
 refine bt (fun tm => tm 1 = .lit (.int .i64 fI) ∧ tm 2 = .ptr 0 0 ∧ tm 8 = .lit (.bool r3) ∧ True) (by refine ⟨?_, ?_, ?_, trivial⟩ <;> first | (simp only [ua, nm, seval] <;> rfl) | rfl) ?_
 rintro tm ⟨e5, e6, e7, _⟩
 cases d8 : (r3)
 ·simp only [d8, hs] at h
  try simp only [vz, tyf, e5, e6, e7, d8, nm, seval]
  obtain rfl := kF _ h
  exact bc Tryz.results76 rfl
 simp only [d8, hs] at h
 obtain ⟨r9, JR, h⟩ := optI h kN
 try simp only [hs] at h
 simp only [vz, tyf, e5, e6, e7, d8, nm, seval]
 refine ktA (nN _ _ _ _ JR) ?_
 refine bt (fun tm => tm 9 = .lit (.bool true) ∧ tm 15 = .lit (.bool r9) ∧ True) (by refine ⟨?_, ?_, trivial⟩ <;> first | (simp only [ua, e5, e6, e7, d8, nm, seval] <;> rfl) | rfl) ?_
 rintro tm ⟨bj, bR, _⟩
 try simp only [vz, tyf, d8, bj, bR, nm, seval]
 obtain rfl := kF _ h
 exact bc Tryz.results76 rfl
theorem ad.runRQ {P : Program} {G : Glob} (hm : P.follows .mixedOrders = true) {f : FuncId} {fn : Func} {code : Code} {args : List VV} {r : PRes} (hc : Callable P f) (hf : P.funcs[f]? = some fn) (hb : fn.body = some code)
  (hst : (decide (args.length ≤ fn.ntmps) && codeQ fn.ntmps code) = true) (h : CWp P (G.at (some none)) fn.ntmps code (OpenPostD P G fn (RR r) (RPn r)) { tm := aS args, H := fun _ => none, nx := 0, df := [] }) : ad P G f args r := by
 rw [Bool.and_eq_true] at hst
 exact ad.runR hm hc hf hb (by rw [Bool.and_eq_true]; exact ⟨hst.1, nQ hst.2⟩) h
def qN (ag : GLs) : List GLp → Int → Option (LOut (Bool) (Unit))
 | [], fz => some (.go ())
 | e0 :: p0, fz => Option.bind (uP ag e0.Left) (fun r1 => cond (r1) (Option.bind (uP ag e0.Right) (fun r2 => cond (r2) (Option.bind (uR e0.Space 9) (fun r3 => cond (r3) (cond (decide (fz > 0)) (Option.bind (getI ag.Pairs (i64.wrap (fz - 1))) (fun x4 => cond (decide (x4.Left > e0.Left)) (some (.ret false)) (cond (x4.Left == e0.Left) (cond (decide (x4.Right ≥ e0.Right)) (some (.ret false)) (qN ag p0 (fz + 1))) (qN ag p0 (fz + 1))))) (qN ag p0 (fz + 1))) (some (.ret false)))) (some (.ret false)))) (some (.ret false)))
def Aq (ag : GLs) : Option (Bool) := cond (lenOk ag.Pairs) (lbind (qN ag ag.Pairs 0) (fun r6 => some r6) (fun c5 => some (decide ((List.length ag.Pairs : Int) ≤ 6))) (fun _ _ => none)) none
theorem Vz (ag : GLs) (R : Bool) (h : Aq ag = some R) : ad Tryz.prog G0 75 [.agg (cGLs ag)] (.tree (.lit (.bool R))) := by
 refine ad.runRQ mixed Tryz.call75 Tryz.func75 rfl (by simp [Tryz.ntmps75]; kernel_rfl) ?_
 obtain ⟨KF, h, kF, kN⟩ := dZ h
 simp only [Aq] at h
 cases g8 : (lenOk ag.Pairs)
 ·simp only [g8, hs] at h
  exact absurd h kN
 simp only [g8, hs] at h
 simp only [vz, tyf, g8, nm, seval]
 obtain ⟨K7, h, Ar, V0, Yj, Db⟩ := gu h kN
 obtain ⟨f7, V1, h⟩ := call2 h
 obtain ⟨I7, As⟩ : ∃ I : Nat → St → Prop, I = (fun m st => ∃ (p7 : List GLp) (gp : Int), m = List.length p7 ∧ 0 ≤ gp ∧ List.drop (Int.toNat gp) ag.Pairs = p7 ∧ st.df = [] ∧ 3 ≤ st.nx ∧ st.H 0 = some (.cells (some 28) (cGLs ag)) ∧ st.tm 1 = .ptr 0 0 ∧ st.tm 3 = .lit (.int .i64 gp) ∧ K7 (f7 p7 gp)) := ⟨_, rfl⟩
 refine loopK mixed (nQ (by kernel_rfl)) I7 (List.length ag.Pairs) (by rw [As]; refine ⟨ag.Pairs, 0, rfl, Int.le_refl _, rfl, rfl, (show 3 ≤ 3 by omega), ?_, ?_, ?_, h⟩ <;> first | (simp only [ua, nm, seval] <;> rfl) | rfl) ?_
 rintro m ⟨tm, H, t5, df⟩ hinv
 rw [As] at hinv
 obtain ⟨p7, gp, rfl, qO, uS, hdf, V2, H9, bh, bj, h⟩ := hinv
 simp only at hdf V2 H9 bh bj
 have iv := gv (m := 3) (b := t5) (by omega)
 subst hdf V1
 cases p7 with
 | nil =>
  have bx : (decide (gp < (List.length ag.Pairs : Int))) = false := fj qO uS
  simp only [qN, hs, reduceCtorEq] at h
  replace h := V0 _ h
  try dsimp only at h
  try simp only [hs] at h
  try simp only [vz, tyf, g8, iv, bh, bj, H9, bx, nm, seval]
  obtain rfl := kF _ h
  exact bc Tryz.results75 rfl
 | cons e7 p7 =>
  have bO : (decide (gp < (List.length ag.Pairs : Int))) = true := fk qO uS
  have ir := eg qO uS
  have m6 := fm qO uS g8
  simp only [qN, hs, reduceCtorEq] at h
  obtain ⟨Dc, qf, h⟩ := optI h Db
  try simp only [hs] at h
  simp only [vz, tyf, g8, iv, bh, bj, H9, bO, (cn ir), m6, nm, seval]
  refine ktA (JT _ _ _ qf) ?_
  refine bt (fun tm => tm 1 = .ptr 0 0 ∧ tm 3 = .lit (.int .i64 gp) ∧ tm 4 = .ptr (t5 + 10) 0 ∧ tm 20 = .lit (.bool Dc) ∧ True) (by refine ⟨bh, bj, ?_, ?_, trivial⟩ <;> first | (simp only [ua, iv, bh, bj, H9, bO, m6, nm, seval] <;> rfl) | rfl) ?_
  rintro tm ⟨dM, gP, dL, bX, _⟩
  cases lr : (Dc)
  ·simp only [lr, hs] at h
   try simp only [vz, tyf, g8, iv, H9, bO, (cn ir), m6, dM, gP, dL, bX, lr, nm, seval]
   replace h := Ar _ h
   try dsimp only at h
   obtain rfl := kF _ h
   exact bc Tryz.results75 rfl
  simp only [lr, hs] at h
  obtain ⟨gT, qG, h⟩ := optI h Db
  try simp only [hs] at h
  simp only [vz, tyf, g8, iv, H9, bO, (cn ir), m6, dM, gP, dL, bX, lr, nm, seval]
  refine ktA (JT _ _ _ qG) ?_
  refine bt (fun tm => tm 1 = .ptr 0 0 ∧ tm 3 = .lit (.int .i64 gp) ∧ tm 4 = .ptr (t5 + 10) 0 ∧ tm 22 = .lit (.bool false) ∧ tm 26 = .lit (.bool gT) ∧ True) (by refine ⟨dM, gP, dL, ?_, ?_, trivial⟩ <;> first | (simp only [ua, iv, H9, bO, m6, dM, gP, dL, bX, lr, nm, seval] <;> rfl) | rfl) ?_
  rintro tm ⟨dI, ec, eG, gf, bQ, _⟩
  cases iu : (gT)
  ·simp only [iu, hs] at h
   have V3 := And.intro g8 (And.intro iv (And.intro H9 (And.intro bO (And.intro m6 (And.intro lr iu)))))
   try simp only [vz, tyf, V3, (cn ir), dI, ec, eG, gf, bQ, nm, seval]
   replace h := Ar _ h
   try dsimp only at h
   obtain rfl := kF _ h
   exact bc Tryz.results75 rfl
  simp only [iu, hs] at h
  have lT := And.intro g8 (And.intro iv (And.intro H9 (And.intro bO (And.intro m6 (And.intro lr iu)))))
  obtain ⟨Ak, JQ, h⟩ := optI h Db
  try simp only [hs] at h
  simp only [vz, tyf, lT, (cn ir), dI, ec, eG, gf, bQ, nm, seval]
  refine ktA (Ke _ _ _ JQ) ?_
  refine bt (fun tm => tm 1 = .ptr 0 0 ∧ tm 3 = .lit (.int .i64 gp) ∧ tm 4 = .ptr (t5 + 10) 0 ∧ tm 29 = .lit (.bool false) ∧ tm 32 = .lit (.bool Ak) ∧ True) (by refine ⟨dI, ec, eG, ?_, ?_, trivial⟩ <;> first | (simp only [ua, lT, dI, ec, eG, gf, bQ, nm, seval] <;> rfl) | rfl) ?_
  rintro tm ⟨cq, bT, bC, bG, bE, _⟩
  cases cb : (Ak)
  ·simp only [cb, hs] at h
   try simp only [vz, tyf, lT, (cn ir), cq, bT, bC, bG, bE, cb, nm, seval]
   replace h := Ar _ h
   try dsimp only at h
   obtain rfl := kF _ h
   exact bc Tryz.results75 rfl
  simp only [cb, hs] at h
  simp only [vz, tyf, lT, (cn ir), cq, bT, bC, bG, bE, cb, nm, seval]
  refine mO (fun tm => tm 1 = .ptr 0 0 ∧ tm 3 = .lit (.int .i64 gp) ∧ tm 4 = .ptr (t5 + 10) 0 ∧ True) (by refine ⟨cq, bT, bC, trivial⟩ <;> first | (simp only [ua, lT, cq, bT, bC, bG, bE, cb, nm, seval] <;> rfl) | rfl) ?_
  rintro tm ⟨bP, cw, dE, _⟩
  cases jR : (decide (gp > 0))
  ·simp only [jR, hs] at h
   simp only [vz, tyf, lT, (cn ir), cb, bP, cw, dE, jR, nm, seval]
   exact ⟨List.length p7, Nat.lt_succ_self _, by rw [As]; refine ⟨p7, gp + 1, rfl, Int.le_trans qO (Int.le_add_one (Int.le_refl _)), bS qO uS, rfl, (show 3 ≤ t5 + 71 by omega), ?_, bP, ?_, (by first | exact h | (simp only [lT, cb, jR]; exact h))⟩ <;> first | (simp only [ua, lT, cb, bP, cw, dE, jR, nm, seval] <;> rfl) | rfl⟩
  simp only [jR, hs] at h
  obtain ⟨Kf, wM, h⟩ := optI h Db
  try simp only [hs] at h
  cases qP : (decide (Kf.Left > e7.Left))
  ·simp only [qP, hs] at h
   cases mW : (Kf.Left == e7.Left)
   ·simp only [mW, hs] at h
    simp only [vz, tyf, lT, (cn ir), cb, bP, cw, dE, jR, (cn wM), qP, mW, nm, seval]
    exact ⟨List.length p7, Nat.lt_succ_self _, by rw [As]; refine ⟨p7, gp + 1, rfl, Int.le_trans qO (Int.le_add_one (Int.le_refl _)), bS qO uS, rfl, (show 3 ≤ t5 + 71 by omega), ?_, bP, ?_, (by first | exact h | (simp only [lT, cb, jR, qP, mW]; exact h))⟩ <;> first | (simp only [ua, lT, cb, bP, cw, dE, jR, qP, mW, nm, seval] <;> rfl) | rfl⟩
   simp only [mW, hs] at h
   cases nR : (decide (Kf.Right ≥ e7.Right))
   ·simp only [nR, hs] at h
    simp only [vz, tyf, lT, (cn ir), cb, bP, cw, dE, jR, (cn wM), qP, mW, nR, nm, seval]
    exact ⟨List.length p7, Nat.lt_succ_self _, by rw [As]; refine ⟨p7, gp + 1, rfl, Int.le_trans qO (Int.le_add_one (Int.le_refl _)), bS qO uS, rfl, (show 3 ≤ t5 + 71 by omega), ?_, bP, ?_, (by first | exact h | (simp only [lT, cb, jR, qP, mW, nR]; exact h))⟩ <;> first | (simp only [ua, lT, cb, bP, cw, dE, jR, qP, mW, nR, nm, seval] <;> rfl) | rfl⟩
   simp only [nR, hs] at h
   try simp only [vz, tyf, lT, (cn ir), cb, bP, cw, dE, jR, (cn wM), qP, mW, nR, nm, seval]
   replace h := Ar _ h
   try dsimp only at h
   obtain rfl := kF _ h
   exact bc Tryz.results75 rfl
  simp only [qP, hs] at h
  try simp only [vz, tyf, lT, (cn ir), cb, bP, cw, dE, jR, (cn wM), qP, nm, seval]
  replace h := Ar _ h
  try dsimp only at h
  obtain rfl := kF _ h
  exact bc Tryz.results75 rfl
def At (je : Int) : Option (Bool) := Option.bind (lp je 1 400) (fun r1 => some r1)
theorem V4 (je : Int) (R : Bool) (h : At je = some R) : ad Tryz.prog G0 57 [.lit (.int .i64 je)] (.tree (.lit (.bool R))) := by
 refine ad.runR mixed Tryz.call57 Tryz.func57 rfl (by simp [Tryz.ntmps57]; kernel_rfl) ?_
 obtain ⟨KF, h, kF, kN⟩ := dZ h
 simp only [At] at h
 obtain ⟨r2, o3, h⟩ := optI h kN
 try simp only [hs] at h
 simp only [vz, tyf, nm, seval]
 refine ktA (nN _ _ _ _ o3) ?_
 refine bt (fun tm => tm 4 = .lit (.bool r2) ∧ True) (by refine ⟨?_, trivial⟩ <;> first | (simp only [ua, nm, seval] <;> rfl) | rfl) ?_
 rintro tm ⟨e4, _⟩
 try simp only [vz, tyf, e4, nm, seval]
 obtain rfl := kF _ h
 exact bc Tryz.results57 rfl
def xb (ag : GLs) : List GLw → Int → Option (LOut (Bool) (Unit))
 | [], Au => some (.go ())
 | e1 :: p1, Au => Option.bind (Am ag e1) (fun r3 => cond (r3) (xb ag p1 (Au + 1)) (some (.ret false)))
def xc  : List Int → Int → Option (LOut (Bool) (Unit))
 | [], fz => some (.go ())
 | e0 :: p0, fz => Option.bind (lp e0 1 20) (fun r1 => cond (r1) (xc p0 (fz + 1)) (some (.ret false)))
def Av (ag : GLs) : Option (Bool) := cond (lenOk ag.Widths) (lbind (xc ag.Widths 0) (fun tt => some tt) (fun c2 => cond (lenOk ag.Words) (lbind (xb ag ag.Words 0) (fun Kg => some Kg) (fun c4 => Option.bind (lp (List.length ag.Widths : Int) 1 6) (fun r5 => cond (r5) (Option.bind (Aq ag) (fun r6 => cond (r6) (Option.bind (uR ag.Other 9) (fun r7 => cond (r7) (Option.bind (uR ag.Gap 20) (fun r8 => cond (r8) (Option.bind (lp ag.Hyphen 1 20) (fun r9 => cond (r9) (Option.bind (lp (List.length ag.Words : Int) 1 4) (fun wm => cond (wm) (Option.bind (At ag.Wide) (fun mj => cond (mj) (Option.bind (lp ag.Rows 1 3) (fun rj => some rj)) (some false))) (some false))) (some false))) (some false))) (some false))) (some false))) (some false))) (fun _ _ => none)) none) (fun _ _ => none)) none
theorem V5 (ag : GLs) (R : Bool) (h : Av ag = some R) : ad Tryz.prog G0 22 [.agg (cGLs ag)] (.tree (.lit (.bool R))) := by
 refine ad.runR mixed Tryz.call22 Tryz.func22 rfl (by simp [Tryz.ntmps22]; kernel_rfl) ?_
 obtain ⟨KF, h, kF, kN⟩ := dZ h
 simp only [Av] at h
 cases oQ : (lenOk ag.Widths)
 ·simp only [oQ, hs] at h
  exact absurd h kN
 simp only [oQ, hs] at h
 simp only [vz, tyf, oQ, nm, seval]
 obtain ⟨V6, h, Kh, Ki, V7, Kj⟩ := gu h kN
 obtain ⟨V8, Kk, h⟩ := call2 h
 obtain ⟨V9, uT⟩ : ∃ I : Nat → St → Prop, I = (fun m st => ∃ (t6 : List Int) (gC : Int), m = List.length t6 ∧ 0 ≤ gC ∧ List.drop (Int.toNat gC) ag.Widths = t6 ∧ st.df = [] ∧ 3 ≤ st.nx ∧ st.H 0 = some (.cells (some 28) (cGLs ag)) ∧ st.tm 1 = .ptr 0 0 ∧ st.tm 3 = .lit (.int .i64 gC) ∧ V6 (V8 t6 gC)) := ⟨_, rfl⟩
 refine loopK mixed (by kernel_rfl) V9 (List.length ag.Widths) (by rw [uT]; refine ⟨ag.Widths, 0, rfl, Int.le_refl _, rfl, rfl, (show 3 ≤ 3 by omega), ?_, ?_, ?_, h⟩ <;> first | (simp only [ua, nm, seval] <;> rfl) | rfl) ?_
 rintro m ⟨tm, H, m7, df⟩ hinv
 rw [uT] at hinv
 obtain ⟨t6, gC, rfl, nS, qg, hdf, Kl, mX, cl, dM, h⟩ := hinv
 simp only at hdf Kl mX cl dM
 have lu := gv (m := 3) (b := m7) (by omega)
 subst hdf Kk
 cases t6 with
 | nil =>
  have eF : (decide (gC < (List.length ag.Widths : Int))) = false := fj nS qg
  simp only [xc, hs, reduceCtorEq] at h
  replace h := Ki _ h
  try dsimp only at h
  try simp only [hs] at h
  cases lv : (lenOk ag.Words)
  ·simp only [lv, hs] at h
   exact absurd h kN
  simp only [lv, hs] at h
  simp only [vz, tyf, oQ, lu, cl, dM, mX, eF, lv, nm, seval]
  obtain ⟨Km, h, m8, uU, Kn, jI⟩ := gu h kN
  obtain ⟨Ko, uW, h⟩ := call2 h
  obtain ⟨Kp, jJ⟩ : ∃ I : Nat → St → Prop, I = (fun m st => ∃ (jh : List GLw) (ga : Int), m = List.length jh ∧ 0 ≤ ga ∧ List.drop (Int.toNat ga) ag.Words = jh ∧ st.df = [] ∧ m7 + 6 ≤ st.nx ∧ st.H 0 = some (.cells (some 28) (cGLs ag)) ∧ st.tm 1 = .ptr 0 0 ∧ st.tm 4 = .lit (.int .i64 ga) ∧ Km (Ko jh ga)) := ⟨_, rfl⟩
  refine loopK mixed (by kernel_rfl) Kp (List.length ag.Words) (by rw [jJ]; refine ⟨ag.Words, 0, rfl, Int.le_refl _, rfl, rfl, (show m7 + 6 ≤ m7 + 6 by omega), ?_, cl, ?_, h⟩ <;> first | (simp only [ua, lu, cl, dM, mX, eF, nm, seval] <;> rfl) | rfl) ?_
  rintro m ⟨tm, H, hO, df⟩ hinv
  rw [jJ] at hinv
  obtain ⟨jh, ga, rfl, eZ, gD, hdf, uX, m9, eW, dI, h⟩ := hinv
  simp only at hdf uX m9 eW dI
  have xd := gv (m := 3) (b := hO) (by omega)
  have ji := rH (a := m7) (m := 6) (b := hO) (by omega)
  subst hdf uW
  cases jh with
  | nil =>
   have jj : (decide (ga < (List.length ag.Words : Int))) = false := fj eZ gD
   simp only [xb, hs, reduceCtorEq] at h
   replace h := uU _ h
   try dsimp only at h
   try simp only [hs] at h
   obtain ⟨R3, VA, h⟩ := optI h kN
   try simp only [hs] at h
   simp only [vz, tyf, oQ, lu, eF, lv, xd, ji, eW, dI, m9, jj, nm, seval]
   refine ktA (nN _ _ _ _ VA) ?_
   refine bt (fun tm => tm 1 = .ptr 0 0 ∧ tm 37 = .lit (.bool R3) ∧ True) (by refine ⟨eW, ?_, trivial⟩ <;> first | (simp only [ua, lu, eF, xd, ji, eW, dI, m9, jj, nm, seval] <;> rfl) | rfl) ?_
   rintro tm ⟨qd, ed, _⟩
   have ly := And.intro oQ (And.intro lu (And.intro eF (And.intro lv (And.intro xd (And.intro ji (And.intro m9 jj))))))
   cases hP : (R3)
   ·simp only [hP, hs] at h
    try simp only [vz, tyf, ly, qd, ed, hP, nm, seval]
    obtain rfl := kF _ h
    exact bc Tryz.results22 rfl
   simp only [hP, hs] at h
   obtain ⟨Ap, JY, h⟩ := optI h kN
   try simp only [hs] at h
   simp only [vz, tyf, ly, qd, ed, hP, nm, seval]
   refine ktA (Vz _ _ JY) ?_
   refine bt (fun tm => tm 1 = .ptr 0 0 ∧ tm 38 = .lit (.bool true) ∧ tm 40 = .lit (.bool Ap) ∧ True) (by refine ⟨qd, ?_, ?_, trivial⟩ <;> first | (simp only [ua, ly, qd, ed, hP, nm, seval] <;> rfl) | rfl) ?_
   rintro tm ⟨bC, bG, bE, _⟩
   cases cb : (Ap)
   ·simp only [cb, hs] at h
    try simp only [vz, tyf, ly, hP, bC, bG, bE, cb, nm, seval]
    obtain rfl := kF _ h
    exact bc Tryz.results22 rfl
   simp only [cb, hs] at h
   obtain ⟨R4, Kq, h⟩ := optI h kN
   try simp only [hs] at h
   simp only [vz, tyf, ly, hP, bC, bG, bE, cb, nm, seval]
   refine ktA (Ke _ _ _ Kq) ?_
   refine bt (fun tm => tm 1 = .ptr 0 0 ∧ tm 42 = .lit (.bool true) ∧ tm 45 = .lit (.bool R4) ∧ True) (by refine ⟨bC, ?_, ?_, trivial⟩ <;> first | (simp only [ua, ly, hP, bC, bG, bE, cb, nm, seval] <;> rfl) | rfl) ?_
   rintro tm ⟨dE, ki, ig, _⟩
   cases nT : (R4)
   ·simp only [nT, hs] at h
    try simp only [vz, tyf, ly, hP, cb, dE, ki, ig, nT, nm, seval]
    obtain rfl := kF _ h
    exact bc Tryz.results22 rfl
   simp only [nT, hs] at h
   obtain ⟨R5, VB, h⟩ := optI h kN
   try simp only [hs] at h
   simp only [vz, tyf, ly, hP, cb, dE, ki, ig, nT, nm, seval]
   refine ktA (Ke _ _ _ VB) ?_
   refine bt (fun tm => tm 1 = .ptr 0 0 ∧ tm 47 = .lit (.bool true) ∧ tm 50 = .lit (.bool R5) ∧ True) (by refine ⟨dE, ?_, ?_, trivial⟩ <;> first | (simp only [ua, ly, hP, cb, dE, ki, ig, nT, nm, seval] <;> rfl) | rfl) ?_
   rintro tm ⟨gV, jx, kS, _⟩
   cases mY : (R5)
   ·simp only [mY, hs] at h
    try simp only [vz, tyf, ly, hP, cb, nT, gV, jx, kS, mY, nm, seval]
    obtain rfl := kF _ h
    exact bc Tryz.results22 rfl
   simp only [mY, hs] at h
   obtain ⟨R6, VC, h⟩ := optI h kN
   try simp only [hs] at h
   simp only [vz, tyf, ly, hP, cb, nT, gV, jx, kS, mY, nm, seval]
   refine ktA (nN _ _ _ _ VC) ?_
   refine bt (fun tm => tm 1 = .ptr 0 0 ∧ tm 52 = .lit (.bool true) ∧ tm 55 = .lit (.bool R6) ∧ True) (by refine ⟨gV, ?_, ?_, trivial⟩ <;> first | (simp only [ua, ly, hP, cb, nT, gV, jx, kS, mY, nm, seval] <;> rfl) | rfl) ?_
   rintro tm ⟨ll, j8, j9, _⟩
   cases fR : (R6)
   ·simp only [fR, hs] at h
    try simp only [vz, tyf, ly, hP, cb, nT, mY, ll, j8, j9, fR, nm, seval]
    obtain rfl := kF _ h
    exact bc Tryz.results22 rfl
   simp only [fR, hs] at h
   obtain ⟨Aw, Ks, h⟩ := optI h kN
   try simp only [hs] at h
   simp only [vz, tyf, ly, hP, cb, nT, mY, ll, j8, j9, fR, nm, seval]
   refine ktA (nN _ _ _ _ Ks) ?_
   refine bt (fun tm => tm 1 = .ptr 0 0 ∧ tm 57 = .lit (.bool true) ∧ tm 61 = .lit (.bool Aw) ∧ True) (by refine ⟨ll, ?_, ?_, trivial⟩ <;> first | (simp only [ua, ly, hP, cb, nT, mY, ll, j8, j9, fR, nm, seval] <;> rfl) | rfl) ?_
   rintro tm ⟨eV, eY, fE, _⟩
   cases lS : (Aw)
   ·simp only [lS, hs] at h
    have VD := And.intro ly (And.intro hP (And.intro cb (And.intro nT (And.intro mY (And.intro fR lS)))))
    try simp only [vz, tyf, VD, eV, eY, fE, nm, seval]
    obtain rfl := kF _ h
    exact bc Tryz.results22 rfl
   simp only [lS, hs] at h
   have sU := And.intro ly (And.intro hP (And.intro cb (And.intro nT (And.intro mY (And.intro fR lS)))))
   obtain ⟨Ag, JL, h⟩ := optI h kN
   try simp only [hs] at h
   simp only [vz, tyf, sU, eV, eY, fE, nm, seval]
   refine ktA (V4 _ _ JL) ?_
   refine bt (fun tm => tm 1 = .ptr 0 0 ∧ tm 63 = .lit (.bool true) ∧ tm 66 = .lit (.bool Ag) ∧ True) (by refine ⟨eV, ?_, ?_, trivial⟩ <;> first | (simp only [ua, sU, eV, eY, fE, nm, seval] <;> rfl) | rfl) ?_
   rintro tm ⟨fy, mV, m3, _⟩
   cases xe : (Ag)
   ·simp only [xe, hs] at h
    try simp only [vz, tyf, sU, fy, mV, m3, xe, nm, seval]
    obtain rfl := kF _ h
    exact bc Tryz.results22 rfl
   simp only [xe, hs] at h
   obtain ⟨VE, VF, h⟩ := optI h kN
   try simp only [hs] at h
   simp only [vz, tyf, sU, fy, mV, m3, xe, nm, seval]
   refine ktA (nN _ _ _ _ VF) ?_
   refine bt (fun tm => tm 68 = .lit (.bool true) ∧ tm 71 = .lit (.bool VE) ∧ True) (by refine ⟨?_, ?_, trivial⟩ <;> first | (simp only [ua, sU, fy, mV, m3, xe, nm, seval] <;> rfl) | rfl) ?_
   rintro tm ⟨dX, cv, _⟩
   try simp only [vz, tyf, sU, xe, dX, cv, nm, seval]
   obtain rfl := kF _ h
   exact bc Tryz.results22 rfl
  | cons bX jh =>
   have Kt : (decide (ga < (List.length ag.Words : Int))) = true := fk eZ gD
   have Dd := eg eZ gD
   have Ku := fm eZ gD lv
   simp only [xb, hs, reduceCtorEq] at h
   simp only [vz, tyf, oQ, lu, eF, lv, xd, ji, eW, dI, m9, Kt, (aE Dd), Ku, nm, seval]
   refine mO (fun tm => tm 1 = .ptr 0 0 ∧ tm 4 = .lit (.int .i64 ga) ∧ True) (by refine ⟨eW, dI, trivial⟩ <;> first | (simp only [ua, lu, eF, xd, ji, eW, dI, m9, Kt, Ku, nm, seval] <;> rfl) | rfl) ?_
   rintro tm ⟨cg, bZ, _⟩
   have xf := And.intro oQ (And.intro lu (And.intro eF (And.intro lv (And.intro xd (And.intro ji (And.intro m9 (And.intro Kt Ku)))))))
   obtain ⟨R7, VG, h⟩ := optI h jI
   try simp only [hs] at h
   simp only [vz, tyf, xf, (aE Dd), cg, bZ, nm, seval]
   refine dktA (Vs _ _ _ VG) ?_
   refine bt (fun tm => tm 1 = .ptr 0 0 ∧ tm 4 = .lit (.int .i64 ga) ∧ tm 32 = .lit (.bool R7) ∧ True) (by refine ⟨cg, bZ, ?_, trivial⟩ <;> first | (simp only [ua, xf, cg, bZ, nm, seval] <;> rfl) | rfl) ?_
   rintro tm ⟨cy, cH, fS, _⟩
   cases xg : (R7)
   ·simp only [xg, hs] at h
    try simp only [vz, tyf, xf, (aE Dd), cy, cH, fS, xg, nm, seval]
    replace h := m8 _ h
    try dsimp only at h
    obtain rfl := kF _ h
    exact bc Tryz.results22 rfl
   simp only [xg, hs] at h
   simp only [vz, tyf, xf, (aE Dd), cy, cH, fS, xg, nm, seval]
   exact ⟨List.length jh, Nat.lt_succ_self _, by rw [jJ]; refine ⟨jh, ga + 1, rfl, Int.le_trans eZ (Int.le_add_one (Int.le_refl _)), bS eZ gD, rfl, (show m7 + 6 ≤ hO + 16 by omega), ?_, cy, ?_, (by first | exact h | (simp only [xf, xg]; exact h))⟩ <;> first | (simp only [ua, xf, cy, cH, fS, xg, nm, seval] <;> rfl) | rfl⟩
 | cons eU t6 =>
  have xh : (decide (gC < (List.length ag.Widths : Int))) = true := fk nS qg
  have Kv := eg nS qg
  have Ax := fm nS qg oQ
  simp only [xc, hs, reduceCtorEq] at h
  obtain ⟨R8, xi, h⟩ := optI h Kj
  try simp only [hs] at h
  simp only [vz, tyf, oQ, lu, cl, dM, mX, xh, (aD Kv), Ax, nm, seval]
  refine ktA (nN _ _ _ _ xi) ?_
  refine bt (fun tm => tm 1 = .ptr 0 0 ∧ tm 3 = .lit (.int .i64 gC) ∧ tm 17 = .lit (.bool R8) ∧ True) (by refine ⟨cl, dM, ?_, trivial⟩ <;> first | (simp only [ua, lu, cl, dM, mX, xh, Ax, nm, seval] <;> rfl) | rfl) ?_
  rintro tm ⟨De, Kw, Kx, _⟩
  cases xj : (R8)
  ·simp only [xj, hs] at h
   try simp only [vz, tyf, oQ, lu, mX, xh, (aD Kv), Ax, De, Kw, Kx, xj, nm, seval]
   replace h := Kh _ h
   try dsimp only at h
   obtain rfl := kF _ h
   exact bc Tryz.results22 rfl
  simp only [xj, hs] at h
  simp only [vz, tyf, oQ, lu, mX, xh, (aD Kv), Ax, De, Kw, Kx, xj, nm, seval]
  exact ⟨List.length t6, Nat.lt_succ_self _, by rw [uT]; refine ⟨t6, gC + 1, rfl, Int.le_trans nS (Int.le_add_one (Int.le_refl _)), bS nS qg, rfl, (show 3 ≤ m7 + 15 by omega), ?_, De, ?_, (by first | exact h | (simp only [xh, xj]; exact h))⟩ <;> first | (simp only [ua, lu, mX, xh, Ax, De, Kw, Kx, xj, nm, seval] <;> rfl) | rfl⟩
end Go.V
end
