/- Part of a proof. -/
import Derived.Test.YtlkognggeadanaaGreatDoorIbh
set_option linter.all false
set_option maxRecDepth 4000
set_option maxHeartbeats 40000000
section
namespace Go.V
open Go Go.Proofs IntKind
def ru (bK : Int) (iP : Int) : Option (Int) := Option.bind (xp bK) (fun r1 => Option.bind (xp iP) (fun r2 => cond (r1) (cond (r2) (some 0) (some (-1))) (cond (r2) (some 1) (cond (decide (bK < iP)) (some (-1)) (cond (decide (bK > iP)) (some 1) (some 0))))))
theorem B3 (bK : Int) (iP : Int) (R : Int) (h : ru bK iP = some R) : ad Tryz.prog G0 125 [.lit (.int .i64 bK), .lit (.int .i64 iP)] (.tree (.lit (.int .i64 R))) := by
 refine ad.runR mixed Tryz.call125 Tryz.func125 rfl (by simp [Tryz.ntmps125]; kernel_rfl) ?_
 obtain ⟨KF, h, kF, kN⟩ := ec h
 simp only [ru] at h
 obtain ⟨r3, o4, h⟩ := optI h kN
 try simp only [hs] at h
 simp only [vz, tyf, nm, seval]
 refine ktA (P8 _ _ o4) ?_
 refine bC (fun tm => tm 0 = .lit (.int .i64 bK) ∧ tm 1 = .lit (.int .i64 iP) ∧ tm 8 = .lit (.bool r3) ∧ True) (by refine ⟨?_, ?_, ?_, trivial⟩ <;> first | (simp only [ua, nm, seval] <;> rfl) | rfl) ?_
 rintro tm ⟨e5, e6, e7, _⟩
 obtain ⟨r8, o9, h⟩ := optI h kN
 try simp only [hs] at h
 simp only [vz, tyf, e5, e6, e7, nm, seval]
 refine ktA (P8 _ _ o9) ?_
 refine bC (fun tm => tm 0 = .lit (.int .i64 bK) ∧ tm 1 = .lit (.int .i64 iP) ∧ tm 5 = .lit (.bool r3) ∧ tm 10 = .lit (.bool r8) ∧ True) (by refine ⟨e5, e6, ?_, ?_, trivial⟩ <;> first | (simp only [ua, e5, e6, e7, nm, seval] <;> rfl) | rfl) ?_
 rintro tm ⟨bg, bj, bD, bt, _⟩
 cases bE : (r3)
 ·simp only [bE, hs] at h
  cases db : (r8)
  ·simp only [db, hs] at h
   cases gh : (decide (bK < iP))
   ·simp only [gh, hs] at h
    cases gH : (decide (bK > iP))
    ·simp only [gH, hs] at h
     try simp only [vz, tyf, bg, bj, bD, bt, bE, db, gh, gH, nm, seval]
     refine cG (x := (.lit (.int .i64 0))) (by first | (simp only [Tryz.results125, resV, resL, aD, cX, cW, uw, cr, tyf, bE, db, gh, gH, nm, seval] <;> rfl) | rfl) ?_
     obtain rfl := kF _ h
     refine cY ?_ ?_
     ·simp only [tre, ar, Bool.and_self]
     ·first | (simp only [outV, uw, eu, cr, tyf, nrm, au, bg, bj, bD, bt, bE, db, gh, gH, nm, seval] <;> rfl) | rfl
    simp only [gH, hs] at h
    try simp only [vz, tyf, bg, bj, bD, bt, bE, db, gh, gH, nm, seval]
    refine cG (x := (.lit (.int .i64 1))) (by first | (simp only [Tryz.results125, resV, resL, aD, cX, cW, uw, cr, tyf, bE, db, gh, gH, nm, seval] <;> rfl) | rfl) ?_
    obtain rfl := kF _ h
    refine cY ?_ ?_
    ·simp only [tre, ar, Bool.and_self]
    ·first | (simp only [outV, uw, eu, cr, tyf, nrm, au, bg, bj, bD, bt, bE, db, gh, gH, nm, seval] <;> rfl) | rfl
   simp only [gh, hs] at h
   try simp only [vz, tyf, bg, bj, bD, bt, bE, db, gh, nm, seval]
   refine cG (x := (.lit (.int .i64 (-1)))) (by first | (simp only [Tryz.results125, resV, resL, aD, cX, cW, uw, cr, tyf, bE, db, gh, nm, seval] <;> rfl) | rfl) ?_
   obtain rfl := kF _ h
   refine cY ?_ ?_
   ·simp only [tre, ar, Bool.and_self]
   ·first | (simp only [outV, uw, eu, cr, tyf, nrm, au, bg, bj, bD, bt, bE, db, gh, nm, seval] <;> rfl) | rfl
  simp only [db, hs] at h
  try simp only [vz, tyf, bg, bj, bD, bt, bE, db, nm, seval]
  refine cG (x := (.lit (.int .i64 1))) (by first | (simp only [Tryz.results125, resV, resL, aD, cX, cW, uw, cr, tyf, bE, db, nm, seval] <;> rfl) | rfl) ?_
  obtain rfl := kF _ h
  refine cY ?_ ?_
  ·simp only [tre, ar, Bool.and_self]
  ·first | (simp only [outV, uw, eu, cr, tyf, nrm, au, bg, bj, bD, bt, bE, db, nm, seval] <;> rfl) | rfl
 simp only [bE, hs] at h
 cases dv : (r8)
 ·simp only [dv, hs] at h
  try simp only [vz, tyf, bg, bj, bD, bt, bE, dv, nm, seval]
  refine cG (x := (.lit (.int .i64 (-1)))) (by first | (simp only [Tryz.results125, resV, resL, aD, cX, cW, uw, cr, tyf, bE, dv, nm, seval] <;> rfl) | rfl) ?_
  obtain rfl := kF _ h
  refine cY ?_ ?_
  ·simp only [tre, ar, Bool.and_self]
  ·first | (simp only [outV, uw, eu, cr, tyf, nrm, au, bg, bj, bD, bt, bE, dv, nm, seval] <;> rfl) | rfl
 simp only [dv, hs] at h
 try simp only [vz, tyf, bg, bj, bD, bt, bE, dv, nm, seval]
 refine cG (x := (.lit (.int .i64 0))) (by first | (simp only [Tryz.results125, resV, resL, aD, cX, cW, uw, cr, tyf, bE, dv, nm, seval] <;> rfl) | rfl) ?_
 obtain rfl := kF _ h
 refine cY ?_ ?_
 ·simp only [tre, ar, Bool.and_self]
 ·first | (simp only [outV, uw, eu, cr, tyf, nrm, au, bg, bj, bD, bt, bE, dv, nm, seval] <;> rfl) | rfl
def xq  : List Int → Int → Option (LOut (Int) (Unit))
 | [], gi => some (.go ())
 | e0 :: p0, gi => cond (e0 != 0) (some (.ret e0)) (xq p0 (gi + 1))
def va (bA : List Int) : Option (Int) := cond (lenOk bA) (lbind (xq bA 0) (fun r2 => some r2) (fun c1 => some 0) (fun _ _ => none)) none
theorem P9 (bA : List Int) (R : Int) (h : va bA = some R) : ad Tryz.prog G0 124 [.sl (aa eI bA) (List.length bA) false] (.tree (.lit (.int .i64 R))) := by
 refine ad.runR mixed Tryz.call124 Tryz.func124 rfl (by simp [Tryz.ntmps124]; kernel_rfl) ?_
 obtain ⟨KF, h, kF, kN⟩ := ec h
 simp only [va] at h
 cases g4 : (lenOk bA)
 ·simp only [g4, hs] at h
  exact absurd h kN
 simp only [g4, hs] at h
 simp only [vz, tyf, g4, nm, seval]
 obtain ⟨K3, h, sO, rv, GO, GP⟩ := gS h kN
 obtain ⟨f3, sP, h⟩ := call2 h
 obtain ⟨I3, ld⟩ : ∃ I : Nat → St → Prop, I = (fun m st => ∃ (p3 : List Int) (cy : Int), m = List.length p3 ∧ 0 ≤ cy ∧ List.drop (Int.toNat cy) bA = p3 ∧ st.df = [] ∧ 5 ≤ st.nx ∧ st.tm 3 = .lit (.int .i64 0) ∧ st.tm 6 = .sl (aa eI bA) (List.length bA) false ∧ st.tm 7 = .lit (.int .i64 (List.length bA : Int)) ∧ st.tm 8 = .lit (.int .i64 cy) ∧ K3 (f3 p3 cy)) := ⟨_, rfl⟩
 refine loopK mixed (by kernel_rfl) I3 (List.length bA) (by rw [ld]; refine ⟨bA, 0, rfl, qZf _, rfl, rfl, (show 5 ≤ 5 by omega), ?_, ?_, ?_, ?_, h⟩ <;> first | (simp only [ua, nm, seval] <;> rfl) | rfl) ?_
 rintro m ⟨tm, H, nV, df⟩ hinv
 rw [ld] at hinv
 obtain ⟨p3, cy, rfl, gj, ic, hdf, sQ, e5, e6, e7, e8, h⟩ := hinv
 simp only at hdf sQ e5 e6 e7 e8
 have n9 := gT (m := 5) (b := nV) (by omega)
 subst hdf sP
 cases p3 with
 | nil =>
  have dc : (decide (cy < (List.length bA : Int))) = false := fA gj ic
  simp only [xq, hs, reduceCtorEq] at h
  replace h := rv _ h
  try dsimp only at h
  try simp only [hs] at h
  try simp only [vz, tyf, g4, n9, e5, e6, e7, e8, dc, nm, seval]
  refine cG (x := (.lit (.int .i64 0))) (by first | (simp only [Tryz.results124, resV, resL, aD, cX, cW, uw, cr, tyf, g4, n9, dc, nm, seval] <;> rfl) | rfl) ?_
  obtain rfl := kF _ h
  refine cY ?_ ?_
  ·simp only [tre, ar, Bool.and_self]
  ·first | (simp only [outV, uw, eu, cr, tyf, nrm, au, g4, n9, e5, e6, e7, e8, dc, nm, seval] <;> rfl) | rfl
 | cons e3 p3 =>
  have iE : (decide (cy < (List.length bA : Int))) = true := fB gj ic
  have m4 := dU gj ic
  have lQ := fC gj ic g4
  simp only [xq, hs, reduceCtorEq] at h
  cases bE : (e3 != 0)
  ·simp only [bE, hs] at h
   simp only [vz, tyf, g4, n9, e5, e6, e7, e8, iE, (aC m4), lQ, bE, nm, seval]
   exact ⟨List.length p3, qZc _, by rw [ld]; refine ⟨p3, cy + 1, rfl, Int.le_trans gj (Int.le_add_one (qZf _)), bY gj ic, rfl, (show 5 ≤ nV + 9 by omega), e5, e6, e7, ?_, (by first | exact h | (simp only [iE, bE]; exact h))⟩ <;> first | (simp only [ua, n9, e5, e6, e7, e8, iE, lQ, bE, nm, seval] <;> rfl) | rfl⟩
  simp only [bE, hs] at h
  try simp only [vz, tyf, g4, n9, e5, e6, e7, e8, iE, (aC m4), lQ, bE, nm, seval]
  refine cG (x := (.lit (.int .i64 e3))) (by first | (simp only [Tryz.results124, resV, resL, aD, cX, cW, uw, cr, tyf, g4, n9, iE, (aC m4), lQ, bE, nm, seval] <;> rfl) | rfl) ?_
  replace h := sO _ h
  try dsimp only at h
  obtain rfl := kF _ h
  refine cY ?_ ?_
  ·simp only [tre, ar, Bool.and_self]
  ·first | (simp only [outV, uw, eu, cr, tyf, nrm, au, g4, n9, e5, e6, e7, e8, iE, (aC m4), lQ, bE, nm, seval] <;> rfl) | rfl
def xr (ez : GLp) (eA : GLp) : Option (Int) := Option.bind (ru ez.Left eA.Left) (fun r1 => Option.bind (ru ez.Right eA.Right) (fun r2 => Option.bind (va ([r1, r2])) (fun r3 => some r3)))
theorem Tq (ez : GLp) (eA : GLp) (R : Int) (h : xr ez eA = some R) : ad Tryz.prog G0 148 [.agg (cGLp ez), .agg (cGLp eA)] (.tree (.lit (.int .i64 R))) := by
 refine ad.runR mixed Tryz.call148 Tryz.func148 rfl (by simp [Tryz.ntmps148]; kernel_rfl) ?_
 obtain ⟨KF, h, kF, kN⟩ := ec h
 simp only [xr] at h
 simp only [vz, tyf, nm, seval]
 refine px (fun tm => tm 2 = .ptr 0 0 ∧ tm 3 = .ptr 1 0 ∧ True) (by refine ⟨?_, ?_, trivial⟩ <;> first | (simp only [ua, nm, seval] <;> rfl) | rfl) ?_
 rintro tm ⟨e4, e5, _⟩
 obtain ⟨r6, o7, h⟩ := optI h kN
 try simp only [hs] at h
 simp only [vz, tyf, e4, e5, nm, seval]
 refine dktA (B3 _ _ _ o7) ?_
 refine bC (fun tm => tm 2 = .ptr 0 0 ∧ tm 3 = .ptr 1 0 ∧ tm 9 = .lit (.int .i64 r6) ∧ True) (by refine ⟨e4, e5, ?_, trivial⟩ <;> first | (simp only [ua, e4, e5, nm, seval] <;> rfl) | rfl) ?_
 rintro tm ⟨e8, e9, bg, _⟩
 obtain ⟨nW, iQ, h⟩ := optI h kN
 try simp only [hs] at h
 simp only [vz, tyf, e8, e9, bg, nm, seval]
 refine dktA (B3 _ _ _ iQ) ?_
 refine bC (fun tm => tm 9 = .lit (.int .i64 r6) ∧ tm 14 = .lit (.int .i64 nW) ∧ True) (by refine ⟨bg, ?_, trivial⟩ <;> first | (simp only [ua, e8, e9, bg, nm, seval] <;> rfl) | rfl) ?_
 rintro tm ⟨bt, bS, _⟩
 obtain ⟨B4, k8, h⟩ := optI h kN
 try simp only [hs] at h
 simp only [vz, tyf, bt, bS, nm, seval]
 refine dkseen1 (w := 1) (enc := eI) (xs := ([r6, nW])) (el := (some 3)) ⟨eI_ok.tree, eI_ok.norm⟩ (fun _ => rfl) (by simp only [List.length_cons, List.length_nil]; decide) (by simp only [bl, bI, iR, nm, seval] <;> rfl) (P9 _ _ k8) (by first | rfl | simp only [VV.flat, flatL, Bool.and_self]) ?_
 refine bC (fun tm => tm 16 = .lit (.int .i64 B4) ∧ True) (by refine ⟨?_, trivial⟩ <;> first | (simp only [ua, bt, bS, nm, seval] <;> rfl) | rfl) ?_
 rintro tm ⟨gk, _⟩
 simp only [vz, tyf, gk, nm, seval]
 refine k9 ⟨?_, ?_⟩
 ·simp only [kE, kG, fu, kH, and_true, true_and]
  repeat' (first | exact trivial | refine And.intro ?_ ?_ | rw [fu] | rw [kI] | exact Or.inl (by decide +kernel) | exact Or.inl (by dsimp only; decide +kernel) | (refine Or.inr ⟨?_, ?_⟩ <;> simp; done) | (refine Or.inr ⟨?_, ?_⟩ <;> simp <;> omega) | (refine Or.inr ⟨?_, ?_⟩ <;> simp [VEff.wr] <;> omega))
 try simp only [vz, tyf, gk, nm, seval]
 refine cG (x := (.lit (.int .i64 B4))) (by first | (simp only [Tryz.results148, resV, resL, aD, cX, cW, uw, cr, tyf, nm, seval] <;> rfl) | rfl) ?_
 obtain rfl := kF _ h
 refine cY ?_ ?_
 ·simp only [tre, ar, Bool.and_self]
 ·first | (simp only [outV, uw, eu, cr, tyf, nrm, au, gk, nm, seval] <;> rfl) | rfl
def qd (aj : List GLp) (aL : Int) : List GLp → Int → Option (LOut (Bool) (Unit))
 | [], bV => some (.go ())
 | e0 :: p0, bV => Option.bind (m5 0 e0.Left (i64.wrap (aL - 1))) (fun r1 => cond (r1) (Option.bind (m5 0 e0.Right (i64.wrap (aL - 1))) (fun r2 => cond (r2) (Option.bind (sR 0 e0.Space 9) (fun r3 => cond (r3) (cond (decide (bV > 0)) (Option.bind (getI aj (i64.wrap (bV - 1))) (fun x4 => Option.bind (xr x4 e0) (fun r5 => cond (decide (r5 ≥ 0)) (some (.ret false)) (qd aj aL p0 (bV + 1))))) (qd aj aL p0 (bV + 1))) (some (.ret false)))) (some (.ret false)))) (some (.ret false)))
def xt (aj : List GLp) (aL : Int) : Option (Bool) := cond (decide ((List.length aj : Int) > 6)) (some false) (cond (lenOk aj) (lbind (qd aj aL aj 0) (fun r7 => some r7) (fun c6 => some true) (fun _ _ => none)) none)
theorem Ts (aj : List GLp) (aL : Int) (R : Bool) (h : xt aj aL = some R) : ad Tryz.prog G0 110 [.sl (aa cGLp aj) (List.length aj) false, .lit (.int .i64 aL)] (.tree (.lit (.bool R))) := by
 refine ad.runR mixed Tryz.call110 Tryz.func110 rfl (by simp [Tryz.ntmps110]; kernel_rfl) ?_
 obtain ⟨KF, h, kF, kN⟩ := ec h
 simp only [xt] at h
 cases d8 : (decide ((List.length aj : Int) > 6))
 ·simp only [d8, hs] at h
  cases hC : (lenOk aj)
  ·simp only [hC, hs] at h
   exact absurd h kN
  simp only [hC, hs] at h
  simp only [vz, tyf, d8, hC, nm, seval]
  obtain ⟨K9, h, vb, GQ, Tt, sS⟩ := gS h kN
  obtain ⟨f9, GR, h⟩ := call2 h
  obtain ⟨I9, ry⟩ : ∃ I : Nat → St → Prop, I = (fun m st => ∃ (p9 : List GLp) (cb : Int), m = List.length p9 ∧ 0 ≤ cb ∧ List.drop (Int.toNat cb) aj = p9 ∧ st.df = [] ∧ 7 ≤ st.nx ∧ st.tm 0 = .sl (aa cGLp aj) (List.length aj) false ∧ st.tm 1 = .lit (.int .i64 aL) ∧ st.tm 10 = .sl (aa cGLp aj) (List.length aj) false ∧ st.tm 11 = .lit (.int .i64 (List.length aj : Int)) ∧ st.tm 12 = .lit (.int .i64 cb) ∧ K9 (f9 p9 cb)) := ⟨_, rfl⟩
  refine loopK mixed (by kernel_rfl) I9 (List.length aj) (by rw [ry]; refine ⟨aj, 0, rfl, qZf _, rfl, rfl, (show 7 ≤ 7 by omega), ?_, ?_, ?_, ?_, ?_, h⟩ <;> first | (simp only [ua, d8, nm, seval] <;> rfl) | rfl) ?_
  rintro m ⟨tm, H, kJ, df⟩ hinv
  rw [ry] at hinv
  obtain ⟨p9, cb, rfl, lf, nz, hdf, GS, bj, bD, bt, bS, fD, h⟩ := hinv
  simp only at hdf GS bj bD bt bS fD
  have ie := gT (m := 7) (b := kJ) (by omega)
  subst hdf GR
  cases p9 with
  | nil =>
   have gH : (decide (cb < (List.length aj : Int))) = false := fA lf nz
   simp only [qd, hs, reduceCtorEq] at h
   replace h := GQ _ h
   try dsimp only at h
   try simp only [hs] at h
   try simp only [vz, tyf, d8, hC, ie, bj, bD, bt, bS, fD, gH, nm, seval]
   obtain rfl := kF _ h
   exact bz Tryz.results110 rfl
  | cons e9 p9 =>
   have dv : (decide (cb < (List.length aj : Int))) = true := fB lf nz
   have jL := dU lf nz
   have sT := fC lf nz hC
   simp only [qd, hs, reduceCtorEq] at h
   obtain ⟨PA, Tu, h⟩ := optI h sS
   try simp only [hs] at h
   simp only [vz, tyf, d8, hC, ie, bj, bD, bt, bS, fD, dv, (bU jL), sT, nm, seval]
   refine ktA (qe _ _ _ _ Tu) ?_
   refine bC (fun tm => tm 0 = .sl (aa cGLp aj) (List.length aj) false ∧ tm 1 = .lit (.int .i64 aL) ∧ tm 5 = .lit (.int .i64 cb) ∧ tm 6 = .ptr (kJ + 4) 0 ∧ tm 10 = .sl (aa cGLp aj) (List.length aj) false ∧ tm 11 = .lit (.int .i64 (List.length aj : Int)) ∧ tm 12 = .lit (.int .i64 cb) ∧ tm 21 = .lit (.bool PA) ∧ True) (by refine ⟨bj, bD, ?_, ?_, bt, bS, fD, ?_, trivial⟩ <;> first | (simp only [ua, d8, ie, bj, bD, bt, bS, fD, dv, sT, nm, seval] <;> rfl) | rfl) ?_
   rintro tm ⟨eR, dV, dW, dT, eZ, fE, dM, bu, _⟩
   cases gI : (PA)
   ·simp only [gI, hs] at h
    try simp only [vz, tyf, d8, hC, ie, dv, (bU jL), sT, eR, dV, dW, dT, eZ, fE, dM, bu, gI, nm, seval]
    replace h := vb _ h
    try dsimp only at h
    obtain rfl := kF _ h
    exact bz Tryz.results110 rfl
   simp only [gI, hs] at h
   obtain ⟨py, xu, h⟩ := optI h sS
   try simp only [hs] at h
   simp only [vz, tyf, d8, hC, ie, dv, (bU jL), sT, eR, dV, dW, dT, eZ, fE, dM, bu, gI, nm, seval]
   refine ktA (qe _ _ _ _ xu) ?_
   refine bC (fun tm => tm 0 = .sl (aa cGLp aj) (List.length aj) false ∧ tm 1 = .lit (.int .i64 aL) ∧ tm 5 = .lit (.int .i64 cb) ∧ tm 6 = .ptr (kJ + 4) 0 ∧ tm 10 = .sl (aa cGLp aj) (List.length aj) false ∧ tm 11 = .lit (.int .i64 (List.length aj : Int)) ∧ tm 12 = .lit (.int .i64 cb) ∧ tm 23 = .lit (.bool false) ∧ tm 28 = .lit (.bool py) ∧ True) (by refine ⟨eR, dV, dW, dT, eZ, fE, dM, ?_, ?_, trivial⟩ <;> first | (simp only [ua, d8, ie, dv, sT, eR, dV, dW, dT, eZ, fE, dM, bu, gI, nm, seval] <;> rfl) | rfl) ?_
   rintro tm ⟨iF, jS, cL, cz, bL, bJ, bF, bG, bx, _⟩
   cases n5 : (py)
   ·simp only [n5, hs] at h
    have Tv := And.intro d8 (And.intro hC (And.intro ie (And.intro dv (And.intro sT (And.intro gI n5)))))
    try simp only [vz, tyf, Tv, (bU jL), iF, jS, cL, cz, bL, bJ, bF, bG, bx, nm, seval]
    replace h := vb _ h
    try dsimp only at h
    obtain rfl := kF _ h
    exact bz Tryz.results110 rfl
   simp only [n5, hs] at h
   have kK := And.intro d8 (And.intro hC (And.intro ie (And.intro dv (And.intro sT (And.intro gI n5)))))
   obtain ⟨PB, vc, h⟩ := optI h sS
   try simp only [hs] at h
   simp only [vz, tyf, kK, (bU jL), iF, jS, cL, cz, bL, bJ, bF, bG, bx, nm, seval]
   refine ktA (GU _ _ _ _ vc) ?_
   refine bC (fun tm => tm 0 = .sl (aa cGLp aj) (List.length aj) false ∧ tm 1 = .lit (.int .i64 aL) ∧ tm 5 = .lit (.int .i64 cb) ∧ tm 6 = .ptr (kJ + 4) 0 ∧ tm 10 = .sl (aa cGLp aj) (List.length aj) false ∧ tm 11 = .lit (.int .i64 (List.length aj : Int)) ∧ tm 12 = .lit (.int .i64 cb) ∧ tm 31 = .lit (.bool false) ∧ tm 34 = .lit (.bool PB) ∧ True) (by refine ⟨iF, jS, cL, cz, bL, bJ, bF, ?_, ?_, trivial⟩ <;> first | (simp only [ua, kK, iF, jS, cL, cz, bL, bJ, bF, bG, bx, nm, seval] <;> rfl) | rfl) ?_
   rintro tm ⟨fF, eF, gJ, jT, n6, rz, lg, pz, nA, _⟩
   cases lR : (PB)
   ·simp only [lR, hs] at h
    try simp only [vz, tyf, kK, (bU jL), fF, eF, gJ, jT, n6, rz, lg, pz, nA, lR, nm, seval]
    replace h := vb _ h
    try dsimp only at h
    obtain rfl := kF _ h
    exact bz Tryz.results110 rfl
   simp only [lR, hs] at h
   simp only [vz, tyf, kK, (bU jL), fF, eF, gJ, jT, n6, rz, lg, pz, nA, lR, nm, seval]
   refine qf (fun tm => tm 0 = .sl (aa cGLp aj) (List.length aj) false ∧ tm 1 = .lit (.int .i64 aL) ∧ tm 5 = .lit (.int .i64 cb) ∧ tm 6 = .ptr (kJ + 4) 0 ∧ tm 10 = .sl (aa cGLp aj) (List.length aj) false ∧ tm 11 = .lit (.int .i64 (List.length aj : Int)) ∧ tm 12 = .lit (.int .i64 cb) ∧ True) (by refine ⟨fF, eF, gJ, jT, n6, rz, lg, trivial⟩ <;> first | (simp only [ua, kK, fF, eF, gJ, jT, n6, rz, lg, pz, nA, lR, nm, seval] <;> rfl) | rfl) ?_
   rintro tm ⟨pE, hO, iG, iH, fa, fv, jM, _⟩
   cases kL : (decide (cb > 0))
   ·simp only [kL, hs] at h
    simp only [vz, tyf, kK, (bU jL), lR, pE, hO, iG, iH, fa, fv, jM, kL, nm, seval]
    exact ⟨List.length p9, qZc _, by rw [ry]; refine ⟨p9, cb + 1, rfl, Int.le_trans lf (Int.le_add_one (qZf _)), bY lf nz, rfl, (show 7 ≤ kJ + 41 by omega), pE, hO, fa, fv, ?_, (by first | exact h | (simp only [kK, lR, kL]; exact h))⟩ <;> first | (simp only [ua, kK, lR, pE, hO, iG, iH, fa, fv, jM, kL, nm, seval] <;> rfl) | rfl⟩
   simp only [kL, hs] at h
   obtain ⟨Xq, xv, h⟩ := optI h sS
   try simp only [hs] at h
   obtain ⟨xw, GV, h⟩ := optI h sS
   try simp only [hs] at h
   simp only [vz, tyf, kK, (bU jL), lR, pE, hO, iG, iH, fa, fv, jM, kL, (bU xv), nm, seval]
   refine dktA (Tq _ _ _ GV) ?_
   refine bC (fun tm => tm 0 = .sl (aa cGLp aj) (List.length aj) false ∧ tm 1 = .lit (.int .i64 aL) ∧ tm 10 = .sl (aa cGLp aj) (List.length aj) false ∧ tm 11 = .lit (.int .i64 (List.length aj : Int)) ∧ tm 12 = .lit (.int .i64 cb) ∧ tm 39 = .lit (.bool true) ∧ tm 46 = .lit (.int .i64 xw) ∧ True) (by refine ⟨pE, hO, fa, fv, jM, ?_, ?_, trivial⟩ <;> first | (simp only [ua, kK, lR, pE, hO, iG, iH, fa, fv, jM, kL, nm, seval] <;> rfl) | rfl) ?_
   rintro tm ⟨eG, lS, jg, lh, fZ, iI, eT, _⟩
   cases vd : (decide (xw ≥ 0))
   ·simp only [vd, hs] at h
    simp only [vz, tyf, kK, (bU jL), lR, kL, (bU xv), eG, lS, jg, lh, fZ, iI, eT, vd, nm, seval]
    exact ⟨List.length p9, qZc _, by rw [ry]; refine ⟨p9, cb + 1, rfl, Int.le_trans lf (Int.le_add_one (qZf _)), bY lf nz, rfl, (show 7 ≤ kJ + 41 by omega), eG, lS, jg, lh, ?_, (by first | exact h | (simp only [kK, lR, kL, vd]; exact h))⟩ <;> first | (simp only [ua, kK, lR, kL, eG, lS, jg, lh, fZ, iI, eT, vd, nm, seval] <;> rfl) | rfl⟩
   simp only [vd, hs] at h
   try simp only [vz, tyf, kK, (bU jL), lR, kL, (bU xv), eG, lS, jg, lh, fZ, iI, eT, vd, nm, seval]
   replace h := vb _ h
   try dsimp only at h
   obtain rfl := kF _ h
   exact bz Tryz.results110 rfl
 simp only [d8, hs] at h
 try simp only [vz, tyf, d8, nm, seval]
 obtain rfl := kF _ h
 exact bz Tryz.results110 rfl
def vf (ah : List Int) : List Int → Int → Option (LOut (Bool) (Unit))
 | [], sU => some (.go ())
 | e0 :: p0, sU => Option.bind (getI ah (i64.wrap (sU - 1))) (fun x1 => cond (decide (e0 ≤ x1)) (some (.ret false)) (vf ah p0 (sU + 1)))
def vg (aM : Int) (ah : List Int) (aY : Int) : Option (Bool) := cond (lenOk ah) (cond (leB 0 1) (lbind (vf ah (List.drop (Int.toNat 1) ah) 1) (fun r4 => some r4) (fun c2 => Option.bind (sV aM ah aY) (fun r3 => some r3)) (fun _ _ => none)) none) none
theorem Tw (aM : Int) (ah : List Int) (aY : Int) (R : Bool) (h : vg aM ah aY = some R) : ad Tryz.prog G0 149 [.lit (.int .i64 aM), .sl (aa eI ah) (List.length ah) false, .lit (.int .i64 aY)] (.tree (.lit (.bool R))) := by
 refine ad.runR mixed Tryz.call149 Tryz.func149 rfl (by simp [Tryz.ntmps149]; kernel_rfl) ?_
 obtain ⟨KF, h, kF, kN⟩ := ec h
 simp only [vg] at h
 cases g6 : (lenOk ah)
 ·simp only [g6, hs] at h
  exact absurd h kN
 simp only [g6, hs] at h
 cases g7 : (leB 0 1)
 ·simp only [g7, hs] at h
  exact absurd h kN
 simp only [g7, hs] at h
 simp only [vz, tyf, g6, g7, nm, seval]
 obtain ⟨K5, h, Tx, Ty, Xr, Tz⟩ := gS h kN
 obtain ⟨f5, T0, h⟩ := call2 h
 obtain ⟨I5, GW⟩ : ∃ I : Nat → St → Prop, I = (fun m st => ∃ (p5 : List Int) (jw : Int), m = List.length p5 ∧ 0 ≤ jw ∧ List.drop (Int.toNat jw) ah = p5 ∧ st.df = [] ∧ 2 ≤ st.nx ∧ st.tm 0 = .lit (.int .i64 aM) ∧ st.tm 1 = .sl (aa eI ah) (List.length ah) false ∧ st.tm 2 = .lit (.int .i64 aY) ∧ st.tm 7 = .lit (.int .i64 jw) ∧ K5 (f5 p5 jw)) := ⟨_, rfl⟩
 refine loopK mixed (by kernel_rfl) I5 (List.length (List.drop (Int.toNat 1) ah)) (by rw [GW]; refine ⟨List.drop (Int.toNat 1) ah, 1, rfl, of_decide_eq_true g7, rfl, rfl, (show 2 ≤ 2 by omega), ?_, ?_, ?_, ?_, h⟩ <;> first | (simp only [ua, nm, seval] <;> rfl) | rfl) ?_
 rintro m ⟨tm, H, PC, df⟩ hinv
 rw [GW] at hinv
 obtain ⟨p5, jw, rfl, vh, xx, hdf, rA, e8, e9, bg, bj, h⟩ := hinv
 simp only at hdf rA e8 e9 bg bj
 have jU := gT (m := 2) (b := PC) (by omega)
 subst hdf T0
 cases p5 with
 | nil =>
  have bW : (decide (jw < (List.length ah : Int))) = false := fA vh xx
  simp only [vf, hs, reduceCtorEq] at h
  replace h := Ty _ h
  try dsimp only at h
  try simp only [hs] at h
  obtain ⟨vi, sW, h⟩ := optI h kN
  try simp only [hs] at h
  simp only [vz, tyf, g6, g7, jU, e8, e9, bg, bj, bW, nm, seval]
  refine ktA (GX _ _ _ _ sW) ?_
  refine bC (fun tm => tm 27 = .lit (.bool vi) ∧ True) (by refine ⟨?_, trivial⟩ <;> first | (simp only [ua, jU, e8, e9, bg, bj, bW, nm, seval] <;> rfl) | rfl) ?_
  rintro tm ⟨hP, _⟩
  try simp only [vz, tyf, g6, g7, jU, bW, hP, nm, seval]
  obtain rfl := kF _ h
  exact bz Tryz.results149 rfl
 | cons e5 p5 =>
  have gH : (decide (jw < (List.length ah : Int))) = true := fB vh xx
  have GY := dU vh xx
  have xy := fC vh xx g6
  simp only [vf, hs, reduceCtorEq] at h
  simp only [vz, tyf, g6, g7, jU, e8, e9, bg, bj, gH, (aC GY), xy, nm, seval]
  refine qf (fun tm => tm 0 = .lit (.int .i64 aM) ∧ tm 1 = .sl (aa eI ah) (List.length ah) false ∧ tm 2 = .lit (.int .i64 aY) ∧ tm 7 = .lit (.int .i64 jw) ∧ True) (by refine ⟨e8, e9, bg, bj, trivial⟩ <;> first | (simp only [ua, jU, e8, e9, bg, bj, gH, xy, nm, seval] <;> rfl) | rfl) ?_
  rintro tm ⟨lT, ed, dK, eR, _⟩
  obtain ⟨T1, vj, h⟩ := optI h Tz
  try simp only [hs] at h
  cases gL : (decide (e5 ≤ T1))
  ·simp only [gL, hs] at h
   simp only [vz, tyf, g6, g7, jU, gH, (aC GY), xy, lT, ed, dK, eR, (aC vj), gL, nm, seval]
   exact ⟨List.length p5, qZc _, by rw [GW]; refine ⟨p5, jw + 1, rfl, Int.le_trans vh (Int.le_add_one (qZf _)), bY vh xx, rfl, (show 2 ≤ PC + 17 by omega), lT, ed, dK, ?_, (by first | exact h | (simp only [gH, gL]; exact h))⟩ <;> first | (simp only [ua, jU, gH, xy, lT, ed, dK, eR, gL, nm, seval] <;> rfl) | rfl⟩
  simp only [gL, hs] at h
  try simp only [vz, tyf, g6, g7, jU, gH, (aC GY), xy, lT, ed, dK, eR, (aC vj), gL, nm, seval]
  replace h := Tx _ h
  try dsimp only at h
  obtain rfl := kF _ h
  exact bz Tryz.results149 rfl
def vk (aL : Int) : List GLw → Int → Option (LOut (Bool) (Unit))
 | [], gM => some (.go ())
 | e0 :: p0, gM => Option.bind (m5 1 (List.length e0.Signs : Int) 6) (fun r2 => cond (r2) (Option.bind (sV 0 e0.Signs (i64.wrap (aL - 1))) (fun r3 => cond (r3) (Option.bind (vg 1 e0.Cuts (i64.wrap ((List.length e0.Signs : Int) - 1))) (fun r4 => cond (r4) (vk aL p0 (gM + 1)) (some (.ret false)))) (some (.ret false)))) (some (.ret false)))
def xz (aQ : List GLw) (aL : Int) : Option (Bool) := Option.bind (m5 1 (List.length aQ : Int) 4) (fun r1 => cond (r1) (cond (lenOk aQ) (lbind (vk aL aQ 0) (fun r6 => some r6) (fun c5 => some true) (fun _ _ => none)) none) (some false))
theorem T2 (aQ : List GLw) (aL : Int) (R : Bool) (h : xz aQ aL = some R) : ad Tryz.prog G0 113 [.sl (aa cGLw aQ) (List.length aQ) false, .lit (.int .i64 aL)] (.tree (.lit (.bool R))) := by
 refine ad.runR mixed Tryz.call113 Tryz.func113 rfl (by simp [Tryz.ntmps113]; kernel_rfl) ?_
 obtain ⟨KF, h, kF, kN⟩ := ec h
 simp only [xz] at h
 obtain ⟨r7, o8, h⟩ := optI h kN
 try simp only [hs] at h
 simp only [vz, tyf, nm, seval]
 refine ktA (qe _ _ _ _ o8) ?_
 refine bC (fun tm => tm 0 = .sl (aa cGLw aQ) (List.length aQ) false ∧ tm 1 = .lit (.int .i64 aL) ∧ tm 10 = .lit (.bool r7) ∧ True) (by refine ⟨?_, ?_, ?_, trivial⟩ <;> first | (simp only [ua, nm, seval] <;> rfl) | rfl) ?_
 rintro tm ⟨e9, bg, bj, _⟩
 cases jh : (r7)
 ·simp only [jh, hs] at h
  try simp only [vz, tyf, e9, bg, bj, jh, nm, seval]
  obtain rfl := kF _ h
  exact bz Tryz.results113 rfl
 simp only [jh, hs] at h
 cases pF : (lenOk aQ)
 ·simp only [pF, hs] at h
  exact absurd h kN
 simp only [pF, hs] at h
 simp only [vz, tyf, e9, bg, bj, jh, pF, nm, seval]
 obtain ⟨T3, h, sX, GZ, T4, sY⟩ := gS h kN
 obtain ⟨T5, Hd, h⟩ := call2 h
 obtain ⟨T6, sZ⟩ : ∃ I : Nat → St → Prop, I = (fun m st => ∃ (rB : List GLw) (de : Int), m = List.length rB ∧ 0 ≤ de ∧ List.drop (Int.toNat de) aQ = rB ∧ st.df = [] ∧ 8 ≤ st.nx ∧ st.tm 1 = .lit (.int .i64 aL) ∧ st.tm 12 = .sl (aa cGLw aQ) (List.length aQ) false ∧ st.tm 13 = .lit (.int .i64 (List.length aQ : Int)) ∧ st.tm 14 = .lit (.int .i64 de) ∧ T3 (T5 rB de)) := ⟨_, rfl⟩
 refine loopK mixed (by kernel_rfl) T6 (List.length aQ) (by rw [sZ]; refine ⟨aQ, 0, rfl, qZf _, rfl, rfl, (show 8 ≤ 8 by omega), bg, ?_, ?_, ?_, h⟩ <;> first | (simp only [ua, e9, bg, bj, jh, nm, seval] <;> rfl) | rfl) ?_
 rintro m ⟨tm, H, qg, df⟩ hinv
 rw [sZ] at hinv
 obtain ⟨rB, de, rfl, m6, nX, hdf, He, fD, hP, gk, fb, h⟩ := hinv
 simp only at hdf He fD hP gk fb
 have jV := gT (m := 8) (b := qg) (by omega)
 subst hdf Hd
 cases rB with
 | nil =>
  have nB : (decide (de < (List.length aQ : Int))) = false := fA m6 nX
  simp only [vk, hs, reduceCtorEq] at h
  replace h := GZ _ h
  try dsimp only at h
  try simp only [hs] at h
  try simp only [vz, tyf, jh, pF, jV, fD, hP, gk, fb, nB, nm, seval]
  obtain rfl := kF _ h
  exact bz Tryz.results113 rfl
 | cons bt rB =>
  have ji : (decide (de < (List.length aQ : Int))) = true := fB m6 nX
  have kM := dU m6 nX
  have nC := fC m6 nX pF
  simp only [vk, hs, reduceCtorEq] at h
  obtain ⟨x9, vj, h⟩ := optI h sY
  try simp only [hs] at h
  simp only [vz, tyf, jh, pF, jV, fD, hP, gk, fb, ji, (aE kM), nC, nm, seval]
  refine ktA (qe _ _ _ _ vj) ?_
  refine bC (fun tm => tm 1 = .lit (.int .i64 aL) ∧ tm 6 = .ptr (qg + 3) 0 ∧ tm 7 = .lit (.int .i64 (List.length bt.Signs : Int)) ∧ tm 12 = .sl (aa cGLw aQ) (List.length aQ) false ∧ tm 13 = .lit (.int .i64 (List.length aQ : Int)) ∧ tm 14 = .lit (.int .i64 de) ∧ tm 22 = .lit (.bool x9) ∧ True) (by refine ⟨fD, ?_, ?_, hP, gk, fb, ?_, trivial⟩ <;> first | (simp only [ua, jh, jV, fD, hP, gk, fb, ji, nC, nm, seval] <;> rfl) | rfl) ?_
  rintro tm ⟨dT, eZ, fE, dM, bu, jW, jj, _⟩
  cases ta : (x9)
  ·simp only [ta, hs] at h
   try simp only [vz, tyf, jh, pF, jV, ji, (aE kM), nC, dT, eZ, fE, dM, bu, jW, jj, ta, nm, seval]
   replace h := sX _ h
   try dsimp only at h
   obtain rfl := kF _ h
   exact bz Tryz.results113 rfl
  simp only [ta, hs] at h
  obtain ⟨xA, Hf, h⟩ := optI h sY
  try simp only [hs] at h
  simp only [vz, tyf, jh, pF, jV, ji, (aE kM), nC, dT, eZ, fE, dM, bu, jW, jj, ta, nm, seval]
  refine ktA (GX _ _ _ _ Hf) ?_
  refine bC (fun tm => tm 1 = .lit (.int .i64 aL) ∧ tm 6 = .ptr (qg + 3) 0 ∧ tm 7 = .lit (.int .i64 (List.length bt.Signs : Int)) ∧ tm 12 = .sl (aa cGLw aQ) (List.length aQ) false ∧ tm 13 = .lit (.int .i64 (List.length aQ : Int)) ∧ tm 14 = .lit (.int .i64 de) ∧ tm 24 = .lit (.bool false) ∧ tm 29 = .lit (.bool xA) ∧ True) (by refine ⟨dT, eZ, fE, dM, bu, jW, ?_, ?_, trivial⟩ <;> first | (simp only [ua, jh, jV, ji, nC, dT, eZ, fE, dM, bu, jW, jj, ta, nm, seval] <;> rfl) | rfl) ?_
  rintro tm ⟨cL, cz, bL, bJ, bF, bG, bx, ca, _⟩
  cases B5 : (xA)
  ·simp only [B5, hs] at h
   have kK := And.intro jh (And.intro pF (And.intro jV (And.intro ji (And.intro nC (And.intro ta B5)))))
   try simp only [vz, tyf, kK, (aE kM), cL, cz, bL, bJ, bF, bG, bx, ca, nm, seval]
   replace h := sX _ h
   try dsimp only at h
   obtain rfl := kF _ h
   exact bz Tryz.results113 rfl
  simp only [B5, hs] at h
  have vl := And.intro jh (And.intro pF (And.intro jV (And.intro ji (And.intro nC (And.intro ta B5)))))
  obtain ⟨PD, vm, h⟩ := optI h sY
  try simp only [hs] at h
  simp only [vz, tyf, vl, (aE kM), cL, cz, bL, bJ, bF, bG, bx, ca, nm, seval]
  refine ktA (Tw _ _ _ _ vm) ?_
  refine bC (fun tm => tm 1 = .lit (.int .i64 aL) ∧ tm 12 = .sl (aa cGLw aQ) (List.length aQ) false ∧ tm 13 = .lit (.int .i64 (List.length aQ : Int)) ∧ tm 14 = .lit (.int .i64 de) ∧ tm 32 = .lit (.bool false) ∧ tm 37 = .lit (.bool PD) ∧ True) (by refine ⟨cL, bJ, bF, bG, ?_, ?_, trivial⟩ <;> first | (simp only [ua, vl, cL, cz, bL, bJ, bF, bG, bx, ca, nm, seval] <;> rfl) | rfl) ?_
  rintro tm ⟨eF, gJ, jT, n6, rz, lg, _⟩
  cases ig : (PD)
  ·simp only [ig, hs] at h
   try simp only [vz, tyf, vl, (aE kM), eF, gJ, jT, n6, rz, lg, ig, nm, seval]
   replace h := sX _ h
   try dsimp only at h
   obtain rfl := kF _ h
   exact bz Tryz.results113 rfl
  simp only [ig, hs] at h
  simp only [vz, tyf, vl, (aE kM), eF, gJ, jT, n6, rz, lg, ig, nm, seval]
  exact ⟨List.length rB, qZc _, by rw [sZ]; refine ⟨rB, de + 1, rfl, Int.le_trans m6 (Int.le_add_one (qZf _)), bY m6 nX, rfl, (show 8 ≤ qg + 30 by omega), eF, gJ, jT, ?_, (by first | exact h | (simp only [vl, ig]; exact h))⟩ <;> first | (simp only [ua, vl, eF, gJ, jT, n6, rz, lg, ig, nm, seval] <;> rfl) | rfl⟩
def rC (ag : GLs) : Option (Bool) := Option.bind (xB ag.Widths) (fun r1 => cond (r1) (Option.bind (xt ag.Pairs (List.length ag.Widths : Int)) (fun r2 => cond (r2) (Option.bind (sR 0 ag.Other 9) (fun r3 => cond (r3) (Option.bind (sR 0 ag.Gap 20) (fun r4 => cond (r4) (Option.bind (m5 1 ag.Hyphen 20) (fun r5 => cond (r5) (Option.bind (xz ag.Words (List.length ag.Widths : Int)) (fun r6 => cond (r6) (Option.bind (m5 1 ag.Wide 400) (fun r7 => cond (r7) (Option.bind (m5 1 ag.Rows 3) (fun r8 => some r8)) (some false))) (some false))) (some false))) (some false))) (some false))) (some false))) (some false))
theorem PE (ag : GLs) (R : Bool) (h : rC ag = some R) : ad Tryz.prog G0 68 [.agg (cGLs ag)] (.tree (.lit (.bool R))) := by
 refine ad.runR mixed Tryz.call68 Tryz.func68 rfl (by simp [Tryz.ntmps68]; kernel_rfl) ?_
 obtain ⟨KF, h, kF, kN⟩ := ec h
 simp only [rC] at h
 obtain ⟨r9, Hg, h⟩ := optI h kN
 try simp only [hs] at h
 simp only [vz, tyf, nm, seval]
 refine ktA (T7 _ _ Hg) ?_
 refine bC (fun tm => tm 1 = .ptr 0 0 ∧ tm 5 = .lit (.bool r9) ∧ True) (by refine ⟨?_, ?_, trivial⟩ <;> first | (simp only [ua, nm, seval] <;> rfl) | rfl) ?_
 rintro tm ⟨bj, bD, _⟩
 cases bW : (r9)
 ·simp only [bW, hs] at h
  try simp only [vz, tyf, bj, bD, bW, nm, seval]
  obtain rfl := kF _ h
  exact bz Tryz.results68 rfl
 simp only [bW, hs] at h
 obtain ⟨vi, sW, h⟩ := optI h kN
 try simp only [hs] at h
 simp only [vz, tyf, bj, bD, bW, nm, seval]
 refine ktA (Ts _ _ _ sW) ?_
 refine bC (fun tm => tm 1 = .ptr 0 0 ∧ tm 6 = .lit (.bool true) ∧ tm 12 = .lit (.bool vi) ∧ True) (by refine ⟨bj, ?_, ?_, trivial⟩ <;> first | (simp only [ua, bj, bD, bW, nm, seval] <;> rfl) | rfl) ?_
 rintro tm ⟨hP, gk, fb, _⟩
 cases eU : (vi)
 ·simp only [eU, hs] at h
  try simp only [vz, tyf, bW, hP, gk, fb, eU, nm, seval]
  obtain rfl := kF _ h
  exact bz Tryz.results68 rfl
 simp only [eU, hs] at h
 obtain ⟨xC, iS, h⟩ := optI h kN
 try simp only [hs] at h
 simp only [vz, tyf, bW, hP, gk, fb, eU, nm, seval]
 refine ktA (GU _ _ _ _ iS) ?_
 refine bC (fun tm => tm 1 = .ptr 0 0 ∧ tm 14 = .lit (.bool true) ∧ tm 17 = .lit (.bool xC) ∧ True) (by refine ⟨hP, ?_, ?_, trivial⟩ <;> first | (simp only [ua, bW, hP, gk, fb, eU, nm, seval] <;> rfl) | rfl) ?_
 rintro tm ⟨dK, eR, dV, _⟩
 cases jk : (xC)
 ·simp only [jk, hs] at h
  try simp only [vz, tyf, bW, eU, dK, eR, dV, jk, nm, seval]
  obtain rfl := kF _ h
  exact bz Tryz.results68 rfl
 simp only [jk, hs] at h
 obtain ⟨B6, Hh, h⟩ := optI h kN
 try simp only [hs] at h
 simp only [vz, tyf, bW, eU, dK, eR, dV, jk, nm, seval]
 refine ktA (GU _ _ _ _ Hh) ?_
 refine bC (fun tm => tm 1 = .ptr 0 0 ∧ tm 19 = .lit (.bool true) ∧ tm 22 = .lit (.bool B6) ∧ True) (by refine ⟨dK, ?_, ?_, trivial⟩ <;> first | (simp only [ua, bW, eU, dK, eR, dV, jk, nm, seval] <;> rfl) | rfl) ?_
 rintro tm ⟨fE, dM, bu, _⟩
 cases gI : (B6)
 ·simp only [gI, hs] at h
  try simp only [vz, tyf, bW, eU, jk, fE, dM, bu, gI, nm, seval]
  obtain rfl := kF _ h
  exact bz Tryz.results68 rfl
 simp only [gI, hs] at h
 obtain ⟨py, xu, h⟩ := optI h kN
 try simp only [hs] at h
 simp only [vz, tyf, bW, eU, jk, fE, dM, bu, gI, nm, seval]
 refine ktA (qe _ _ _ _ xu) ?_
 refine bC (fun tm => tm 1 = .ptr 0 0 ∧ tm 24 = .lit (.bool true) ∧ tm 27 = .lit (.bool py) ∧ True) (by refine ⟨fE, ?_, ?_, trivial⟩ <;> first | (simp only [ua, bW, eU, jk, fE, dM, bu, gI, nm, seval] <;> rfl) | rfl) ?_
 rintro tm ⟨iF, jS, cL, _⟩
 cases pG : (py)
 ·simp only [pG, hs] at h
  try simp only [vz, tyf, bW, eU, jk, gI, iF, jS, cL, pG, nm, seval]
  obtain rfl := kF _ h
  exact bz Tryz.results68 rfl
 simp only [pG, hs] at h
 obtain ⟨PF, T8, h⟩ := optI h kN
 try simp only [hs] at h
 simp only [vz, tyf, bW, eU, jk, gI, iF, jS, cL, pG, nm, seval]
 refine ktA (T2 _ _ _ T8) ?_
 refine bC (fun tm => tm 1 = .ptr 0 0 ∧ tm 29 = .lit (.bool true) ∧ tm 35 = .lit (.bool PF) ∧ True) (by refine ⟨iF, ?_, ?_, trivial⟩ <;> first | (simp only [ua, bW, eU, jk, gI, iF, jS, cL, pG, nm, seval] <;> rfl) | rfl) ?_
 rintro tm ⟨bF, bG, bx, _⟩
 cases n5 : (PF)
 ·simp only [n5, hs] at h
  try simp only [vz, tyf, bW, eU, jk, gI, pG, bF, bG, bx, n5, nm, seval]
  obtain rfl := kF _ h
  exact bz Tryz.results68 rfl
 simp only [n5, hs] at h
 obtain ⟨PG, T9, h⟩ := optI h kN
 try simp only [hs] at h
 simp only [vz, tyf, bW, eU, jk, gI, pG, bF, bG, bx, n5, nm, seval]
 refine ktA (qe _ _ _ _ T9) ?_
 refine bC (fun tm => tm 1 = .ptr 0 0 ∧ tm 37 = .lit (.bool true) ∧ tm 40 = .lit (.bool PG) ∧ True) (by refine ⟨bF, ?_, ?_, trivial⟩ <;> first | (simp only [ua, bW, eU, jk, gI, pG, bF, bG, bx, n5, nm, seval] <;> rfl) | rfl) ?_
 rintro tm ⟨fK, gN, fF, _⟩
 cases lU : (PG)
 ·simp only [lU, hs] at h
  have TA := And.intro bW (And.intro eU (And.intro jk (And.intro gI (And.intro pG (And.intro n5 lU)))))
  try simp only [vz, tyf, TA, fK, gN, fF, nm, seval]
  obtain rfl := kF _ h
  exact bz Tryz.results68 rfl
 simp only [lU, hs] at h
 have Hi := And.intro bW (And.intro eU (And.intro jk (And.intro gI (And.intro pG (And.intro n5 lU)))))
 obtain ⟨B7, Hj, h⟩ := optI h kN
 try simp only [hs] at h
 simp only [vz, tyf, Hi, fK, gN, fF, nm, seval]
 refine ktA (qe _ _ _ _ Hj) ?_
 refine bC (fun tm => tm 42 = .lit (.bool true) ∧ tm 45 = .lit (.bool B7) ∧ True) (by refine ⟨?_, ?_, trivial⟩ <;> first | (simp only [ua, Hi, fK, gN, fF, nm, seval] <;> rfl) | rfl) ?_
 rintro tm ⟨lg, pz, _⟩
 try simp only [vz, tyf, Hi, lg, pz, nm, seval]
 obtain rfl := kF _ h
 exact bz Tryz.results68 rfl
def lj (ij : Int) (ik : Int) (hT : Int) : Option (Bool) := cond (decide (ij ≥ ik)) (some (decide (ij ≤ hT))) (some false)
theorem nY (ij : Int) (ik : Int) (hT : Int) (R : Bool) (h : lj ij ik hT = some R) : ad Tryz.prog G0 73 [.lit (.int .i64 ij), .lit (.int .i64 ik), .lit (.int .i64 hT)] (.tree (.lit (.bool R))) := by
 refine ad.runR mixed Tryz.call73 Tryz.func73 rfl (by simp [Tryz.ntmps73]; kernel_rfl) ?_
 obtain ⟨KF, h, kF, kN⟩ := ec h
 simp only [lj] at h
 cases d1 : (decide (ij ≥ ik))
 ·simp only [d1, hs] at h
  try simp only [vz, tyf, d1, nm, seval]
  obtain rfl := kF _ h
  exact bz Tryz.results73 rfl
 simp only [d1, hs] at h
 try simp only [vz, tyf, d1, nm, seval]
 obtain rfl := kF _ h
 exact bz Tryz.results73 rfl
def tc (ag : GLs) (il : Int) : Option (Bool) := Option.bind (lj il 0 (i64.wrap ((List.length ag.Widths : Int) - 1))) (fun r1 => some r1)
theorem Hk (ag : GLs) (il : Int) (R : Bool) (h : tc ag il = some R) : ad Tryz.prog G0 119 [.agg (cGLs ag), .lit (.int .i64 il)] (.tree (.lit (.bool R))) := by
 refine ad.runR mixed Tryz.call119 Tryz.func119 rfl (by simp [Tryz.ntmps119]; kernel_rfl) ?_
 obtain ⟨KF, h, kF, kN⟩ := ec h
 simp only [tc] at h
 obtain ⟨r2, o3, h⟩ := optI h kN
 try simp only [hs] at h
 simp only [vz, tyf, nm, seval]
 refine ktA (nY _ _ _ _ o3) ?_
 refine bC (fun tm => tm 10 = .lit (.bool r2) ∧ True) (by refine ⟨?_, trivial⟩ <;> first | (simp only [ua, nm, seval] <;> rfl) | rfl) ?_
 rintro tm ⟨e4, _⟩
 try simp only [vz, tyf, e4, nm, seval]
 obtain rfl := kF _ h
 exact bz Tryz.results119 rfl
def qh (cq : GLw) : List Int → Int → Option (LOut (Bool) (Unit))
 | [], nZ => some (.go ())
 | e1 :: p1, nZ => Option.bind (lj e1 1 (i64.wrap ((List.length cq.Signs : Int) - 1))) (fun r3 => cond (r3) (cond (decide (nZ > 0)) (Option.bind (getI cq.Cuts (i64.wrap (nZ - 1))) (fun x4 => cond (decide (e1 ≤ x4)) (some (.ret false)) (qh cq p1 (nZ + 1)))) (qh cq p1 (nZ + 1))) (some (.ret false)))
def vn (ag : GLs) : List Int → Int → Option (LOut (Bool) (Unit))
 | [], fG => some (.go ())
 | e0 :: p0, fG => Option.bind (tc ag e0) (fun r1 => cond (r1) (vn ag p0 (fG + 1)) (some (.ret false)))
def xD (ag : GLs) (cq : GLw) : Option (Bool) := cond (lenOk cq.Signs) (lbind (vn ag cq.Signs 0) (fun r8 => some r8) (fun c2 => cond (lenOk cq.Cuts) (lbind (qh cq cq.Cuts 0) (fun r7 => some r7) (fun c5 => Option.bind (lj (List.length cq.Signs : Int) 1 6) (fun r6 => some r6)) (fun _ _ => none)) none) (fun _ _ => none)) none
theorem TB (ag : GLs) (cq : GLw) (R : Bool) (h : xD ag cq = some R) : ad Tryz.prog G0 74 [.agg (cGLs ag), .agg (cGLw cq)] (.tree (.lit (.bool R))) := by
 refine ad.runR mixed Tryz.call74 Tryz.func74 rfl (by simp [Tryz.ntmps74]; kernel_rfl) ?_
 obtain ⟨KF, h, kF, kN⟩ := ec h
 simp only [xD] at h
 cases hC : (lenOk cq.Signs)
 ·simp only [hC, hs] at h
  exact absurd h kN
 simp only [hC, hs] at h
 simp only [vz, tyf, hC, nm, seval]
 obtain ⟨K9, h, vb, GQ, Tt, sS⟩ := gS h kN
 obtain ⟨f9, GR, h⟩ := call2 h
 obtain ⟨I9, ry⟩ : ∃ I : Nat → St → Prop, I = (fun m st => ∃ (p9 : List Int) (iT : Int), m = List.length p9 ∧ 0 ≤ iT ∧ List.drop (Int.toNat iT) cq.Signs = p9 ∧ st.df = [] ∧ 4 ≤ st.nx ∧ st.H 0 = some (.cells (some 28) (cGLs ag)) ∧ st.H 1 = some (.cells (some 79) (cGLw cq)) ∧ st.tm 2 = .ptr 0 0 ∧ st.tm 3 = .ptr 1 0 ∧ st.tm 5 = .lit (.int .i64 iT) ∧ K9 (f9 p9 iT)) := ⟨_, rfl⟩
 refine loopK mixed (by kernel_rfl) I9 (List.length cq.Signs) (by rw [ry]; refine ⟨cq.Signs, 0, rfl, qZf _, rfl, rfl, (show 4 ≤ 4 by omega), ?_, ?_, ?_, ?_, ?_, h⟩ <;> first | (simp only [ua, nm, seval] <;> rfl) | rfl) ?_
 rintro m ⟨tm, H, kJ, df⟩ hinv
 rw [ry] at hinv
 obtain ⟨p9, iT, rfl, lf, nz, hdf, GS, jx, jy, bt, bS, fD, h⟩ := hinv
 simp only at hdf GS jx jy bt bS fD
 have ie := gT (m := 4) (b := kJ) (by omega)
 subst hdf GR
 cases p9 with
 | nil =>
  have gH : (decide (iT < (List.length cq.Signs : Int))) = false := fA lf nz
  simp only [vn, hs, reduceCtorEq] at h
  replace h := GQ _ h
  try dsimp only at h
  try simp only [hs] at h
  cases rD : (lenOk cq.Cuts)
  ·simp only [rD, hs] at h
   exact absurd h kN
  simp only [rD, hs] at h
  simp only [vz, tyf, hC, ie, bt, bS, fD, jx, jy, gH, rD, nm, seval]
  obtain ⟨TC, h, xE, Hl, TD, xF⟩ := gS h kN
  obtain ⟨TE, Hm, h⟩ := call2 h
  obtain ⟨TF, qi⟩ : ∃ I : Nat → St → Prop, I = (fun m st => ∃ (pH : List Int) (eg : Int), m = List.length pH ∧ 0 ≤ eg ∧ List.drop (Int.toNat eg) cq.Cuts = pH ∧ st.df = [] ∧ kJ + 6 ≤ st.nx ∧ st.H 1 = some (.cells (some 79) (cGLw cq)) ∧ st.tm 3 = .ptr 1 0 ∧ st.tm 6 = .lit (.int .i64 eg) ∧ TC (TE pH eg)) := ⟨_, rfl⟩
  refine loopK mixed (by kernel_rfl) TF (List.length cq.Cuts) (by rw [qi]; refine ⟨cq.Cuts, 0, rfl, qZf _, rfl, rfl, (show kJ + 6 ≤ kJ + 6 by omega), ?_, bS, ?_, h⟩ <;> first | (simp only [ua, ie, bt, bS, fD, jx, jy, gH, nm, seval] <;> rfl) | rfl) ?_
  rintro m ⟨tm, H, qj, df⟩ hinv
  rw [qi] at hinv
  obtain ⟨pH, eg, rfl, jX, m7, hdf, Ho, m8, ed, dK, h⟩ := hinv
  simp only at hdf Ho m8 ed dK
  have vo := gT (m := 4) (b := qj) (by omega)
  have vp := qk (a := kJ) (m := 6) (b := qj) (by omega)
  subst hdf Hm
  cases pH with
  | nil =>
   have jk : (decide (eg < (List.length cq.Cuts : Int))) = false := fA jX m7
   simp only [qh, hs, reduceCtorEq] at h
   replace h := Hl _ h
   try dsimp only at h
   try simp only [hs] at h
   obtain ⟨B6, Hh, h⟩ := optI h kN
   try simp only [hs] at h
   simp only [vz, tyf, hC, ie, gH, rD, vo, vp, ed, dK, m8, jk, nm, seval]
   refine ktA (nY _ _ _ _ Hh) ?_
   refine bC (fun tm => tm 61 = .lit (.bool B6) ∧ True) (by refine ⟨?_, trivial⟩ <;> first | (simp only [ua, ie, gH, vo, vp, ed, dK, m8, jk, nm, seval] <;> rfl) | rfl) ?_
   rintro tm ⟨fE, _⟩
   have TG := And.intro hC (And.intro ie (And.intro gH (And.intro rD (And.intro vo (And.intro vp (And.intro m8 jk))))))
   try simp only [vz, tyf, TG, fE, nm, seval]
   obtain rfl := kF _ h
   exact bz Tryz.results74 rfl
  | cons fb pH =>
   have Hp : (decide (eg < (List.length cq.Cuts : Int))) = true := fB jX m7
   have vq := dU jX m7
   have Hq := fC jX m7 rD
   simp only [qh, hs, reduceCtorEq] at h
   simp only [vz, tyf, hC, ie, gH, rD, vo, vp, ed, dK, m8, Hp, (aC vq), Hq, nm, seval]
   refine qf (fun tm => tm 3 = .ptr 1 0 ∧ tm 6 = .lit (.int .i64 eg) ∧ True) (by refine ⟨ed, dK, trivial⟩ <;> first | (simp only [ua, ie, gH, vo, vp, ed, dK, m8, Hp, Hq, nm, seval] <;> rfl) | rfl) ?_
   rintro tm ⟨fx, iF, _⟩
   have pI := And.intro hC (And.intro ie (And.intro gH (And.intro rD (And.intro vo (And.intro vp (And.intro m8 (And.intro Hp Hq)))))))
   obtain ⟨xG, Hr, h⟩ := optI h xF
   try simp only [hs] at h
   simp only [vz, tyf, pI, (aC vq), fx, iF, nm, seval]
   refine dktA (nY _ _ _ _ Hr) ?_
   refine bC (fun tm => tm 3 = .ptr 1 0 ∧ tm 6 = .lit (.int .i64 eg) ∧ tm 38 = .lit (.bool xG) ∧ True) (by refine ⟨fx, iF, ?_, trivial⟩ <;> first | (simp only [ua, pI, fx, iF, nm, seval] <;> rfl) | rfl) ?_
   rintro tm ⟨bL, bJ, bF, _⟩
   cases dw : (xG)
   ·simp only [dw, hs] at h
    try simp only [vz, tyf, pI, (aC vq), bL, bJ, bF, dw, nm, seval]
    replace h := xE _ h
    try dsimp only at h
    obtain rfl := kF _ h
    exact bz Tryz.results74 rfl
   simp only [dw, hs] at h
   cases ql : (decide (eg > 0))
   ·simp only [ql, hs] at h
    simp only [vz, tyf, pI, (aC vq), bL, bJ, bF, dw, ql, nm, seval]
    exact ⟨List.length pH, qZc _, by rw [qi]; refine ⟨pH, eg + 1, rfl, Int.le_trans jX (Int.le_add_one (qZf _)), bY jX m7, rfl, (show kJ + 6 ≤ qj + 37 by omega), ?_, bL, ?_, (by first | exact h | (simp only [pI, dw, ql]; exact h))⟩ <;> first | (simp only [ua, pI, bL, bJ, bF, dw, ql, nm, seval] <;> rfl) | rfl⟩
   simp only [ql, hs] at h
   obtain ⟨PH, qm, h⟩ := optI h xF
   try simp only [hs] at h
   cases jl : (decide (fb ≤ PH))
   ·simp only [jl, hs] at h
    simp only [vz, tyf, pI, (aC vq), bL, bJ, bF, dw, ql, (aC qm), jl, nm, seval]
    exact ⟨List.length pH, qZc _, by rw [qi]; refine ⟨pH, eg + 1, rfl, Int.le_trans jX (Int.le_add_one (qZf _)), bY jX m7, rfl, (show kJ + 6 ≤ qj + 37 by omega), ?_, bL, ?_, (by first | exact h | (simp only [pI, dw, ql, jl]; exact h))⟩ <;> first | (simp only [ua, pI, bL, bJ, bF, dw, ql, jl, nm, seval] <;> rfl) | rfl⟩
   simp only [jl, hs] at h
   try simp only [vz, tyf, pI, (aC vq), bL, bJ, bF, dw, ql, (aC qm), jl, nm, seval]
   replace h := xE _ h
   try dsimp only at h
   obtain rfl := kF _ h
   exact bz Tryz.results74 rfl
 | cons e9 p9 =>
  have vr : (decide (iT < (List.length cq.Signs : Int))) = true := fB lf nz
  have vm := dU lf nz
  have pJ := fC lf nz hC
  simp only [vn, hs, reduceCtorEq] at h
  simp only [vz, tyf, hC, ie, bt, bS, fD, jx, jy, vr, (aC vm), pJ, nm, seval]
  refine qf (fun tm => tm 2 = .ptr 0 0 ∧ tm 3 = .ptr 1 0 ∧ tm 5 = .lit (.int .i64 iT) ∧ True) (by refine ⟨bt, bS, fD, trivial⟩ <;> first | (simp only [ua, ie, bt, bS, fD, jx, jy, vr, pJ, nm, seval] <;> rfl) | rfl) ?_
  rintro tm ⟨eF, gJ, jT, _⟩
  obtain ⟨B7, Hj, h⟩ := optI h sS
  try simp only [hs] at h
  simp only [vz, tyf, hC, ie, jx, jy, vr, (aC vm), pJ, eF, gJ, jT, nm, seval]
  refine dktA (Hk _ _ _ Hj) ?_
  refine bC (fun tm => tm 2 = .ptr 0 0 ∧ tm 3 = .ptr 1 0 ∧ tm 5 = .lit (.int .i64 iT) ∧ tm 20 = .lit (.bool B7) ∧ True) (by refine ⟨eF, gJ, jT, ?_, trivial⟩ <;> first | (simp only [ua, ie, jx, jy, vr, pJ, eF, gJ, jT, nm, seval] <;> rfl) | rfl) ?_
  rintro tm ⟨lg, pz, nA, pK, _⟩
  cases im : (B7)
  ·simp only [im, hs] at h
   have TH := And.intro hC (And.intro ie (And.intro jx (And.intro jy (And.intro vr (And.intro pJ im)))))
   try simp only [vz, tyf, TH, (aC vm), lg, pz, nA, pK, nm, seval]
   replace h := vb _ h
   try dsimp only at h
   obtain rfl := kF _ h
   exact bz Tryz.results74 rfl
  simp only [im, hs] at h
  have Hs := And.intro hC (And.intro ie (And.intro jx (And.intro jy (And.intro vr (And.intro pJ im)))))
  simp only [vz, tyf, Hs, (aC vm), lg, pz, nA, pK, nm, seval]
  exact ⟨List.length p9, qZc _, by rw [ry]; refine ⟨p9, iT + 1, rfl, Int.le_trans lf (Int.le_add_one (qZf _)), bY lf nz, rfl, (show 4 ≤ kJ + 16 by omega), ?_, ?_, lg, pz, ?_, (by first | exact h | (simp only [Hs]; exact h))⟩ <;> first | (simp only [ua, Hs, lg, pz, nA, pK, nm, seval] <;> rfl) | rfl⟩
def td (ag : GSpan) (eV : Int) : Option (Bool) := Option.bind (lj ag.Low 0 eV) (fun r1 => cond (r1) (Option.bind (lj ag.High ag.Low eV) (fun r2 => some r2)) (some false))
theorem Ht (ag : GSpan) (eV : Int) (R : Bool) (h : td ag eV = some R) : ad Tryz.prog G0 76 [.agg (cGSpan ag), .lit (.int .i64 eV)] (.tree (.lit (.bool R))) := by
 refine ad.runR mixed Tryz.call76 Tryz.func76 rfl (by simp [Tryz.ntmps76]; kernel_rfl) ?_
 obtain ⟨KF, h, kF, kN⟩ := ec h
 simp only [td] at h
 obtain ⟨r3, o4, h⟩ := optI h kN
 try simp only [hs] at h
 simp only [vz, tyf, nm, seval]
 refine ktA (nY _ _ _ _ o4) ?_
 refine bC (fun tm => tm 1 = .lit (.int .i64 eV) ∧ tm 2 = .ptr 0 0 ∧ tm 8 = .lit (.bool r3) ∧ True) (by refine ⟨?_, ?_, ?_, trivial⟩ <;> first | (simp only [ua, nm, seval] <;> rfl) | rfl) ?_
 rintro tm ⟨e5, e6, e7, _⟩
 cases d8 : (r3)
 ·simp only [d8, hs] at h
  try simp only [vz, tyf, e5, e6, e7, d8, nm, seval]
  obtain rfl := kF _ h
  exact bz Tryz.results76 rfl
 simp only [d8, hs] at h
 obtain ⟨r9, Hg, h⟩ := optI h kN
 try simp only [hs] at h
 simp only [vz, tyf, e5, e6, e7, d8, nm, seval]
 refine ktA (nY _ _ _ _ Hg) ?_
 refine bC (fun tm => tm 9 = .lit (.bool true) ∧ tm 15 = .lit (.bool r9) ∧ True) (by refine ⟨?_, ?_, trivial⟩ <;> first | (simp only [ua, e5, e6, e7, d8, nm, seval] <;> rfl) | rfl) ?_
 rintro tm ⟨bj, bD, _⟩
 try simp only [vz, tyf, d8, bj, bD, nm, seval]
 obtain rfl := kF _ h
 exact bz Tryz.results76 rfl
theorem ad.runRQ {P : Program} {G : Glob} (hm : P.follows .mixedOrders = true) {f : FuncId} {fn : Func} {code : Code} {args : List VV} {r : PRes} (hc : Callable P f) (hf : P.funcs[f]? = some fn) (hb : fn.body = some code)
  (hst : (decide (args.length ≤ fn.ntmps) && codeQ fn.ntmps code) = true) (h : CWp P (G.at (some none)) fn.ntmps code (OpenPostD P G fn (RR r) (RPn r)) { tm := aK args, H := fun _ => none, nx := 0, df := [] }) : ad P G f args r := by
 rw [Bool.and_eq_true] at hst
 exact ad.runR hm hc hf hb (by rw [Bool.and_eq_true]; exact ⟨hst.1, oa hst.2⟩) h
def pL (ag : GLs) : List GLp → Int → Option (LOut (Bool) (Unit))
 | [], dr => some (.go ())
 | e0 :: p0, dr => Option.bind (tc ag e0.Left) (fun r1 => cond (r1) (Option.bind (tc ag e0.Right) (fun r2 => cond (r2) (Option.bind (td e0.Space 9) (fun r3 => cond (r3) (cond (decide (dr > 0)) (Option.bind (getI ag.Pairs (i64.wrap (dr - 1))) (fun x4 => cond (decide (x4.Left > e0.Left)) (some (.ret false)) (cond (x4.Left == e0.Left) (cond (decide (x4.Right ≥ e0.Right)) (some (.ret false)) (pL ag p0 (dr + 1))) (pL ag p0 (dr + 1))))) (pL ag p0 (dr + 1))) (some (.ret false)))) (some (.ret false)))) (some (.ret false)))
def xH (ag : GLs) : Option (Bool) := cond (lenOk ag.Pairs) (lbind (pL ag ag.Pairs 0) (fun r6 => some r6) (fun c5 => some (decide ((List.length ag.Pairs : Int) ≤ 6))) (fun _ _ => none)) none
theorem TI (ag : GLs) (R : Bool) (h : xH ag = some R) : ad Tryz.prog G0 75 [.agg (cGLs ag)] (.tree (.lit (.bool R))) := by
 refine ad.runRQ mixed Tryz.call75 Tryz.func75 rfl (by simp [Tryz.ntmps75]; kernel_rfl) ?_
 obtain ⟨KF, h, kF, kN⟩ := ec h
 simp only [xH] at h
 cases g8 : (lenOk ag.Pairs)
 ·simp only [g8, hs] at h
  exact absurd h kN
 simp only [g8, hs] at h
 simp only [vz, tyf, g8, nm, seval]
 obtain ⟨K7, h, vt, Hu, TJ, xI⟩ := gS h kN
 obtain ⟨f7, Hv, h⟩ := call2 h
 obtain ⟨I7, qn⟩ : ∃ I : Nat → St → Prop, I = (fun m st => ∃ (p7 : List GLp) (dt : Int), m = List.length p7 ∧ 0 ≤ dt ∧ List.drop (Int.toNat dt) ag.Pairs = p7 ∧ st.df = [] ∧ 3 ≤ st.nx ∧ st.H 0 = some (.cells (some 28) (cGLs ag)) ∧ st.tm 1 = .ptr 0 0 ∧ st.tm 3 = .lit (.int .i64 dt) ∧ K7 (f7 p7 dt)) := ⟨_, rfl⟩
 refine loopK mixed (oa (by kernel_rfl)) I7 (List.length ag.Pairs) (by rw [qn]; refine ⟨ag.Pairs, 0, rfl, qZf _, rfl, rfl, (show 3 ≤ 3 by omega), ?_, ?_, ?_, h⟩ <;> first | (simp only [ua, nm, seval] <;> rfl) | rfl) ?_
 rintro m ⟨tm, H, oc, df⟩ hinv
 rw [qn] at hinv
 obtain ⟨p7, dt, rfl, jY, m9, hdf, Hw, H9, bg, bj, h⟩ := hinv
 simp only at hdf Hw H9 bg bj
 have jU := gT (m := 3) (b := oc) (by omega)
 subst hdf Hv
 cases p7 with
 | nil =>
  have bW : (decide (dt < (List.length ag.Pairs : Int))) = false := fA jY m9
  simp only [pL, hs, reduceCtorEq] at h
  replace h := Hu _ h
  try dsimp only at h
  try simp only [hs] at h
  try simp only [vz, tyf, g8, jU, bg, bj, H9, bW, nm, seval]
  obtain rfl := kF _ h
  exact bz Tryz.results75 rfl
 | cons e7 p7 =>
  have bE : (decide (dt < (List.length ag.Pairs : Int))) = true := fB jY m9
  have k8 := dU jY m9
  have te := fC jY m9 g8
  simp only [pL, hs, reduceCtorEq] at h
  obtain ⟨PI, qo, h⟩ := optI h xI
  try simp only [hs] at h
  simp only [vz, tyf, g8, jU, bg, bj, H9, bE, (bU k8), te, nm, seval]
  refine ktA (Hk _ _ _ qo) ?_
  refine bC (fun tm => tm 1 = .ptr 0 0 ∧ tm 3 = .lit (.int .i64 dt) ∧ tm 4 = .ptr (oc + 10) 0 ∧ tm 20 = .lit (.bool PI) ∧ True) (by refine ⟨bg, bj, ?_, ?_, trivial⟩ <;> first | (simp only [ua, jU, bg, bj, H9, bE, te, nm, seval] <;> rfl) | rfl) ?_
  rintro tm ⟨kO, lT, ed, dK, _⟩
  cases tf : (PI)
  ·simp only [tf, hs] at h
   try simp only [vz, tyf, g8, jU, H9, bE, (bU k8), te, kO, lT, ed, dK, tf, nm, seval]
   replace h := vt _ h
   try dsimp only at h
   obtain rfl := kF _ h
   exact bz Tryz.results75 rfl
  simp only [tf, hs] at h
  obtain ⟨x9, vj, h⟩ := optI h xI
  try simp only [hs] at h
  simp only [vz, tyf, g8, jU, H9, bE, (bU k8), te, kO, lT, ed, dK, tf, nm, seval]
  refine ktA (Hk _ _ _ vj) ?_
  refine bC (fun tm => tm 1 = .ptr 0 0 ∧ tm 3 = .lit (.int .i64 dt) ∧ tm 4 = .ptr (oc + 10) 0 ∧ tm 22 = .lit (.bool false) ∧ tm 26 = .lit (.bool x9) ∧ True) (by refine ⟨kO, lT, ed, ?_, ?_, trivial⟩ <;> first | (simp only [ua, jU, H9, bE, te, kO, lT, ed, dK, tf, nm, seval] <;> rfl) | rfl) ?_
  rintro tm ⟨dT, eZ, fE, dM, bu, _⟩
  cases gI : (x9)
  ·simp only [gI, hs] at h
   have TK := And.intro g8 (And.intro jU (And.intro H9 (And.intro bE (And.intro te (And.intro tf gI)))))
   try simp only [vz, tyf, TK, (bU k8), dT, eZ, fE, dM, bu, nm, seval]
   replace h := vt _ h
   try dsimp only at h
   obtain rfl := kF _ h
   exact bz Tryz.results75 rfl
  simp only [gI, hs] at h
  have kP := And.intro g8 (And.intro jU (And.intro H9 (And.intro bE (And.intro te (And.intro tf gI)))))
  obtain ⟨xA, Hf, h⟩ := optI h xI
  try simp only [hs] at h
  simp only [vz, tyf, kP, (bU k8), dT, eZ, fE, dM, bu, nm, seval]
  refine ktA (Ht _ _ _ Hf) ?_
  refine bC (fun tm => tm 1 = .ptr 0 0 ∧ tm 3 = .lit (.int .i64 dt) ∧ tm 4 = .ptr (oc + 10) 0 ∧ tm 29 = .lit (.bool false) ∧ tm 32 = .lit (.bool xA) ∧ True) (by refine ⟨dT, eZ, fE, ?_, ?_, trivial⟩ <;> first | (simp only [ua, kP, dT, eZ, fE, dM, bu, nm, seval] <;> rfl) | rfl) ?_
  rintro tm ⟨cL, cz, bL, bJ, bF, _⟩
  cases dw : (xA)
  ·simp only [dw, hs] at h
   try simp only [vz, tyf, kP, (bU k8), cL, cz, bL, bJ, bF, dw, nm, seval]
   replace h := vt _ h
   try dsimp only at h
   obtain rfl := kF _ h
   exact bz Tryz.results75 rfl
  simp only [dw, hs] at h
  simp only [vz, tyf, kP, (bU k8), cL, cz, bL, bJ, bF, dw, nm, seval]
  refine qf (fun tm => tm 1 = .ptr 0 0 ∧ tm 3 = .lit (.int .i64 dt) ∧ tm 4 = .ptr (oc + 10) 0 ∧ True) (by refine ⟨cL, cz, bL, trivial⟩ <;> first | (simp only [ua, kP, cL, cz, bL, bJ, bF, dw, nm, seval] <;> rfl) | rfl) ?_
  rintro tm ⟨bx, ca, cT, _⟩
  cases jl : (decide (dt > 0))
  ·simp only [jl, hs] at h
   simp only [vz, tyf, kP, (bU k8), dw, bx, ca, cT, jl, nm, seval]
   exact ⟨List.length p7, qZc _, by rw [qn]; refine ⟨p7, dt + 1, rfl, Int.le_trans jY (Int.le_add_one (qZf _)), bY jY m9, rfl, (show 3 ≤ oc + 71 by omega), ?_, bx, ?_, (by first | exact h | (simp only [kP, dw, jl]; exact h))⟩ <;> first | (simp only [ua, kP, dw, bx, ca, cT, jl, nm, seval] <;> rfl) | rfl⟩
  simp only [jl, hs] at h
  obtain ⟨Hx, vc, h⟩ := optI h xI
  try simp only [hs] at h
  cases pM : (decide (Hx.Left > e7.Left))
  ·simp only [pM, hs] at h
   cases lU : (Hx.Left == e7.Left)
   ·simp only [lU, hs] at h
    simp only [vz, tyf, kP, (bU k8), dw, bx, ca, cT, jl, (bU vc), pM, lU, nm, seval]
    exact ⟨List.length p7, qZc _, by rw [qn]; refine ⟨p7, dt + 1, rfl, Int.le_trans jY (Int.le_add_one (qZf _)), bY jY m9, rfl, (show 3 ≤ oc + 71 by omega), ?_, bx, ?_, (by first | exact h | (simp only [kP, dw, jl, pM, lU]; exact h))⟩ <;> first | (simp only [ua, kP, dw, bx, ca, cT, jl, pM, lU, nm, seval] <;> rfl) | rfl⟩
   simp only [lU, hs] at h
   cases mA : (decide (Hx.Right ≥ e7.Right))
   ·simp only [mA, hs] at h
    simp only [vz, tyf, kP, (bU k8), dw, bx, ca, cT, jl, (bU vc), pM, lU, mA, nm, seval]
    exact ⟨List.length p7, qZc _, by rw [qn]; refine ⟨p7, dt + 1, rfl, Int.le_trans jY (Int.le_add_one (qZf _)), bY jY m9, rfl, (show 3 ≤ oc + 71 by omega), ?_, bx, ?_, (by first | exact h | (simp only [kP, dw, jl, pM, lU, mA]; exact h))⟩ <;> first | (simp only [ua, kP, dw, bx, ca, cT, jl, pM, lU, mA, nm, seval] <;> rfl) | rfl⟩
   simp only [mA, hs] at h
   try simp only [vz, tyf, kP, (bU k8), dw, bx, ca, cT, jl, (bU vc), pM, lU, mA, nm, seval]
   replace h := vt _ h
   try dsimp only at h
   obtain rfl := kF _ h
   exact bz Tryz.results75 rfl
  simp only [pM, hs] at h
  try simp only [vz, tyf, kP, (bU k8), dw, bx, ca, cT, jl, (bU vc), pM, nm, seval]
  replace h := vt _ h
  try dsimp only at h
  obtain rfl := kF _ h
  exact bz Tryz.results75 rfl
def rE (ij : Int) : Option (Bool) := Option.bind (lj ij 1 400) (fun r1 => some r1)
theorem PJ (ij : Int) (R : Bool) (h : rE ij = some R) : ad Tryz.prog G0 57 [.lit (.int .i64 ij)] (.tree (.lit (.bool R))) := by
 refine ad.runR mixed Tryz.call57 Tryz.func57 rfl (by simp [Tryz.ntmps57]; kernel_rfl) ?_
 obtain ⟨KF, h, kF, kN⟩ := ec h
 simp only [rE] at h
 obtain ⟨r2, o3, h⟩ := optI h kN
 try simp only [hs] at h
 simp only [vz, tyf, nm, seval]
 refine ktA (nY _ _ _ _ o3) ?_
 refine bC (fun tm => tm 4 = .lit (.bool r2) ∧ True) (by refine ⟨?_, trivial⟩ <;> first | (simp only [ua, nm, seval] <;> rfl) | rfl) ?_
 rintro tm ⟨e4, _⟩
 try simp only [vz, tyf, e4, nm, seval]
 obtain rfl := kF _ h
 exact bz Tryz.results57 rfl
def vu (ag : GLs) : List GLw → Int → Option (LOut (Bool) (Unit))
 | [], xJ => some (.go ())
 | e1 :: p1, xJ => Option.bind (xD ag e1) (fun r3 => cond (r3) (vu ag p1 (xJ + 1)) (some (.ret false)))
def vv  : List Int → Int → Option (LOut (Bool) (Unit))
 | [], dr => some (.go ())
 | e0 :: p0, dr => Option.bind (lj e0 1 20) (fun r1 => cond (r1) (vv p0 (dr + 1)) (some (.ret false)))
def xK (ag : GLs) : Option (Bool) := cond (lenOk ag.Widths) (lbind (vv ag.Widths 0) (fun vi => some vi) (fun c2 => cond (lenOk ag.Words) (lbind (vu ag ag.Words 0) (fun Hy => some Hy) (fun c4 => Option.bind (lj (List.length ag.Widths : Int) 1 6) (fun r5 => cond (r5) (Option.bind (xH ag) (fun r6 => cond (r6) (Option.bind (td ag.Other 9) (fun r7 => cond (r7) (Option.bind (td ag.Gap 20) (fun r8 => cond (r8) (Option.bind (lj ag.Hyphen 1 20) (fun r9 => cond (r9) (Option.bind (lj (List.length ag.Words : Int) 1 4) (fun vw => cond (vw) (Option.bind (rE ag.Wide) (fun nW => cond (nW) (Option.bind (lj ag.Rows 1 3) (fun vy => some vy)) (some false))) (some false))) (some false))) (some false))) (some false))) (some false))) (some false))) (fun _ _ => none)) none) (fun _ _ => none)) none
theorem TL (ag : GLs) (R : Bool) (h : xK ag = some R) : ad Tryz.prog G0 22 [.agg (cGLs ag)] (.tree (.lit (.bool R))) := by
 refine ad.runR mixed Tryz.call22 Tryz.func22 rfl (by simp [Tryz.ntmps22]; kernel_rfl) ?_
 obtain ⟨KF, h, kF, kN⟩ := ec h
 simp only [xK] at h
 cases nD : (lenOk ag.Widths)
 ·simp only [nD, hs] at h
  exact absurd h kN
 simp only [nD, hs] at h
 simp only [vz, tyf, nD, nm, seval]
 obtain ⟨TM, h, Hz, H6, TN, HA⟩ := gS h kN
 obtain ⟨f15, HB, h⟩ := call2 h
 obtain ⟨TO, tg⟩ : ∃ I : Nat → St → Prop, I = (fun m st => ∃ (rF : List Int) (fN : Int), m = List.length rF ∧ 0 ≤ fN ∧ List.drop (Int.toNat fN) ag.Widths = rF ∧ st.df = [] ∧ 3 ≤ st.nx ∧ st.H 0 = some (.cells (some 28) (cGLs ag)) ∧ st.tm 1 = .ptr 0 0 ∧ st.tm 3 = .lit (.int .i64 fN) ∧ TM (f15 rF fN)) := ⟨_, rfl⟩
 refine loopK mixed (by kernel_rfl) TO (List.length ag.Widths) (by rw [tg]; refine ⟨ag.Widths, 0, rfl, qZf _, rfl, rfl, (show 3 ≤ 3 by omega), ?_, ?_, ?_, h⟩ <;> first | (simp only [ua, nm, seval] <;> rfl) | rfl) ?_
 rintro m ⟨tm, H, lk, df⟩ hinv
 rw [tg] at hinv
 obtain ⟨rF, fN, rfl, mB, od, hdf, HC, lV, fb, kO, h⟩ := hinv
 simp only at hdf HC lV fb kO
 have mC := gT (m := 3) (b := lk) (by omega)
 subst hdf HB
 cases rF with
 | nil =>
  have ji : (decide (fN < (List.length ag.Widths : Int))) = false := fA mB od
  simp only [vv, hs, reduceCtorEq] at h
  replace h := H6 _ h
  try dsimp only at h
  try simp only [hs] at h
  cases rG : (lenOk ag.Words)
  ·simp only [rG, hs] at h
   exact absurd h kN
  simp only [rG, hs] at h
  simp only [vz, tyf, nD, mC, fb, kO, lV, ji, rG, nm, seval]
  obtain ⟨TP, h, HD, HE, TQ, HF⟩ := gS h kN
  obtain ⟨TR, HG, h⟩ := call2 h
  obtain ⟨TS, th⟩ : ∃ I : Nat → St → Prop, I = (fun m st => ∃ (rH : List GLw) (fy : Int), m = List.length rH ∧ 0 ≤ fy ∧ List.drop (Int.toNat fy) ag.Words = rH ∧ st.df = [] ∧ lk + 6 ≤ st.nx ∧ st.H 0 = some (.cells (some 28) (cGLs ag)) ∧ st.tm 1 = .ptr 0 0 ∧ st.tm 4 = .lit (.int .i64 fy) ∧ TP (TR rH fy)) := ⟨_, rfl⟩
  refine loopK mixed (by kernel_rfl) TS (List.length ag.Words) (by rw [th]; refine ⟨ag.Words, 0, rfl, qZf _, rfl, rfl, (show lk + 6 ≤ lk + 6 by omega), ?_, fb, ?_, h⟩ <;> first | (simp only [ua, mC, fb, kO, lV, ji, nm, seval] <;> rfl) | rfl) ?_
  rintro m ⟨tm, H, tk, df⟩ hinv
  rw [th] at hinv
  obtain ⟨rH, fy, rfl, mD, oe, hdf, HH, tl, dW, dT, h⟩ := hinv
  simp only at hdf HH tl dW dT
  have v3 := gT (m := 3) (b := tk) (by omega)
  have iq := qk (a := lk) (m := 6) (b := tk) (by omega)
  subst hdf HG
  cases rH with
  | nil =>
   have jN : (decide (fy < (List.length ag.Words : Int))) = false := fA mD oe
   simp only [vu, hs, reduceCtorEq] at h
   replace h := HE _ h
   try dsimp only at h
   try simp only [hs] at h
   obtain ⟨PK, TT, h⟩ := optI h kN
   try simp only [hs] at h
   simp only [vz, tyf, nD, mC, ji, rG, v3, iq, dW, dT, tl, jN, nm, seval]
   refine ktA (nY _ _ _ _ TT) ?_
   refine bC (fun tm => tm 1 = .ptr 0 0 ∧ tm 37 = .lit (.bool PK) ∧ True) (by refine ⟨dW, ?_, trivial⟩ <;> first | (simp only [ua, mC, ji, v3, iq, dW, dT, tl, jN, nm, seval] <;> rfl) | rfl) ?_
   rintro tm ⟨jj, fx, _⟩
   have jZ := And.intro nD (And.intro mC (And.intro ji (And.intro rG (And.intro v3 (And.intro iq (And.intro tl jN))))))
   cases fc : (PK)
   ·simp only [fc, hs] at h
    try simp only [vz, tyf, jZ, jj, fx, fc, nm, seval]
    obtain rfl := kF _ h
    exact bz Tryz.results22 rfl
   simp only [fc, hs] at h
   obtain ⟨xG, Hr, h⟩ := optI h kN
   try simp only [hs] at h
   simp only [vz, tyf, jZ, jj, fx, fc, nm, seval]
   refine ktA (TI _ _ Hr) ?_
   refine bC (fun tm => tm 1 = .ptr 0 0 ∧ tm 38 = .lit (.bool true) ∧ tm 40 = .lit (.bool xG) ∧ True) (by refine ⟨jj, ?_, ?_, trivial⟩ <;> first | (simp only [ua, jZ, jj, fx, fc, nm, seval] <;> rfl) | rfl) ?_
   rintro tm ⟨bL, bJ, bF, _⟩
   cases dw : (xG)
   ·simp only [dw, hs] at h
    try simp only [vz, tyf, jZ, fc, bL, bJ, bF, dw, nm, seval]
    obtain rfl := kF _ h
    exact bz Tryz.results22 rfl
   simp only [dw, hs] at h
   obtain ⟨PL, TU, h⟩ := optI h kN
   try simp only [hs] at h
   simp only [vz, tyf, jZ, fc, bL, bJ, bF, dw, nm, seval]
   refine ktA (Ht _ _ _ TU) ?_
   refine bC (fun tm => tm 1 = .ptr 0 0 ∧ tm 42 = .lit (.bool true) ∧ tm 45 = .lit (.bool PL) ∧ True) (by refine ⟨bL, ?_, ?_, trivial⟩ <;> first | (simp only [ua, jZ, fc, bL, bJ, bF, dw, nm, seval] <;> rfl) | rfl) ?_
   rintro tm ⟨cT, gm, fK, _⟩
   cases mF : (PL)
   ·simp only [mF, hs] at h
    try simp only [vz, tyf, jZ, fc, dw, cT, gm, fK, mF, nm, seval]
    obtain rfl := kF _ h
    exact bz Tryz.results22 rfl
   simp only [mF, hs] at h
   obtain ⟨PM, TV, h⟩ := optI h kN
   try simp only [hs] at h
   simp only [vz, tyf, jZ, fc, dw, cT, gm, fK, mF, nm, seval]
   refine ktA (Ht _ _ _ TV) ?_
   refine bC (fun tm => tm 1 = .ptr 0 0 ∧ tm 47 = .lit (.bool true) ∧ tm 50 = .lit (.bool PM) ∧ True) (by refine ⟨cT, ?_, ?_, trivial⟩ <;> first | (simp only [ua, jZ, fc, dw, cT, gm, fK, mF, nm, seval] <;> rfl) | rfl) ?_
   rintro tm ⟨gJ, jT, n6, _⟩
   cases lW : (PM)
   ·simp only [lW, hs] at h
    try simp only [vz, tyf, jZ, fc, dw, mF, gJ, jT, n6, lW, nm, seval]
    obtain rfl := kF _ h
    exact bz Tryz.results22 rfl
   simp only [lW, hs] at h
   obtain ⟨PN, TW, h⟩ := optI h kN
   try simp only [hs] at h
   simp only [vz, tyf, jZ, fc, dw, mF, gJ, jT, n6, lW, nm, seval]
   refine ktA (nY _ _ _ _ TW) ?_
   refine bC (fun tm => tm 1 = .ptr 0 0 ∧ tm 52 = .lit (.bool true) ∧ tm 55 = .lit (.bool PN) ∧ True) (by refine ⟨gJ, ?_, ?_, trivial⟩ <;> first | (simp only [ua, jZ, fc, dw, mF, gJ, jT, n6, lW, nm, seval] <;> rfl) | rfl) ?_
   rintro tm ⟨nA, pK, pE, _⟩
   cases tn : (PN)
   ·simp only [tn, hs] at h
    try simp only [vz, tyf, jZ, fc, dw, mF, lW, nA, pK, pE, tn, nm, seval]
    obtain rfl := kF _ h
    exact bz Tryz.results22 rfl
   simp only [tn, hs] at h
   obtain ⟨PO, TX, h⟩ := optI h kN
   try simp only [hs] at h
   simp only [vz, tyf, jZ, fc, dw, mF, lW, nA, pK, pE, tn, nm, seval]
   refine ktA (nY _ _ _ _ TX) ?_
   refine bC (fun tm => tm 1 = .ptr 0 0 ∧ tm 57 = .lit (.bool true) ∧ tm 61 = .lit (.bool PO) ∧ True) (by refine ⟨nA, ?_, ?_, trivial⟩ <;> first | (simp only [ua, jZ, fc, dw, mF, lW, nA, pK, pE, tn, nm, seval] <;> rfl) | rfl) ?_
   rintro tm ⟨fa, fv, jM, _⟩
   cases kL : (PO)
   ·simp only [kL, hs] at h
    have TY := And.intro jZ (And.intro fc (And.intro dw (And.intro mF (And.intro lW (And.intro tn kL)))))
    try simp only [vz, tyf, TY, fa, fv, jM, nm, seval]
    obtain rfl := kF _ h
    exact bz Tryz.results22 rfl
   simp only [kL, hs] at h
   have v5 := And.intro jZ (And.intro fc (And.intro dw (And.intro mF (And.intro lW (And.intro tn kL)))))
   obtain ⟨xw, GV, h⟩ := optI h kN
   try simp only [hs] at h
   simp only [vz, tyf, v5, fa, fv, jM, nm, seval]
   refine ktA (PJ _ _ GV) ?_
   refine bC (fun tm => tm 1 = .ptr 0 0 ∧ tm 63 = .lit (.bool true) ∧ tm 66 = .lit (.bool xw) ∧ True) (by refine ⟨fa, ?_, ?_, trivial⟩ <;> first | (simp only [ua, v5, fa, fv, jM, nm, seval] <;> rfl) | rfl) ?_
   rintro tm ⟨eG, lS, jg, _⟩
   cases v7 : (xw)
   ·simp only [v7, hs] at h
    try simp only [vz, tyf, v5, eG, lS, jg, v7, nm, seval]
    obtain rfl := kF _ h
    exact bz Tryz.results22 rfl
   simp only [v7, hs] at h
   obtain ⟨TZ, Ua, h⟩ := optI h kN
   try simp only [hs] at h
   simp only [vz, tyf, v5, eG, lS, jg, v7, nm, seval]
   refine ktA (nY _ _ _ _ Ua) ?_
   refine bC (fun tm => tm 68 = .lit (.bool true) ∧ tm 71 = .lit (.bool TZ) ∧ True) (by refine ⟨?_, ?_, trivial⟩ <;> first | (simp only [ua, v5, eG, lS, jg, v7, nm, seval] <;> rfl) | rfl) ?_
   rintro tm ⟨eT, dp, _⟩
   try simp only [vz, tyf, v5, v7, eT, dp, nm, seval]
   obtain rfl := kF _ h
   exact bz Tryz.results22 rfl
  | cons dK rH =>
   have HI : (decide (fy < (List.length ag.Words : Int))) = true := fB mD oe
   have v8 := dU mD oe
   have HJ := fC mD oe rG
   simp only [vu, hs, reduceCtorEq] at h
   simp only [vz, tyf, nD, mC, ji, rG, v3, iq, dW, dT, tl, HI, (aE v8), HJ, nm, seval]
   refine qf (fun tm => tm 1 = .ptr 0 0 ∧ tm 4 = .lit (.int .i64 fy) ∧ True) (by refine ⟨dW, dT, trivial⟩ <;> first | (simp only [ua, mC, ji, v3, iq, dW, dT, tl, HI, HJ, nm, seval] <;> rfl) | rfl) ?_
   rintro tm ⟨bN, bM, _⟩
   have v9 := And.intro nD (And.intro mC (And.intro ji (And.intro rG (And.intro v3 (And.intro iq (And.intro tl (And.intro HI HJ)))))))
   obtain ⟨PQ, Ub, h⟩ := optI h HF
   try simp only [hs] at h
   simp only [vz, tyf, v9, (aE v8), bN, bM, nm, seval]
   refine dktA (TB _ _ _ Ub) ?_
   refine bC (fun tm => tm 1 = .ptr 0 0 ∧ tm 4 = .lit (.int .i64 fy) ∧ tm 32 = .lit (.bool PQ) ∧ True) (by refine ⟨bN, bM, ?_, trivial⟩ <;> first | (simp only [ua, v9, bN, bM, nm, seval] <;> rfl) | rfl) ?_
   rintro tm ⟨cK, cM, gp, _⟩
   cases vA : (PQ)
   ·simp only [vA, hs] at h
    try simp only [vz, tyf, v9, (aE v8), cK, cM, gp, vA, nm, seval]
    replace h := HD _ h
    try dsimp only at h
    obtain rfl := kF _ h
    exact bz Tryz.results22 rfl
   simp only [vA, hs] at h
   simp only [vz, tyf, v9, (aE v8), cK, cM, gp, vA, nm, seval]
   exact ⟨List.length rH, qZc _, by rw [th]; refine ⟨rH, fy + 1, rfl, Int.le_trans mD (Int.le_add_one (qZf _)), bY mD oe, rfl, (show lk + 6 ≤ tk + 16 by omega), ?_, cK, ?_, (by first | exact h | (simp only [v9, vA]; exact h))⟩ <;> first | (simp only [ua, v9, cK, cM, gp, vA, nm, seval] <;> rfl) | rfl⟩
 | cons fD rF =>
  have vB : (decide (fN < (List.length ag.Widths : Int))) = true := fB mB od
  have HK := dU mB od
  have xL := fC mB od nD
  simp only [vv, hs, reduceCtorEq] at h
  obtain ⟨PR, Uc, h⟩ := optI h HA
  try simp only [hs] at h
  simp only [vz, tyf, nD, mC, fb, kO, lV, vB, (aC HK), xL, nm, seval]
  refine ktA (nY _ _ _ _ Uc) ?_
  refine bC (fun tm => tm 1 = .ptr 0 0 ∧ tm 3 = .lit (.int .i64 fN) ∧ tm 17 = .lit (.bool PR) ∧ True) (by refine ⟨fb, kO, ?_, trivial⟩ <;> first | (simp only [ua, mC, fb, kO, lV, vB, xL, nm, seval] <;> rfl) | rfl) ?_
  rintro tm ⟨B8, HL, HM, _⟩
  cases vC : (PR)
  ·simp only [vC, hs] at h
   try simp only [vz, tyf, nD, mC, lV, vB, (aC HK), xL, B8, HL, HM, vC, nm, seval]
   replace h := Hz _ h
   try dsimp only at h
   obtain rfl := kF _ h
   exact bz Tryz.results22 rfl
  simp only [vC, hs] at h
  simp only [vz, tyf, nD, mC, lV, vB, (aC HK), xL, B8, HL, HM, vC, nm, seval]
  exact ⟨List.length rF, qZc _, by rw [tg]; refine ⟨rF, fN + 1, rfl, Int.le_trans mB (Int.le_add_one (qZf _)), bY mB od, rfl, (show 3 ≤ lk + 15 by omega), ?_, B8, ?_, (by first | exact h | (simp only [vB, vC]; exact h))⟩ <;> first | (simp only [ua, mC, lV, vB, xL, B8, HL, HM, vC, nm, seval] <;> rfl) | rfl⟩
end Go.V
end
