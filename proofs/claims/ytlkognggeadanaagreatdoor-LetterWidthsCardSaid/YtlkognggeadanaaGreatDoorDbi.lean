/- Part of a proof. -/
import Derived.Test.YtlkognggeadanaaGreatDoorDbh
set_option linter.all false
set_option maxRecDepth 4000
set_option maxHeartbeats 40000000
section
namespace Go.V
open Go Go.Proofs IntKind
def zV (aO : Int) (bg : Int) : List Int → Int → Option (LOut (Bool) (Unit))
 | [], j5 => some (.go ())
 | e0 :: p0, j5 => Option.bind (oW aO e0 bg) (fun r1 => cond (r1) (zV aO bg p0 (j5 + 1)) (some (.ret false)))
def yq (aO : Int) (ai : List Int) (bg : Int) : Option (Bool) := cond (lenOk ai) (lbind (zV aO bg ai 0) (fun r3 => some r3) (fun c2 => some true) (fun _ _ => none)) none
theorem Rf (aO : Int) (ai : List Int) (bg : Int) (R : Bool) (h : yq aO ai bg = some R) : ag Tryz.prog G0 147 [.lit (.int .i64 aO), .sl (aa eI ai) (List.length ai) false, .lit (.int .i64 bg)] (.tree (.lit (.bool R))) := by
 refine ag.runR mixed Tryz.call147 Tryz.func147 rfl (by simp [Tryz.ntmps147]; kernel_rfl) ?_
 obtain ⟨KF, h, kF, kN⟩ := eC h
 simp only [yq] at h
 cases g5 : (lenOk ai)
 ·simp only [g5, hs] at h
  exact absurd h kN
 simp only [g5, hs] at h
 simp only [vz, tyf, g5, nm, seval]
 obtain ⟨K4, h, FO, Dj, Uf, Dk⟩ := gp h kN
 obtain ⟨f4, Dl, h⟩ := call2 h
 obtain ⟨I4, rl⟩ : ∃ I : Nat → St → Prop, I = (fun m st => ∃ (p4 : List Int) (iY : Int), m = List.length p4 ∧ 0 ≤ iY ∧ List.drop (Int.toNat iY) ai = p4 ∧ st.df = [] ∧ 4 ≤ st.nx ∧ st.tm 0 = .lit (.int .i64 aO) ∧ st.tm 2 = .lit (.int .i64 bg) ∧ st.tm 9 = .sl (aa eI ai) (List.length ai) false ∧ st.tm 10 = .lit (.int .i64 (List.length ai : Int)) ∧ st.tm 11 = .lit (.int .i64 iY) ∧ K4 (f4 p4 iY)) := ⟨_, rfl⟩
 refine loopK mixed (by kernel_rfl) I4 (List.length ai) (by rw [rl]; refine ⟨ai, 0, rfl, qZe _, rfl, rfl, (show 4 ≤ 4 by omega), ?_, ?_, ?_, ?_, ?_, h⟩ <;> first | (simp only [ua, nm, seval] <;> rfl) | rfl) ?_
 rintro m ⟨tm, H, uu, df⟩ hinv
 rw [rl] at hinv
 obtain ⟨p4, iY, rfl, oB, rn, hdf, Dm, e6, e7, e8, e9, aW, h⟩ := hinv
 simp only at hdf Dm e6 e7 e8 e9 aW
 have nT := gq (m := 4) (b := uu) (by omega)
 subst hdf Dl
 cases p4 with
 | nil =>
  have cl : (decide (iY < (List.length ai : Int))) = false := fy oB rn
  simp only [zV, hs, reduceCtorEq] at h
  replace h := Dj _ h
  try dsimp only at h
  try simp only [hs] at h
  try simp only [vz, tyf, g5, nT, e6, e7, e8, e9, aW, cl, nm, seval]
  obtain rfl := kF _ h
  exact bz Tryz.results147 rfl
 | cons e4 p4 =>
  have bD : (decide (iY < (List.length ai : Int))) = true := fz oB rn
  have pJ := eg oB rn
  have pK := f2 oB rn g5
  simp only [zV, hs, reduceCtorEq] at h
  obtain ⟨vi, BO, h⟩ := optI h Dk
  try simp only [hs] at h
  simp only [vz, tyf, g5, nT, e6, e7, e8, e9, aW, bD, (au pJ), pK, nm, seval]
  refine ktA (tz _ _ _ _ BO) ?_
  refine b5 (fun tm => tm 0 = .lit (.int .i64 aO) ∧ tm 2 = .lit (.int .i64 bg) ∧ tm 9 = .sl (aa eI ai) (List.length ai) false ∧ tm 10 = .lit (.int .i64 (List.length ai : Int)) ∧ tm 11 = .lit (.int .i64 iY) ∧ tm 18 = .lit (.bool vi) ∧ True) (by refine ⟨e6, e7, e8, e9, aW, ?_, trivial⟩ <;> first | (simp only [ua, nT, e6, e7, e8, e9, aW, bD, pK, nm, seval] <;> rfl) | rfl) ?_
  rintro tm ⟨bL, dg, ez, cn, bJ, cm, _⟩
  cases fO : (vi)
  ·simp only [fO, hs] at h
   try simp only [vz, tyf, g5, nT, bD, (au pJ), pK, bL, dg, ez, cn, bJ, cm, fO, nm, seval]
   replace h := FO _ h
   try dsimp only at h
   obtain rfl := kF _ h
   exact bz Tryz.results147 rfl
  simp only [fO, hs] at h
  simp only [vz, tyf, g5, nT, bD, (au pJ), pK, bL, dg, ez, cn, bJ, cm, fO, nm, seval]
  exact ⟨List.length p4, qZc _, by rw [rl]; refine ⟨p4, iY + 1, rfl, Int.le_trans oB (Int.le_add_one (qZe _)), bK oB rn, rfl, (show 4 ≤ uu + 11 by omega), bL, dg, ez, cn, ?_, (by first | exact h | (simp only [bD, fO]; exact h))⟩ <;> first | (simp only [ua, nT, bD, pK, bL, dg, ez, cn, bJ, cm, fO, nm, seval] <;> rfl) | rfl⟩
def E6 (cL : List Int) : Option (Bool) := Option.bind (oW 1 (List.length cL : Int) 6) (fun r1 => cond (r1) (Option.bind (yq 1 cL 20) (fun r2 => some r2)) (some false))
theorem zka (cL : List Int) (R : Bool) (h : E6 cL = some R) : ag Tryz.prog G0 109 [.sl (aa eI cL) (List.length cL) false] (.tree (.lit (.bool R))) := by
 refine ag.runR mixed Tryz.call109 Tryz.func109 rfl (by simp [Tryz.ntmps109]; kernel_rfl) ?_
 obtain ⟨KF, h, kF, kN⟩ := eC h
 simp only [E6] at h
 obtain ⟨r3, o4, h⟩ := optI h kN
 try simp only [hs] at h
 simp only [vz, tyf, nm, seval]
 refine ktA (tz _ _ _ _ o4) ?_
 refine b5 (fun tm => tm 0 = .sl (aa eI cL) (List.length cL) false ∧ tm 5 = .lit (.bool r3) ∧ True) (by refine ⟨?_, ?_, trivial⟩ <;> first | (simp only [ua, nm, seval] <;> rfl) | rfl) ?_
 rintro tm ⟨e5, e6, _⟩
 cases d7 : (r3)
 ·simp only [d7, hs] at h
  try simp only [vz, tyf, e5, e6, d7, nm, seval]
  obtain rfl := kF _ h
  exact bz Tryz.results109 rfl
 simp only [d7, hs] at h
 obtain ⟨r8, o9, h⟩ := optI h kN
 try simp only [hs] at h
 simp only [vz, tyf, e5, e6, d7, nm, seval]
 refine ktA (Rf _ _ _ _ o9) ?_
 refine b5 (fun tm => tm 6 = .lit (.bool true) ∧ tm 8 = .lit (.bool r8) ∧ True) (by refine ⟨?_, ?_, trivial⟩ <;> first | (simp only [ua, e5, e6, d7, nm, seval] <;> rfl) | rfl) ?_
 rintro tm ⟨aW, bc, _⟩
 try simp only [vz, tyf, d7, aW, bc, nm, seval]
 obtain rfl := kF _ h
 exact bz Tryz.results109 rfl
def yo (aO : Int) (bm : GSpan) (bg : Int) : Option (Bool) := cond (decide (aO ≤ bm.Low)) (cond (decide (bm.Low ≤ bm.High)) (some (decide (bm.High ≤ bg))) (some false)) (some false)
theorem Rg (aO : Int) (bm : GSpan) (bg : Int) (R : Bool) (h : yo aO bm bg = some R) : ag Tryz.prog G0 111 [.lit (.int .i64 aO), .agg (cGSpan bm), .lit (.int .i64 bg)] (.tree (.lit (.bool R))) := by
 refine ag.runR mixed Tryz.call111 Tryz.func111 rfl (by simp [Tryz.ntmps111]; kernel_rfl) ?_
 obtain ⟨KF, h, kF, kN⟩ := eC h
 simp only [yo] at h
 cases d1 : (decide (aO ≤ bm.Low))
 ·simp only [d1, hs] at h
  try simp only [vz, tyf, d1, nm, seval]
  obtain rfl := kF _ h
  exact bz Tryz.results111 rfl
 simp only [d1, hs] at h
 cases d2 : (decide (bm.Low ≤ bm.High))
 ·simp only [d2, hs] at h
  try simp only [vz, tyf, d1, d2, nm, seval]
  obtain rfl := kF _ h
  exact bz Tryz.results111 rfl
 simp only [d2, hs] at h
 try simp only [vz, tyf, d1, d2, nm, seval]
 obtain rfl := kF _ h
 exact bz Tryz.results111 rfl
def E1 (fc : Int) : Option (Bool) := some (fc != fc)
theorem Vw (fc : Int) (R : Bool) (h : E1 fc = some R) : ag Tryz.prog G0 154 [.lit (.int .i64 fc)] (.tree (.lit (.bool R))) := by
 refine ag.runR mixed Tryz.call154 Tryz.func154 rfl (by simp [Tryz.ntmps154]; kernel_rfl) ?_
 obtain ⟨KF, h, kF, kN⟩ := eC h
 simp only [E1] at h
 try simp only [vz, tyf, nm, seval]
 obtain rfl := kF _ h
 exact bz Tryz.results154 rfl
def Aa (fc : Int) (l8 : Int) : Option (Int) := Option.bind (E1 fc) (fun r1 => Option.bind (E1 l8) (fun r2 => cond (r1) (cond (r2) (some 0) (some (-1))) (cond (r2) (some 1) (cond (decide (fc < l8)) (some (-1)) (cond (decide (fc > l8)) (some 1) (some 0))))))
theorem Vx (fc : Int) (l8 : Int) (R : Int) (h : Aa fc l8 = some R) : ag Tryz.prog G0 125 [.lit (.int .i64 fc), .lit (.int .i64 l8)] (.tree (.lit (.int .i64 R))) := by
 refine ag.runR mixed Tryz.call125 Tryz.func125 rfl (by simp [Tryz.ntmps125]; kernel_rfl) ?_
 obtain ⟨KF, h, kF, kN⟩ := eC h
 simp only [Aa] at h
 obtain ⟨r3, o4, h⟩ := optI h kN
 try simp only [hs] at h
 simp only [vz, tyf, nm, seval]
 refine ktA (Vw _ _ o4) ?_
 refine b5 (fun tm => tm 0 = .lit (.int .i64 fc) ∧ tm 1 = .lit (.int .i64 l8) ∧ tm 8 = .lit (.bool r3) ∧ True) (by refine ⟨?_, ?_, ?_, trivial⟩ <;> first | (simp only [ua, nm, seval] <;> rfl) | rfl) ?_
 rintro tm ⟨e5, e6, e7, _⟩
 obtain ⟨r8, o9, h⟩ := optI h kN
 try simp only [hs] at h
 simp only [vz, tyf, e5, e6, e7, nm, seval]
 refine ktA (Vw _ _ o9) ?_
 refine b5 (fun tm => tm 0 = .lit (.int .i64 fc) ∧ tm 1 = .lit (.int .i64 l8) ∧ tm 5 = .lit (.bool r3) ∧ tm 10 = .lit (.bool r8) ∧ True) (by refine ⟨e5, e6, ?_, ?_, trivial⟩ <;> first | (simp only [ua, e5, e6, e7, nm, seval] <;> rfl) | rfl) ?_
 rintro tm ⟨aW, bc, bu, bj, _⟩
 cases bV : (r3)
 ·simp only [bV, hs] at h
  cases gf : (r8)
  ·simp only [gf, hs] at h
   cases eA : (decide (fc < l8))
   ·simp only [eA, hs] at h
    cases iG : (decide (fc > l8))
    ·simp only [iG, hs] at h
     try simp only [vz, tyf, aW, bc, bu, bj, bV, gf, eA, iG, nm, seval]
     refine eh (x := (.lit (.int .i64 0))) (by first | (simp only [Tryz.results125, resV, resL, aR, ei, ej, uw, cr, tyf, bV, gf, eA, iG, nm, seval] <;> rfl) | rfl) ?_
     obtain rfl := kF _ h
     refine eD ?_ ?_
     ·simp only [tre, aG, Bool.and_self]
     ·first | (simp only [outV, uw, ep, cr, tyf, nrm, aE, aW, bc, bu, bj, bV, gf, eA, iG, nm, seval] <;> rfl) | rfl
    simp only [iG, hs] at h
    try simp only [vz, tyf, aW, bc, bu, bj, bV, gf, eA, iG, nm, seval]
    refine eh (x := (.lit (.int .i64 1))) (by first | (simp only [Tryz.results125, resV, resL, aR, ei, ej, uw, cr, tyf, bV, gf, eA, iG, nm, seval] <;> rfl) | rfl) ?_
    obtain rfl := kF _ h
    refine eD ?_ ?_
    ·simp only [tre, aG, Bool.and_self]
    ·first | (simp only [outV, uw, ep, cr, tyf, nrm, aE, aW, bc, bu, bj, bV, gf, eA, iG, nm, seval] <;> rfl) | rfl
   simp only [eA, hs] at h
   try simp only [vz, tyf, aW, bc, bu, bj, bV, gf, eA, nm, seval]
   refine eh (x := (.lit (.int .i64 (-1)))) (by first | (simp only [Tryz.results125, resV, resL, aR, ei, ej, uw, cr, tyf, bV, gf, eA, nm, seval] <;> rfl) | rfl) ?_
   obtain rfl := kF _ h
   refine eD ?_ ?_
   ·simp only [tre, aG, Bool.and_self]
   ·first | (simp only [outV, uw, ep, cr, tyf, nrm, aE, aW, bc, bu, bj, bV, gf, eA, nm, seval] <;> rfl) | rfl
  simp only [gf, hs] at h
  try simp only [vz, tyf, aW, bc, bu, bj, bV, gf, nm, seval]
  refine eh (x := (.lit (.int .i64 1))) (by first | (simp only [Tryz.results125, resV, resL, aR, ei, ej, uw, cr, tyf, bV, gf, nm, seval] <;> rfl) | rfl) ?_
  obtain rfl := kF _ h
  refine eD ?_ ?_
  ·simp only [tre, aG, Bool.and_self]
  ·first | (simp only [outV, uw, ep, cr, tyf, nrm, aE, aW, bc, bu, bj, bV, gf, nm, seval] <;> rfl) | rfl
 simp only [bV, hs] at h
 cases lS : (r8)
 ·simp only [lS, hs] at h
  try simp only [vz, tyf, aW, bc, bu, bj, bV, lS, nm, seval]
  refine eh (x := (.lit (.int .i64 (-1)))) (by first | (simp only [Tryz.results125, resV, resL, aR, ei, ej, uw, cr, tyf, bV, lS, nm, seval] <;> rfl) | rfl) ?_
  obtain rfl := kF _ h
  refine eD ?_ ?_
  ·simp only [tre, aG, Bool.and_self]
  ·first | (simp only [outV, uw, ep, cr, tyf, nrm, aE, aW, bc, bu, bj, bV, lS, nm, seval] <;> rfl) | rfl
 simp only [lS, hs] at h
 try simp only [vz, tyf, aW, bc, bu, bj, bV, lS, nm, seval]
 refine eh (x := (.lit (.int .i64 0))) (by first | (simp only [Tryz.results125, resV, resL, aR, ei, ej, uw, cr, tyf, bV, lS, nm, seval] <;> rfl) | rfl) ?_
 obtain rfl := kF _ h
 refine eD ?_ ?_
 ·simp only [tre, aG, Bool.and_self]
 ·first | (simp only [outV, uw, ep, cr, tyf, nrm, aE, aW, bc, bu, bj, bV, lS, nm, seval] <;> rfl) | rfl
def E3  : List Int → Int → Option (LOut (Int) (Unit))
 | [], dz => some (.go ())
 | e0 :: p0, dz => cond (e0 != 0) (some (.ret e0)) (E3 p0 (dz + 1))
def E2 (bU : List Int) : Option (Int) := cond (lenOk bU) (lbind (E3 bU 0) (fun r2 => some r2) (fun c1 => some 0) (fun _ _ => none)) none
theorem zqf (bU : List Int) (R : Int) (h : E2 bU = some R) : ag Tryz.prog G0 124 [.sl (aa eI bU) (List.length bU) false] (.tree (.lit (.int .i64 R))) := by
 refine ag.runR mixed Tryz.call124 Tryz.func124 rfl (by simp [Tryz.ntmps124]; kernel_rfl) ?_
 obtain ⟨KF, h, kF, kN⟩ := eC h
 simp only [E2] at h
 cases g4 : (lenOk bU)
 ·simp only [g4, hs] at h
  exact absurd h kN
 simp only [g4, hs] at h
 simp only [vz, tyf, g4, nm, seval]
 obtain ⟨K3, h, rY, qW, BR, BS⟩ := gp h kN
 obtain ⟨f3, rZ, h⟩ := call2 h
 obtain ⟨I3, kf⟩ : ∃ I : Nat → St → Prop, I = (fun m st => ∃ (p3 : List Int) (bS : Int), m = List.length p3 ∧ 0 ≤ bS ∧ List.drop (Int.toNat bS) bU = p3 ∧ st.df = [] ∧ 5 ≤ st.nx ∧ st.tm 3 = .lit (.int .i64 0) ∧ st.tm 6 = .sl (aa eI bU) (List.length bU) false ∧ st.tm 7 = .lit (.int .i64 (List.length bU : Int)) ∧ st.tm 8 = .lit (.int .i64 bS) ∧ K3 (f3 p3 bS)) := ⟨_, rfl⟩
 refine loopK mixed (by kernel_rfl) I3 (List.length bU) (by rw [kf]; refine ⟨bU, 0, rfl, qZe _, rfl, rfl, (show 5 ≤ 5 by omega), ?_, ?_, ?_, ?_, h⟩ <;> first | (simp only [ua, nm, seval] <;> rfl) | rfl) ?_
 rintro m ⟨tm, H, na, df⟩ hinv
 rw [kf] at hinv
 obtain ⟨p3, bS, rfl, fN, gL, hdf, sa, e5, e6, e7, e8, h⟩ := hinv
 simp only at hdf sa e5 e6 e7 e8
 have n9 := gq (m := 5) (b := na) (by omega)
 subst hdf rZ
 cases p3 with
 | nil =>
  have eu : (decide (bS < (List.length bU : Int))) = false := fy fN gL
  simp only [E3, hs, reduceCtorEq] at h
  replace h := qW _ h
  try dsimp only at h
  try simp only [hs] at h
  try simp only [vz, tyf, g4, n9, e5, e6, e7, e8, eu, nm, seval]
  refine eh (x := (.lit (.int .i64 0))) (by first | (simp only [Tryz.results124, resV, resL, aR, ei, ej, uw, cr, tyf, g4, n9, eu, nm, seval] <;> rfl) | rfl) ?_
  obtain rfl := kF _ h
  refine eD ?_ ?_
  ·simp only [tre, aG, Bool.and_self]
  ·first | (simp only [outV, uw, ep, cr, tyf, nrm, aE, g4, n9, e5, e6, e7, e8, eu, nm, seval] <;> rfl) | rfl
 | cons e3 p3 =>
  have gu : (decide (bS < (List.length bU : Int))) = true := fz fN gL
  have pZ := eg fN gL
  have oY := f2 fN gL g4
  simp only [E3, hs, reduceCtorEq] at h
  cases bV : (e3 != 0)
  ·simp only [bV, hs] at h
   simp only [vz, tyf, g4, n9, e5, e6, e7, e8, gu, (au pZ), oY, bV, nm, seval]
   exact ⟨List.length p3, qZc _, by rw [kf]; refine ⟨p3, bS + 1, rfl, Int.le_trans fN (Int.le_add_one (qZe _)), bK fN gL, rfl, (show 5 ≤ na + 9 by omega), e5, e6, e7, ?_, (by first | exact h | (simp only [gu, bV]; exact h))⟩ <;> first | (simp only [ua, n9, e5, e6, e7, e8, gu, oY, bV, nm, seval] <;> rfl) | rfl⟩
  simp only [bV, hs] at h
  try simp only [vz, tyf, g4, n9, e5, e6, e7, e8, gu, (au pZ), oY, bV, nm, seval]
  refine eh (x := (.lit (.int .i64 e3))) (by first | (simp only [Tryz.results124, resV, resL, aR, ei, ej, uw, cr, tyf, g4, n9, gu, (au pZ), oY, bV, nm, seval] <;> rfl) | rfl) ?_
  replace h := rY _ h
  try dsimp only at h
  obtain rfl := kF _ h
  refine eD ?_ ?_
  ·simp only [tre, aG, Bool.and_self]
  ·first | (simp only [outV, uw, ep, cr, tyf, nrm, aE, g4, n9, e5, e6, e7, e8, gu, (au pZ), oY, bV, nm, seval] <;> rfl) | rfl
def E4 (cy : GLp) (cQ : GLp) : Option (Int) := Option.bind (Aa cy.Left cQ.Left) (fun r1 => Option.bind (Aa cy.Right cQ.Right) (fun r2 => Option.bind (E2 ([r1, r2])) (fun r3 => some r3)))
theorem zir (cy : GLp) (cQ : GLp) (R : Int) (h : E4 cy cQ = some R) : ag Tryz.prog G0 148 [.agg (cGLp cy), .agg (cGLp cQ)] (.tree (.lit (.int .i64 R))) := by
 refine ag.runR mixed Tryz.call148 Tryz.func148 rfl (by simp [Tryz.ntmps148]; kernel_rfl) ?_
 obtain ⟨KF, h, kF, kN⟩ := eC h
 simp only [E4] at h
 simp only [vz, tyf, nm, seval]
 refine vl (fun tm => tm 2 = .ptr 0 0 ∧ tm 3 = .ptr 1 0 ∧ True) (by refine ⟨?_, ?_, trivial⟩ <;> first | (simp only [ua, nm, seval] <;> rfl) | rfl) ?_
 rintro tm ⟨e4, e5, _⟩
 obtain ⟨r6, o7, h⟩ := optI h kN
 try simp only [hs] at h
 simp only [vz, tyf, e4, e5, nm, seval]
 refine dktA (Vx _ _ _ o7) ?_
 refine b5 (fun tm => tm 2 = .ptr 0 0 ∧ tm 3 = .ptr 1 0 ∧ tm 9 = .lit (.int .i64 r6) ∧ True) (by refine ⟨e4, e5, ?_, trivial⟩ <;> first | (simp only [ua, e4, e5, nm, seval] <;> rfl) | rfl) ?_
 rintro tm ⟨e8, e9, aW, _⟩
 obtain ⟨yf, lC, h⟩ := optI h kN
 try simp only [hs] at h
 simp only [vz, tyf, e8, e9, aW, nm, seval]
 refine dktA (Vx _ _ _ lC) ?_
 refine b5 (fun tm => tm 9 = .lit (.int .i64 r6) ∧ tm 14 = .lit (.int .i64 yf) ∧ True) (by refine ⟨aW, ?_, trivial⟩ <;> first | (simp only [ua, e8, e9, aW, nm, seval] <;> rfl) | rfl) ?_
 rintro tm ⟨bj, bn, _⟩
 obtain ⟨xt, jX, h⟩ := optI h kN
 try simp only [hs] at h
 simp only [vz, tyf, bj, bn, nm, seval]
 refine dkseen1 (w := 1) (enc := eI) (xs := ([r6, yf])) (el := (some 3)) ⟨eI_ok.tree, eI_ok.norm⟩ (fun _ => rfl) (by simp only [List.length_cons, List.length_nil]; decide) (by simp only [bw, bx, fw, nm, seval] <;> rfl) (zqf _ _ jX) (by first | rfl | simp only [VV.flat, flatL, Bool.and_self]) ?_
 refine b5 (fun tm => tm 16 = .lit (.int .i64 xt) ∧ True) (by refine ⟨?_, trivial⟩ <;> first | (simp only [ua, bj, bn, nm, seval] <;> rfl) | rfl) ?_
 rintro tm ⟨cH, _⟩
 simp only [vz, tyf, cH, nm, seval]
 refine vm ⟨?_, ?_⟩
 ·simp only [vn, vo, nH, vp, and_true, true_and]
  repeat' (first | exact trivial | refine And.intro ?_ ?_ | rw [nH] | rw [vq] | exact Or.inl (by decide +kernel) | exact Or.inl (by dsimp only; decide +kernel) | (refine Or.inr ⟨?_, ?_⟩ <;> simp; done) | (refine Or.inr ⟨?_, ?_⟩ <;> simp <;> omega) | (refine Or.inr ⟨?_, ?_⟩ <;> simp [VEff.wr] <;> omega))
 try simp only [vz, tyf, cH, nm, seval]
 refine eh (x := (.lit (.int .i64 xt))) (by first | (simp only [Tryz.results148, resV, resL, aR, ei, ej, uw, cr, tyf, nm, seval] <;> rfl) | rfl) ?_
 obtain rfl := kF _ h
 refine eD ?_ ?_
 ·simp only [tre, aG, Bool.and_self]
 ·first | (simp only [outV, uw, ep, cr, tyf, nrm, aE, cH, nm, seval] <;> rfl) | rfl
def uP (an : List GLp) (aP : Int) : List GLp → Int → Option (LOut (Bool) (Unit))
 | [], ec => some (.go ())
 | e0 :: p0, ec => Option.bind (oW 0 e0.Left (i64.wrap (aP - 1))) (fun r1 => cond (r1) (Option.bind (oW 0 e0.Right (i64.wrap (aP - 1))) (fun r2 => cond (r2) (Option.bind (yo 0 e0.Space 9) (fun r3 => cond (r3) (cond (decide (ec > 0)) (Option.bind (getI an (i64.wrap (ec - 1))) (fun x4 => Option.bind (E4 x4 e0) (fun r5 => cond (decide (r5 ≥ 0)) (some (.ret false)) (uP an aP p0 (ec + 1))))) (uP an aP p0 (ec + 1))) (some (.ret false)))) (some (.ret false)))) (some (.ret false)))
def E5 (an : List GLp) (aP : Int) : Option (Bool) := cond (decide ((List.length an : Int) > 6)) (some false) (cond (lenOk an) (lbind (uP an aP an 0) (fun r7 => some r7) (fun c6 => some true) (fun _ _ => none)) none)
theorem zkn (an : List GLp) (aP : Int) (R : Bool) (h : E5 an aP = some R) : ag Tryz.prog G0 110 [.sl (aa cGLp an) (List.length an) false, .lit (.int .i64 aP)] (.tree (.lit (.bool R))) := by
 refine ag.runR mixed Tryz.call110 Tryz.func110 rfl (by simp [Tryz.ntmps110]; kernel_rfl) ?_
 obtain ⟨KF, h, kF, kN⟩ := eC h
 simp only [E5] at h
 cases d8 : (decide ((List.length an : Int) > 6))
 ·simp only [d8, hs] at h
  cases jY : (lenOk an)
  ·simp only [jY, hs] at h
   exact absurd h kN
  simp only [jY, hs] at h
  simp only [vz, tyf, d8, jY, nm, seval]
  obtain ⟨K9, h, Ae, Rh, kB9, yy⟩ := gp h kN
  obtain ⟨f9, Ri, h⟩ := call2 h
  obtain ⟨I9, vR⟩ : ∃ I : Nat → St → Prop, I = (fun m st => ∃ (p9 : List GLp) (dc : Int), m = List.length p9 ∧ 0 ≤ dc ∧ List.drop (Int.toNat dc) an = p9 ∧ st.df = [] ∧ 7 ≤ st.nx ∧ st.tm 0 = .sl (aa cGLp an) (List.length an) false ∧ st.tm 1 = .lit (.int .i64 aP) ∧ st.tm 10 = .sl (aa cGLp an) (List.length an) false ∧ st.tm 11 = .lit (.int .i64 (List.length an : Int)) ∧ st.tm 12 = .lit (.int .i64 dc) ∧ K9 (f9 p9 dc)) := ⟨_, rfl⟩
  refine loopK mixed (by kernel_rfl) I9 (List.length an) (by rw [vR]; refine ⟨an, 0, rfl, qZe _, rfl, rfl, (show 7 ≤ 7 by omega), ?_, ?_, ?_, ?_, ?_, h⟩ <;> first | (simp only [ua, d8, nm, seval] <;> rfl) | rfl) ?_
  rintro m ⟨tm, H, nU, df⟩ hinv
  rw [vR] at hinv
  obtain ⟨p9, dc, rfl, oR, ru, hdf, Rj, bc, bu, bj, bn, bE, h⟩ := hinv
  simp only at hdf Rj bc bu bj bn bE
  have dr := gq (m := 7) (b := nU) (by omega)
  subst hdf Ri
  cases p9 with
  | nil =>
   have iG : (decide (dc < (List.length an : Int))) = false := fy oR ru
   simp only [uP, hs, reduceCtorEq] at h
   replace h := Rh _ h
   try dsimp only at h
   try simp only [hs] at h
   try simp only [vz, tyf, d8, jY, dr, bc, bu, bj, bn, bE, iG, nm, seval]
   obtain rfl := kF _ h
   exact bz Tryz.results110 rfl
  | cons e9 p9 =>
   have lS : (decide (dc < (List.length an : Int))) = true := fz oR ru
   have pW := eg oR ru
   have yz := f2 oR ru jY
   simp only [uP, hs, reduceCtorEq] at h
   obtain ⟨CG, Lu, h⟩ := optI h yy
   try simp only [hs] at h
   simp only [vz, tyf, d8, jY, dr, bc, bu, bj, bn, bE, lS, (bY pW), yz, nm, seval]
   refine ktA (tz _ _ _ _ Lu) ?_
   refine b5 (fun tm => tm 0 = .sl (aa cGLp an) (List.length an) false ∧ tm 1 = .lit (.int .i64 aP) ∧ tm 5 = .lit (.int .i64 dc) ∧ tm 6 = .ptr (nU + 4) 0 ∧ tm 10 = .sl (aa cGLp an) (List.length an) false ∧ tm 11 = .lit (.int .i64 (List.length an : Int)) ∧ tm 12 = .lit (.int .i64 dc) ∧ tm 21 = .lit (.bool CG) ∧ True) (by refine ⟨bc, bu, ?_, ?_, bj, bn, bE, ?_, trivial⟩ <;> first | (simp only [ua, d8, dr, bc, bu, bj, bn, bE, lS, yz, nm, seval] <;> rfl) | rfl) ?_
   rintro tm ⟨cm, cu, cN, dI, dm, dJ, eW, bI, _⟩
   cases jF : (CG)
   ·simp only [jF, hs] at h
    try simp only [vz, tyf, d8, jY, dr, lS, (bY pW), yz, cm, cu, cN, dI, dm, dJ, eW, bI, jF, nm, seval]
    replace h := Ae _ h
    try dsimp only at h
    obtain rfl := kF _ h
    exact bz Tryz.results110 rfl
   simp only [jF, hs] at h
   obtain ⟨oo, wM, h⟩ := optI h yy
   try simp only [hs] at h
   simp only [vz, tyf, d8, jY, dr, lS, (bY pW), yz, cm, cu, cN, dI, dm, dJ, eW, bI, jF, nm, seval]
   refine ktA (tz _ _ _ _ wM) ?_
   refine b5 (fun tm => tm 0 = .sl (aa cGLp an) (List.length an) false ∧ tm 1 = .lit (.int .i64 aP) ∧ tm 5 = .lit (.int .i64 dc) ∧ tm 6 = .ptr (nU + 4) 0 ∧ tm 10 = .sl (aa cGLp an) (List.length an) false ∧ tm 11 = .lit (.int .i64 (List.length an : Int)) ∧ tm 12 = .lit (.int .i64 dc) ∧ tm 23 = .lit (.bool false) ∧ tm 28 = .lit (.bool oo) ∧ True) (by refine ⟨cm, cu, cN, dI, dm, dJ, eW, ?_, ?_, trivial⟩ <;> first | (simp only [ua, d8, dr, lS, yz, cm, cu, cN, dI, dm, dJ, eW, bI, jF, nm, seval] <;> rfl) | rfl) ?_
   rintro tm ⟨eQ, eX, bM, bW, bH, bX, bF, bN, b9, _⟩
   cases rv : (oo)
   ·simp only [rv, hs] at h
    have b44 := And.intro d8 (And.intro jY (And.intro dr (And.intro lS (And.intro yz (And.intro jF rv)))))
    try simp only [vz, tyf, b44, (bY pW), eQ, eX, bM, bW, bH, bX, bF, bN, b9, nm, seval]
    replace h := Ae _ h
    try dsimp only at h
    obtain rfl := kF _ h
    exact bz Tryz.results110 rfl
   simp only [rv, hs] at h
   have nV := And.intro d8 (And.intro jY (And.intro dr (And.intro lS (And.intro yz (And.intro jF rv)))))
   obtain ⟨Vy, re, h⟩ := optI h yy
   try simp only [hs] at h
   simp only [vz, tyf, nV, (bY pW), eQ, eX, bM, bW, bH, bX, bF, bN, b9, nm, seval]
   refine ktA (Rg _ _ _ _ re) ?_
   refine b5 (fun tm => tm 0 = .sl (aa cGLp an) (List.length an) false ∧ tm 1 = .lit (.int .i64 aP) ∧ tm 5 = .lit (.int .i64 dc) ∧ tm 6 = .ptr (nU + 4) 0 ∧ tm 10 = .sl (aa cGLp an) (List.length an) false ∧ tm 11 = .lit (.int .i64 (List.length an : Int)) ∧ tm 12 = .lit (.int .i64 dc) ∧ tm 31 = .lit (.bool false) ∧ tm 34 = .lit (.bool Vy) ∧ True) (by refine ⟨eQ, eX, bM, bW, bH, bX, bF, ?_, ?_, trivial⟩ <;> first | (simp only [ua, nV, eQ, eX, bM, bW, bH, bX, bF, bN, b9, nm, seval] <;> rfl) | rfl) ?_
   rintro tm ⟨fD, fv, il, ll, fm, gx, cE, cF, cC, _⟩
   cases pL : (Vy)
   ·simp only [pL, hs] at h
    try simp only [vz, tyf, nV, (bY pW), fD, fv, il, ll, fm, gx, cE, cF, cC, pL, nm, seval]
    replace h := Ae _ h
    try dsimp only at h
    obtain rfl := kF _ h
    exact bz Tryz.results110 rfl
   simp only [pL, hs] at h
   simp only [vz, tyf, nV, (bY pW), fD, fv, il, ll, fm, gx, cE, cF, cC, pL, nm, seval]
   refine km (fun tm => tm 0 = .sl (aa cGLp an) (List.length an) false ∧ tm 1 = .lit (.int .i64 aP) ∧ tm 5 = .lit (.int .i64 dc) ∧ tm 6 = .ptr (nU + 4) 0 ∧ tm 10 = .sl (aa cGLp an) (List.length an) false ∧ tm 11 = .lit (.int .i64 (List.length an : Int)) ∧ tm 12 = .lit (.int .i64 dc) ∧ True) (by refine ⟨fD, fv, il, ll, fm, gx, cE, trivial⟩ <;> first | (simp only [ua, nV, fD, fv, il, ll, fm, gx, cE, cF, cC, pL, nm, seval] <;> rfl) | rfl) ?_
   rintro tm ⟨hJ, hT, kn, sX, gv, gG, ij, _⟩
   cases nR : (decide (dc > 0))
   ·simp only [nR, hs] at h
    simp only [vz, tyf, nV, (bY pW), pL, hJ, hT, kn, sX, gv, gG, ij, nR, nm, seval]
    exact ⟨List.length p9, qZc _, by rw [vR]; refine ⟨p9, dc + 1, rfl, Int.le_trans oR (Int.le_add_one (qZe _)), bK oR ru, rfl, (show 7 ≤ nU + 41 by omega), hJ, hT, gv, gG, ?_, (by first | exact h | (simp only [nV, pL, nR]; exact h))⟩ <;> first | (simp only [ua, nV, pL, hJ, hT, kn, sX, gv, gG, ij, nR, nm, seval] <;> rfl) | rfl⟩
   simp only [nR, hs] at h
   obtain ⟨x66, E9, h⟩ := optI h yy
   try simp only [hs] at h
   obtain ⟨vv, Co, h⟩ := optI h yy
   try simp only [hs] at h
   simp only [vz, tyf, nV, (bY pW), pL, hJ, hT, kn, sX, gv, gG, ij, nR, (bY E9), nm, seval]
   refine dktA (zir _ _ _ Co) ?_
   refine b5 (fun tm => tm 0 = .sl (aa cGLp an) (List.length an) false ∧ tm 1 = .lit (.int .i64 aP) ∧ tm 10 = .sl (aa cGLp an) (List.length an) false ∧ tm 11 = .lit (.int .i64 (List.length an : Int)) ∧ tm 12 = .lit (.int .i64 dc) ∧ tm 39 = .lit (.bool true) ∧ tm 46 = .lit (.int .i64 vv) ∧ True) (by refine ⟨hJ, hT, gv, gG, ij, ?_, ?_, trivial⟩ <;> first | (simp only [ua, nV, pL, hJ, hT, kn, sX, gv, gG, ij, nR, nm, seval] <;> rfl) | rfl) ?_
   rintro tm ⟨eZ, jB, jn, ld, j7, j8, gh, _⟩
   cases qZ : (decide (vv ≥ 0))
   ·simp only [qZ, hs] at h
    simp only [vz, tyf, nV, (bY pW), pL, nR, (bY E9), eZ, jB, jn, ld, j7, j8, gh, qZ, nm, seval]
    exact ⟨List.length p9, qZc _, by rw [vR]; refine ⟨p9, dc + 1, rfl, Int.le_trans oR (Int.le_add_one (qZe _)), bK oR ru, rfl, (show 7 ≤ nU + 41 by omega), eZ, jB, jn, ld, ?_, (by first | exact h | (simp only [nV, pL, nR, qZ]; exact h))⟩ <;> first | (simp only [ua, nV, pL, nR, eZ, jB, jn, ld, j7, j8, gh, qZ, nm, seval] <;> rfl) | rfl⟩
   simp only [qZ, hs] at h
   try simp only [vz, tyf, nV, (bY pW), pL, nR, (bY E9), eZ, jB, jn, ld, j7, j8, gh, qZ, nm, seval]
   replace h := Ae _ h
   try dsimp only at h
   obtain rfl := kF _ h
   exact bz Tryz.results110 rfl
 simp only [d8, hs] at h
 try simp only [vz, tyf, d8, nm, seval]
 obtain rfl := kF _ h
 exact bz Tryz.results110 rfl
def zW (ai : List Int) : List Int → Int → Option (LOut (Bool) (Unit))
 | [], gO => some (.go ())
 | e0 :: p0, gO => Option.bind (getI ai (i64.wrap (gO - 1))) (fun x1 => cond (decide (e0 ≤ x1)) (some (.ret false)) (zW ai p0 (gO + 1)))
def zX (aO : Int) (ai : List Int) (bg : Int) : Option (Bool) := cond (lenOk ai) (cond (leB 0 1) (lbind (zW ai (List.drop (Int.toNat 1) ai) 1) (fun r4 => some r4) (fun c2 => Option.bind (yq aO ai bg) (fun r3 => some r3)) (fun _ _ => none)) none) none
theorem Vv (aO : Int) (ai : List Int) (bg : Int) (R : Bool) (h : zX aO ai bg = some R) : ag Tryz.prog G0 149 [.lit (.int .i64 aO), .sl (aa eI ai) (List.length ai) false, .lit (.int .i64 bg)] (.tree (.lit (.bool R))) := by
 refine ag.runR mixed Tryz.call149 Tryz.func149 rfl (by simp [Tryz.ntmps149]; kernel_rfl) ?_
 obtain ⟨KF, h, kF, kN⟩ := eC h
 simp only [zX] at h
 cases g6 : (lenOk ai)
 ·simp only [g6, hs] at h
  exact absurd h kN
 simp only [g6, hs] at h
 cases g7 : (leB 0 1)
 ·simp only [g7, hs] at h
  exact absurd h kN
 simp only [g7, hs] at h
 simp only [vz, tyf, g6, g7, nm, seval]
 obtain ⟨K5, h, zm, v7, JT, sv⟩ := gp h kN
 obtain ⟨f5, xg, h⟩ := call2 h
 obtain ⟨I5, nM⟩ : ∃ I : Nat → St → Prop, I = (fun m st => ∃ (p5 : List Int) (eG : Int), m = List.length p5 ∧ 0 ≤ eG ∧ List.drop (Int.toNat eG) ai = p5 ∧ st.df = [] ∧ 2 ≤ st.nx ∧ st.tm 0 = .lit (.int .i64 aO) ∧ st.tm 1 = .sl (aa eI ai) (List.length ai) false ∧ st.tm 2 = .lit (.int .i64 bg) ∧ st.tm 7 = .lit (.int .i64 eG) ∧ K5 (f5 p5 eG)) := ⟨_, rfl⟩
 refine loopK mixed (by kernel_rfl) I5 (List.length (List.drop (Int.toNat 1) ai)) (by rw [nM]; refine ⟨List.drop (Int.toNat 1) ai, 1, rfl, of_decide_eq_true g7, rfl, rfl, (show 2 ≤ 2 by omega), ?_, ?_, ?_, ?_, h⟩ <;> first | (simp only [ua, nm, seval] <;> rfl) | rfl) ?_
 rintro m ⟨tm, H, nN, df⟩ hinv
 rw [nM] at hinv
 obtain ⟨p5, eG, rfl, hU, jf, hdf, xh, e8, e9, aW, bc, h⟩ := hinv
 simp only at hdf xh e8 e9 aW bc
 have jE := gq (m := 2) (b := nN) (by omega)
 subst hdf xg
 cases p5 with
 | nil =>
  have bD : (decide (eG < (List.length ai : Int))) = false := fy hU jf
  simp only [zW, hs, reduceCtorEq] at h
  replace h := v7 _ h
  try dsimp only at h
  try simp only [hs] at h
  obtain ⟨vP, pJ, h⟩ := optI h kN
  try simp only [hs] at h
  simp only [vz, tyf, g6, g7, jE, e8, e9, aW, bc, bD, nm, seval]
  refine ktA (Rf _ _ _ _ pJ) ?_
  refine b5 (fun tm => tm 27 = .lit (.bool vP) ∧ True) (by refine ⟨?_, trivial⟩ <;> first | (simp only [ua, jE, e8, e9, aW, bc, bD, nm, seval] <;> rfl) | rfl) ?_
  rintro tm ⟨de, _⟩
  try simp only [vz, tyf, g6, g7, jE, bD, de, nm, seval]
  obtain rfl := kF _ h
  exact bz Tryz.results149 rfl
 | cons e5 p5 =>
  have iG : (decide (eG < (List.length ai : Int))) = true := fz hU jf
  have qq := eg hU jf
  have uv := f2 hU jf g6
  simp only [zW, hs, reduceCtorEq] at h
  simp only [vz, tyf, g6, g7, jE, e8, e9, aW, bc, iG, (au qq), uv, nm, seval]
  refine km (fun tm => tm 0 = .lit (.int .i64 aO) ∧ tm 1 = .sl (aa eI ai) (List.length ai) false ∧ tm 2 = .lit (.int .i64 bg) ∧ tm 7 = .lit (.int .i64 eG) ∧ True) (by refine ⟨e8, e9, aW, bc, trivial⟩ <;> first | (simp only [ua, jE, e8, e9, aW, bc, iG, uv, nm, seval] <;> rfl) | rfl) ?_
  rintro tm ⟨ez, cn, bJ, cm, _⟩
  obtain ⟨x24, vS, h⟩ := optI h sv
  try simp only [hs] at h
  cases jW : (decide (e5 ≤ x24))
  ·simp only [jW, hs] at h
   simp only [vz, tyf, g6, g7, jE, iG, (au qq), uv, ez, cn, bJ, cm, (au vS), jW, nm, seval]
   exact ⟨List.length p5, qZc _, by rw [nM]; refine ⟨p5, eG + 1, rfl, Int.le_trans hU (Int.le_add_one (qZe _)), bK hU jf, rfl, (show 2 ≤ nN + 17 by omega), ez, cn, bJ, ?_, (by first | exact h | (simp only [iG, jW]; exact h))⟩ <;> first | (simp only [ua, jE, iG, uv, ez, cn, bJ, cm, jW, nm, seval] <;> rfl) | rfl⟩
  simp only [jW, hs] at h
  try simp only [vz, tyf, g6, g7, jE, iG, (au qq), uv, ez, cn, bJ, cm, (au vS), jW, nm, seval]
  replace h := zm _ h
  try dsimp only at h
  obtain rfl := kF _ h
  exact bz Tryz.results149 rfl
def zZ (aP : Int) : List GLw → Int → Option (LOut (Bool) (Unit))
 | [], j9 => some (.go ())
 | e0 :: p0, j9 => Option.bind (oW 1 (List.length e0.Signs : Int) 6) (fun r2 => cond (r2) (Option.bind (yq 0 e0.Signs (i64.wrap (aP - 1))) (fun r3 => cond (r3) (Option.bind (zX 1 e0.Cuts (i64.wrap ((List.length e0.Signs : Int) - 1))) (fun r4 => cond (r4) (zZ aP p0 (j9 + 1)) (some (.ret false)))) (some (.ret false)))) (some (.ret false)))
def E7 (aS : List GLw) (aP : Int) : Option (Bool) := Option.bind (oW 1 (List.length aS : Int) 4) (fun r1 => cond (r1) (cond (lenOk aS) (lbind (zZ aP aS 0) (fun r6 => some r6) (fun c5 => some true) (fun _ _ => none)) none) (some false))
theorem zkr (aS : List GLw) (aP : Int) (R : Bool) (h : E7 aS aP = some R) : ag Tryz.prog G0 113 [.sl (aa cGLw aS) (List.length aS) false, .lit (.int .i64 aP)] (.tree (.lit (.bool R))) := by
 refine ag.runR mixed Tryz.call113 Tryz.func113 rfl (by simp [Tryz.ntmps113]; kernel_rfl) ?_
 obtain ⟨KF, h, kF, kN⟩ := eC h
 simp only [E7] at h
 obtain ⟨r7, o8, h⟩ := optI h kN
 try simp only [hs] at h
 simp only [vz, tyf, nm, seval]
 refine ktA (tz _ _ _ _ o8) ?_
 refine b5 (fun tm => tm 0 = .sl (aa cGLw aS) (List.length aS) false ∧ tm 1 = .lit (.int .i64 aP) ∧ tm 10 = .lit (.bool r7) ∧ True) (by refine ⟨?_, ?_, ?_, trivial⟩ <;> first | (simp only [ua, nm, seval] <;> rfl) | rfl) ?_
 rintro tm ⟨e9, aW, bc, _⟩
 cases cl : (r7)
 ·simp only [cl, hs] at h
  try simp only [vz, tyf, e9, aW, bc, cl, nm, seval]
  obtain rfl := kF _ h
  exact bz Tryz.results113 rfl
 simp only [cl, hs] at h
 cases mQ : (lenOk aS)
 ·simp only [mQ, hs] at h
  exact absurd h kN
 simp only [mQ, hs] at h
 simp only [vz, tyf, e9, aW, bc, cl, mQ, nm, seval]
 obtain ⟨Rb, h, tf, yv, Rc, tg⟩ := gp h kN
 obtain ⟨Rd, yw, h⟩ := call2 h
 obtain ⟨Re, oP⟩ : ∃ I : Nat → St → Prop, I = (fun m st => ∃ (nB : List GLw) (fe : Int), m = List.length nB ∧ 0 ≤ fe ∧ List.drop (Int.toNat fe) aS = nB ∧ st.df = [] ∧ 8 ≤ st.nx ∧ st.tm 1 = .lit (.int .i64 aP) ∧ st.tm 12 = .sl (aa cGLw aS) (List.length aS) false ∧ st.tm 13 = .lit (.int .i64 (List.length aS : Int)) ∧ st.tm 14 = .lit (.int .i64 fe) ∧ Rb (Rd nB fe)) := ⟨_, rfl⟩
 refine loopK mixed (by kernel_rfl) Re (List.length aS) (by rw [oP]; refine ⟨aS, 0, rfl, qZe _, rfl, rfl, (show 8 ≤ 8 by omega), aW, ?_, ?_, ?_, h⟩ <;> first | (simp only [ua, e9, aW, bc, cl, nm, seval] <;> rfl) | rfl) ?_
 rintro m ⟨tm, H, oQ, df⟩ hinv
 rw [oP] at hinv
 obtain ⟨nB, fe, rfl, j1, kP, hdf, yx, bE, de, cH, bL, h⟩ := hinv
 simp only at hdf yx bE de cH bL
 have gw := gq (m := 8) (b := oQ) (by omega)
 subst hdf yw
 cases nB with
 | nil =>
  have cB : (decide (fe < (List.length aS : Int))) = false := fy j1 kP
  simp only [zZ, hs, reduceCtorEq] at h
  replace h := yv _ h
  try dsimp only at h
  try simp only [hs] at h
  try simp only [vz, tyf, cl, mQ, gw, bE, de, cH, bL, cB, nm, seval]
  obtain rfl := kF _ h
  exact bz Tryz.results113 rfl
 | cons bj nB =>
  have gj : (decide (fe < (List.length aS : Int))) = true := fz j1 kP
  have nG := eg j1 kP
  have sj := f2 j1 kP mQ
  simp only [zZ, hs, reduceCtorEq] at h
  obtain ⟨EA, vS, h⟩ := optI h tg
  try simp only [hs] at h
  simp only [vz, tyf, cl, mQ, gw, bE, de, cH, bL, gj, (aq nG), sj, nm, seval]
  refine ktA (tz _ _ _ _ vS) ?_
  refine b5 (fun tm => tm 1 = .lit (.int .i64 aP) ∧ tm 6 = .ptr (oQ + 3) 0 ∧ tm 7 = .lit (.int .i64 (List.length bj.Signs : Int)) ∧ tm 12 = .sl (aa cGLw aS) (List.length aS) false ∧ tm 13 = .lit (.int .i64 (List.length aS : Int)) ∧ tm 14 = .lit (.int .i64 fe) ∧ tm 22 = .lit (.bool EA) ∧ True) (by refine ⟨bE, ?_, ?_, de, cH, bL, ?_, trivial⟩ <;> first | (simp only [ua, cl, gw, bE, de, cH, bL, gj, sj, nm, seval] <;> rfl) | rfl) ?_
  rintro tm ⟨dI, dm, dJ, eW, bI, mF, oZ, _⟩
  cases y8 : (EA)
  ·simp only [y8, hs] at h
   try simp only [vz, tyf, cl, mQ, gw, gj, (aq nG), sj, dI, dm, dJ, eW, bI, mF, oZ, y8, nm, seval]
   replace h := tf _ h
   try dsimp only at h
   obtain rfl := kF _ h
   exact bz Tryz.results113 rfl
  simp only [y8, hs] at h
  obtain ⟨vu, Cn, h⟩ := optI h tg
  try simp only [hs] at h
  simp only [vz, tyf, cl, mQ, gw, gj, (aq nG), sj, dI, dm, dJ, eW, bI, mF, oZ, y8, nm, seval]
  refine ktA (Rf _ _ _ _ Cn) ?_
  refine b5 (fun tm => tm 1 = .lit (.int .i64 aP) ∧ tm 6 = .ptr (oQ + 3) 0 ∧ tm 7 = .lit (.int .i64 (List.length bj.Signs : Int)) ∧ tm 12 = .sl (aa cGLw aS) (List.length aS) false ∧ tm 13 = .lit (.int .i64 (List.length aS : Int)) ∧ tm 14 = .lit (.int .i64 fe) ∧ tm 24 = .lit (.bool false) ∧ tm 29 = .lit (.bool vu) ∧ True) (by refine ⟨dI, dm, dJ, eW, bI, mF, ?_, ?_, trivial⟩ <;> first | (simp only [ua, cl, gw, gj, sj, dI, dm, dJ, eW, bI, mF, oZ, y8, nm, seval] <;> rfl) | rfl) ?_
  rintro tm ⟨bM, bW, bH, bX, bF, bN, b9, cq, _⟩
  cases rb : (vu)
  ·simp only [rb, hs] at h
   have nV := And.intro cl (And.intro mQ (And.intro gw (And.intro gj (And.intro sj (And.intro y8 rb)))))
   try simp only [vz, tyf, nV, (aq nG), bM, bW, bH, bX, bF, bN, b9, cq, nm, seval]
   replace h := tf _ h
   try dsimp only at h
   obtain rfl := kF _ h
   exact bz Tryz.results113 rfl
  simp only [rb, hs] at h
  have Af := And.intro cl (And.intro mQ (And.intro gw (And.intro gj (And.intro sj (And.intro y8 rb)))))
  obtain ⟨Vz, Ag, h⟩ := optI h tg
  try simp only [hs] at h
  simp only [vz, tyf, Af, (aq nG), bM, bW, bH, bX, bF, bN, b9, cq, nm, seval]
  refine ktA (Vv _ _ _ _ Ag) ?_
  refine b5 (fun tm => tm 1 = .lit (.int .i64 aP) ∧ tm 12 = .sl (aa cGLw aS) (List.length aS) false ∧ tm 13 = .lit (.int .i64 (List.length aS : Int)) ∧ tm 14 = .lit (.int .i64 fe) ∧ tm 32 = .lit (.bool false) ∧ tm 37 = .lit (.bool Vz) ∧ True) (by refine ⟨bM, bX, bF, bN, ?_, ?_, trivial⟩ <;> first | (simp only [ua, Af, bM, bW, bH, bX, bF, bN, b9, cq, nm, seval] <;> rfl) | rfl) ?_
  rintro tm ⟨fv, il, ll, fm, gx, cE, _⟩
  cases Ah : (Vz)
  ·simp only [Ah, hs] at h
   try simp only [vz, tyf, Af, (aq nG), fv, il, ll, fm, gx, cE, Ah, nm, seval]
   replace h := tf _ h
   try dsimp only at h
   obtain rfl := kF _ h
   exact bz Tryz.results113 rfl
  simp only [Ah, hs] at h
  simp only [vz, tyf, Af, (aq nG), fv, il, ll, fm, gx, cE, Ah, nm, seval]
  exact ⟨List.length nB, qZc _, by rw [oP]; refine ⟨nB, fe + 1, rfl, Int.le_trans j1 (Int.le_add_one (qZe _)), bK j1 kP, rfl, (show 8 ≤ oQ + 30 by omega), fv, il, ll, ?_, (by first | exact h | (simp only [Af, Ah]; exact h))⟩ <;> first | (simp only [ua, Af, fv, il, ll, fm, gx, cE, Ah, nm, seval] <;> rfl) | rfl⟩
def zp (ad : GLs) : Option (Bool) := Option.bind (E6 ad.Widths) (fun r1 => cond (r1) (Option.bind (E5 ad.Pairs (List.length ad.Widths : Int)) (fun r2 => cond (r2) (Option.bind (yo 0 ad.Other 9) (fun r3 => cond (r3) (Option.bind (yo 0 ad.Gap 20) (fun r4 => cond (r4) (Option.bind (oW 1 ad.Hyphen 20) (fun r5 => cond (r5) (Option.bind (E7 ad.Words (List.length ad.Widths : Int)) (fun r6 => cond (r6) (Option.bind (oW 1 ad.Wide 400) (fun r7 => cond (r7) (Option.bind (oW 1 ad.Rows 3) (fun r8 => some r8)) (some false))) (some false))) (some false))) (some false))) (some false))) (some false))) (some false))
theorem TK (ad : GLs) (R : Bool) (h : zp ad = some R) : ag Tryz.prog G0 68 [.agg (cGLs ad)] (.tree (.lit (.bool R))) := by
 refine ag.runR mixed Tryz.call68 Tryz.func68 rfl (by simp [Tryz.ntmps68]; kernel_rfl) ?_
 obtain ⟨KF, h, kF, kN⟩ := eC h
 simp only [zp] at h
 obtain ⟨r9, Rk, h⟩ := optI h kN
 try simp only [hs] at h
 simp only [vz, tyf, nm, seval]
 refine ktA (zka _ _ Rk) ?_
 refine b5 (fun tm => tm 1 = .ptr 0 0 ∧ tm 5 = .lit (.bool r9) ∧ True) (by refine ⟨?_, ?_, trivial⟩ <;> first | (simp only [ua, nm, seval] <;> rfl) | rfl) ?_
 rintro tm ⟨bc, bu, _⟩
 cases bD : (r9)
 ·simp only [bD, hs] at h
  try simp only [vz, tyf, bc, bu, bD, nm, seval]
  obtain rfl := kF _ h
  exact bz Tryz.results68 rfl
 simp only [bD, hs] at h
 obtain ⟨vP, pJ, h⟩ := optI h kN
 try simp only [hs] at h
 simp only [vz, tyf, bc, bu, bD, nm, seval]
 refine ktA (zkn _ _ _ pJ) ?_
 refine b5 (fun tm => tm 1 = .ptr 0 0 ∧ tm 6 = .lit (.bool true) ∧ tm 12 = .lit (.bool vP) ∧ True) (by refine ⟨bc, ?_, ?_, trivial⟩ <;> first | (simp only [ua, bc, bu, bD, nm, seval] <;> rfl) | rfl) ?_
 rintro tm ⟨de, cH, bL, _⟩
 cases hD : (vP)
 ·simp only [hD, hs] at h
  try simp only [vz, tyf, bD, de, cH, bL, hD, nm, seval]
  obtain rfl := kF _ h
  exact bz Tryz.results68 rfl
 simp only [hD, hs] at h
 obtain ⟨vk, kj, h⟩ := optI h kN
 try simp only [hs] at h
 simp only [vz, tyf, bD, de, cH, bL, hD, nm, seval]
 refine ktA (Rg _ _ _ _ kj) ?_
 refine b5 (fun tm => tm 1 = .ptr 0 0 ∧ tm 14 = .lit (.bool true) ∧ tm 17 = .lit (.bool vk) ∧ True) (by refine ⟨de, ?_, ?_, trivial⟩ <;> first | (simp only [ua, bD, de, cH, bL, hD, nm, seval] <;> rfl) | rfl) ?_
 rintro tm ⟨bJ, cm, cu, _⟩
 cases jJ : (vk)
 ·simp only [jJ, hs] at h
  try simp only [vz, tyf, bD, hD, bJ, cm, cu, jJ, nm, seval]
  obtain rfl := kF _ h
  exact bz Tryz.results68 rfl
 simp only [jJ, hs] at h
 obtain ⟨Gq, Rl, h⟩ := optI h kN
 try simp only [hs] at h
 simp only [vz, tyf, bD, hD, bJ, cm, cu, jJ, nm, seval]
 refine ktA (Rg _ _ _ _ Rl) ?_
 refine b5 (fun tm => tm 1 = .ptr 0 0 ∧ tm 19 = .lit (.bool true) ∧ tm 22 = .lit (.bool Gq) ∧ True) (by refine ⟨bJ, ?_, ?_, trivial⟩ <;> first | (simp only [ua, bD, hD, bJ, cm, cu, jJ, nm, seval] <;> rfl) | rfl) ?_
 rintro tm ⟨dJ, eW, bI, _⟩
 cases jF : (Gq)
 ·simp only [jF, hs] at h
  try simp only [vz, tyf, bD, hD, jJ, dJ, eW, bI, jF, nm, seval]
  obtain rfl := kF _ h
  exact bz Tryz.results68 rfl
 simp only [jF, hs] at h
 obtain ⟨oo, wM, h⟩ := optI h kN
 try simp only [hs] at h
 simp only [vz, tyf, bD, hD, jJ, dJ, eW, bI, jF, nm, seval]
 refine ktA (tz _ _ _ _ wM) ?_
 refine b5 (fun tm => tm 1 = .ptr 0 0 ∧ tm 24 = .lit (.bool true) ∧ tm 27 = .lit (.bool oo) ∧ True) (by refine ⟨dJ, ?_, ?_, trivial⟩ <;> first | (simp only [ua, bD, hD, jJ, dJ, eW, bI, jF, nm, seval] <;> rfl) | rfl) ?_
 rintro tm ⟨eQ, eX, bM, _⟩
 cases tF : (oo)
 ·simp only [tF, hs] at h
  try simp only [vz, tyf, bD, hD, jJ, jF, eQ, eX, bM, tF, nm, seval]
  obtain rfl := kF _ h
  exact bz Tryz.results68 rfl
 simp only [tF, hs] at h
 obtain ⟨D4, Mr, h⟩ := optI h kN
 try simp only [hs] at h
 simp only [vz, tyf, bD, hD, jJ, jF, eQ, eX, bM, tF, nm, seval]
 refine ktA (zkr _ _ _ Mr) ?_
 refine b5 (fun tm => tm 1 = .ptr 0 0 ∧ tm 29 = .lit (.bool true) ∧ tm 35 = .lit (.bool D4) ∧ True) (by refine ⟨eQ, ?_, ?_, trivial⟩ <;> first | (simp only [ua, bD, hD, jJ, jF, eQ, eX, bM, tF, nm, seval] <;> rfl) | rfl) ?_
 rintro tm ⟨bF, bN, b9, _⟩
 cases rv : (D4)
 ·simp only [rv, hs] at h
  try simp only [vz, tyf, bD, hD, jJ, jF, tF, bF, bN, b9, rv, nm, seval]
  obtain rfl := kF _ h
  exact bz Tryz.results68 rfl
 simp only [rv, hs] at h
 obtain ⟨V0, o45, h⟩ := optI h kN
 try simp only [hs] at h
 simp only [vz, tyf, bD, hD, jJ, jF, tF, bF, bN, b9, rv, nm, seval]
 refine ktA (tz _ _ _ _ o45) ?_
 refine b5 (fun tm => tm 1 = .ptr 0 0 ∧ tm 37 = .lit (.bool true) ∧ tm 40 = .lit (.bool V0) ∧ True) (by refine ⟨bF, ?_, ?_, trivial⟩ <;> first | (simp only [ua, bD, hD, jJ, jF, tF, bF, bN, b9, rv, nm, seval] <;> rfl) | rfl) ?_
 rintro tm ⟨fC, gM, fD, _⟩
 cases l5 : (V0)
 ·simp only [l5, hs] at h
  have b50 := And.intro bD (And.intro hD (And.intro jJ (And.intro jF (And.intro tF (And.intro rv l5)))))
  try simp only [vz, tyf, b50, fC, gM, fD, nm, seval]
  obtain rfl := kF _ h
  exact bz Tryz.results68 rfl
 simp only [l5, hs] at h
 have iX := And.intro bD (And.intro hD (And.intro jJ (And.intro jF (And.intro tF (And.intro rv l5)))))
 obtain ⟨eT, tY, h⟩ := optI h kN
 try simp only [hs] at h
 simp only [vz, tyf, iX, fC, gM, fD, nm, seval]
 refine ktA (tz _ _ _ _ tY) ?_
 refine b5 (fun tm => tm 42 = .lit (.bool true) ∧ tm 45 = .lit (.bool eT) ∧ True) (by refine ⟨?_, ?_, trivial⟩ <;> first | (simp only [ua, iX, fC, gM, fD, nm, seval] <;> rfl) | rfl) ?_
 rintro tm ⟨cE, cF, _⟩
 try simp only [vz, tyf, iX, cE, cF, nm, seval]
 obtain rfl := kF _ h
 exact bz Tryz.results68 rfl
def mO (fE : Int) (kQ : Int) (jZ : Int) : Option (Bool) := cond (decide (fE ≥ kQ)) (some (decide (fE ≤ jZ))) (some false)
theorem pf (fE : Int) (kQ : Int) (jZ : Int) (R : Bool) (h : mO fE kQ jZ = some R) : ag Tryz.prog G0 73 [.lit (.int .i64 fE), .lit (.int .i64 kQ), .lit (.int .i64 jZ)] (.tree (.lit (.bool R))) := by
 refine ag.runR mixed Tryz.call73 Tryz.func73 rfl (by simp [Tryz.ntmps73]; kernel_rfl) ?_
 obtain ⟨KF, h, kF, kN⟩ := eC h
 simp only [mO] at h
 cases d1 : (decide (fE ≥ kQ))
 ·simp only [d1, hs] at h
  try simp only [vz, tyf, d1, nm, seval]
  obtain rfl := kF _ h
  exact bz Tryz.results73 rfl
 simp only [d1, hs] at h
 try simp only [vz, tyf, d1, nm, seval]
 obtain rfl := kF _ h
 exact bz Tryz.results73 rfl
def yu (ad : GLs) (fx : Int) : Option (Bool) := Option.bind (mO fx 0 (i64.wrap ((List.length ad.Widths : Int) - 1))) (fun r1 => some r1)
theorem Rm (ad : GLs) (fx : Int) (R : Bool) (h : yu ad fx = some R) : ag Tryz.prog G0 119 [.agg (cGLs ad), .lit (.int .i64 fx)] (.tree (.lit (.bool R))) := by
 refine ag.runR mixed Tryz.call119 Tryz.func119 rfl (by simp [Tryz.ntmps119]; kernel_rfl) ?_
 obtain ⟨KF, h, kF, kN⟩ := eC h
 simp only [yu] at h
 obtain ⟨r2, o3, h⟩ := optI h kN
 try simp only [hs] at h
 simp only [vz, tyf, nm, seval]
 refine ktA (pf _ _ _ _ o3) ?_
 refine b5 (fun tm => tm 10 = .lit (.bool r2) ∧ True) (by refine ⟨?_, trivial⟩ <;> first | (simp only [ua, nm, seval] <;> rfl) | rfl) ?_
 rintro tm ⟨e4, _⟩
 try simp only [vz, tyf, e4, nm, seval]
 obtain rfl := kF _ h
 exact bz Tryz.results119 rfl
def uO (dt : GLw) : List Int → Int → Option (LOut (Bool) (Unit))
 | [], tk => some (.go ())
 | e1 :: p1, tk => Option.bind (mO e1 1 (i64.wrap ((List.length dt.Signs : Int) - 1))) (fun r3 => cond (r3) (cond (decide (tk > 0)) (Option.bind (getI dt.Cuts (i64.wrap (tk - 1))) (fun x4 => cond (decide (e1 ≤ x4)) (some (.ret false)) (uO dt p1 (tk + 1)))) (uO dt p1 (tk + 1))) (some (.ret false)))
def zY (ad : GLs) : List Int → Int → Option (LOut (Bool) (Unit))
 | [], bB => some (.go ())
 | e0 :: p0, bB => Option.bind (yu ad e0) (fun r1 => cond (r1) (zY ad p0 (bB + 1)) (some (.ret false)))
def Et (ad : GLs) (dt : GLw) : Option (Bool) := cond (lenOk dt.Signs) (lbind (zY ad dt.Signs 0) (fun r8 => some r8) (fun c2 => cond (lenOk dt.Cuts) (lbind (uO dt dt.Cuts 0) (fun r7 => some r7) (fun c5 => Option.bind (mO (List.length dt.Signs : Int) 1 6) (fun r6 => some r6)) (fun _ _ => none)) none) (fun _ _ => none)) none
theorem ZJ (ad : GLs) (dt : GLw) (R : Bool) (h : Et ad dt = some R) : ag Tryz.prog G0 74 [.agg (cGLs ad), .agg (cGLw dt)] (.tree (.lit (.bool R))) := by
 refine ag.runR mixed Tryz.call74 Tryz.func74 rfl (by simp [Tryz.ntmps74]; kernel_rfl) ?_
 obtain ⟨KF, h, kF, kN⟩ := eC h
 simp only [Et] at h
 cases jY : (lenOk dt.Signs)
 ·simp only [jY, hs] at h
  exact absurd h kN
 simp only [jY, hs] at h
 simp only [vz, tyf, jY, nm, seval]
 obtain ⟨K9, h, Ae, Rh, kB9, yy⟩ := gp h kN
 obtain ⟨f9, Ri, h⟩ := call2 h
 obtain ⟨I9, vR⟩ : ∃ I : Nat → St → Prop, I = (fun m st => ∃ (p9 : List Int) (l9 : Int), m = List.length p9 ∧ 0 ≤ l9 ∧ List.drop (Int.toNat l9) dt.Signs = p9 ∧ st.df = [] ∧ 4 ≤ st.nx ∧ st.H 0 = some (.cells (some 28) (cGLs ad)) ∧ st.H 1 = some (.cells (some 79) (cGLw dt)) ∧ st.tm 2 = .ptr 0 0 ∧ st.tm 3 = .ptr 1 0 ∧ st.tm 5 = .lit (.int .i64 l9) ∧ K9 (f9 p9 l9)) := ⟨_, rfl⟩
 refine loopK mixed (by kernel_rfl) I9 (List.length dt.Signs) (by rw [vR]; refine ⟨dt.Signs, 0, rfl, qZe _, rfl, rfl, (show 4 ≤ 4 by omega), ?_, ?_, ?_, ?_, ?_, h⟩ <;> first | (simp only [ua, nm, seval] <;> rfl) | rfl) ?_
 rintro m ⟨tm, H, nU, df⟩ hinv
 rw [vR] at hinv
 obtain ⟨p9, l9, rfl, oR, ru, hdf, Rj, lW, lX, bj, bn, bE, h⟩ := hinv
 simp only at hdf Rj lW lX bj bn bE
 have dr := gq (m := 4) (b := nU) (by omega)
 subst hdf Ri
 cases p9 with
 | nil =>
  have iG : (decide (l9 < (List.length dt.Signs : Int))) = false := fy oR ru
  simp only [zY, hs, reduceCtorEq] at h
  replace h := Rh _ h
  try dsimp only at h
  try simp only [hs] at h
  cases vT : (lenOk dt.Cuts)
  ·simp only [vT, hs] at h
   exact absurd h kN
  simp only [vT, hs] at h
  simp only [vz, tyf, jY, dr, bj, bn, bE, lW, lX, iG, vT, nm, seval]
  obtain ⟨K18, h, EB, Rn, kB18, EC⟩ := gp h kN
  obtain ⟨f18, Ro, h⟩ := call2 h
  obtain ⟨I18, uQ⟩ : ∃ I : Nat → St → Prop, I = (fun m st => ∃ (tG : List Int) (gm : Int), m = List.length tG ∧ 0 ≤ gm ∧ List.drop (Int.toNat gm) dt.Cuts = tG ∧ st.df = [] ∧ nU + 6 ≤ st.nx ∧ st.H 1 = some (.cells (some 79) (cGLw dt)) ∧ st.tm 3 = .ptr 1 0 ∧ st.tm 6 = .lit (.int .i64 gm) ∧ K18 (f18 tG gm)) := ⟨_, rfl⟩
  refine loopK mixed (by kernel_rfl) I18 (List.length dt.Cuts) (by rw [uQ]; refine ⟨dt.Cuts, 0, rfl, qZe _, rfl, rfl, (show nU + 6 ≤ nU + 6 by omega), ?_, bn, ?_, h⟩ <;> first | (simp only [ua, dr, bj, bn, bE, lW, lX, iG, nm, seval] <;> rfl) | rfl) ?_
  rintro m ⟨tm, H, uR, df⟩ hinv
  rw [uQ] at hinv
  obtain ⟨tG, gm, rfl, nC, qQ, hdf, Rq, lJ, cn, bJ, h⟩ := hinv
  simp only at hdf Rq lJ cn bJ
  have Ai := gq (m := 4) (b := uR) (by omega)
  have Aj := u2 (a := nU) (m := 6) (b := uR) (by omega)
  subst hdf Ro
  cases tG with
  | nil =>
   have jJ : (decide (gm < (List.length dt.Cuts : Int))) = false := fy nC qQ
   simp only [uO, hs, reduceCtorEq] at h
   replace h := Rn _ h
   try dsimp only at h
   try simp only [hs] at h
   obtain ⟨Gq, Rl, h⟩ := optI h kN
   try simp only [hs] at h
   simp only [vz, tyf, jY, dr, iG, vT, Ai, Aj, cn, bJ, lJ, jJ, nm, seval]
   refine ktA (pf _ _ _ _ Rl) ?_
   refine b5 (fun tm => tm 61 = .lit (.bool Gq) ∧ True) (by refine ⟨?_, trivial⟩ <;> first | (simp only [ua, dr, iG, Ai, Aj, cn, bJ, lJ, jJ, nm, seval] <;> rfl) | rfl) ?_
   rintro tm ⟨dJ, _⟩
   have Ac := And.intro jY (And.intro dr (And.intro iG (And.intro vT (And.intro Ai (And.intro Aj (And.intro lJ jJ))))))
   try simp only [vz, tyf, Ac, dJ, nm, seval]
   obtain rfl := kF _ h
   exact bz Tryz.results74 rfl
  | cons bL tG =>
   have ym : (decide (gm < (List.length dt.Cuts : Int))) = true := fz nC qQ
   have rj := eg nC qQ
   have Rr := f2 nC qQ vT
   simp only [uO, hs, reduceCtorEq] at h
   simp only [vz, tyf, jY, dr, iG, vT, Ai, Aj, cn, bJ, lJ, ym, (au rj), Rr, nm, seval]
   refine km (fun tm => tm 3 = .ptr 1 0 ∧ tm 6 = .lit (.int .i64 gm) ∧ True) (by refine ⟨cn, bJ, trivial⟩ <;> first | (simp only [ua, dr, iG, Ai, Aj, cn, bJ, lJ, ym, Rr, nm, seval] <;> rfl) | rfl) ?_
   rintro tm ⟨fA, eQ, _⟩
   have tH := And.intro jY (And.intro dr (And.intro iG (And.intro vT (And.intro Ai (And.intro Aj (And.intro lJ (And.intro ym Rr)))))))
   obtain ⟨Ew, QK, h⟩ := optI h EC
   try simp only [hs] at h
   simp only [vz, tyf, tH, (au rj), fA, eQ, nm, seval]
   refine dktA (pf _ _ _ _ QK) ?_
   refine b5 (fun tm => tm 3 = .ptr 1 0 ∧ tm 6 = .lit (.int .i64 gm) ∧ tm 38 = .lit (.bool Ew) ∧ True) (by refine ⟨fA, eQ, ?_, trivial⟩ <;> first | (simp only [ua, tH, fA, eQ, nm, seval] <;> rfl) | rfl) ?_
   rintro tm ⟨bH, bX, bF, _⟩
   cases eU : (Ew)
   ·simp only [eU, hs] at h
    try simp only [vz, tyf, tH, (au rj), bH, bX, bF, eU, nm, seval]
    replace h := EB _ h
    try dsimp only at h
    obtain rfl := kF _ h
    exact bz Tryz.results74 rfl
   simp only [eU, hs] at h
   cases uS : (decide (gm > 0))
   ·simp only [uS, hs] at h
    simp only [vz, tyf, tH, (au rj), bH, bX, bF, eU, uS, nm, seval]
    exact ⟨List.length tG, qZc _, by rw [uQ]; refine ⟨tG, gm + 1, rfl, Int.le_trans nC (Int.le_add_one (qZe _)), bK nC qQ, rfl, (show nU + 6 ≤ uR + 37 by omega), ?_, bH, ?_, (by first | exact h | (simp only [tH, eU, uS]; exact h))⟩ <;> first | (simp only [ua, tH, bH, bX, bF, eU, uS, nm, seval] <;> rfl) | rfl⟩
   simp only [uS, hs] at h
   obtain ⟨SU, wN, h⟩ := optI h EC
   try simp only [hs] at h
   cases iE : (decide (bL ≤ SU))
   ·simp only [iE, hs] at h
    simp only [vz, tyf, tH, (au rj), bH, bX, bF, eU, uS, (au wN), iE, nm, seval]
    exact ⟨List.length tG, qZc _, by rw [uQ]; refine ⟨tG, gm + 1, rfl, Int.le_trans nC (Int.le_add_one (qZe _)), bK nC qQ, rfl, (show nU + 6 ≤ uR + 37 by omega), ?_, bH, ?_, (by first | exact h | (simp only [tH, eU, uS, iE]; exact h))⟩ <;> first | (simp only [ua, tH, bH, bX, bF, eU, uS, iE, nm, seval] <;> rfl) | rfl⟩
   simp only [iE, hs] at h
   try simp only [vz, tyf, tH, (au rj), bH, bX, bF, eU, uS, (au wN), iE, nm, seval]
   replace h := EB _ h
   try dsimp only at h
   obtain rfl := kF _ h
   exact bz Tryz.results74 rfl
 | cons e9 p9 =>
  have Ak : (decide (l9 < (List.length dt.Signs : Int))) = true := fz oR ru
  have Ag := eg oR ru
  have t6 := f2 oR ru jY
  simp only [zY, hs, reduceCtorEq] at h
  simp only [vz, tyf, jY, dr, bj, bn, bE, lW, lX, Ak, (au Ag), t6, nm, seval]
  refine km (fun tm => tm 2 = .ptr 0 0 ∧ tm 3 = .ptr 1 0 ∧ tm 5 = .lit (.int .i64 l9) ∧ True) (by refine ⟨bj, bn, bE, trivial⟩ <;> first | (simp only [ua, dr, bj, bn, bE, lW, lX, Ak, t6, nm, seval] <;> rfl) | rfl) ?_
  rintro tm ⟨fv, il, ll, _⟩
  obtain ⟨eT, tY, h⟩ := optI h yy
  try simp only [hs] at h
  simp only [vz, tyf, jY, dr, lW, lX, Ak, (au Ag), t6, fv, il, ll, nm, seval]
  refine dktA (Rm _ _ _ tY) ?_
  refine b5 (fun tm => tm 2 = .ptr 0 0 ∧ tm 3 = .ptr 1 0 ∧ tm 5 = .lit (.int .i64 l9) ∧ tm 20 = .lit (.bool eT) ∧ True) (by refine ⟨fv, il, ll, ?_, trivial⟩ <;> first | (simp only [ua, dr, lW, lX, Ak, t6, fv, il, ll, nm, seval] <;> rfl) | rfl) ?_
  rintro tm ⟨cE, cF, cC, cG, _⟩
  cases kl : (eT)
  ·simp only [kl, hs] at h
   have b59 := And.intro jY (And.intro dr (And.intro lW (And.intro lX (And.intro Ak (And.intro t6 kl)))))
   try simp only [vz, tyf, b59, (au Ag), cE, cF, cC, cG, nm, seval]
   replace h := Ae _ h
   try dsimp only at h
   obtain rfl := kF _ h
   exact bz Tryz.results74 rfl
  simp only [kl, hs] at h
  have Rs := And.intro jY (And.intro dr (And.intro lW (And.intro lX (And.intro Ak (And.intro t6 kl)))))
  simp only [vz, tyf, Rs, (au Ag), cE, cF, cC, cG, nm, seval]
  exact ⟨List.length p9, qZc _, by rw [vR]; refine ⟨p9, l9 + 1, rfl, Int.le_trans oR (Int.le_add_one (qZe _)), bK oR ru, rfl, (show 4 ≤ nU + 16 by omega), ?_, ?_, cE, cF, ?_, (by first | exact h | (simp only [Rs]; exact h))⟩ <;> first | (simp only [ua, Rs, cE, cF, cC, cG, nm, seval] <;> rfl) | rfl⟩
def ye (ad : GSpan) (hO : Int) : Option (Bool) := Option.bind (mO ad.Low 0 hO) (fun r1 => cond (r1) (Option.bind (mO ad.High ad.Low hO) (fun r2 => some r2)) (some false))
theorem QL (ad : GSpan) (hO : Int) (R : Bool) (h : ye ad hO = some R) : ag Tryz.prog G0 76 [.agg (cGSpan ad), .lit (.int .i64 hO)] (.tree (.lit (.bool R))) := by
 refine ag.runR mixed Tryz.call76 Tryz.func76 rfl (by simp [Tryz.ntmps76]; kernel_rfl) ?_
 obtain ⟨KF, h, kF, kN⟩ := eC h
 simp only [ye] at h
 obtain ⟨r3, o4, h⟩ := optI h kN
 try simp only [hs] at h
 simp only [vz, tyf, nm, seval]
 refine ktA (pf _ _ _ _ o4) ?_
 refine b5 (fun tm => tm 1 = .lit (.int .i64 hO) ∧ tm 2 = .ptr 0 0 ∧ tm 8 = .lit (.bool r3) ∧ True) (by refine ⟨?_, ?_, ?_, trivial⟩ <;> first | (simp only [ua, nm, seval] <;> rfl) | rfl) ?_
 rintro tm ⟨e5, e6, e7, _⟩
 cases d8 : (r3)
 ·simp only [d8, hs] at h
  try simp only [vz, tyf, e5, e6, e7, d8, nm, seval]
  obtain rfl := kF _ h
  exact bz Tryz.results76 rfl
 simp only [d8, hs] at h
 obtain ⟨r9, Rk, h⟩ := optI h kN
 try simp only [hs] at h
 simp only [vz, tyf, e5, e6, e7, d8, nm, seval]
 refine ktA (pf _ _ _ _ Rk) ?_
 refine b5 (fun tm => tm 9 = .lit (.bool true) ∧ tm 15 = .lit (.bool r9) ∧ True) (by refine ⟨?_, ?_, trivial⟩ <;> first | (simp only [ua, e5, e6, e7, d8, nm, seval] <;> rfl) | rfl) ?_
 rintro tm ⟨bc, bu, _⟩
 try simp only [vz, tyf, d8, bc, bu, nm, seval]
 obtain rfl := kF _ h
 exact bz Tryz.results76 rfl
theorem ag.runRQ {P : Program} {G : Glob} (hm : P.follows .mixedOrders = true) {f : FuncId} {fn : Func} {code : Code} {args : List VV} {r : PRes} (hc : Callable P f) (hf : P.funcs[f]? = some fn) (hb : fn.body = some code)
  (hst : (decide (args.length ≤ fn.ntmps) && codeQ fn.ntmps code) = true) (h : CWp P (G.at (some none)) fn.ntmps code (OpenPostD P G fn (RR r) (RPn r)) { tm := argsTm args, H := fun _ => none, nx := 0, df := [] }) : ag P G f args r := by
 rw [Bool.and_eq_true] at hst
 exact ag.runR hm hc hf hb (by rw [Bool.and_eq_true]; exact ⟨hst.1, qN hst.2⟩) h
def tE (ad : GLs) : List GLp → Int → Option (LOut (Bool) (Unit))
 | [], gJ => some (.go ())
 | e0 :: p0, gJ => Option.bind (yu ad e0.Left) (fun r1 => cond (r1) (Option.bind (yu ad e0.Right) (fun r2 => cond (r2) (Option.bind (ye e0.Space 9) (fun r3 => cond (r3) (cond (decide (gJ > 0)) (Option.bind (getI ad.Pairs (i64.wrap (gJ - 1))) (fun x4 => cond (decide (x4.Left > e0.Left)) (some (.ret false)) (cond (x4.Left == e0.Left) (cond (decide (x4.Right ≥ e0.Right)) (some (.ret false)) (tE ad p0 (gJ + 1))) (tE ad p0 (gJ + 1))))) (tE ad p0 (gJ + 1))) (some (.ret false)))) (some (.ret false)))) (some (.ret false)))
def Eu (ad : GLs) : Option (Bool) := cond (lenOk ad.Pairs) (lbind (tE ad ad.Pairs 0) (fun r6 => some r6) (fun c5 => some (decide ((List.length ad.Pairs : Int) ≤ 6))) (fun _ _ => none)) none
theorem ZB (ad : GLs) (R : Bool) (h : Eu ad = some R) : ag Tryz.prog G0 75 [.agg (cGLs ad)] (.tree (.lit (.bool R))) := by
 refine ag.runRQ mixed Tryz.call75 Tryz.func75 rfl (by simp [Tryz.ntmps75]; kernel_rfl) ?_
 obtain ⟨KF, h, kF, kN⟩ := eC h
 simp only [Eu] at h
 cases g8 : (lenOk ad.Pairs)
 ·simp only [g8, hs] at h
  exact absurd h kN
 simp only [g8, hs] at h
 simp only [vz, tyf, g8, nm, seval]
 obtain ⟨K7, h, zc, F2, Wr, nd⟩ := gp h kN
 obtain ⟨f7, JA, h⟩ := call2 h
 obtain ⟨I7, qY⟩ : ∃ I : Nat → St → Prop, I = (fun m st => ∃ (p7 : List GLp) (iC : Int), m = List.length p7 ∧ 0 ≤ iC ∧ List.drop (Int.toNat iC) ad.Pairs = p7 ∧ st.df = [] ∧ 3 ≤ st.nx ∧ st.H 0 = some (.cells (some 28) (cGLs ad)) ∧ st.tm 1 = .ptr 0 0 ∧ st.tm 3 = .lit (.int .i64 iC) ∧ K7 (f7 p7 iC)) := ⟨_, rfl⟩
 refine loopK mixed (qN (by kernel_rfl)) I7 (List.length ad.Pairs) (by rw [qY]; refine ⟨ad.Pairs, 0, rfl, qZe _, rfl, rfl, (show 3 ≤ 3 by omega), ?_, ?_, ?_, h⟩ <;> first | (simp only [ua, nm, seval] <;> rfl) | rfl) ?_
 rintro m ⟨tm, H, ik, df⟩ hinv
 rw [qY] at hinv
 obtain ⟨p7, iC, rfl, jm, lH, hdf, JB, H9, aW, bc, h⟩ := hinv
 simp only at hdf JB H9 aW bc
 have jE := gq (m := 3) (b := ik) (by omega)
 subst hdf JA
 cases p7 with
 | nil =>
  have bD : (decide (iC < (List.length ad.Pairs : Int))) = false := fy jm lH
  simp only [tE, hs, reduceCtorEq] at h
  replace h := F2 _ h
  try dsimp only at h
  try simp only [hs] at h
  try simp only [vz, tyf, g8, jE, aW, bc, H9, bD, nm, seval]
  obtain rfl := kF _ h
  exact bz Tryz.results75 rfl
 | cons e7 p7 =>
  have bV : (decide (iC < (List.length ad.Pairs : Int))) = true := fz jm lH
  have jX := eg jm lH
  have oN := f2 jm lH g8
  simp only [tE, hs, reduceCtorEq] at h
  obtain ⟨xO, D3, h⟩ := optI h nd
  try simp only [hs] at h
  simp only [vz, tyf, g8, jE, aW, bc, H9, bV, (bY jX), oN, nm, seval]
  refine ktA (Rm _ _ _ D3) ?_
  refine b5 (fun tm => tm 1 = .ptr 0 0 ∧ tm 3 = .lit (.int .i64 iC) ∧ tm 4 = .ptr (ik + 10) 0 ∧ tm 20 = .lit (.bool xO) ∧ True) (by refine ⟨aW, bc, ?_, ?_, trivial⟩ <;> first | (simp only [ua, jE, aW, bc, H9, bV, oN, nm, seval] <;> rfl) | rfl) ?_
  rintro tm ⟨dg, ez, cn, bJ, _⟩
  cases lk : (xO)
  ·simp only [lk, hs] at h
   try simp only [vz, tyf, g8, jE, H9, bV, (bY jX), oN, dg, ez, cn, bJ, lk, nm, seval]
   replace h := zc _ h
   try dsimp only at h
   obtain rfl := kF _ h
   exact bz Tryz.results75 rfl
  simp only [lk, hs] at h
  obtain ⟨EA, vS, h⟩ := optI h nd
  try simp only [hs] at h
  simp only [vz, tyf, g8, jE, H9, bV, (bY jX), oN, dg, ez, cn, bJ, lk, nm, seval]
  refine ktA (Rm _ _ _ vS) ?_
  refine b5 (fun tm => tm 1 = .ptr 0 0 ∧ tm 3 = .lit (.int .i64 iC) ∧ tm 4 = .ptr (ik + 10) 0 ∧ tm 22 = .lit (.bool false) ∧ tm 26 = .lit (.bool EA) ∧ True) (by refine ⟨dg, ez, cn, ?_, ?_, trivial⟩ <;> first | (simp only [ua, jE, H9, bV, oN, dg, ez, cn, bJ, lk, nm, seval] <;> rfl) | rfl) ?_
  rintro tm ⟨dI, dm, dJ, eW, bI, _⟩
  cases jF : (EA)
  ·simp only [jF, hs] at h
   have qo := And.intro g8 (And.intro jE (And.intro H9 (And.intro bV (And.intro oN (And.intro lk jF)))))
   try simp only [vz, tyf, qo, (bY jX), dI, dm, dJ, eW, bI, nm, seval]
   replace h := zc _ h
   try dsimp only at h
   obtain rfl := kF _ h
   exact bz Tryz.results75 rfl
  simp only [jF, hs] at h
  have iF := And.intro g8 (And.intro jE (And.intro H9 (And.intro bV (And.intro oN (And.intro lk jF)))))
  obtain ⟨vu, Cn, h⟩ := optI h nd
  try simp only [hs] at h
  simp only [vz, tyf, iF, (bY jX), dI, dm, dJ, eW, bI, nm, seval]
  refine ktA (QL _ _ _ Cn) ?_
  refine b5 (fun tm => tm 1 = .ptr 0 0 ∧ tm 3 = .lit (.int .i64 iC) ∧ tm 4 = .ptr (ik + 10) 0 ∧ tm 29 = .lit (.bool false) ∧ tm 32 = .lit (.bool vu) ∧ True) (by refine ⟨dI, dm, dJ, ?_, ?_, trivial⟩ <;> first | (simp only [ua, iF, dI, dm, dJ, eW, bI, nm, seval] <;> rfl) | rfl) ?_
  rintro tm ⟨bM, bW, bH, bX, bF, _⟩
  cases eU : (vu)
  ·simp only [eU, hs] at h
   try simp only [vz, tyf, iF, (bY jX), bM, bW, bH, bX, bF, eU, nm, seval]
   replace h := zc _ h
   try dsimp only at h
   obtain rfl := kF _ h
   exact bz Tryz.results75 rfl
  simp only [eU, hs] at h
  simp only [vz, tyf, iF, (bY jX), bM, bW, bH, bX, bF, eU, nm, seval]
  refine km (fun tm => tm 1 = .ptr 0 0 ∧ tm 3 = .lit (.int .i64 iC) ∧ tm 4 = .ptr (ik + 10) 0 ∧ True) (by refine ⟨bM, bW, bH, trivial⟩ <;> first | (simp only [ua, iF, bM, bW, bH, bX, bF, eU, nm, seval] <;> rfl) | rfl) ?_
  rintro tm ⟨b9, cq, ca, _⟩
  cases iE : (decide (iC > 0))
  ·simp only [iE, hs] at h
   simp only [vz, tyf, iF, (bY jX), eU, b9, cq, ca, iE, nm, seval]
   exact ⟨List.length p7, qZc _, by rw [qY]; refine ⟨p7, iC + 1, rfl, Int.le_trans jm (Int.le_add_one (qZe _)), bK jm lH, rfl, (show 3 ≤ ik + 71 by omega), ?_, b9, ?_, (by first | exact h | (simp only [iF, eU, iE]; exact h))⟩ <;> first | (simp only [ua, iF, eU, b9, cq, ca, iE, nm, seval] <;> rfl) | rfl⟩
  simp only [iE, hs] at h
  obtain ⟨Rt, re, h⟩ := optI h nd
  try simp only [hs] at h
  cases mP : (decide (Rt.Left > e7.Left))
  ·simp only [mP, hs] at h
   cases l5 : (Rt.Left == e7.Left)
   ·simp only [l5, hs] at h
    simp only [vz, tyf, iF, (bY jX), eU, b9, cq, ca, iE, (bY re), mP, l5, nm, seval]
    exact ⟨List.length p7, qZc _, by rw [qY]; refine ⟨p7, iC + 1, rfl, Int.le_trans jm (Int.le_add_one (qZe _)), bK jm lH, rfl, (show 3 ≤ ik + 71 by omega), ?_, b9, ?_, (by first | exact h | (simp only [iF, eU, iE, mP, l5]; exact h))⟩ <;> first | (simp only [ua, iF, eU, b9, cq, ca, iE, mP, l5, nm, seval] <;> rfl) | rfl⟩
   simp only [l5, hs] at h
   cases ml : (decide (Rt.Right ≥ e7.Right))
   ·simp only [ml, hs] at h
    simp only [vz, tyf, iF, (bY jX), eU, b9, cq, ca, iE, (bY re), mP, l5, ml, nm, seval]
    exact ⟨List.length p7, qZc _, by rw [qY]; refine ⟨p7, iC + 1, rfl, Int.le_trans jm (Int.le_add_one (qZe _)), bK jm lH, rfl, (show 3 ≤ ik + 71 by omega), ?_, b9, ?_, (by first | exact h | (simp only [iF, eU, iE, mP, l5, ml]; exact h))⟩ <;> first | (simp only [ua, iF, eU, b9, cq, ca, iE, mP, l5, ml, nm, seval] <;> rfl) | rfl⟩
   simp only [ml, hs] at h
   try simp only [vz, tyf, iF, (bY jX), eU, b9, cq, ca, iE, (bY re), mP, l5, ml, nm, seval]
   replace h := zc _ h
   try dsimp only at h
   obtain rfl := kF _ h
   exact bz Tryz.results75 rfl
  simp only [mP, hs] at h
  try simp only [vz, tyf, iF, (bY jX), eU, b9, cq, ca, iE, (bY re), mP, nm, seval]
  replace h := zc _ h
  try dsimp only at h
  obtain rfl := kF _ h
  exact bz Tryz.results75 rfl
def Ev (fE : Int) : Option (Bool) := Option.bind (mO fE 1 400) (fun r1 => some r1)
theorem ZF (fE : Int) (R : Bool) (h : Ev fE = some R) : ag Tryz.prog G0 57 [.lit (.int .i64 fE)] (.tree (.lit (.bool R))) := by
 refine ag.runR mixed Tryz.call57 Tryz.func57 rfl (by simp [Tryz.ntmps57]; kernel_rfl) ?_
 obtain ⟨KF, h, kF, kN⟩ := eC h
 simp only [Ev] at h
 obtain ⟨r2, o3, h⟩ := optI h kN
 try simp only [hs] at h
 simp only [vz, tyf, nm, seval]
 refine ktA (pf _ _ _ _ o3) ?_
 refine b5 (fun tm => tm 4 = .lit (.bool r2) ∧ True) (by refine ⟨?_, trivial⟩ <;> first | (simp only [ua, nm, seval] <;> rfl) | rfl) ?_
 rintro tm ⟨e4, _⟩
 try simp only [vz, tyf, e4, nm, seval]
 obtain rfl := kF _ h
 exact bz Tryz.results57 rfl
end Go.V
end
