/- Part of a proof. -/
import Derived.Test.YtlkognggeadanaaGreatDoorEbi
set_option linter.all false
set_option maxRecDepth 4000
set_option maxHeartbeats 40000000
section
namespace Go.V
open Go Go.Proofs IntKind
def wJ  : List GLw → Int → Option (LOut (Bool) (Unit))
 | [], fz => some (.go ())
 | e0 :: p0, fz => cond (decide (fz < 6)) (cond (decide ((List.length e0.Signs : Int) > 8)) (some (.ret false)) (cond (decide ((List.length e0.Cuts : Int) > 8)) (some (.ret false)) (wJ p0 (fz + 1)))) (some (.go ()))
def zY (ag : GLs) : Option (Bool) := cond (lenOk ag.Words) (lbind (wJ ag.Words 0) (fun r2 => some r2) (fun c1 => cond (decide ((List.length ag.Widths : Int) ≤ 8)) (cond (decide ((List.length ag.Pairs : Int) ≤ 8)) (some (decide ((List.length ag.Words : Int) ≤ 6))) (some false)) (some false)) (fun _ _ => none)) none
theorem X2 (ag : GLs) (R : Bool) (h : zY ag = some R) : ad Tryz.prog G0 17 [.agg (cGLs ag)] (.tree (.lit (.bool R))) := by
 refine ad.runR mixed Tryz.call17 Tryz.func17 rfl (by simp [Tryz.ntmps17]; kernel_rfl) ?_
 obtain ⟨KF, h, kF, kN⟩ := dZ h
 simp only [zY] at h
 cases g4 : (lenOk ag.Words)
 ·simp only [g4, hs] at h
  exact absurd h kN
 simp only [g4, hs] at h
 simp only [vz, tyf, g4, nm, seval]
 obtain ⟨K3, h, pV, oN, Aa, Ab⟩ := gu h kN
 obtain ⟨f3, pW, h⟩ := call2 h
 obtain ⟨I3, ja⟩ : ∃ I : Nat → St → Prop, I = (fun m st => ∃ (p3 : List GLw) (gq : Int), m = List.length p3 ∧ 0 ≤ gq ∧ List.drop (Int.toNat gq) ag.Words = p3 ∧ st.df = [] ∧ 3 ≤ st.nx ∧ st.H 0 = some (.cells (some 28) (cGLs ag)) ∧ st.tm 1 = .ptr 0 0 ∧ st.tm 3 = .lit (.int .i64 gq) ∧ K3 (f3 p3 gq)) := ⟨_, rfl⟩
 refine loopK mixed (by kernel_rfl) I3 (List.length ag.Words) (by rw [ja]; refine ⟨ag.Words, 0, rfl, Int.le_refl _, rfl, rfl, (show 3 ≤ 3 by omega), ?_, ?_, ?_, h⟩ <;> first | (simp only [ua, nm, seval] <;> rfl) | rfl) ?_
 rintro m ⟨tm, H, lk, df⟩ hinv
 rw [ja] at hinv
 obtain ⟨p3, gq, rfl, eM, fx, hdf, pZ, H5, e6, e7, h⟩ := hinv
 simp only at hdf pZ H5 e6 e7
 have n8 := gv (m := 3) (b := lk) (by omega)
 subst hdf pW
 cases p3 with
 | nil =>
  have d9 : (decide (gq < (List.length ag.Words : Int))) = false := fj eM fx
  simp only [wJ, hs, reduceCtorEq] at h
  replace h := oN _ h
  try dsimp only at h
  try simp only [hs] at h
  cases ck : (decide ((List.length ag.Widths : Int) ≤ 8))
  ·simp only [ck, hs] at h
   try simp only [vz, tyf, g4, n8, e6, e7, H5, d9, ck, nm, seval]
   obtain rfl := kF _ h
   exact bc Tryz.results17 rfl
  simp only [ck, hs] at h
  cases fg : (decide ((List.length ag.Pairs : Int) ≤ 8))
  ·simp only [fg, hs] at h
   try simp only [vz, tyf, g4, n8, e6, e7, H5, d9, ck, fg, nm, seval]
   obtain rfl := kF _ h
   exact bc Tryz.results17 rfl
  simp only [fg, hs] at h
  try simp only [vz, tyf, g4, n8, e6, e7, H5, d9, ck, fg, nm, seval]
  obtain rfl := kF _ h
  exact bc Tryz.results17 rfl
 | cons e3 p3 =>
  have dt : (decide (gq < (List.length ag.Words : Int))) = true := fk eM fx
  have ka := eg eM fx
  have iP := fm eM fx g4
  simp only [wJ, hs, reduceCtorEq] at h
  cases cI : (decide (gq < 6))
  ·simp only [cI, hs] at h
   replace h := oN _ h
   try dsimp only at h
   try simp only [hs] at h
   cases gY : (decide ((List.length ag.Widths : Int) ≤ 8))
   ·simp only [gY, hs] at h
    have X3 := And.intro g4 (And.intro n8 (And.intro H5 (And.intro dt (And.intro iP (And.intro cI gY)))))
    try simp only [vz, tyf, X3, e6, e7, (aE ka), nm, seval]
    obtain rfl := kF _ h
    exact bc Tryz.results17 rfl
   simp only [gY, hs] at h
   have SO := And.intro g4 (And.intro n8 (And.intro H5 (And.intro dt (And.intro iP (And.intro cI gY)))))
   cases fH : (decide ((List.length ag.Pairs : Int) ≤ 8))
   ·simp only [fH, hs] at h
    try simp only [vz, tyf, SO, e6, e7, (aE ka), fH, nm, seval]
    obtain rfl := kF _ h
    exact bc Tryz.results17 rfl
   simp only [fH, hs] at h
   try simp only [vz, tyf, SO, e6, e7, (aE ka), fH, nm, seval]
   obtain rfl := kF _ h
   exact bc Tryz.results17 rfl
  simp only [cI, hs] at h
  cases gQ : (decide ((List.length e3.Signs : Int) > 8))
  ·simp only [gQ, hs] at h
   have DA := And.intro g4 (And.intro n8 (And.intro H5 (And.intro dt (And.intro iP (And.intro cI gQ)))))
   cases s8 : (decide ((List.length e3.Cuts : Int) > 8))
   ·simp only [s8, hs] at h
    simp only [vz, tyf, DA, e6, e7, (aE ka), s8, nm, seval]
    exact ⟨List.length p3, Nat.lt_succ_self _, by rw [ja]; refine ⟨p3, gq + 1, rfl, Int.le_trans eM (Int.le_add_one (Int.le_refl _)), bS eM fx, rfl, (show 3 ≤ lk + 30 by omega), ?_, e6, ?_, (by first | exact h | (simp only [DA, s8]; exact h))⟩ <;> first | (simp only [ua, DA, e6, e7, s8, nm, seval] <;> rfl) | rfl⟩
   simp only [s8, hs] at h
   try simp only [vz, tyf, DA, e6, e7, (aE ka), s8, nm, seval]
   replace h := pV _ h
   try dsimp only at h
   obtain rfl := kF _ h
   exact bc Tryz.results17 rfl
  simp only [gQ, hs] at h
  have BO := And.intro g4 (And.intro n8 (And.intro H5 (And.intro dt (And.intro iP (And.intro cI gQ)))))
  try simp only [vz, tyf, BO, e6, e7, (aE ka), nm, seval]
  replace h := pV _ h
  try dsimp only at h
  obtain rfl := kF _ h
  exact bc Tryz.results17 rfl
def ri (dN : GLx) : Option (Bool) := cond (decide ((List.length dN.Out : Int) ≤ 6)) (some (decide ((List.length dN.Ends : Int) ≤ 10))) (some false)
theorem EL (dN : GLx) (R : Bool) (h : ri dN = some R) : ad Tryz.prog G0 18 [.agg (cGLx dN)] (.tree (.lit (.bool R))) := by
 refine ad.runR mixed Tryz.call18 Tryz.func18 rfl (by simp [Tryz.ntmps18]; kernel_rfl) ?_
 obtain ⟨KF, h, kF, kN⟩ := dZ h
 simp only [ri] at h
 cases d1 : (decide ((List.length dN.Out : Int) ≤ 6))
 ·simp only [d1, hs] at h
  try simp only [vz, tyf, d1, nm, seval]
  obtain rfl := kF _ h
  exact bc Tryz.results18 rfl
 simp only [d1, hs] at h
 try simp only [vz, tyf, d1, nm, seval]
 obtain rfl := kF _ h
 exact bc Tryz.results18 rfl
def s9 (ag : GLs) (dG : List Int) : List Int → Int → Option (LOut (Bool) (Unit))
 | [], bB => some (.go ())
 | e0 :: p0, bB => Option.bind (lp e0 0 (i64.wrap ((List.length ag.Words : Int) - 1))) (fun r1 => cond (r1) (Option.bind (getI ag.Words e0) (fun x2 => cond (x2.Free) (cond (decide (bB > 0)) (Option.bind (getI dG (i64.wrap (bB - 1))) (fun x3 => cond (decide (e0 ≤ x3)) (some (.ret false)) (s9 ag dG p0 (bB + 1)))) (s9 ag dG p0 (bB + 1))) (some (.ret false)))) (some (.ret false)))
def BU (ag : GLs) (dG : List Int) : Option (Bool) := cond (lenOk dG) (lbind (s9 ag dG dG 0) (fun r5 => some r5) (fun c4 => some (decide ((List.length dG : Int) < (List.length ag.Words : Int)))) (fun _ _ => none)) none
theorem X4 (ag : GLs) (dG : List Int) (R : Bool) (h : BU ag dG = some R) : ad Tryz.prog G0 50 [.agg (cGLs ag), .sl (aa eI dG) (List.length dG) false] (.tree (.lit (.bool R))) := by
 refine ad.runRQ mixed Tryz.call50 Tryz.func50 rfl (by simp [Tryz.ntmps50]; kernel_rfl) ?_
 obtain ⟨KF, h, kF, kN⟩ := dZ h
 simp only [BU] at h
 cases g7 : (lenOk dG)
 ·simp only [g7, hs] at h
  exact absurd h kN
 simp only [g7, hs] at h
 simp only [vz, tyf, g7, nm, seval]
 obtain ⟨K6, h, v5, s5, OA, iC⟩ := gu h kN
 obtain ⟨f6, v7, h⟩ := call2 h
 obtain ⟨I6, iw⟩ : ∃ I : Nat → St → Prop, I = (fun m st => ∃ (p6 : List Int) (bm : Int), m = List.length p6 ∧ 0 ≤ bm ∧ List.drop (Int.toNat bm) dG = p6 ∧ st.df = [] ∧ 3 ≤ st.nx ∧ st.H 0 = some (.cells (some 28) (cGLs ag)) ∧ st.tm 1 = .sl (aa eI dG) (List.length dG) false ∧ st.tm 2 = .ptr 0 0 ∧ st.tm 5 = .lit (.int .i64 bm) ∧ K6 (f6 p6 bm)) := ⟨_, rfl⟩
 refine loopK mixed (nQ (by kernel_rfl)) I6 (List.length dG) (by rw [iw]; refine ⟨dG, 0, rfl, Int.le_refl _, rfl, rfl, (show 3 ≤ 3 by omega), ?_, ?_, ?_, ?_, h⟩ <;> first | (simp only [ua, nm, seval] <;> rfl) | rfl) ?_
 rintro m ⟨tm, H, eD, df⟩ hinv
 rw [iw] at hinv
 obtain ⟨p6, bm, rfl, cN, eE, hdf, oS, H8, e9, bh, bj, h⟩ := hinv
 simp only at hdf oS H8 e9 bh bj
 have iv := gv (m := 3) (b := eD) (by omega)
 subst hdf v7
 cases p6 with
 | nil =>
  have bx : (decide (bm < (List.length dG : Int))) = false := fj cN eE
  simp only [s9, hs, reduceCtorEq] at h
  replace h := s5 _ h
  try dsimp only at h
  try simp only [hs] at h
  try simp only [vz, tyf, g7, iv, e9, bh, bj, H8, bx, nm, seval]
  obtain rfl := kF _ h
  exact bc Tryz.results50 rfl
 | cons e6 p6 =>
  have bO : (decide (bm < (List.length dG : Int))) = true := fk cN eE
  have ir := eg cN eE
  have m6 := fm cN eE g7
  simp only [s9, hs, reduceCtorEq] at h
  simp only [vz, tyf, g7, iv, e9, bh, bj, H8, bO, (aD ir), m6, nm, seval]
  refine mO (fun tm => tm 1 = .sl (aa eI dG) (List.length dG) false ∧ tm 2 = .ptr 0 0 ∧ tm 5 = .lit (.int .i64 bm) ∧ True) (by refine ⟨e9, bh, bj, trivial⟩ <;> first | (simp only [ua, iv, e9, bh, bj, H8, bO, m6, nm, seval] <;> rfl) | rfl) ?_
  rintro tm ⟨dV, cl, dM, _⟩
  obtain ⟨tz, jd, h⟩ := optI h iC
  try simp only [hs] at h
  simp only [vz, tyf, g7, iv, H8, bO, (aD ir), m6, dV, cl, dM, nm, seval]
  refine dktA (nN _ _ _ _ jd) ?_
  refine bt (fun tm => tm 1 = .sl (aa eI dG) (List.length dG) false ∧ tm 2 = .ptr 0 0 ∧ tm 5 = .lit (.int .i64 bm) ∧ tm 20 = .lit (.bool tz) ∧ True) (by refine ⟨dV, cl, dM, ?_, trivial⟩ <;> first | (simp only [ua, iv, H8, bO, m6, dV, cl, dM, nm, seval] <;> rfl) | rfl) ?_
  rintro tm ⟨bX, dz, ej, eW, _⟩
  cases oP : (tz)
  ·simp only [oP, hs] at h
   try simp only [vz, tyf, g7, iv, H8, bO, (aD ir), m6, bX, dz, ej, eW, oP, nm, seval]
   replace h := v5 _ h
   try dsimp only at h
   obtain rfl := kF _ h
   exact bc Tryz.results50 rfl
  simp only [oP, hs] at h
  obtain ⟨X5, DB, h⟩ := optI h iC
  try simp only [hs] at h
  cases jj : (X5.Free)
  ·simp only [jj, hs] at h
   have X6 := And.intro g7 (And.intro iv (And.intro H8 (And.intro bO (And.intro m6 (And.intro oP jj)))))
   try simp only [vz, tyf, X6, (aD ir), bX, dz, ej, eW, (aE DB), nm, seval]
   replace h := v5 _ h
   try dsimp only at h
   obtain rfl := kF _ h
   exact bc Tryz.results50 rfl
  simp only [jj, hs] at h
  have dH := And.intro g7 (And.intro iv (And.intro H8 (And.intro bO (And.intro m6 (And.intro oP jj)))))
  cases eT : (decide (bm > 0))
  ·simp only [eT, hs] at h
   simp only [vz, tyf, dH, (aD ir), bX, dz, ej, eW, (aE DB), eT, nm, seval]
   exact ⟨List.length p6, Nat.lt_succ_self _, by rw [iw]; refine ⟨p6, bm + 1, rfl, Int.le_trans cN (Int.le_add_one (Int.le_refl _)), bS cN eE, rfl, (show 3 ≤ eD + 45 by omega), ?_, bX, dz, ?_, (by first | exact h | (simp only [dH, eT]; exact h))⟩ <;> first | (simp only [ua, dH, bX, dz, ej, eW, eT, nm, seval] <;> rfl) | rfl | (simp only [ua, tyf, dH, bX, dz, ej, eW, eT, nm, seval] <;> rfl)⟩
  simp only [eT, hs] at h
  obtain ⟨X7, SP, h⟩ := optI h iC
  try simp only [hs] at h
  cases hP : (decide (e6 ≤ X7))
  ·simp only [hP, hs] at h
   simp only [vz, tyf, dH, (aD ir), bX, dz, ej, eW, (aE DB), eT, (aD SP), hP, nm, seval]
   exact ⟨List.length p6, Nat.lt_succ_self _, by rw [iw]; refine ⟨p6, bm + 1, rfl, Int.le_trans cN (Int.le_add_one (Int.le_refl _)), bS cN eE, rfl, (show 3 ≤ eD + 45 by omega), ?_, bX, dz, ?_, (by first | exact h | (simp only [dH, eT, hP]; exact h))⟩ <;> first | (simp only [ua, dH, bX, dz, ej, eW, eT, hP, nm, seval] <;> rfl) | rfl | (simp only [ua, tyf, dH, bX, dz, ej, eW, eT, hP, nm, seval] <;> rfl)⟩
  simp only [hP, hs] at h
  try simp only [vz, tyf, dH, (aD ir), bX, dz, ej, eW, (aE DB), eT, (aD SP), hP, nm, seval]
  replace h := v5 _ h
  try dsimp only at h
  obtain rfl := kF _ h
  exact bc Tryz.results50 rfl
def xC (ep : Int) : List Int → Int → Option (LOut (Bool) (Unit))
 | [], bB => some (.go ())
 | e0 :: p0, bB => cond (e0 == ep) (some (.ret true)) (xC ep p0 (bB + 1))
def tE (an : List Int) (ep : Int) : Option (Bool) := cond (lenOk an) (lbind (xC ep an 0) (fun r2 => some r2) (fun c1 => some false) (fun _ _ => none)) none
theorem DC (an : List Int) (ep : Int) (R : Bool) (h : tE an ep = some R) : ad Tryz.prog G0 77 [.sl (aa eI an) (List.length an) false, .lit (.int .i64 ep)] (.tree (.lit (.bool R))) := by
 refine ad.runR mixed Tryz.call77 Tryz.func77 rfl (by simp [Tryz.ntmps77]; kernel_rfl) ?_
 obtain ⟨KF, h, kF, kN⟩ := dZ h
 simp only [tE] at h
 cases g4 : (lenOk an)
 ·simp only [g4, hs] at h
  exact absurd h kN
 simp only [g4, hs] at h
 simp only [vz, tyf, g4, nm, seval]
 obtain ⟨K3, h, pV, oN, Aa, Ab⟩ := gu h kN
 obtain ⟨f3, pW, h⟩ := call2 h
 obtain ⟨I3, ja⟩ : ∃ I : Nat → St → Prop, I = (fun m st => ∃ (p3 : List Int) (lI : Int), m = List.length p3 ∧ 0 ≤ lI ∧ List.drop (Int.toNat lI) an = p3 ∧ st.df = [] ∧ 2 ≤ st.nx ∧ st.tm 0 = .sl (aa eI an) (List.length an) false ∧ st.tm 1 = .lit (.int .i64 ep) ∧ st.tm 5 = .lit (.int .i64 lI) ∧ K3 (f3 p3 lI)) := ⟨_, rfl⟩
 refine loopK mixed (by kernel_rfl) I3 (List.length an) (by rw [ja]; refine ⟨an, 0, rfl, Int.le_refl _, rfl, rfl, (show 2 ≤ 2 by omega), ?_, ?_, ?_, h⟩ <;> first | (simp only [ua, nm, seval] <;> rfl) | rfl) ?_
 rintro m ⟨tm, H, lk, df⟩ hinv
 rw [ja] at hinv
 obtain ⟨p3, lI, rfl, eM, fx, hdf, pZ, e5, e6, e7, h⟩ := hinv
 simp only at hdf pZ e5 e6 e7
 have n8 := gv (m := 2) (b := lk) (by omega)
 subst hdf pW
 cases p3 with
 | nil =>
  have d9 : (decide (lI < (List.length an : Int))) = false := fj eM fx
  simp only [xC, hs, reduceCtorEq] at h
  replace h := oN _ h
  try dsimp only at h
  try simp only [hs] at h
  try simp only [vz, tyf, g4, n8, e5, e6, e7, d9, nm, seval]
  obtain rfl := kF _ h
  exact bc Tryz.results77 rfl
 | cons e3 p3 =>
  have ck : (decide (lI < (List.length an : Int))) = true := fk eM fx
  have iI := eg eM fx
  have OU := fm eM fx g4
  simp only [xC, hs, reduceCtorEq] at h
  cases bx : (e3 == ep)
  ·simp only [bx, hs] at h
   simp only [vz, tyf, g4, n8, e5, e6, e7, ck, (aD iI), OU, bx, nm, seval]
   exact ⟨List.length p3, Nat.lt_succ_self _, by rw [ja]; refine ⟨p3, lI + 1, rfl, Int.le_trans eM (Int.le_add_one (Int.le_refl _)), bS eM fx, rfl, (show 2 ≤ lk + 13 by omega), e5, e6, ?_, (by first | exact h | (simp only [ck, bx]; exact h))⟩ <;> first | (simp only [ua, n8, e5, e6, e7, ck, OU, bx, nm, seval] <;> rfl) | rfl⟩
  simp only [bx, hs] at h
  try simp only [vz, tyf, g4, n8, e5, e6, e7, ck, (aD iI), OU, bx, nm, seval]
  replace h := pV _ h
  try dsimp only at h
  obtain rfl := kF _ h
  exact bc Tryz.results77 rfl
def we (bA : GLe) (bD : GLe) : Option (Bool) := cond (decide (bA.Word < bD.Word)) (some true) (cond (bA.Word == bD.Word) (some (decide (bA.Letters < bD.Letters))) (some false))
theorem Qf (bA : GLe) (bD : GLe) (R : Bool) (h : we bA bD = some R) : ad Tryz.prog G0 78 [.agg (cGLe bA), .agg (cGLe bD)] (.tree (.lit (.bool R))) := by
 refine ad.runR mixed Tryz.call78 Tryz.func78 rfl (by simp [Tryz.ntmps78]; kernel_rfl) ?_
 obtain ⟨KF, h, kF, kN⟩ := dZ h
 simp only [we] at h
 cases d1 : (decide (bA.Word < bD.Word))
 ·simp only [d1, hs] at h
  cases d2 : (bA.Word == bD.Word)
  ·simp only [d2, hs] at h
   try simp only [vz, tyf, d1, d2, nm, seval]
   obtain rfl := kF _ h
   exact bc Tryz.results78 rfl
  simp only [d2, hs] at h
  try simp only [vz, tyf, d1, d2, nm, seval]
  obtain rfl := kF _ h
  exact bc Tryz.results78 rfl
 simp only [d1, hs] at h
 try simp only [vz, tyf, d1, nm, seval]
 obtain rfl := kF _ h
 exact bc Tryz.results78 rfl
def xu (aC : List Int) : Nat → Int → Option (LOut (Int) (Int))
 | 0, _ => none
 | k0 + 1, bB => Option.bind (tE aC bB) (fun r1 => cond (r1) (xu aC k0 (i64.wrap (bB - 1))) (some (.go bB)))
def Ds (ag : GLs) (aC : List Int) : Option (Int) := lbind (xu aC 1000000 (i64.wrap ((List.length ag.Words : Int) - 1))) (fun r3 => some r3) (fun c2 => some c2) (fun _ _ => none)
theorem X8 (ag : GLs) (aC : List Int) (R : Int) (h : Ds ag aC = some R) : ad Tryz.prog G0 79 [.agg (cGLs ag), .sl (aa eI aC) (List.length aC) false] (.tree (.lit (.int .i64 R))) := by
 refine ad.runR mixed Tryz.call79 Tryz.func79 rfl (by simp [Tryz.ntmps79]; kernel_rfl) ?_
 obtain ⟨KF, h, kF, kN⟩ := dZ h
 simp only [Ds] at h
 simp only [vz, tyf, nm, seval]
 obtain ⟨K4, h, Rd, Jf, Va, CT⟩ := gu h kN
 obtain ⟨f4, Jg, h⟩ := call2 h
 obtain ⟨I4, um⟩ : ∃ I : Nat → St → Prop, I = (fun m st => ∃ (p4 : Nat) (oC : Int), p4 = m ∧ st.df = [] ∧ 7 ≤ st.nx ∧ st.tm 1 = .sl (aa eI aC) (List.length aC) false ∧ st.tm 5 = .lit (.int .i64 oC) ∧ K4 (f4 p4 oC)) := ⟨_, rfl⟩
 refine loopK mixed (by kernel_rfl) I4 1000000 (by rw [um]; refine ⟨1000000, i64.wrap ((List.length ag.Words : Int) - 1), rfl, rfl, (show 7 ≤ 7 by omega), ?_, ?_, h⟩ <;> first | (simp only [ua, nm, seval] <;> rfl) | rfl) ?_
 rintro m ⟨tm, H, z6, df⟩ hinv
 rw [um] at hinv
 obtain ⟨p4, oC, rfl, hdf, Jh, e5, e6, h⟩ := hinv
 simp only at hdf Jh e5 e6
 have n7 := gv (m := 7) (b := z6) (by omega)
 subst hdf Jg
 cases p4 with
 | zero =>
  simp only [xu, hs, reduceCtorEq] at h
  exact absurd h CT
 | succ p4 =>
  simp only [xu, hs, reduceCtorEq] at h
  obtain ⟨r8, o9, h⟩ := optI h CT
  try simp only [hs] at h
  simp only [vz, tyf, n7, e5, e6, nm, seval]
  refine ktA (DC _ _ _ o9) ?_
  refine bt (fun tm => tm 1 = .sl (aa eI aC) (List.length aC) false ∧ tm 5 = .lit (.int .i64 oC) ∧ tm 12 = .lit (.bool r8) ∧ True) (by refine ⟨e5, e6, ?_, trivial⟩ <;> first | (simp only [ua, n7, e5, e6, nm, seval] <;> rfl) | rfl) ?_
  rintro tm ⟨bh, bj, bR, _⟩
  cases bx : (r8)
  ·simp only [bx, hs] at h
   replace h := Jf _ h
   try dsimp only at h
   try simp only [hs] at h
   try simp only [vz, tyf, n7, bh, bj, bR, bx, nm, seval]
   refine d4 (x := (.lit (.int .i64 oC))) (by first | (simp only [Tryz.results79, resV, resL, aJ, dU, dT, uw, cr, tyf, n7, bx, nm, seval] <;> rfl) | rfl) ?_
   obtain rfl := kF _ h
   refine dW ?_ ?_
   ·simp only [tre, aw, Bool.and_self]
   ·first | (simp only [outV, uw, fu, cr, tyf, nrm, ar, n7, bh, bj, bR, bx, nm, seval] <;> rfl) | rfl
  simp only [bx, hs] at h
  simp only [vz, tyf, n7, bh, bj, bR, bx, nm, seval]
  exact ⟨p4, Nat.lt_succ_self _, by rw [um]; refine ⟨p4, i64.wrap (oC - 1), rfl, rfl, (show 7 ≤ z6 + 6 by omega), bh, ?_, (by first | exact h | (simp only [bx]; exact h))⟩ <;> first | (simp only [ua, n7, bh, bj, bR, bx, nm, seval] <;> rfl) | rfl⟩
def qk (ag : GLs) (aA : GLx) : List GLe → Int → Option (LOut (Bool) (Unit))
 | [], bB => some (.go ())
 | e0 :: p0, bB => Option.bind (lp e0.Word 0 (i64.wrap ((List.length ag.Words : Int) - 1))) (fun r2 => cond (r2) (Option.bind (tE aA.Out e0.Word) (fun r3 => cond (r3) (some (.ret false)) (cond (decide (bB > 0)) (Option.bind (getI aA.Ends (i64.wrap (bB - 1))) (fun x4 => Option.bind (we x4 e0) (fun r5 => cond (r5) (Option.bind (getI ag.Words e0.Word) (fun x6 => cond (e0.Letters != (List.length x6.Signs : Int)) (Option.bind (tE x6.Cuts e0.Letters) (fun r7 => cond (r7) (qk ag aA p0 (bB + 1)) (some (.ret false)))) (qk ag aA p0 (bB + 1)))) (some (.ret false))))) (Option.bind (getI ag.Words e0.Word) (fun x8 => cond (e0.Letters != (List.length x8.Signs : Int)) (Option.bind (tE x8.Cuts e0.Letters) (fun r9 => cond (r9) (qk ag aA p0 (bB + 1)) (some (.ret false)))) (qk ag aA p0 (bB + 1))))))) (some (.ret false)))
def sS (ag : GLs) (aA : GLx) : Option (Bool) := Option.bind (BU ag aA.Out) (fun r1 => cond (r1) (cond ((List.length aA.Ends : Int) == 0) (some false) (cond (lenOk aA.Ends) (lbind (qk ag aA aA.Ends 0) (fun tt => some tt) (fun Iq => Option.bind (Ds ag aA.Out) (fun mj => Option.bind (getI aA.Ends (i64.wrap ((List.length aA.Ends : Int) - 1))) (fun SQ => Option.bind (getI ag.Words mj) (fun X9 => some (SQ.Word == mj && (SQ.Letters == (List.length X9.Signs : Int))))))) (fun _ _ => none)) none)) (some false))
theorem EM (ag : GLs) (aA : GLx) (R : Bool) (h : sS ag aA = some R) : ad Tryz.prog G0 23 [.agg (cGLs ag), .agg (cGLx aA)] (.tree (.lit (.bool R))) := by
 refine ad.runRQ mixed Tryz.call23 Tryz.func23 rfl (by simp [Tryz.ntmps23]; kernel_rfl) ?_
 obtain ⟨KF, h, kF, kN⟩ := dZ h
 simp only [sS] at h
 obtain ⟨uF, ir, h⟩ := optI h kN
 try simp only [hs] at h
 simp only [vz, tyf, nm, seval]
 refine ktA (X4 _ _ _ ir) ?_
 refine bt (fun tm => tm 2 = .ptr 0 0 ∧ tm 3 = .ptr 1 0 ∧ tm 12 = .lit (.bool uF) ∧ True) (by refine ⟨?_, ?_, ?_, trivial⟩ <;> first | (simp only [ua, nm, seval] <;> rfl) | rfl) ?_
 rintro tm ⟨dV, cl, dM, _⟩
 cases gQ : (uF)
 ·simp only [gQ, hs] at h
  try simp only [vz, tyf, dV, cl, dM, gQ, nm, seval]
  obtain rfl := kF _ h
  exact bc Tryz.results23 rfl
 simp only [gQ, hs] at h
 cases eF : ((List.length aA.Ends : Int) == 0)
 ·simp only [eF, hs] at h
  cases lv : (lenOk aA.Ends)
  ·simp only [lv, hs] at h
   exact absurd h kN
  simp only [lv, hs] at h
  simp only [vz, tyf, dV, cl, dM, gQ, eF, lv, nm, seval]
  obtain ⟨Km, h, m8, uU, Kn, jI⟩ := gu h kN
  obtain ⟨Ko, uW, h⟩ := call2 h
  obtain ⟨Kp, jJ⟩ : ∃ I : Nat → St → Prop, I = (fun m st => ∃ (jh : List GLe) (cQ : Int), m = List.length jh ∧ 0 ≤ cQ ∧ List.drop (Int.toNat cQ) aA.Ends = jh ∧ st.df = [] ∧ 15 ≤ st.nx ∧ st.H 0 = some (.cells (some 28) (cGLs ag)) ∧ st.H 1 = some (.cells (some 31) (cGLx aA)) ∧ st.tm 2 = .ptr 0 0 ∧ st.tm 3 = .ptr 1 0 ∧ st.tm 5 = .lit (.int .i64 cQ) ∧ Km (Ko jh cQ)) := ⟨_, rfl⟩
  refine loopK mixed (nQ (by kernel_rfl)) Kp (List.length aA.Ends) (by rw [jJ]; refine ⟨aA.Ends, 0, rfl, Int.le_refl _, rfl, rfl, (show 15 ≤ 15 by omega), ?_, ?_, dV, cl, ?_, h⟩ <;> first | (simp only [ua, dV, cl, dM, gQ, eF, nm, seval] <;> rfl) | rfl) ?_
  rintro m ⟨tm, H, hO, df⟩ hinv
  rw [jJ] at hinv
  obtain ⟨jh, cQ, rfl, eZ, gD, hdf, uX, m9, vG, dI, ec, eG, h⟩ := hinv
  simp only at hdf uX m9 vG dI ec eG
  have xD := gv (m := 15) (b := hO) (by omega)
  subst hdf uW
  cases jh with
  | nil =>
   have uQ : (decide (cQ < (List.length aA.Ends : Int))) = false := fj eZ gD
   simp only [qk, hs, reduceCtorEq] at h
   replace h := uU _ h
   try dsimp only at h
   try simp only [hs] at h
   obtain ⟨iz, qH, h⟩ := optI h kN
   try simp only [hs] at h
   simp only [vz, tyf, gQ, eF, lv, xD, dI, ec, eG, m9, vG, uQ, nm, seval]
   refine ktA (X8 _ _ _ qH) ?_
   refine bt (fun tm => tm 2 = .ptr 0 0 ∧ tm 3 = .ptr 1 0 ∧ tm 85 = .lit (.int .i64 iz) ∧ True) (by refine ⟨dI, ec, ?_, trivial⟩ <;> first | (simp only [ua, gQ, eF, xD, dI, ec, eG, m9, vG, uQ, nm, seval] <;> rfl) | rfl) ?_
   rintro tm ⟨ed, eX, fK, _⟩
   have OV := And.intro gQ (And.intro eF (And.intro lv (And.intro xD (And.intro m9 (And.intro vG uQ)))))
   simp only [vz, tyf, OV, ed, eX, fK, nm, seval]
   refine mO (fun tm => tm 2 = .ptr 0 0 ∧ tm 3 = .ptr 1 0 ∧ tm 8 = .lit (.int .i64 iz) ∧ True) (by refine ⟨ed, eX, ?_, trivial⟩ <;> first | (simp only [ua, OV, ed, eX, fK, nm, seval] <;> rfl) | rfl) ?_
   rintro tm ⟨bT, bC, bG, _⟩
   obtain ⟨Yq, XA, h⟩ := optI h kN
   try simp only [hs] at h
   obtain ⟨Yr, Kq, h⟩ := optI h kN
   try simp only [hs] at h
   try simp only [vz, tyf, OV, bT, bC, bG, (aG XA), (aE Kq), nm, seval]
   obtain rfl := kF _ h
   exact bc Tryz.results23 rfl
  | cons bX jh =>
   have tx : (decide (cQ < (List.length aA.Ends : Int))) = true := fk eZ gD
   have mI := eg eZ gD
   have OW := fm eZ gD lv
   simp only [qk, hs, reduceCtorEq] at h
   simp only [vz, tyf, gQ, eF, lv, xD, dI, ec, eG, m9, vG, tx, (aG mI), OW, nm, seval]
   refine mO (fun tm => tm 2 = .ptr 0 0 ∧ tm 3 = .ptr 1 0 ∧ tm 5 = .lit (.int .i64 cQ) ∧ tm 6 = .ptr (hO + 10) 0 ∧ True) (by refine ⟨dI, ec, eG, ?_, trivial⟩ <;> first | (simp only [ua, gQ, eF, xD, dI, ec, eG, m9, vG, tx, OW, nm, seval] <;> rfl) | rfl) ?_
   rintro tm ⟨ij, gg, fp, gV, _⟩
   have gB := And.intro gQ (And.intro eF (And.intro lv (And.intro xD (And.intro m9 (And.intro vG (And.intro tx OW))))))
   obtain ⟨uO, Al, h⟩ := optI h jI
   try simp only [hs] at h
   simp only [vz, tyf, gB, (aG mI), ij, gg, fp, gV, nm, seval]
   refine dktA (nN _ _ _ _ Al) ?_
   refine bt (fun tm => tm 2 = .ptr 0 0 ∧ tm 3 = .ptr 1 0 ∧ tm 5 = .lit (.int .i64 cQ) ∧ tm 6 = .ptr (hO + 10) 0 ∧ tm 38 = .lit (.bool uO) ∧ True) (by refine ⟨ij, gg, fp, gV, ?_, trivial⟩ <;> first | (simp only [ua, gB, ij, gg, fp, gV, nm, seval] <;> rfl) | rfl) ?_
   rintro tm ⟨jP, m0, ll, j8, j9, _⟩
   cases fR : (uO)
   ·simp only [fR, hs] at h
    try simp only [vz, tyf, gB, (aG mI), jP, m0, ll, j8, j9, fR, nm, seval]
    replace h := m8 _ h
    try dsimp only at h
    obtain rfl := kF _ h
    exact bc Tryz.results23 rfl
   simp only [fR, hs] at h
   obtain ⟨Aw, Ks, h⟩ := optI h jI
   try simp only [hs] at h
   simp only [vz, tyf, gB, (aG mI), jP, m0, ll, j8, j9, fR, nm, seval]
   refine dktA (DC _ _ _ Ks) ?_
   refine bt (fun tm => tm 2 = .ptr 0 0 ∧ tm 3 = .ptr 1 0 ∧ tm 5 = .lit (.int .i64 cQ) ∧ tm 6 = .ptr (hO + 10) 0 ∧ tm 40 = .lit (.bool false) ∧ tm 45 = .lit (.bool Aw) ∧ True) (by refine ⟨jP, m0, ll, j8, ?_, ?_, trivial⟩ <;> first | (simp only [ua, gB, jP, m0, ll, j8, j9, fR, nm, seval] <;> rfl) | rfl) ?_
   rintro tm ⟨eV, eY, fE, iG, lC, lW, _⟩
   cases jz : (Aw)
   ·simp only [jz, hs] at h
    cases du : (decide (cQ > 0))
    ·simp only [du, hs] at h
     obtain ⟨oB, np, h⟩ := optI h jI
     try simp only [hs] at h
     cases q9 : (bX.Letters != (List.length oB.Signs : Int))
     ·simp only [q9, hs] at h
      simp only [vz, tyf, gB, (aG mI), fR, eV, eY, fE, iG, lC, lW, jz, du, (aE np), q9, nm, seval]
      exact ⟨List.length jh, Nat.lt_succ_self _, by rw [jJ]; refine ⟨jh, cQ + 1, rfl, Int.le_trans eZ (Int.le_add_one (Int.le_refl _)), bS eZ gD, rfl, (show 15 ≤ hO + 67 by omega), ?_, ?_, eV, eY, ?_, (by first | exact h | (simp only [gB, fR, jz, du, q9]; exact h))⟩ <;> first | (simp only [ua, gB, fR, eV, eY, fE, iG, lC, lW, jz, du, q9, nm, seval] <;> rfl) | rfl⟩
     simp only [q9, hs] at h
     obtain ⟨SS, XB, h⟩ := optI h jI
     try simp only [hs] at h
     simp only [vz, tyf, gB, (aG mI), fR, eV, eY, fE, iG, lC, lW, jz, du, (aE np), q9, nm, seval]
     refine ktA (DC _ _ _ XB) ?_
     refine bt (fun tm => tm 2 = .ptr 0 0 ∧ tm 3 = .ptr 1 0 ∧ tm 5 = .lit (.int .i64 cQ) ∧ tm 74 = .lit (.bool true) ∧ tm 79 = .lit (.bool SS) ∧ True) (by refine ⟨eV, eY, fE, ?_, ?_, trivial⟩ <;> first | (simp only [ua, gB, fR, eV, eY, fE, iG, lC, lW, jz, du, q9, nm, seval] <;> rfl) | rfl) ?_
     rintro tm ⟨fG, dX, cv, cz, bF, _⟩
     cases mm : (SS)
     ·simp only [mm, hs] at h
      try simp only [vz, tyf, gB, (aG mI), fR, jz, du, (aE np), q9, fG, dX, cv, cz, bF, mm, nm, seval]
      replace h := m8 _ h
      try dsimp only at h
      obtain rfl := kF _ h
      exact bc Tryz.results23 rfl
     simp only [mm, hs] at h
     simp only [vz, tyf, gB, (aG mI), fR, jz, du, (aE np), q9, fG, dX, cv, cz, bF, mm, nm, seval]
     exact ⟨List.length jh, Nat.lt_succ_self _, by rw [jJ]; refine ⟨jh, cQ + 1, rfl, Int.le_trans eZ (Int.le_add_one (Int.le_refl _)), bS eZ gD, rfl, (show 15 ≤ hO + 67 by omega), ?_, ?_, fG, dX, ?_, (by first | exact h | (simp only [gB, fR, jz, du, q9, mm]; exact h))⟩ <;> first | (simp only [ua, gB, fR, jz, du, q9, fG, dX, cv, cz, bF, mm, nm, seval] <;> rfl) | rfl⟩
    simp only [du, hs] at h
    obtain ⟨Ys, xE, h⟩ := optI h jI
    try simp only [hs] at h
    obtain ⟨SU, XC, h⟩ := optI h jI
    try simp only [hs] at h
    simp only [vz, tyf, gB, (aG mI), fR, eV, eY, fE, iG, lC, lW, jz, du, (aG xE), nm, seval]
    refine dktA (Qf _ _ _ XC) ?_
    refine bt (fun tm => tm 2 = .ptr 0 0 ∧ tm 3 = .ptr 1 0 ∧ tm 5 = .lit (.int .i64 cQ) ∧ tm 6 = .ptr (hO + 10) 0 ∧ tm 47 = .lit (.bool false) ∧ tm 50 = .lit (.bool true) ∧ tm 58 = .lit (.bool SU) ∧ True) (by refine ⟨eV, eY, fE, iG, ?_, ?_, ?_, trivial⟩ <;> first | (simp only [ua, gB, fR, eV, eY, fE, iG, lC, lW, jz, du, nm, seval] <;> rfl) | rfl) ?_
    rintro tm ⟨cM, cy, cH, fS, rl, rn, rp, _⟩
    cases lK : (SU)
    ·simp only [lK, hs] at h
     try simp only [vz, tyf, gB, (aG mI), fR, jz, du, (aG xE), cM, cy, cH, fS, rl, rn, rp, lK, nm, seval]
     replace h := m8 _ h
     try dsimp only at h
     obtain rfl := kF _ h
     exact bc Tryz.results23 rfl
    simp only [lK, hs] at h
    obtain ⟨XD, xi, h⟩ := optI h jI
    try simp only [hs] at h
    cases ma : (bX.Letters != (List.length XD.Signs : Int))
    ·simp only [ma, hs] at h
     simp only [vz, tyf, gB, (aG mI), fR, jz, du, (aG xE), cM, cy, cH, fS, rl, rn, rp, lK, (aE xi), ma, nm, seval]
     exact ⟨List.length jh, Nat.lt_succ_self _, by rw [jJ]; refine ⟨jh, cQ + 1, rfl, Int.le_trans eZ (Int.le_add_one (Int.le_refl _)), bS eZ gD, rfl, (show 15 ≤ hO + 67 by omega), ?_, ?_, cM, cy, ?_, (by first | exact h | (simp only [gB, fR, jz, du, lK, ma]; exact h))⟩ <;> first | (simp only [ua, gB, fR, jz, du, cM, cy, cH, fS, rl, rn, rp, lK, ma, nm, seval] <;> rfl) | rfl⟩
    simp only [ma, hs] at h
    obtain ⟨SV, xF, h⟩ := optI h jI
    try simp only [hs] at h
    simp only [vz, tyf, gB, (aG mI), fR, jz, du, (aG xE), cM, cy, cH, fS, rl, rn, rp, lK, (aE xi), ma, nm, seval]
    refine ktA (DC _ _ _ xF) ?_
    refine bt (fun tm => tm 2 = .ptr 0 0 ∧ tm 3 = .ptr 1 0 ∧ tm 5 = .lit (.int .i64 cQ) ∧ tm 74 = .lit (.bool true) ∧ tm 79 = .lit (.bool SV) ∧ True) (by refine ⟨cM, cy, cH, ?_, ?_, trivial⟩ <;> first | (simp only [ua, gB, fR, jz, du, cM, cy, cH, fS, rl, rn, rp, lK, ma, nm, seval] <;> rfl) | rfl) ?_
    rintro tm ⟨DD, rq, kU, kV, kW, _⟩
    cases sA : (SV)
    ·simp only [sA, hs] at h
     have OX := And.intro gB (And.intro fR (And.intro jz (And.intro du (And.intro lK (And.intro ma sA)))))
     try simp only [vz, tyf, OX, (aG mI), (aG xE), (aE xi), DD, rq, kU, kV, kW, nm, seval]
     replace h := m8 _ h
     try dsimp only at h
     obtain rfl := kF _ h
     exact bc Tryz.results23 rfl
    simp only [sA, hs] at h
    have vH := And.intro gB (And.intro fR (And.intro jz (And.intro du (And.intro lK (And.intro ma sA)))))
    simp only [vz, tyf, vH, (aG mI), (aG xE), (aE xi), DD, rq, kU, kV, kW, nm, seval]
    exact ⟨List.length jh, Nat.lt_succ_self _, by rw [jJ]; refine ⟨jh, cQ + 1, rfl, Int.le_trans eZ (Int.le_add_one (Int.le_refl _)), bS eZ gD, rfl, (show 15 ≤ hO + 67 by omega), ?_, ?_, DD, rq, ?_, (by first | exact h | (simp only [vH]; exact h))⟩ <;> first | (simp only [ua, vH, DD, rq, kU, kV, kW, nm, seval] <;> rfl) | rfl⟩
   simp only [jz, hs] at h
   try simp only [vz, tyf, gB, (aG mI), fR, eV, eY, fE, iG, lC, lW, jz, nm, seval]
   replace h := m8 _ h
   try dsimp only at h
   obtain rfl := kF _ h
   exact bc Tryz.results23 rfl
 simp only [eF, hs] at h
 try simp only [vz, tyf, dV, cl, dM, gQ, eF, nm, seval]
 obtain rfl := kF _ h
 exact bc Tryz.results23 rfl
def wj (ag : GLs) (bU : GLx) : Option (Bool) := Option.bind (zY ag) (fun r1 => cond (r1) (Option.bind (ri bU) (fun r2 => cond (r2) (Option.bind (Av ag) (fun r3 => cond (r3) (Option.bind (sS ag bU) (fun r4 => some r4)) (some false))) (some false))) (some false))
theorem TZ (ag : GLs) (bU : GLx) (R : Bool) (h : wj ag bU = some R) : ad Tryz.prog G0 27 [.agg (cGLs ag), .agg (cGLx bU)] (.tree (.lit (.bool R))) := by
 refine ad.runR mixed Tryz.call27 Tryz.func27 rfl (by simp [Tryz.ntmps27]; kernel_rfl) ?_
 obtain ⟨KF, h, kF, kN⟩ := dZ h
 simp only [wj] at h
 obtain ⟨r5, o6, h⟩ := optI h kN
 try simp only [hs] at h
 simp only [vz, tyf, nm, seval]
 refine ktA (X2 _ _ o6) ?_
 refine bt (fun tm => tm 2 = .ptr 0 0 ∧ tm 3 = .ptr 1 0 ∧ tm 6 = .lit (.bool r5) ∧ True) (by refine ⟨?_, ?_, ?_, trivial⟩ <;> first | (simp only [ua, nm, seval] <;> rfl) | rfl) ?_
 rintro tm ⟨e7, e8, e9, _⟩
 cases ck : (r5)
 ·simp only [ck, hs] at h
  try simp only [vz, tyf, e7, e8, e9, ck, nm, seval]
  obtain rfl := kF _ h
  exact bc Tryz.results27 rfl
 simp only [ck, hs] at h
 obtain ⟨mj, iI, h⟩ := optI h kN
 try simp only [hs] at h
 simp only [vz, tyf, e7, e8, e9, ck, nm, seval]
 refine ktA (EL _ _ iI) ?_
 refine bt (fun tm => tm 2 = .ptr 0 0 ∧ tm 3 = .ptr 1 0 ∧ tm 7 = .lit (.bool true) ∧ tm 9 = .lit (.bool mj) ∧ True) (by refine ⟨e7, e8, ?_, ?_, trivial⟩ <;> first | (simp only [ua, e7, e8, e9, ck, nm, seval] <;> rfl) | rfl) ?_
 rintro tm ⟨bz, ca, eU, dK, _⟩
 cases bY : (mj)
 ·simp only [bY, hs] at h
  try simp only [vz, tyf, ck, bz, ca, eU, dK, bY, nm, seval]
  obtain rfl := kF _ h
  exact bc Tryz.results27 rfl
 simp only [bY, hs] at h
 obtain ⟨SW, Ah, h⟩ := optI h kN
 try simp only [hs] at h
 simp only [vz, tyf, ck, bz, ca, eU, dK, bY, nm, seval]
 refine ktA (V5 _ _ Ah) ?_
 refine bt (fun tm => tm 2 = .ptr 0 0 ∧ tm 3 = .ptr 1 0 ∧ tm 11 = .lit (.bool true) ∧ tm 13 = .lit (.bool SW) ∧ True) (by refine ⟨bz, ca, ?_, ?_, trivial⟩ <;> first | (simp only [ua, ck, bz, ca, eU, dK, bY, nm, seval] <;> rfl) | rfl) ?_
 rintro tm ⟨gP, dL, bX, dz, _⟩
 cases lP : (SW)
 ·simp only [lP, hs] at h
  try simp only [vz, tyf, ck, bY, gP, dL, bX, dz, lP, nm, seval]
  obtain rfl := kF _ h
  exact bc Tryz.results27 rfl
 simp only [lP, hs] at h
 obtain ⟨wh, j7, h⟩ := optI h kN
 try simp only [hs] at h
 simp only [vz, tyf, ck, bY, gP, dL, bX, dz, lP, nm, seval]
 refine ktA (EM _ _ _ j7) ?_
 refine bt (fun tm => tm 15 = .lit (.bool true) ∧ tm 18 = .lit (.bool wh) ∧ True) (by refine ⟨?_, ?_, trivial⟩ <;> first | (simp only [ua, ck, bY, gP, dL, bX, dz, lP, nm, seval] <;> rfl) | rfl) ?_
 rintro tm ⟨ec, eG, _⟩
 try simp only [vz, tyf, ck, bY, lP, ec, eG, nm, seval]
 obtain rfl := kF _ h
 exact bc Tryz.results27 rfl
theorem vI (a n b : Int) : nL a n b = some (inB a b n) := by
 unfold nL inB
 cases decide (a ≤ n) <;> rfl
theorem in_eq (n a b : Int) : lp n a b = some (inB a b n) := by
 unfold lp inB
 show cond (decide (a ≤ n)) _ _ = _
 cases decide (a ≤ n) <;> rfl
def spanB (m : Int) (x : GSpan) : Bool := decide (0 ≤ x.Low) && (decide (x.Low ≤ x.High) && decide (x.High ≤ m))
theorem OY (x : GSpan) (m : Int) : uo 0 x m = some (spanB m x) := by
 unfold uo spanB
 cases decide (0 ≤ x.Low) <;> cases decide (x.Low ≤ x.High) <;> rfl
theorem vJ (x : GSpan) (m : Int) : uR x m = some (spanB m x) := by
 unfold uR
 simp only [in_eq, Option.bind_some]
 by_cases h1 : 0 ≤ x.Low <;> by_cases h2 : x.Low ≤ x.High <;> by_cases h3 : x.High ≤ m <;> by_cases h4 : x.Low ≤ m <;> simp [inB, spanB, h1, h2, h3, h4] <;> omega
theorem SX (a b : Int) : ∀ (p : List Int) (i : Int), w9 a b p i = goB (p.all (inB a b))
 | [], _ => rfl
 | e :: p, i => by
  simp only [w9, lN, cnot, cand, vI, Option.bind_some, SX a b p, List.all_cons]
theorem OZ (a b : Int) (xs : List Int) (h : lenOk xs = true) : uk a xs b = some (xs.all (inB a b)) := by
 simp only [uk, h, cond_true, SX]
 cases xs.all (inB a b) <;> rfl
def incr : Int → List Int → Bool
 | _, [] => true
 | q, e :: p => !decide (e ≤ q) && incr e p
def incrL : List Int → Bool
 | [] => true
 | e :: p => incr e p
theorem xt {α : Type} {xs p : List α} {q : α} {i : Int} (h0 : 1 ≤ i) (hi : i < 9223372036854775808) (h : xs.drop (i - 1).toNat = q :: p) : getI xs (i64.wrap (i - 1)) = some q := by
 rw [kf (by omega) (by omega)]
 exact eg (by omega) h
theorem xr {α : Type} {xs p : List α} {n : Nat} (h : xs.drop n = p) : n + p.length ≤ xs.length ∨ p = [] := by
 subst h
 by_cases hn : n ≤ xs.length
 ·left; simp; omega
 ·right; exact List.drop_eq_nil_of_le (by omega)
theorem SY (xs : List Int) (hl : lenOk xs = true) : ∀ (p : List Int) (q i : Int), 1 ≤ i → xs.drop (i - 1).toNat = q :: p → wO xs p i = goB (incr q p)
 | [], _, _, _, _ => rfl
 | e :: p, q, i, h0, h => by
  have hb := uj hl
  have hle := xr h
  simp only [List.length_cons] at hle
  have hi : i < 9223372036854775808 := by
   rcases hle with hle | hle
   ·omega
   ·cases hle
  have hn : xs.drop (i + 1 - 1).toNat = e :: p := by
   have := bS (i := i - 1) (by omega) h
   rwa [show i - 1 + 1 = i + 1 - 1 by omega] at this
  simp only [wO, lN, cnot, cand, xt h0 hi h, Option.bind_some, SY xs hl p e (i + 1) (by omega) hn, incr]
theorem SZ (a b : Int) (xs : List Int) (h : lenOk xs = true) : wP a xs b = some (incrL xs && xs.all (inB a b)) := by
 have h1 : leB 0 1 = true := rfl
 simp only [wP, h, h1, cond_true, OZ a b xs h]
 cases xs with
 | nil => rfl
 | cons e p =>
  have := SY (e :: p) h p e 1 (by omega) (by rfl)
  rw [show List.drop (Int.toNat 1) (e :: p) = p from rfl, this]
  simp only [incrL]
  cases incr e p <;> rfl
def cutsB (hi : Int) : Option Int → List Int → Bool
 | _, [] => true
 | none, e :: p => inB 1 hi e && cutsB hi (some e) p
 | some q, e :: p => inB 1 hi e && (!decide (e ≤ q) && cutsB hi (some e) p)
theorem Ta (hi : Int) : ∀ (p : List Int) (q : Int), cutsB hi (some q) p = (incr q p && p.all (inB 1 hi))
 | [], _ => rfl
 | e :: p, q => by
  simp only [cutsB, Ta hi p e, incr, List.all_cons]
  cases h1 : inB 1 hi e <;> cases h2 : decide (e ≤ q) <;> cases h3 : incr e p <;> simp [h1, h2, h3]
theorem Pa (hi : Int) : ∀ (p : List Int), cutsB hi none p = (incrL p && p.all (inB 1 hi))
 | [] => rfl
 | e :: p => by
  simp only [cutsB, Ta, incrL, List.all_cons]
  cases h1 : inB 1 hi e <;> cases h2 : incr e p <;> simp [h1, h2]
theorem Tb (w : GLw) (hl : lenOk w.Cuts = true) : ∀ (p : List Int) (q : Int) (i : Int), 1 ≤ i → w.Cuts.drop (i - 1).toNat = q :: p →
  rU w p i = goB (cutsB (i64.wrap ((w.Signs.length : Int) - 1)) (some q) p)
 | [], _, _, _, _ => rfl
 | e :: p, q, i, h0, h => by
  have hb := uj hl
  have hle := xr h
  simp only [List.length_cons] at hle
  have hi : i < 9223372036854775808 := by
   rcases hle with hle | hle
   ·omega
   ·cases hle
  have hn : w.Cuts.drop (i + 1 - 1).toNat = e :: p := by
   have := bS (i := i - 1) (by omega) h
   rwa [show i - 1 + 1 = i + 1 - 1 by omega] at this
  have hp : decide (i > 0) = true := by simp; omega
  simp only [rU, lN, cnot, cand, in_eq, xt h0 hi h, hp, Option.bind_some, Tb w hl p e (i + 1) (by omega) hn, cutsB, cond_true]
theorem Pb (w : GLw) (hl : lenOk w.Cuts = true) : rU w w.Cuts 0 = goB (cutsB (i64.wrap ((w.Signs.length : Int) - 1)) none w.Cuts) := by
 generalize hc : w.Cuts = cs
 cases cs with
 | nil => rfl
 | cons e p =>
  have := Tb w hl p e (0 + 1) (by omega) (by rw [hc]; rfl)
  simp only [rU, lN, cnot, cand, in_eq, Option.bind_some, this, cutsB, show decide ((0 : Int) > 0) = false from rfl, cond_false]
theorem vK (s : GLs) (n : Int) : uP s n = some (inB 0 (i64.wrap ((s.Widths.length : Int) - 1)) n) := by
 simp only [uP, in_eq, Option.bind_some]
theorem Tc (s : GLs) : ∀ (p : List Int) (i : Int), wU s p i = goB (p.all (inB 0 (i64.wrap ((s.Widths.length : Int) - 1))))
 | [], _ => rfl
 | e :: p, i => by
  simp only [wU, lN, cnot, cand, vK, Option.bind_some, Tc s p, List.all_cons]
def wordB (n : Int) (w : GLw) : Bool := inB 1 6 w.Signs.length && (w.Signs.all (inB 0 n) && (incrL w.Cuts && w.Cuts.all (inB 1 (i64.wrap ((w.Signs.length : Int) - 1)))))
theorem Pc (s : GLs) (w : GLw) (h1 : lenOk w.Signs = true) (h2 : lenOk w.Cuts = true) : Am s w = some (wordB (i64.wrap ((s.Widths.length : Int) - 1)) w) := by
 simp only [Am, h1, h2, cond_true, Tc, Pb w h2, in_eq, Option.bind_some, Pa, wordB]
 cases w.Signs.all _ <;> cases (incrL w.Cuts && w.Cuts.all _) <;> cases inB 1 6 _ <;> rfl
def Fine (w : GLw) : Prop := lenOk w.Signs = true ∧ lenOk w.Cuts = true
theorem Td (s : GLs) : ∀ (p : List GLw) (i : Int), (∀ w ∈ p, Fine w) → xb s p i = goB (p.all (wordB (i64.wrap ((s.Widths.length : Int) - 1))))
 | [], _, _ => rfl
 | e :: p, i, h => by
  have he := h e (List.mem_cons_self ..)
  simp only [xb, lN, cnot, cand, Pc s e he.1 he.2, Option.bind_some, Td s p (i + 1) (fun w hw => h w (List.mem_cons_of_mem _ hw)), List.all_cons]
theorem Te (n : Int) : ∀ (p : List GLw) (i : Int), (∀ w ∈ p, Fine w) → wQ n p i = goB (p.all (wordB (i64.wrap (n - 1))))
 | [], _, _ => rfl
 | e :: p, i, h => by
  have he := h e (List.mem_cons_self ..)
  simp only [wQ, lN, cnot, cand, vI, OZ _ _ _ he.1, SZ _ _ _ he.2, Option.bind_some, Te n p (i + 1) (fun w hw => h w (List.mem_cons_of_mem _ hw)), List.all_cons, wordB]
theorem Tf : ∀ (p : List Int) (i : Int), xc p i = goB (p.all (inB 1 20))
 | [], _ => rfl
 | e :: p, i => by
  simp only [xc, lN, cnot, cand, in_eq, Option.bind_some, Tf p, List.all_cons]
def sgn (a b : Int) : Int := if a < b then -1 else if a > b then 1 else 0
theorem Tg (a b : Int) : tn a b = some (sgn a b) := by
 unfold tn zA sgn
 by_cases h1 : a < b <;> by_cases h2 : a > b <;> simp [h1, h2]
def pairGe (a b : GLp) : Bool := cond (decide (a.Left > b.Left)) true (cond (a.Left == b.Left) (decide (a.Right ≥ b.Right)) false)
theorem or_eq (a b : Int) : wK [a, b] = some (if a = 0 then b else a) := by
 have e : (fun x : Int => x != 0) a = !decide (a = 0) := by by_cases h : a = 0 <;> simp [h]
 have e' : (b != 0) = !decide (b = 0) := by by_cases h : b = 0 <;> simp [h]
 simp only [] at e
 by_cases h : a = 0 <;> by_cases h' : b = 0 <;> simp [wK, zZ, lenOk, lbind, e, e', h, h']
theorem XE (a b : GLp) : ∃ r, Ac a b = some r ∧ decide (r ≥ 0) = pairGe a b := by
 refine ⟨_, by simp only [Ac, Tg, or_eq, Option.bind_some]; rfl, ?_⟩
 unfold sgn pairGe
 by_cases h1 : a.Left < b.Left
 ·have : ¬ a.Left > b.Left := by omega
  have h3 : ¬ a.Left = b.Left := by omega
  simp [h1, this, h3]
 ·by_cases h2 : a.Left > b.Left
  ·simp [h1, h2]
  ·have h3 : a.Left = b.Left := by omega
   by_cases h4 : a.Right < b.Right
   ·have : ¬ a.Right ≥ b.Right := by omega
    simp [h3, h4]
   ·by_cases h5 : a.Right > b.Right
    ·simp [h3, h4, h5]; omega
    ·simp [h3, h4, h5]; omega
def pairB (m : Int) (e : GLp) : Bool := inB 0 m e.Left && (inB 0 m e.Right && spanB 9 e.Space)
def pairsG (m : Int) : Option GLp → List GLp → Bool
 | _, [] => true
 | none, e :: p => pairB m e && pairsG m (some e) p
 | some q, e :: p => pairB m e && (!pairGe q e && pairsG m (some e) p)
theorem Th (s : GLs) (hl : lenOk s.Pairs = true) : ∀ (p : List GLp) (q : GLp) (i : Int), 1 ≤ i → s.Pairs.drop (i - 1).toNat = q :: p →
  qN s p i = goB (pairsG (i64.wrap ((s.Widths.length : Int) - 1)) (some q) p)
 | [], _, _, _, _ => rfl
 | e :: p, q, i, h0, h => by
  have hb := uj hl
  have hle := xr h
  simp only [List.length_cons] at hle
  have hi : i < 9223372036854775808 := by
   rcases hle with hle | hle
   ·omega
   ·cases hle
  have hn : s.Pairs.drop (i + 1 - 1).toNat = e :: p := by
   have := bS (i := i - 1) (by omega) h
   rwa [show i - 1 + 1 = i + 1 - 1 by omega] at this
  have hp : decide (i > 0) = true := by simp; omega
  simp only [qN, lN, cnot, vK, vJ, xt h0 hi h, hp, Option.bind_some, Th s hl p e (i + 1) (by omega) hn, pairsG, pairB, cand, cond_true, pairGe]
  cases decide (q.Left > e.Left) <;> cases (q.Left == e.Left) <;> rfl
theorem XF (s : GLs) (hl : lenOk s.Pairs = true) : qN s s.Pairs 0 = goB (pairsG (i64.wrap ((s.Widths.length : Int) - 1)) none s.Pairs) := by
 generalize hc : s.Pairs = cs
 cases cs with
 | nil => rfl
 | cons e p =>
  have := Th s hl p e (0 + 1) (by omega) (by rw [hc]; rfl)
  simp only [qN, lN, cnot, cand, vK, vJ, Option.bind_some, this, pairsG, pairB, show decide ((0 : Int) > 0) = false from rfl, cond_false]
theorem Ti (xs : List GLp) (n : Int) (hl : lenOk xs = true) : ∀ (p : List GLp) (q : GLp) (i : Int), 1 ≤ i → xs.drop (i - 1).toNat = q :: p →
  rT xs n p i = goB (pairsG (i64.wrap (n - 1)) (some q) p)
 | [], _, _, _, _ => rfl
 | e :: p, q, i, h0, h => by
  have hb := uj hl
  have hle := xr h
  simp only [List.length_cons] at hle
  have hi : i < 9223372036854775808 := by
   rcases hle with hle | hle
   ·omega
   ·cases hle
  have hn : xs.drop (i + 1 - 1).toNat = e :: p := by
   have := bS (i := i - 1) (by omega) h
   rwa [show i - 1 + 1 = i + 1 - 1 by omega] at this
  have hp : decide (i > 0) = true := by simp; omega
  obtain ⟨r, hr, hr'⟩ := XE q e
  simp only [rT, lN, cnot, vI, OY, xt h0 hi h, hp, hr, hr', Option.bind_some, Ti xs n hl p e (i + 1) (by omega) hn, pairsG, pairB, cand, cond_true]
theorem XG (xs : List GLp) (n : Int) (hl : lenOk xs = true) : rT xs n xs 0 = goB (pairsG (i64.wrap (n - 1)) none xs) := by
 cases xs with
 | nil => rfl
 | cons e p =>
  have := Ti (e :: p) n hl p e (0 + 1) (by omega) rfl
  simp only [rT, lN, cnot, cand, vI, OY, Option.bind_some, this, pairsG, pairB, show decide ((0 : Int) > 0) = false from rfl, cond_false]
def FineS (s : GLs) : Prop := lenOk s.Widths = true ∧ lenOk s.Pairs = true ∧ lenOk s.Words = true ∧ ∀ w ∈ s.Words, Fine w
def sheetB (s : GLs) : Bool :=
 inB 1 6 s.Widths.length && s.Widths.all (inB 1 20) &&
 (decide ((s.Pairs.length : Int) ≤ 6) && pairsG (i64.wrap ((s.Widths.length : Int) - 1)) none s.Pairs) &&
 spanB 9 s.Other && spanB 20 s.Gap && inB 1 20 s.Hyphen &&
 (inB 1 4 s.Words.length && s.Words.all (wordB (i64.wrap ((s.Widths.length : Int) - 1)))) &&
 inB 1 400 s.Wide && inB 1 3 s.Rows
theorem Pd (n : Int) : At n = some (inB 1 400 n) := by
 simp only [At, in_eq, Option.bind_some]
theorem Pe (s : GLs) (h : lenOk s.Pairs = true) : Aq s = some (decide ((s.Pairs.length : Int) ≤ 6) && pairsG (i64.wrap ((s.Widths.length : Int) - 1)) none s.Pairs) := by
 simp only [Aq, h, cond_true, XF s h, te, csome]
 rw [Bool.and_comm]
theorem Pf (xs : List GLp) (n : Int) (h : lenOk xs = true) : Ad xs n = some (decide ((xs.length : Int) ≤ 6) && pairsG (i64.wrap (n - 1)) none xs) := by
 simp only [Ad, h, cond_true, XG xs n h, te]
 by_cases hn : (xs.length : Int) ≤ 6
 ·have : ¬ (xs.length : Int) > 6 := by omega
  simp only [hn, this, decide_true, decide_false, cond_false, Bool.true_and]
  cases pairsG _ _ xs <;> rfl
 ·have : (xs.length : Int) > 6 := by omega
  simp only [hn, this, decide_true, decide_false, cond_true, Bool.false_and]
theorem JF (s : GLs) (h : FineS s) : Av s = some (sheetB s) := by
 obtain ⟨h1, h2, h3, h4⟩ := h
 simp only [Av, h1, h3, cond_true, Tf, Td s _ _ h4, te, in_eq, vJ, Pd, Pe s h2, Option.bind_some, csome, sheetB, ← Bool.and_assoc]
 congr 1
 simp only [Bool.and_assoc]
 cases s.Widths.all _ <;> cases s.Words.all _ <;> simp [Bool.and_comm, Bool.and_left_comm]
theorem XH (xs : List Int) (h : lenOk xs = true) : z9 xs = some (inB 1 6 xs.length && xs.all (inB 1 20)) := by
 simp only [z9, vI, OZ _ _ _ h, Option.bind_some, csome]
theorem Pg (xs : List GLw) (n : Int) (h : lenOk xs = true) (hw : ∀ w ∈ xs, Fine w) : Aj xs n = some (inB 1 4 xs.length && xs.all (wordB (i64.wrap (n - 1)))) := by
 simp only [Aj, vI, Option.bind_some, h, cond_true, Te n xs 0 hw, te, csome, Bool.and_true]
theorem JG (s : GLs) (h : FineS s) : tl s = some (sheetB s) := by
 obtain ⟨h1, h2, h3, h4⟩ := h
 simp only [tl, XH _ h1, Pf _ _ h2, Pg _ _ h3 h4, vI, OY, Option.bind_some, csome, sheetB, Bool.and_assoc]
def xG (ag : GLs) : List Int → Int → Option (LOut (Bool) (Unit))
 | [], lz => some (.go ())
 | e0 :: p0, lz => Option.bind (getI ag.Words e0) (fun x2 => cond (x2.Free) (xG ag p0 (lz + 1)) (some (.ret false)))
def BV (ag : GLs) (aC : List Int) : Option (Bool) := cond (decide ((List.length aC : Int) ≥ (List.length ag.Words : Int))) (some false) (Option.bind (wP 0 aC (i64.wrap ((List.length ag.Words : Int) - 1))) (fun r1 => cond (r1) (cond (lenOk aC) (lbind (xG ag aC 0) (fun r4 => some r4) (fun c3 => some true) (fun _ _ => none)) none) (some false)))
theorem XI (ag : GLs) (aC : List Int) (R : Bool) (h : BV ag aC = some R) : ad Tryz.prog G0 114 [.agg (cGLs ag), .sl (aa eI aC) (List.length aC) false] (.tree (.lit (.bool R))) := by
 refine ad.runR mixed Tryz.call114 Tryz.func114 rfl (by simp [Tryz.ntmps114]; kernel_rfl) ?_
 obtain ⟨KF, h, kF, kN⟩ := dZ h
 simp only [BV] at h
 cases d5 : (decide ((List.length aC : Int) ≥ (List.length ag.Words : Int)))
 ·simp only [d5, hs] at h
  obtain ⟨r6, o7, h⟩ := optI h kN
  try simp only [hs] at h
  simp only [vz, tyf, d5, nm, seval]
  refine ktA (Rz _ _ _ _ o7) ?_
  refine bt (fun tm => tm 1 = .sl (aa eI aC) (List.length aC) false ∧ tm 2 = .ptr 0 0 ∧ tm 13 = .lit (.bool false) ∧ tm 19 = .lit (.bool r6) ∧ True) (by refine ⟨?_, ?_, ?_, ?_, trivial⟩ <;> first | (simp only [ua, d5, nm, seval] <;> rfl) | rfl) ?_
  rintro tm ⟨e8, e9, bh, bj, _⟩
  cases dt : (r6)
  ·simp only [dt, hs] at h
   try simp only [vz, tyf, d5, e8, e9, bh, bj, dt, nm, seval]
   obtain rfl := kF _ h
   exact bc Tryz.results114 rfl
  simp only [dt, hs] at h
  cases kP : (lenOk aC)
  ·simp only [kP, hs] at h
   exact absurd h kN
  simp only [kP, hs] at h
  simp only [vz, tyf, d5, e8, e9, bh, bj, dt, kP, nm, seval]
  obtain ⟨JM, h, qa, uJ, JN, qb⟩ := gu h kN
  obtain ⟨JO, uK, h⟩ := call2 h
  obtain ⟨JP, m4⟩ : ∃ I : Nat → St → Prop, I = (fun m st => ∃ (ln : List Int) (fD : Int), m = List.length ln ∧ 0 ≤ fD ∧ List.drop (Int.toNat fD) aC = ln ∧ st.df = [] ∧ 20 ≤ st.nx ∧ st.H 0 = some (.cells (some 28) (cGLs ag)) ∧ st.tm 2 = .ptr 0 0 ∧ st.tm 22 = .sl (aa eI aC) (List.length aC) false ∧ st.tm 23 = .lit (.int .i64 (List.length aC : Int)) ∧ st.tm 24 = .lit (.int .i64 fD) ∧ JM (JO ln fD)) := ⟨_, rfl⟩
  refine loopK mixed (by kernel_rfl) JP (List.length aC) (by rw [m4]; refine ⟨aC, 0, rfl, Int.le_refl _, rfl, rfl, (show 20 ≤ 20 by omega), ?_, e9, ?_, ?_, ?_, h⟩ <;> first | (simp only [ua, d5, e8, e9, bh, bj, dt, nm, seval] <;> rfl) | rfl) ?_
  rintro m ⟨tm, H, m5, df⟩ hinv
  rw [m4] at hinv
  obtain ⟨ln, fD, rfl, hC, jc, hdf, uL, qA, dK, dV, cl, dM, h⟩ := hinv
  simp only at hdf uL qA dK dV cl dM
  have lu := gv (m := 20) (b := m5) (by omega)
  subst hdf uK
  cases ln with
  | nil =>
   have eF : (decide (fD < (List.length aC : Int))) = false := fj hC jc
   simp only [xG, hs, reduceCtorEq] at h
   replace h := uJ _ h
   try dsimp only at h
   try simp only [hs] at h
   try simp only [vz, tyf, d5, dt, kP, lu, dK, dV, cl, dM, qA, eF, nm, seval]
   obtain rfl := kF _ h
   exact bc Tryz.results114 rfl
  | cons bz ln =>
   have s8 : (decide (fD < (List.length aC : Int))) = true := fk hC jc
   have Tj := eg hC jc
   have Tk := fm hC jc kP
   simp only [xG, hs, reduceCtorEq] at h
   obtain ⟨XJ, j7, h⟩ := optI h qb
   try simp only [hs] at h
   cases s6 : (XJ.Free)
   ·simp only [s6, hs] at h
    have ib := And.intro d5 (And.intro dt (And.intro kP (And.intro lu (And.intro qA (And.intro s8 (And.intro Tk s6))))))
    try simp only [vz, tyf, ib, dK, dV, cl, dM, (aD Tj), (aE j7), nm, seval]
    replace h := qa _ h
    try dsimp only at h
    obtain rfl := kF _ h
    exact bc Tryz.results114 rfl
   simp only [s6, hs] at h
   have wY := And.intro d5 (And.intro dt (And.intro kP (And.intro lu (And.intro qA (And.intro s8 (And.intro Tk s6))))))
   simp only [vz, tyf, wY, dK, dV, cl, dM, (aD Tj), (aE j7), nm, seval]
   exact ⟨List.length ln, Nat.lt_succ_self _, by rw [m4]; refine ⟨ln, fD + 1, rfl, Int.le_trans hC (Int.le_add_one (Int.le_refl _)), bS hC jc, rfl, (show 20 ≤ m5 + 13 by omega), ?_, dK, dV, cl, ?_, (by first | exact h | (simp only [wY]; exact h))⟩ <;> first | (simp only [ua, wY, dK, dV, cl, dM, nm, seval] <;> rfl) | rfl | (simp only [ua, tyf, wY, dK, dV, cl, dM, nm, seval] <;> rfl)⟩
 simp only [d5, hs] at h
 try simp only [vz, tyf, d5, nm, seval]
 obtain rfl := kF _ h
 exact bc Tryz.results114 rfl
def xH (dr : Int) : List Int → Int → Option (LOut (Int) (Unit))
 | [], gZ => some (.go ())
 | e0 :: p0, gZ => cond (dr == e0) (some (.ret gZ)) (xH dr p0 (gZ + 1))
def DE (ag : List Int) (dr : Int) : Option (Int) := cond (lenOk ag) (lbind (xH dr ag 0) (fun r2 => some r2) (fun c1 => some (-1)) (fun _ _ => none)) none
theorem XK (ag : List Int) (dr : Int) (R : Int) (h : DE ag dr = some R) : ad Tryz.prog G0 151 [.sl (aa eI ag) (List.length ag) false, .lit (.int .i64 dr)] (.tree (.lit (.int .i64 R))) := by
 refine ad.runR mixed Tryz.call151 Tryz.func151 rfl (by simp [Tryz.ntmps151]; kernel_rfl) ?_
 obtain ⟨KF, h, kF, kN⟩ := dZ h
 simp only [DE] at h
 cases g4 : (lenOk ag)
 ·simp only [g4, hs] at h
  exact absurd h kN
 simp only [g4, hs] at h
 simp only [vz, tyf, g4, nm, seval]
 obtain ⟨K3, h, pV, oN, Aa, Ab⟩ := gu h kN
 obtain ⟨f3, pW, h⟩ := call2 h
 obtain ⟨I3, ja⟩ : ∃ I : Nat → St → Prop, I = (fun m st => ∃ (p3 : List Int) (bM : Int), m = List.length p3 ∧ 0 ≤ bM ∧ List.drop (Int.toNat bM) ag = p3 ∧ st.df = [] ∧ 4 ≤ st.nx ∧ st.tm 0 = .sl (aa eI ag) (List.length ag) false ∧ st.tm 1 = .lit (.int .i64 dr) ∧ st.tm 7 = .lit (.int .i64 (List.length ag : Int)) ∧ st.tm 8 = .lit (.int .i64 bM) ∧ K3 (f3 p3 bM)) := ⟨_, rfl⟩
 refine loopK mixed (by kernel_rfl) I3 (List.length ag) (by rw [ja]; refine ⟨ag, 0, rfl, Int.le_refl _, rfl, rfl, (show 4 ≤ 4 by omega), ?_, ?_, ?_, ?_, h⟩ <;> first | (simp only [ua, nm, seval] <;> rfl) | rfl) ?_
 rintro m ⟨tm, H, lk, df⟩ hinv
 rw [ja] at hinv
 obtain ⟨p3, bM, rfl, eM, fx, hdf, pZ, e5, e6, e7, e8, h⟩ := hinv
 simp only at hdf pZ e5 e6 e7 e8
 have n9 := gv (m := 4) (b := lk) (by omega)
 subst hdf pW
 cases p3 with
 | nil =>
  have ck : (decide (bM < (List.length ag : Int))) = false := fj eM fx
  simp only [xH, hs, reduceCtorEq] at h
  replace h := oN _ h
  try dsimp only at h
  try simp only [hs] at h
  try simp only [vz, tyf, g4, n9, e5, e6, e7, e8, ck, nm, seval]
  refine d4 (x := (.lit (.int .i64 (-1)))) (by first | (simp only [Tryz.results151, resV, resL, aJ, dU, dT, uw, cr, tyf, g4, n9, ck, nm, seval] <;> rfl) | rfl) ?_
  obtain rfl := kF _ h
  refine dW ?_ ?_
  ·simp only [tre, aw, Bool.and_self]
  ·first | (simp only [outV, uw, fu, cr, tyf, nrm, ar, g4, n9, e5, e6, e7, e8, ck, nm, seval] <;> rfl) | rfl
 | cons e3 p3 =>
  have fg : (decide (bM < (List.length ag : Int))) = true := fk eM fx
  have ml := eg eM fx
  have mT := fm eM fx g4
  simp only [xH, hs, reduceCtorEq] at h
  cases bO : (dr == e3)
  ·simp only [bO, hs] at h
   simp only [vz, tyf, g4, n9, e5, e6, e7, e8, fg, (aD ml), mT, bO, nm, seval]
   exact ⟨List.length p3, Nat.lt_succ_self _, by rw [ja]; refine ⟨p3, bM + 1, rfl, Int.le_trans eM (Int.le_add_one (Int.le_refl _)), bS eM fx, rfl, (show 4 ≤ lk + 11 by omega), e5, e6, e7, ?_, (by first | exact h | (simp only [fg, bO]; exact h))⟩ <;> first | (simp only [ua, n9, e5, e6, e7, e8, fg, mT, bO, nm, seval] <;> rfl) | rfl⟩
  simp only [bO, hs] at h
  try simp only [vz, tyf, g4, n9, e5, e6, e7, e8, fg, (aD ml), mT, bO, nm, seval]
  refine d4 (x := (.lit (.int .i64 bM))) (by first | (simp only [Tryz.results151, resV, resL, aJ, dU, dT, uw, cr, tyf, g4, n9, fg, (aD ml), mT, bO, nm, seval] <;> rfl) | rfl) ?_
  replace h := pV _ h
  try dsimp only at h
  obtain rfl := kF _ h
  refine dW ?_ ?_
  ·simp only [tre, aw, Bool.and_self]
  ·first | (simp only [outV, uw, fu, cr, tyf, nrm, ar, g4, n9, e5, e6, e7, e8, fg, (aD ml), mT, bO, nm, seval] <;> rfl) | rfl
def xv (ag : List Int) (dr : Int) : Option (Bool) := Option.bind (DE ag dr) (fun r1 => some (decide (r1 ≥ 0)))
theorem Dt (ag : List Int) (dr : Int) (R : Bool) (h : xv ag dr = some R) : ad Tryz.prog G0 117 [.sl (aa eI ag) (List.length ag) false, .lit (.int .i64 dr)] (.tree (.lit (.bool R))) := by
 refine ad.runR mixed Tryz.call117 Tryz.func117 rfl (by simp [Tryz.ntmps117]; kernel_rfl) ?_
 obtain ⟨KF, h, kF, kN⟩ := dZ h
 simp only [xv] at h
 obtain ⟨r2, o3, h⟩ := optI h kN
 try simp only [hs] at h
 simp only [vz, tyf, nm, seval]
 refine ktA (XK _ _ _ o3) ?_
 refine bt (fun tm => tm 7 = .lit (.int .i64 r2) ∧ True) (by refine ⟨?_, trivial⟩ <;> first | (simp only [ua, nm, seval] <;> rfl) | rfl) ?_
 rintro tm ⟨e4, _⟩
 try simp only [vz, tyf, e4, nm, seval]
 obtain rfl := kF _ h
 exact bc Tryz.results117 rfl
end Go.V
end
