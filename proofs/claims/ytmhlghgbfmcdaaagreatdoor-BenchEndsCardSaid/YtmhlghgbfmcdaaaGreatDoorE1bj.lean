/- Part of a proof. -/
import Derived.Test.YtmhlghgbfmcdaaaGreatDoorE1bi
set_option linter.all false
set_option maxRecDepth 4000
set_option maxHeartbeats 40000000
section
namespace Go.V
open Go Go.Proofs IntKind
def sZ (ai : GBk) (xs : Int) (d6 : Int) : Option (Bool) := cond (d6 == 0) (some true) (Option.bind (getI ai.Strokes xs) (fun x1 => some (!x1.Round)))
theorem MK (ai : GBk) (xs : Int) (d6 : Int) (R : Bool) (h : sZ ai xs d6 = some R) : ah Tryz.prog G0 104 [.agg (cGBk ai), .lit (.int .i64 xs), .lit (.int .i64 d6)] (.tree (.lit (.bool R))) := by
 refine ah.runR mixed Tryz.call104 Tryz.func104 rfl (by simp [Tryz.ntmps104]; kernel_rfl) ?_
 obtain ⟨KF, h, kF, kN⟩ := cA h
 simp only [sZ] at h
 cases d2 : (d6 == 0)
 ·simp only [d2, hs] at h
  obtain ⟨x3, o4, h⟩ := optI h kN
  try simp only [hs] at h
  try simp only [vz, tyf, d2, (aH o4), nm, seval]
  obtain rfl := kF _ h
  exact bc Tryz.results104 rfl
 simp only [d2, hs] at h
 try simp only [vz, tyf, d2, nm, seval]
 obtain rfl := kF _ h
 exact bc Tryz.results104 rfl
def qs (ai : GBk) : List Int → Int → Option (LOut (Bool) (Unit))
 | [], jT => some (.go ())
 | e0 :: p0, jT => Option.bind (sZ ai jT e0) (fun r2 => cond (r2) (qs ai p0 (jT + 1)) (some (.ret false)))
def pZ (ai : GBk) (ae : List Int) : Option (Bool) := cond ((List.length ae : Int) != (List.length ai.Strokes : Int)) (some false) (Option.bind (oa 0 ae ai.Apprentices) (fun r1 => cond (r1) (cond (aC ae) (lbind (qs ai ae 0) (fun r4 => some r4) (fun c3 => some true) (fun _ _ => none)) none) (some false)))
theorem Ie (ai : GBk) (ae : List Int) (R : Bool) (h : pZ ai ae = some R) : ah Tryz.prog G0 68 [.agg (cGBk ai), .sl (aa eI ae) (List.length ae) false] (.tree (.lit (.bool R))) := by
 refine ah.runR mixed Tryz.call68 Tryz.func68 rfl (by simp [Tryz.ntmps68]; kernel_rfl) ?_
 obtain ⟨KF, h, kF, kN⟩ := cA h
 simp only [pZ] at h
 cases d5 : ((List.length ae : Int) != (List.length ai.Strokes : Int))
 ·simp only [d5, hs] at h
  obtain ⟨r6, o7, h⟩ := optI h kN
  try simp only [hs] at h
  simp only [vz, tyf, d5, nm, seval]
  refine ktA (BJ _ _ _ _ o7) ?_
  refine bJ (fun tm => tm 1 = .sl (aa eI ae) (List.length ae) false ∧ tm 2 = .ptr 0 0 ∧ tm 13 = .lit (.bool false) ∧ tm 17 = .lit (.bool r6) ∧ True) (by refine ⟨?_, ?_, ?_, ?_, trivial⟩ <;> first | (simp only [ua, d5, nm, seval] <;> rfl) | rfl) ?_
  rintro tm ⟨e8, e9, aQ, aT, _⟩
  cases bn : (r6)
  ·simp only [bn, hs] at h
   try simp only [vz, tyf, d5, e8, e9, aQ, aT, bn, nm, seval]
   obtain rfl := kF _ h
   exact bc Tryz.results68 rfl
  simp only [bn, hs] at h
  cases oB : (aC ae)
  ·simp only [oB, hs] at h
   exact absurd h kN
  simp only [oB, hs] at h
  simp only [vz, tyf, d5, e8, e9, aQ, aT, bn, oB, nm, seval]
  obtain ⟨ML, h, Cs, Ct, MM, Cu⟩ := eN h kN
  obtain ⟨MN, Cv, h⟩ := call2 h
  obtain ⟨MO, oC⟩ : ∃ I : Nat → St → Prop, I = (fun m st => ∃ (m4 : List Int) (c8 : Int), m = List.length m4 ∧ 0 ≤ c8 ∧ List.drop (Int.toNat c8) ae = m4 ∧ st.df = [] ∧ 18 ≤ st.nx ∧ st.H 0 = some (.cells (some 25) (cGBk ai)) ∧ st.tm 2 = .ptr 0 0 ∧ st.tm 20 = .sl (aa eI ae) (List.length ae) false ∧ st.tm 21 = .lit (.int .i64 (List.length ae : Int)) ∧ st.tm 22 = .lit (.int .i64 c8) ∧ ML (MN m4 c8)) := ⟨_, rfl⟩
  refine loopK mixed (by kernel_rfl) MO (List.length ae) (by rw [oC]; refine ⟨ae, 0, rfl, Int.le_refl _, rfl, rfl, (show 18 ≤ 18 by omega), ?_, e9, ?_, ?_, ?_, h⟩ <;> first | (simp only [ua, d5, e8, e9, aQ, aT, bn, nm, seval] <;> rfl) | rfl) ?_
  rintro m ⟨tm, H, ta, df⟩ hinv
  rw [oC] at hinv
  obtain ⟨m4, c8, rfl, jb, jU, hdf, Cw, tc, bE, b5, bF, bQ, h⟩ := hinv
  simp only at hdf Cw tc bE b5 bF bQ
  have v3 := fj (m := 18) (b := ta) (by omega)
  subst hdf Cv
  cases m4 with
  | nil =>
   have dK : (decide (c8 < (List.length ae : Int))) = false := eg jb jU
   simp only [qs, hs, reduceCtorEq] at h
   replace h := Ct _ h
   try dsimp only at h
   try simp only [hs] at h
   try simp only [vz, tyf, d5, bn, oB, v3, bE, b5, bF, bQ, tc, dK, nm, seval]
   obtain rfl := kF _ h
   exact bc Tryz.results68 rfl
  | cons ba m4 =>
   have nj : (decide (c8 < (List.length ae : Int))) = true := eh jb jU
   have lg := cX jb jU
   have j5 := dO jb jU oB
   simp only [qs, hs, reduceCtorEq] at h
   obtain ⟨gD, iE, h⟩ := optI h Cu
   try simp only [hs] at h
   simp only [vz, tyf, d5, bn, oB, v3, bE, b5, bF, bQ, tc, nj, (aB lg), j5, nm, seval]
   refine ktA (MK _ _ _ _ iE) ?_
   refine bJ (fun tm => tm 2 = .ptr 0 0 ∧ tm 20 = .sl (aa eI ae) (List.length ae) false ∧ tm 21 = .lit (.int .i64 (List.length ae : Int)) ∧ tm 22 = .lit (.int .i64 c8) ∧ tm 30 = .lit (.bool gD) ∧ True) (by refine ⟨bE, b5, bF, bQ, ?_, trivial⟩ <;> first | (simp only [ua, d5, bn, v3, bE, b5, bF, bQ, tc, nj, j5, nm, seval] <;> rfl) | rfl) ?_
   rintro tm ⟨bk, cM, ca, ck, cu, _⟩
   have v5 := And.intro d5 (And.intro bn (And.intro oB (And.intro v3 (And.intro tc (And.intro nj j5)))))
   cases fk : (gD)
   ·simp only [fk, hs] at h
    try simp only [vz, tyf, v5, (aB lg), bk, cM, ca, ck, cu, fk, nm, seval]
    replace h := Cs _ h
    try dsimp only at h
    obtain rfl := kF _ h
    exact bc Tryz.results68 rfl
   simp only [fk, hs] at h
   simp only [vz, tyf, v5, (aB lg), bk, cM, ca, ck, cu, fk, nm, seval]
   exact ⟨List.length m4, Nat.lt_succ_self _, by rw [oC]; refine ⟨m4, c8 + 1, rfl, Int.le_trans jb (Int.le_add_one (Int.le_refl _)), bV jb jU, rfl, (show 18 ≤ ta + 13 by omega), ?_, bk, cM, ca, ?_, (by first | exact h | (simp only [v5, fk]; exact h))⟩ <;> first | (simp only [ua, v5, bk, cM, ca, ck, cu, fk, nm, seval] <;> rfl) | rfl⟩
 simp only [d5, hs] at h
 try simp only [vz, tyf, d5, nm, seval]
 obtain rfl := kF _ h
 exact bc Tryz.results68 rfl

def n4  : List GBs → Int → Option (LOut (Bool) (Unit))
 | [], eZ => some (.go ())
 | e0 :: p0, eZ => cond (decide (eZ < 9)) (cond (decide ((List.length e0.Needs : Int) > 8)) (some (.ret false)) (n4 p0 (eZ + 1))) (some (.go ()))
def qt (ai : GBk) : Option (Bool) := cond (aC ai.Strokes) (lbind (n4 ai.Strokes 0) (fun r2 => some r2) (fun c1 => cond (decide ((List.length ai.Boards : Int) ≤ 5)) (some (decide ((List.length ai.Strokes : Int) ≤ 8))) (some false)) (fun _ _ => none)) none
theorem MP (ai : GBk) (R : Bool) (h : qt ai = some R) : ah Tryz.prog G0 18 [.agg (cGBk ai)] (.tree (.lit (.bool R))) := by
 refine ah.runR mixed Tryz.call18 Tryz.func18 rfl (by simp [Tryz.ntmps18]; kernel_rfl) ?_
 obtain ⟨KF, h, kF, kN⟩ := cA h
 simp only [qt] at h
 cases g4 : (aC ai.Strokes)
 ·simp only [g4, hs] at h
  exact absurd h kN
 simp only [g4, hs] at h
 simp only [vz, tyf, g4, nm, seval]
 obtain ⟨K3, h, rZ, lx, z5, nJ⟩ := eN h kN
 obtain ⟨f3, nK, h⟩ := call2 h
 obtain ⟨I3, gx⟩ : ∃ I : Nat → St → Prop, I = (fun m st => ∃ (p3 : List GBs) (db : Int), m = List.length p3 ∧ 0 ≤ db ∧ List.drop (Int.toNat db) ai.Strokes = p3 ∧ st.df = [] ∧ 3 ≤ st.nx ∧ st.H 0 = some (.cells (some 25) (cGBk ai)) ∧ st.tm 1 = .ptr 0 0 ∧ st.tm 3 = .lit (.int .i64 db) ∧ K3 (f3 p3 db)) := ⟨_, rfl⟩
 refine loopK mixed (by kernel_rfl) I3 (List.length ai.Strokes) (by rw [gx]; refine ⟨ai.Strokes, 0, rfl, Int.le_refl _, rfl, rfl, (show 3 ≤ 3 by omega), ?_, ?_, ?_, h⟩ <;> first | (simp only [ua, nm, seval] <;> rfl) | rfl) ?_
 rintro m ⟨tm, H, fm, df⟩ hinv
 rw [gx] at hinv
 obtain ⟨p3, db, rfl, cH, dt, hdf, nL, H5, e6, e7, h⟩ := hinv
 simp only at hdf nL H5 e6 e7
 have n8 := fj (m := 3) (b := fm) (by omega)
 subst hdf nK
 cases p3 with
 | nil =>
  have d9 : (decide (db < (List.length ai.Strokes : Int))) = false := eg cH dt
  simp only [n4, hs, reduceCtorEq] at h
  replace h := lx _ h
  try dsimp only at h
  try simp only [hs] at h
  cases iW : (decide ((List.length ai.Boards : Int) ≤ 5))
  ·simp only [iW, hs] at h
   try simp only [vz, tyf, g4, n8, e6, e7, H5, d9, iW, nm, seval]
   obtain rfl := kF _ h
   exact bc Tryz.results18 rfl
  simp only [iW, hs] at h
  try simp only [vz, tyf, g4, n8, e6, e7, H5, d9, iW, nm, seval]
  obtain rfl := kF _ h
  exact bc Tryz.results18 rfl
 | cons e3 p3 =>
  have f7 : (decide (db < (List.length ai.Strokes : Int))) = true := eh cH dt
  have jw := cX cH dt
  have oD := dO cH dt g4
  simp only [n4, hs, reduceCtorEq] at h
  cases bH : (decide (db < 9))
  ·simp only [bH, hs] at h
   replace h := lx _ h
   try dsimp only at h
   try simp only [hs] at h
   cases dN : (decide ((List.length ai.Boards : Int) ≤ 5))
   ·simp only [dN, hs] at h
    have MQ := And.intro g4 (And.intro n8 (And.intro H5 (And.intro f7 (And.intro oD (And.intro bH dN)))))
    try simp only [vz, tyf, MQ, e6, e7, (aH jw), nm, seval]
    obtain rfl := kF _ h
    exact bc Tryz.results18 rfl
   simp only [dN, hs] at h
   have MR := And.intro g4 (And.intro n8 (And.intro H5 (And.intro f7 (And.intro oD (And.intro bH dN)))))
   try simp only [vz, tyf, MR, e6, e7, (aH jw), nm, seval]
   obtain rfl := kF _ h
   exact bc Tryz.results18 rfl
  simp only [bH, hs] at h
  cases bN : (decide ((List.length e3.Needs : Int) > 8))
  ·simp only [bN, hs] at h
   have jc := And.intro g4 (And.intro n8 (And.intro H5 (And.intro f7 (And.intro oD (And.intro bH bN)))))
   simp only [vz, tyf, jc, e6, e7, (aH jw), nm, seval]
   exact ⟨List.length p3, Nat.lt_succ_self _, by rw [gx]; refine ⟨p3, db + 1, rfl, Int.le_trans cH (Int.le_add_one (Int.le_refl _)), bV cH dt, rfl, (show 3 ≤ fm + 20 by omega), ?_, e6, ?_, (by first | exact h | (simp only [jc]; exact h))⟩ <;> first | (simp only [ua, jc, e6, e7, nm, seval] <;> rfl) | rfl⟩
  simp only [bN, hs] at h
  have MS := And.intro g4 (And.intro n8 (And.intro H5 (And.intro f7 (And.intro oD (And.intro bH bN)))))
  try simp only [vz, tyf, MS, e6, e7, (aH jw), nm, seval]
  replace h := rZ _ h
  try dsimp only at h
  obtain rfl := kF _ h
  exact bc Tryz.results18 rfl
def jd (je : Int) (fa : Int) (eL : Int) : Option (Bool) := cond (decide (je ≥ fa)) (some (decide (je ≤ eL))) (some false)
theorem kH (je : Int) (fa : Int) (eL : Int) (R : Bool) (h : jd je fa eL = some R) : ah Tryz.prog G0 73 [.lit (.int .i64 je), .lit (.int .i64 fa), .lit (.int .i64 eL)] (.tree (.lit (.bool R))) := by
 refine ah.runR mixed Tryz.call73 Tryz.func73 rfl (by simp [Tryz.ntmps73]; kernel_rfl) ?_
 obtain ⟨KF, h, kF, kN⟩ := cA h
 simp only [jd] at h
 cases d1 : (decide (je ≥ fa))
 ·simp only [d1, hs] at h
  try simp only [vz, tyf, d1, nm, seval]
  obtain rfl := kF _ h
  exact bc Tryz.results73 rfl
 simp only [d1, hs] at h
 try simp only [vz, tyf, d1, nm, seval]
 obtain rfl := kF _ h
 exact bc Tryz.results73 rfl
def oE (bm : Int) (x1 : GBs) : List Int → Int → Option (LOut (Bool) (Unit))
 | [], gj => some (.go ())
 | e0 :: p0, gj => Option.bind (jd e0 0 (i64.wrap (bm - 1))) (fun r5 => cond (r5) (cond (decide (gj > 0)) (Option.bind (getI x1.Needs (i64.wrap (gj - 1))) (fun x6 => cond (decide (e0 ≤ x6)) (some (.ret false)) (oE bm x1 p0 (gj + 1)))) (oE bm x1 p0 (gj + 1))) (some (.ret false)))
def td (ai : GBk) (bm : Int) : Option (Bool) := Option.bind (getI ai.Strokes bm) (fun x1 => Option.bind (jd x1.Board 0 (i64.wrap ((List.length ai.Boards : Int) - 1))) (fun r2 => cond (r2) (Option.bind (jd x1.Hours.Low 1 6) (fun r3 => cond (r3) (Option.bind (jd x1.Hours.High x1.Hours.Low 6) (fun r4 => cond (r4) (cond (aC x1.Needs) (lbind (oE bm x1 x1.Needs 0) (fun r8 => some r8) (fun c7 => some true) (fun _ _ => none)) none) (some false))) (some false))) (some false)))
theorem MT (ai : GBk) (bm : Int) (R : Bool) (h : td ai bm = some R) : ah Tryz.prog G0 74 [.agg (cGBk ai), .lit (.int .i64 bm)] (.tree (.lit (.bool R))) := by
 refine ah.runR mixed Tryz.call74 Tryz.func74 rfl (by simp [Tryz.ntmps74]; kernel_rfl) ?_
 obtain ⟨KF, h, kF, kN⟩ := cA h
 simp only [td] at h
 obtain ⟨x9, gu, h⟩ := optI h kN
 try simp only [hs] at h
 obtain ⟨te, vf, h⟩ := optI h kN
 try simp only [hs] at h
 simp only [vz, tyf, (aH gu), nm, seval]
 refine ktA (kH _ _ _ _ vf) ?_
 refine bJ (fun tm => tm 1 = .lit (.int .i64 bm) ∧ tm 5 = .ptr 7 0 ∧ tm 18 = .lit (.bool te) ∧ True) (by refine ⟨?_, ?_, ?_, trivial⟩ <;> first | (simp only [ua, nm, seval] <;> rfl) | rfl) ?_
 rintro tm ⟨ba, bx, bt, _⟩
 cases ir : (te)
 ·simp only [ir, hs] at h
  try simp only [vz, tyf, (aH gu), ba, bx, bt, ir, nm, seval]
  obtain rfl := kF _ h
  exact bc Tryz.results74 rfl
 simp only [ir, hs] at h
 obtain ⟨dh, nn, h⟩ := optI h kN
 try simp only [hs] at h
 simp only [vz, tyf, (aH gu), ba, bx, bt, ir, nm, seval]
 refine ktA (kH _ _ _ _ nn) ?_
 refine bJ (fun tm => tm 1 = .lit (.int .i64 bm) ∧ tm 5 = .ptr 7 0 ∧ tm 20 = .lit (.bool false) ∧ tm 24 = .lit (.bool dh) ∧ True) (by refine ⟨ba, bx, ?_, ?_, trivial⟩ <;> first | (simp only [ua, ba, bx, bt, ir, nm, seval] <;> rfl) | rfl) ?_
 rintro tm ⟨bQ, dr, eA, da, _⟩
 cases dP : (dh)
 ·simp only [dP, hs] at h
  try simp only [vz, tyf, (aH gu), ir, bQ, dr, eA, da, dP, nm, seval]
  obtain rfl := kF _ h
  exact bc Tryz.results74 rfl
 simp only [dP, hs] at h
 obtain ⟨j9, mg, h⟩ := optI h kN
 try simp only [hs] at h
 simp only [vz, tyf, (aH gu), ir, bQ, dr, eA, da, dP, nm, seval]
 refine ktA (kH _ _ _ _ mg) ?_
 refine bJ (fun tm => tm 1 = .lit (.int .i64 bm) ∧ tm 5 = .ptr 7 0 ∧ tm 27 = .lit (.bool false) ∧ tm 34 = .lit (.bool j9) ∧ True) (by refine ⟨bQ, dr, ?_, ?_, trivial⟩ <;> first | (simp only [ua, ir, bQ, dr, eA, da, dP, nm, seval] <;> rfl) | rfl) ?_
 rintro tm ⟨cl, bk, cM, ca, _⟩
 cases eU : (j9)
 ·simp only [eU, hs] at h
  try simp only [vz, tyf, (aH gu), ir, dP, cl, bk, cM, ca, eU, nm, seval]
  obtain rfl := kF _ h
  exact bc Tryz.results74 rfl
 simp only [eU, hs] at h
 cases oF : (aC x9.Needs)
 ·simp only [oF, hs] at h
  exact absurd h kN
 simp only [oF, hs] at h
 simp only [vz, tyf, (aH gu), ir, dP, cl, bk, cM, ca, eU, oF, nm, seval]
 obtain ⟨MU, h, tf, Cx, MV, tg⟩ := eN h kN
 obtain ⟨MW, Cy, h⟩ := call2 h
 obtain ⟨MX, l5⟩ : ∃ I : Nat → St → Prop, I = (fun m st => ∃ (kI : List Int) (cB : Int), m = List.length kI ∧ 0 ≤ cB ∧ List.drop (Int.toNat cB) x9.Needs = kI ∧ st.df = [] ∧ 35 ≤ st.nx ∧ st.H 7 = some (.cells (some 49) (cGBs x9)) ∧ st.tm 1 = .lit (.int .i64 bm) ∧ st.tm 5 = .ptr 7 0 ∧ st.tm 6 = .lit (.int .i64 cB) ∧ MU (MW kI cB)) := ⟨_, rfl⟩
 refine loopK mixed (by kernel_rfl) MX (List.length x9.Needs) (by rw [l5]; refine ⟨x9.Needs, 0, rfl, Int.le_refl _, rfl, rfl, (show 35 ≤ 35 by omega), ?_, cl, bk, ?_, h⟩ <;> first | (simp only [ua, ir, dP, cl, bk, cM, ca, eU, nm, seval] <;> rfl) | rfl) ?_
 rintro m ⟨tm, H, oG, df⟩ hinv
 rw [l5] at hinv
 obtain ⟨kI, cB, rfl, gO, jf, hdf, Cz, th, dM, dY, fE, h⟩ := hinv
 simp only at hdf Cz th dM dY fE
 have v7 := fj (m := 35) (b := oG) (by omega)
 subst hdf Cy
 cases kI with
 | nil =>
  have MY : (decide (cB < (List.length x9.Needs : Int))) = false := eg gO jf
  simp only [oE, hs, reduceCtorEq] at h
  replace h := Cx _ h
  try dsimp only at h
  try simp only [hs] at h
  try simp only [vz, tyf, (aH gu), ir, dP, eU, oF, v7, dM, dY, fE, th, MY, nm, seval]
  obtain rfl := kF _ h
  exact bc Tryz.results74 rfl
 | cons cu kI =>
  have C0 : (decide (cB < (List.length x9.Needs : Int))) = true := eh gO jf
  have kn := cX gO jf
  have C1 := dO gO jf oF
  simp only [oE, hs, reduceCtorEq] at h
  simp only [vz, tyf, (aH gu), ir, dP, eU, oF, v7, dM, dY, fE, th, C0, (aB kn), C1, nm, seval]
  refine lp (fun tm => tm 1 = .lit (.int .i64 bm) ∧ tm 5 = .ptr 7 0 ∧ tm 6 = .lit (.int .i64 cB) ∧ True) (by refine ⟨dM, dY, fE, trivial⟩ <;> first | (simp only [ua, ir, dP, eU, v7, dM, dY, fE, th, C0, C1, nm, seval] <;> rfl) | rfl) ?_
  rintro tm ⟨cb, cg, cY, _⟩
  have kJ := And.intro ir (And.intro dP (And.intro eU (And.intro oF (And.intro v7 (And.intro th (And.intro C0 C1))))))
  obtain ⟨IY, MZ, h⟩ := optI h tg
  try simp only [hs] at h
  simp only [vz, tyf, kJ, (aH gu), (aB kn), cb, cg, cY, nm, seval]
  refine dktA (kH _ _ _ _ MZ) ?_
  refine bJ (fun tm => tm 1 = .lit (.int .i64 bm) ∧ tm 5 = .ptr 7 0 ∧ tm 6 = .lit (.int .i64 cB) ∧ tm 51 = .lit (.bool IY) ∧ True) (by refine ⟨cb, cg, cY, ?_, trivial⟩ <;> first | (simp only [ua, kJ, cb, cg, cY, nm, seval] <;> rfl) | rfl) ?_
  rintro tm ⟨cv, gN, jQ, fq, _⟩
  cases fF : (IY)
  ·simp only [fF, hs] at h
   try simp only [vz, tyf, kJ, (aH gu), (aB kn), cv, gN, jQ, fq, fF, nm, seval]
   replace h := tf _ h
   try dsimp only at h
   obtain rfl := kF _ h
   exact bc Tryz.results74 rfl
  simp only [fF, hs] at h
  cases gz : (decide (cB > 0))
  ·simp only [gz, hs] at h
   simp only [vz, tyf, kJ, (aH gu), (aB kn), cv, gN, jQ, fq, fF, gz, nm, seval]
   exact ⟨List.length kI, Nat.lt_succ_self _, by rw [l5]; refine ⟨kI, cB + 1, rfl, Int.le_trans gO (Int.le_add_one (Int.le_refl _)), bV gO jf, rfl, (show 35 ≤ oG + 35 by omega), ?_, cv, gN, ?_, (by first | exact h | (simp only [kJ, fF, gz]; exact h))⟩ <;> first | (simp only [ua, kJ, cv, gN, jQ, fq, fF, gz, nm, seval] <;> rfl) | rfl⟩
  simp only [gz, hs] at h
  obtain ⟨Na, m5, h⟩ := optI h tg
  try simp only [hs] at h
  cases qu : (decide (cu ≤ Na))
  ·simp only [qu, hs] at h
   simp only [vz, tyf, kJ, (aH gu), (aB kn), cv, gN, jQ, fq, fF, gz, (aB m5), qu, nm, seval]
   exact ⟨List.length kI, Nat.lt_succ_self _, by rw [l5]; refine ⟨kI, cB + 1, rfl, Int.le_trans gO (Int.le_add_one (Int.le_refl _)), bV gO jf, rfl, (show 35 ≤ oG + 35 by omega), ?_, cv, gN, ?_, (by first | exact h | (simp only [kJ, fF, gz, qu]; exact h))⟩ <;> first | (simp only [ua, kJ, cv, gN, jQ, fq, fF, gz, qu, nm, seval] <;> rfl) | rfl⟩
  simp only [qu, hs] at h
  try simp only [vz, tyf, kJ, (aH gu), (aB kn), cv, gN, jQ, fq, fF, gz, (aB m5), qu, nm, seval]
  replace h := tf _ h
  try dsimp only at h
  obtain rfl := kF _ h
  exact bc Tryz.results74 rfl
def qv (ai : GBk) : List GBs → Int → Option (LOut (Bool) (Unit))
 | [], oH => some (.go ())
 | e1 :: p1, oH => Option.bind (td ai oH) (fun r6 => cond (r6) (qv ai p1 (oH + 1)) (some (.ret false)))
def qw  : List Int → Int → Option (LOut (Bool) (Unit))
 | [], eZ => some (.go ())
 | e0 :: p0, eZ => Option.bind (jd e0 0 60) (fun r4 => cond (r4) (qw p0 (eZ + 1)) (some (.ret false)))
def tk (ai : GBk) : Option (Bool) := Option.bind (jd ai.Apprentices 0 3) (fun r1 => cond (r1) (Option.bind (jd (List.length ai.Boards : Int) 1 3) (fun r2 => cond (r2) (Option.bind (jd (List.length ai.Strokes : Int) 1 6) (fun r3 => cond (r3) (cond (aC ai.Boards) (lbind (qw ai.Boards 0) (fun r9 => some r9) (fun c5 => cond (aC ai.Strokes) (lbind (qv ai ai.Strokes 0) (fun r8 => some r8) (fun c7 => some true) (fun _ _ => none)) none) (fun _ _ => none)) none) (some false))) (some false))) (some false))
theorem Nb (ai : GBk) (R : Bool) (h : tk ai = some R) : ah Tryz.prog G0 24 [.agg (cGBk ai)] (.tree (.lit (.bool R))) := by
 refine ah.runR mixed Tryz.call24 Tryz.func24 rfl (by simp [Tryz.ntmps24]; kernel_rfl) ?_
 obtain ⟨KF, h, kF, kN⟩ := cA h
 simp only [tk] at h
 obtain ⟨oI, nM, h⟩ := optI h kN
 try simp only [hs] at h
 simp only [vz, tyf, nm, seval]
 refine ktA (kH _ _ _ _ nM) ?_
 refine bJ (fun tm => tm 1 = .ptr 0 0 ∧ tm 7 = .lit (.bool oI) ∧ True) (by refine ⟨?_, ?_, trivial⟩ <;> first | (simp only [ua, nm, seval] <;> rfl) | rfl) ?_
 rintro tm ⟨bj, ba, _⟩
 cases bH : (oI)
 ·simp only [bH, hs] at h
  try simp only [vz, tyf, bj, ba, bH, nm, seval]
  obtain rfl := kF _ h
  exact bc Tryz.results24 rfl
 simp only [bH, hs] at h
 obtain ⟨vp, fM, h⟩ := optI h kN
 try simp only [hs] at h
 simp only [vz, tyf, bj, ba, bH, nm, seval]
 refine ktA (kH _ _ _ _ fM) ?_
 refine bJ (fun tm => tm 1 = .ptr 0 0 ∧ tm 9 = .lit (.bool false) ∧ tm 13 = .lit (.bool vp) ∧ True) (by refine ⟨bj, ?_, ?_, trivial⟩ <;> first | (simp only [ua, bj, ba, bH, nm, seval] <;> rfl) | rfl) ?_
 rintro tm ⟨b5, bF, bQ, _⟩
 cases ej : (vp)
 ·simp only [ej, hs] at h
  try simp only [vz, tyf, bH, b5, bF, bQ, ej, nm, seval]
  obtain rfl := kF _ h
  exact bc Tryz.results24 rfl
 simp only [ej, hs] at h
 obtain ⟨qT, j6, h⟩ := optI h kN
 try simp only [hs] at h
 simp only [vz, tyf, bH, b5, bF, bQ, ej, nm, seval]
 refine ktA (kH _ _ _ _ j6) ?_
 refine bJ (fun tm => tm 1 = .ptr 0 0 ∧ tm 16 = .lit (.bool false) ∧ tm 20 = .lit (.bool qT) ∧ True) (by refine ⟨b5, ?_, ?_, trivial⟩ <;> first | (simp only [ua, bH, b5, bF, bQ, ej, nm, seval] <;> rfl) | rfl) ?_
 rintro tm ⟨cN, bK, bY, _⟩
 cases b4 : (qT)
 ·simp only [b4, hs] at h
  try simp only [vz, tyf, bH, ej, cN, bK, bY, b4, nm, seval]
  obtain rfl := kF _ h
  exact bc Tryz.results24 rfl
 simp only [b4, hs] at h
 cases gP : (aC ai.Boards)
 ·simp only [gP, hs] at h
  exact absurd h kN
 simp only [gP, hs] at h
 simp only [vz, tyf, bH, ej, cN, bK, bY, b4, gP, nm, seval]
 obtain ⟨C2, h, tl, oJ, C3, jV⟩ := eN h kN
 obtain ⟨C4, oL, h⟩ := call2 h
 obtain ⟨C5, iu⟩ : ∃ I : Nat → St → Prop, I = (fun m st => ∃ (hT : List Int) (dC : Int), m = List.length hT ∧ 0 ≤ dC ∧ List.drop (Int.toNat dC) ai.Boards = hT ∧ st.df = [] ∧ 21 ≤ st.nx ∧ st.H 0 = some (.cells (some 25) (cGBk ai)) ∧ st.tm 1 = .ptr 0 0 ∧ st.tm 3 = .lit (.int .i64 dC) ∧ C2 (C4 hT dC)) := ⟨_, rfl⟩
 refine loopK mixed (by kernel_rfl) C5 (List.length ai.Boards) (by rw [iu]; refine ⟨ai.Boards, 0, rfl, Int.le_refl _, rfl, rfl, (show 21 ≤ 21 by omega), ?_, cN, ?_, h⟩ <;> first | (simp only [ua, bH, ej, cN, bK, bY, b4, nm, seval] <;> rfl) | rfl) ?_
 rintro m ⟨tm, H, cI, df⟩ hinv
 rw [iu] at hinv
 obtain ⟨hT, dC, rfl, jg, jW, hdf, oM, eJ, ck, cu, h⟩ := hinv
 simp only at hdf oM eJ ck cu
 have l6 := fj (m := 21) (b := cI) (by omega)
 subst hdf oL
 cases hT with
 | nil =>
  have fk : (decide (dC < (List.length ai.Boards : Int))) = false := eg jg jW
  simp only [qw, hs, reduceCtorEq] at h
  replace h := oJ _ h
  try dsimp only at h
  try simp only [hs] at h
  cases eO : (aC ai.Strokes)
  ·simp only [eO, hs] at h
   exact absurd h kN
  simp only [eO, hs] at h
  simp only [vz, tyf, bH, ej, b4, gP, l6, ck, cu, eJ, fk, eO, nm, seval]
  obtain ⟨Nc, h, C6, C7, Nd, C8⟩ := eN h kN
  obtain ⟨Nf, C9, h⟩ := call2 h
  obtain ⟨Ng, oN⟩ : ∃ I : Nat → St → Prop, I = (fun m st => ∃ (m6 : List GBs) (dD : Int), m = List.length m6 ∧ 0 ≤ dD ∧ List.drop (Int.toNat dD) ai.Strokes = m6 ∧ st.df = [] ∧ cI + 6 ≤ st.nx ∧ st.H 0 = some (.cells (some 25) (cGBk ai)) ∧ st.tm 1 = .ptr 0 0 ∧ st.tm 4 = .lit (.int .i64 dD) ∧ Nc (Nf m6 dD)) := ⟨_, rfl⟩
  refine loopK mixed (by kernel_rfl) Ng (List.length ai.Strokes) (by rw [oN]; refine ⟨ai.Strokes, 0, rfl, Int.le_refl _, rfl, rfl, (show cI + 6 ≤ cI + 6 by omega), ?_, ck, ?_, h⟩ <;> first | (simp only [ua, bH, ej, b4, l6, ck, cu, eJ, fk, nm, seval] <;> rfl) | rfl) ?_
  rintro m ⟨tm, H, oO, df⟩ hinv
  rw [oN] at hinv
  obtain ⟨m6, dD, rfl, jh, jX, hdf, CA, tn, fG, im, h⟩ := hinv
  simp only at hdf CA tn fG im
  have v8 := fj (m := 21) (b := oO) (by omega)
  have v9 := ng (a := cI) (m := 6) (b := oO) (by omega)
  subst hdf C9
  cases m6 with
  | nil =>
   have tq : (decide (dD < (List.length ai.Strokes : Int))) = false := eg jh jX
   simp only [qv, hs, reduceCtorEq] at h
   replace h := C7 _ h
   try dsimp only at h
   try simp only [hs] at h
   try simp only [vz, tyf, bH, ej, b4, gP, l6, fk, eO, v8, v9, fG, im, tn, tq, nm, seval]
   obtain rfl := kF _ h
   exact bc Tryz.results24 rfl
  | cons dM m6 =>
   have h9 : (decide (dD < (List.length ai.Strokes : Int))) = true := eh jh jX
   have ia := cX jh jX
   have ib := dO jh jX eO
   simp only [qv, hs, reduceCtorEq] at h
   obtain ⟨IZ, Nh, h⟩ := optI h C8
   try simp only [hs] at h
   simp only [vz, tyf, bH, ej, b4, gP, l6, fk, eO, v8, v9, fG, im, tn, h9, (aH ia), ib, nm, seval]
   refine ktA (MT _ _ _ Nh) ?_
   refine bJ (fun tm => tm 1 = .ptr 0 0 ∧ tm 4 = .lit (.int .i64 dD) ∧ tm 46 = .lit (.bool IZ) ∧ True) (by refine ⟨fG, im, ?_, trivial⟩ <;> first | (simp only [ua, bH, ej, b4, l6, fk, v8, v9, fG, im, tn, h9, ib, nm, seval] <;> rfl) | rfl) ?_
   rintro tm ⟨cF, cv, gN, _⟩
   have vA := And.intro bH (And.intro ej (And.intro b4 (And.intro gP (And.intro l6 (And.intro fk (And.intro eO (And.intro v8 (And.intro v9 (And.intro tn (And.intro h9 ib))))))))))
   cases kK : (IZ)
   ·simp only [kK, hs] at h
    try simp only [vz, tyf, vA, (aH ia), cF, cv, gN, kK, nm, seval]
    replace h := C6 _ h
    try dsimp only at h
    obtain rfl := kF _ h
    exact bc Tryz.results24 rfl
   simp only [kK, hs] at h
   simp only [vz, tyf, vA, (aH ia), cF, cv, gN, kK, nm, seval]
   exact ⟨List.length m6, Nat.lt_succ_self _, by rw [oN]; refine ⟨m6, dD + 1, rfl, Int.le_trans jh (Int.le_add_one (Int.le_refl _)), bV jh jX, rfl, (show cI + 6 ≤ oO + 12 by omega), ?_, cF, ?_, (by first | exact h | (simp only [vA, kK]; exact h))⟩ <;> first | (simp only [ua, vA, cF, cv, gN, kK, nm, seval] <;> rfl) | rfl⟩
 | cons bk hT =>
  have fF : (decide (dC < (List.length ai.Boards : Int))) = true := eh jg jW
  have g0 := cX jg jW
  have qx := dO jg jW gP
  simp only [qw, hs, reduceCtorEq] at h
  obtain ⟨Ja, g9, h⟩ := optI h jV
  try simp only [hs] at h
  simp only [vz, tyf, bH, ej, b4, gP, l6, ck, cu, eJ, fF, (aB g0), qx, nm, seval]
  refine ktA (kH _ _ _ _ g9) ?_
  refine bJ (fun tm => tm 1 = .ptr 0 0 ∧ tm 3 = .lit (.int .i64 dC) ∧ tm 35 = .lit (.bool Ja) ∧ True) (by refine ⟨ck, cu, ?_, trivial⟩ <;> first | (simp only [ua, bH, ej, b4, l6, ck, cu, eJ, fF, qx, nm, seval] <;> rfl) | rfl) ?_
  rintro tm ⟨fu, fU, gk, _⟩
  have vB := And.intro bH (And.intro ej (And.intro b4 (And.intro gP (And.intro l6 (And.intro eJ (And.intro fF qx))))))
  cases iK : (Ja)
  ·simp only [iK, hs] at h
   try simp only [vz, tyf, vB, (aB g0), fu, fU, gk, iK, nm, seval]
   replace h := tl _ h
   try dsimp only at h
   obtain rfl := kF _ h
   exact bc Tryz.results24 rfl
  simp only [iK, hs] at h
  simp only [vz, tyf, vB, (aB g0), fu, fU, gk, iK, nm, seval]
  exact ⟨List.length hT, Nat.lt_succ_self _, by rw [iu]; refine ⟨hT, dC + 1, rfl, Int.le_trans jg (Int.le_add_one (Int.le_refl _)), bV jg jW, rfl, (show 21 ≤ cI + 15 by omega), ?_, fu, ?_, (by first | exact h | (simp only [vB, iK]; exact h))⟩ <;> first | (simp only [ua, vB, fu, fU, gk, iK, nm, seval] <;> rfl) | rfl⟩

def vC (cm : List Int) : Option (Bool) := some (decide ((List.length cm : Int) ≤ 9))
theorem Ni (cm : List Int) (R : Bool) (h : vC cm = some R) : ah Tryz.prog G0 19 [.sl (aa eI cm) (List.length cm) false] (.tree (.lit (.bool R))) := by
 refine ah.runR mixed Tryz.call19 Tryz.func19 rfl (by simp [Tryz.ntmps19]; kernel_rfl) ?_
 obtain ⟨KF, h, kF, kN⟩ := cA h
 simp only [vC] at h
 try simp only [vz, tyf, nm, seval]
 obtain rfl := kF _ h
 exact bc Tryz.results19 rfl
def oP (ai : GBk) : List Int → Int → Option (LOut (Bool) (Unit))
 | [], bM => some (.go ())
 | e0 :: p0, bM => Option.bind (jd e0 0 ai.Apprentices) (fun r1 => cond (r1) (Option.bind (getI ai.Strokes bM) (fun x2 => cond (x2.Round) (cond (e0 != 0) (some (.ret false)) (oP ai p0 (bM + 1))) (oP ai p0 (bM + 1)))) (some (.ret false)))
def tt (ai : GBk) (cn : List Int) : Option (Bool) := cond ((List.length cn : Int) != (List.length ai.Strokes : Int)) (some false) (cond (aC cn) (lbind (oP ai cn 0) (fun r4 => some r4) (fun c3 => some true) (fun _ _ => none)) none)
theorem Nj (ai : GBk) (cn : List Int) (R : Bool) (h : tt ai cn = some R) : ah Tryz.prog G0 25 [.agg (cGBk ai), .sl (aa eI cn) (List.length cn) false] (.tree (.lit (.bool R))) := by
 refine ah.runR mixed Tryz.call25 Tryz.func25 rfl (by simp [Tryz.ntmps25]; kernel_rfl) ?_
 obtain ⟨KF, h, kF, kN⟩ := cA h
 simp only [tt] at h
 cases d5 : ((List.length cn : Int) != (List.length ai.Strokes : Int))
 ·simp only [d5, hs] at h
  cases g7 : (aC cn)
  ·simp only [g7, hs] at h
   exact absurd h kN
  simp only [g7, hs] at h
  simp only [vz, tyf, d5, g7, nm, seval]
  obtain ⟨K6, h, vD, CB, Nk, oQ⟩ := eN h kN
  obtain ⟨f6, CD, h⟩ := call2 h
  obtain ⟨I6, m7⟩ : ∃ I : Nat → St → Prop, I = (fun m st => ∃ (p6 : List Int) (fb : Int), m = List.length p6 ∧ 0 ≤ fb ∧ List.drop (Int.toNat fb) cn = p6 ∧ st.df = [] ∧ 9 ≤ st.nx ∧ st.H 0 = some (.cells (some 25) (cGBk ai)) ∧ st.tm 1 = .sl (aa eI cn) (List.length cn) false ∧ st.tm 2 = .ptr 0 0 ∧ st.tm 5 = .lit (.int .i64 fb) ∧ K6 (f6 p6 fb)) := ⟨_, rfl⟩
  refine loopK mixed (by kernel_rfl) I6 (List.length cn) (by rw [m7]; refine ⟨cn, 0, rfl, Int.le_refl _, rfl, rfl, (show 9 ≤ 9 by omega), ?_, ?_, ?_, ?_, h⟩ <;> first | (simp only [ua, d5, nm, seval] <;> rfl) | rfl) ?_
  rintro m ⟨tm, H, oR, df⟩ hinv
  rw [m7] at hinv
  obtain ⟨p6, fb, rfl, m8, qy, hdf, CE, H8, e9, aQ, aT, h⟩ := hinv
  simp only at hdf CE H8 e9 aQ aT
  have hS := fj (m := 9) (b := oR) (by omega)
  subst hdf CD
  cases p6 with
  | nil =>
   have gg : (decide (fb < (List.length cn : Int))) = false := eg m8 qy
   simp only [oP, hs, reduceCtorEq] at h
   replace h := CB _ h
   try dsimp only at h
   try simp only [hs] at h
   try simp only [vz, tyf, d5, g7, hS, e9, aQ, aT, H8, gg, nm, seval]
   obtain rfl := kF _ h
   exact bc Tryz.results25 rfl
  | cons e6 p6 =>
   have bH : (decide (fb < (List.length cn : Int))) = true := eh m8 qy
   have fM := cX m8 qy
   have qz := dO m8 qy g7
   simp only [oP, hs, reduceCtorEq] at h
   simp only [vz, tyf, d5, g7, hS, e9, aQ, aT, H8, bH, (aB fM), qz, nm, seval]
   refine lp (fun tm => tm 1 = .sl (aa eI cn) (List.length cn) false ∧ tm 2 = .ptr 0 0 ∧ tm 5 = .lit (.int .i64 fb) ∧ True) (by refine ⟨e9, aQ, aT, trivial⟩ <;> first | (simp only [ua, d5, hS, e9, aQ, aT, H8, bH, qz, nm, seval] <;> rfl) | rfl) ?_
   rintro tm ⟨b5, bF, bQ, _⟩
   obtain ⟨j8, me, h⟩ := optI h oQ
   try simp only [hs] at h
   simp only [vz, tyf, d5, g7, hS, H8, bH, (aB fM), qz, b5, bF, bQ, nm, seval]
   refine dktA (kH _ _ _ _ me) ?_
   refine bJ (fun tm => tm 1 = .sl (aa eI cn) (List.length cn) false ∧ tm 2 = .ptr 0 0 ∧ tm 5 = .lit (.int .i64 fb) ∧ tm 24 = .lit (.bool j8) ∧ True) (by refine ⟨b5, bF, bQ, ?_, trivial⟩ <;> first | (simp only [ua, d5, hS, H8, bH, qz, b5, bF, bQ, nm, seval] <;> rfl) | rfl) ?_
   rintro tm ⟨da, cN, bK, bY, _⟩
   cases b4 : (j8)
   ·simp only [b4, hs] at h
    have Nl := And.intro d5 (And.intro g7 (And.intro hS (And.intro H8 (And.intro bH (And.intro qz b4)))))
    try simp only [vz, tyf, Nl, (aB fM), da, cN, bK, bY, nm, seval]
    replace h := vD _ h
    try dsimp only at h
    obtain rfl := kF _ h
    exact bc Tryz.results25 rfl
   simp only [b4, hs] at h
   have iR := And.intro d5 (And.intro g7 (And.intro hS (And.intro H8 (And.intro bH (And.intro qz b4)))))
   obtain ⟨Nm, CF, h⟩ := optI h oQ
   try simp only [hs] at h
   cases jY : (Nm.Round)
   ·simp only [jY, hs] at h
    simp only [vz, tyf, iR, (aB fM), da, cN, bK, bY, (aH CF), jY, nm, seval]
    exact ⟨List.length p6, Nat.lt_succ_self _, by rw [m7]; refine ⟨p6, fb + 1, rfl, Int.le_trans m8 (Int.le_add_one (Int.le_refl _)), bV m8 qy, rfl, (show 9 ≤ oR + 30 by omega), ?_, da, cN, ?_, (by first | exact h | (simp only [iR, jY]; exact h))⟩ <;> first | (simp only [ua, iR, da, cN, bK, bY, jY, nm, seval] <;> rfl) | rfl | (simp only [ua, tyf, iR, da, cN, bK, bY, jY, nm, seval] <;> rfl)⟩
   simp only [jY, hs] at h
   cases js : (e6 != 0)
   ·simp only [js, hs] at h
    simp only [vz, tyf, iR, (aB fM), da, cN, bK, bY, (aH CF), jY, js, nm, seval]
    exact ⟨List.length p6, Nat.lt_succ_self _, by rw [m7]; refine ⟨p6, fb + 1, rfl, Int.le_trans m8 (Int.le_add_one (Int.le_refl _)), bV m8 qy, rfl, (show 9 ≤ oR + 30 by omega), ?_, da, cN, ?_, (by first | exact h | (simp only [iR, jY, js]; exact h))⟩ <;> first | (simp only [ua, iR, da, cN, bK, bY, jY, js, nm, seval] <;> rfl) | rfl | (simp only [ua, tyf, iR, da, cN, bK, bY, jY, js, nm, seval] <;> rfl)⟩
   simp only [js, hs] at h
   try simp only [vz, tyf, iR, (aB fM), da, cN, bK, bY, (aH CF), jY, js, nm, seval]
   replace h := vD _ h
   try dsimp only at h
   obtain rfl := kF _ h
   exact bc Tryz.results25 rfl
 simp only [d5, hs] at h
 try simp only [vz, tyf, d5, nm, seval]
 obtain rfl := kF _ h
 exact bc Tryz.results25 rfl
def tu (ai : GBk) (bm : Int) : Option (Bool) := Option.bind (jd bm 0 (i64.wrap ((List.length ai.Boards : Int) - 1))) (fun r1 => some r1)
theorem Nn (ai : GBk) (bm : Int) (R : Bool) (h : tu ai bm = some R) : ah Tryz.prog G0 28 [.agg (cGBk ai), .lit (.int .i64 bm)] (.tree (.lit (.bool R))) := by
 refine ah.runR mixed Tryz.call28 Tryz.func28 rfl (by simp [Tryz.ntmps28]; kernel_rfl) ?_
 obtain ⟨KF, h, kF, kN⟩ := cA h
 simp only [tu] at h
 obtain ⟨r2, o3, h⟩ := optI h kN
 try simp only [hs] at h
 simp only [vz, tyf, nm, seval]
 refine ktA (kH _ _ _ _ o3) ?_
 refine bJ (fun tm => tm 10 = .lit (.bool r2) ∧ True) (by refine ⟨?_, trivial⟩ <;> first | (simp only [ua, nm, seval] <;> rfl) | rfl) ?_
 rintro tm ⟨e4, _⟩
 try simp only [vz, tyf, e4, nm, seval]
 obtain rfl := kF _ h
 exact bc Tryz.results28 rfl

theorem vE (a n b : Int) : mw a n b = some (inB a b n) := csome _ _
theorem q9 (n a b : Int) : jd n a b = some (inB a b n) := csome _ _
theorem Jb (a b : Int) : ∀ (p : List Int) (c : Int), qh a b p c = goB (p.all (inB a b))
 | [], _ => rfl
 | e :: p, c => by simp only [qh, vE, Option.bind_some, Jb a b p, List.all_cons, nW]
theorem CG {l : List Int} (hl : l.length < 9223372036854775808) (a b : Int) : oa a l b = some (l.all (inB a b)) := by
 unfold oa
 rw [fg hl, cond_true, Jb, mu]
 exact csome _ _ ▸ by cases l.all (inB a b) <;> rfl
def adjB : List Int → Bool
 | a :: b :: l => decide (a < b) && adjB (b :: l)
 | _ => true
theorem Jc {ns : List Int} (hn : ns.length < 9223372036854775808) : ∀ (p : List Int) (c a : Int), 1 ≤ c → ns.drop (c - 1).toNat = a :: p → qj ns p c = goB (adjB (a :: p))
 | [], _, _, _, _ => rfl
 | e :: p, c, a, hc, hd => by
  have h1 := cX (by omega) hd
  have hb := (nY h1).2
  have h2 := bV (by omega) hd
  simp only [qj]
  rw [gL (by omega) (by omega), h1, Option.bind_some, Jc hn p (c + 1) e (by omega) (by rw [← h2]; congr 1; omega)]
  have ea : adjB (a :: e :: p) = (decide (a < e) && adjB (e :: p)) := rfl
  rw [ea, nW]
  by_cases h : e ≤ a
  ·rw [decide_eq_true h, decide_eq_false (Int.not_lt.2 h)]; rfl
  ·rw [decide_eq_false h, decide_eq_true (Int.not_le.1 h)]; rfl
theorem CH {l : List Int} (hl : l.length < 9223372036854775808) (a b : Int) : sM a l b = some (adjB l && l.all (inB a b)) := by
 unfold sM
 have hle : leB 0 1 = true := by decide
 rw [fg hl, cond_true, hle, cond_true, CG hl]
 cases l with
 | nil => rfl
 | cons x p =>
  have := Jc hl p 1 x (Int.le_refl _) rfl
  simp only [Int.reduceToNat, List.drop_succ_cons, List.drop_zero]
  rw [this, mu, Option.bind_some]
  cases adjB (x :: p) <;> rfl
def strokeB (nb : Nat) (n : Int) (s : GBs) : Bool := inB 0 ((nb : Int) - 1) s.Board && ((inB 1 6 s.Hours.Low && inB s.Hours.Low 6 s.Hours.High) && (s.Needs.all (inB 0 (n - 1)) && adjB s.Needs))
def strokesB (nb : Nat) : Int → List GBs → Bool
 | _, [] => true
 | c, s :: l => strokeB nb c s && strokesB nb (c + 1) l
def benchB (b : GBk) : Bool := inB 0 3 b.Apprentices && ((inB 1 3 b.Boards.length && b.Boards.all (inB 0 60)) && (inB 1 6 b.Strokes.length && strokesB b.Boards.length 0 b.Strokes))
structure Len (b : GBk) : Prop where
 bo : b.Boards.length < 9223372036854775808
 st : b.Strokes.length < 9223372036854775808
 nd : ∀ s ∈ b.Strokes, s.Needs.length < 9223372036854775808
theorem CI (a b : Int) (x : GSpan) : sL a x b = some (inB a b x.Low && inB x.Low b x.High) := by
 unfold sL inB
 by_cases h1 : a ≤ x.Low <;> by_cases h2 : x.Low ≤ x.High <;> by_cases h3 : x.High ≤ b <;> by_cases h4 : x.Low ≤ b <;> simp [h1, h2, h3, h4] <;> omega
theorem Jd {b : GBk} (hb : b.Boards.length < 9223372036854775808) : ∀ (p : List GBs) (c : Int), 0 ≤ c → c + p.length < 9223372036854775808 → (∀ s ∈ p, s.Needs.length < 9223372036854775808) → ql b p c = goB (strokesB b.Boards.length c p)
 | [], _, _, _, _ => rfl
 | s :: p, c, h0, h1, h2 => by
  simp only [List.length_cons] at h1
  have hs := h2 s (List.mem_cons_self ..)
  simp only [ql, nH, vE, Option.bind_some, CI]
  rw [gL (by omega) (by omega), gL (by omega) (by omega), CH hs, Jd hb p (c + 1) (by omega) (by omega) (fun s hs => h2 s (List.mem_cons_of_mem _ hs))]
  simp only [strokesB, strokeB, nW, Option.bind_some]
  cases inB 0 ((b.Boards.length : Int) - 1) s.Board <;> cases inB 1 6 s.Hours.Low <;> cases inB s.Hours.Low 6 s.Hours.High <;> cases s.Needs.all (inB 0 (c - 1)) <;> cases adjB s.Needs <;> rfl
theorem zy {b : GBk} (h : Len b) : nC b = some (benchB b) := by
 unfold nC benchB vm vn
 simp only [vE, Option.bind_some, CG h.bo]
 rw [fg h.st, cond_true, Jd h.bo b.Strokes 0 (Int.le_refl _) (by have := h.st; omega) h.nd, mu]
 cases inB 0 3 b.Apprentices <;> cases inB 1 3 (b.Boards.length : Int) <;> cases b.Boards.all (inB 0 60) <;> cases inB 1 6 (b.Strokes.length : Int) <;> cases strokesB b.Boards.length 0 b.Strokes <;> rfl
def adjF (a : Option Int) : List Int → Bool
 | [] => true
 | e :: l => (match a with | some x => decide (x < e) | none => true) && adjF (some e) l
theorem Je : ∀ (l : List Int) (a : Int), adjF (some a) l = adjB (a :: l)
 | [], _ => rfl
 | e :: l, a => by unfold adjF adjB; rw [Je l e]
theorem CJ (l : List Int) : adjF none l = adjB l := by
 cases l with
 | nil => rfl
 | cons e l => unfold adjF; rw [Je l e]; rfl
theorem Jf {n : Int} (hn : -9223372036854775807 ≤ n) (CK : n < 9223372036854775808) {s : GBs} (hl : s.Needs.length < 9223372036854775808) : ∀ (p : List Int) (c : Int) (a : Option Int), 0 ≤ c → s.Needs.drop c.toNat = p → (c = 0 ∧ a = none ∨ 0 < c ∧ getI s.Needs (c - 1) = a ∧ a ≠ none) →
  oE n s p c = goB (p.all (inB 0 (n - 1)) && adjF a p)
 | [], _, _, _, _, _ => rfl
 | e :: p, c, a, h0, hd, ha => by
  have h1 := cX h0 hd
  have hb := (nY h1).2
  simp only [oE, q9, Option.bind_some]
  rw [gL (by omega) (by omega), Jf hn CK hl p (c + 1) (some e) (by omega) (bV h0 hd) (.inr ⟨by omega, by rw [show c + 1 - 1 = c by omega]; exact h1, by simp⟩)]
  simp only [List.all_cons, adjF]
  rcases ha with ⟨rfl, rfl⟩ | ⟨hc, ha, hne⟩
  ·cases inB 0 (n - 1) e <;> cases p.all (inB 0 (n - 1)) <;> cases adjF (some e) p <;> rfl
  ·rw [gL (by omega) (by omega), ha, decide_eq_true (show c > 0 from hc)]
   cases a with
   | none => exact absurd rfl hne
   | some x =>
    simp only [cond_true, Option.bind_some]
    by_cases h : e ≤ x
    ·rw [decide_eq_true h, decide_eq_false (Int.not_lt.2 h)]
     cases inB 0 (n - 1) e <;> simp [goB]
    ·rw [decide_eq_false h, decide_eq_true (Int.not_le.1 h)]
     cases inB 0 (n - 1) e <;> cases p.all (inB 0 (n - 1)) <;> cases adjF (some e) p <;> rfl
theorem No {b : GBk} (h : Len b) {n : Int} {s : GBs} (hs : getI b.Strokes n = some s) : td b n = some (strokeB b.Boards.length n s) := by
 have hb := nY hs
 have hst := h.st
 have hl := h.nd s (BA hs)
 have hbo := h.bo
 unfold td strokeB
 simp only [hs, Option.bind_some, q9]
 rw [gL (by omega) (by omega), fg hl, cond_true, Jf (by omega) (by omega) hl s.Needs 0 none (Int.le_refl _) rfl (.inl ⟨rfl, rfl⟩), mu, CJ]
 cases inB 0 ((b.Boards.length : Int) - 1) s.Board <;> cases inB 1 6 s.Hours.Low <;> cases inB s.Hours.Low 6 s.Hours.High <;> cases s.Needs.all (inB 0 (n - 1)) <;> cases adjB s.Needs <;> rfl
theorem Jg : ∀ (p : List Int) (c : Int), qw p c = goB (p.all (inB 0 60))
 | [], _ => rfl
 | e :: p, c => by simp only [qw, q9, Option.bind_some, Jg p, List.all_cons, nW]
theorem Jh {b : GBk} (h : Len b) : ∀ (p : List GBs) (c : Int), 0 ≤ c → b.Strokes.drop c.toNat = p → qv b p c = goB (strokesB b.Boards.length c p)
 | [], _, _, _ => rfl
 | s :: p, c, h0, hd => by
  simp only [qv, No h (cX h0 hd), Option.bind_some, Jh h p (c + 1) (by omega) (bV h0 hd), strokesB, nW]
theorem CL {b : GBk} (h : Len b) : tk b = some (benchB b) := by
 unfold tk benchB
 simp only [q9, Option.bind_some]
 rw [fg h.bo, fg h.st, Jg, Jh h b.Strokes 0 (Int.le_refl _) rfl, mu, mu]
 cases inB 0 3 b.Apprentices <;> cases inB 1 3 (b.Boards.length : Int) <;> cases b.Boards.all (inB 0 60) <;> cases inB 1 6 (b.Strokes.length : Int) <;> cases strokesB b.Boards.length 0 b.Strokes <;> rfl
def planL (a : Int) : List GBs → List Int → Bool
 | s :: ss, h :: hs => (inB 0 a h && (h == 0 || !s.Round)) && planL a ss hs
 | _, _ => true
def planB (b : GBk) (pl : List Int) : Bool := decide (pl.length = b.Strokes.length) && planL b.Apprentices b.Strokes pl
def mayL : List GBs → List Int → Bool
 | s :: ss, h :: hs => (h == 0 || !s.Round) && mayL ss hs
 | _, _ => true
theorem tv {a : Int} : ∀ (ss : List GBs) (hs : List Int), hs.length = ss.length → planL a ss hs = (hs.all (inB 0 a) && mayL ss hs)
 | [], [], _ => rfl
 | s :: ss, h :: hs, e => by
  simp only [planL, mayL, List.all_cons, tv ss hs (by simpa using e)]
  cases inB 0 a h <;> cases hs.all (inB 0 a) <;> cases (h == 0 || !s.Round) <;> simp
theorem CM {b : GBk} {n h : Int} {s : GBs} (hs : getI b.Strokes n = some s) : sZ b n h = some (h == 0 || !s.Round) := by
 unfold sZ
 cases h == 0 <;> simp [hs]
theorem Ji {b : GBk} : ∀ (p : List Int) (c : Int) (ss : List GBs), 0 ≤ c → b.Strokes.drop c.toNat = ss → p.length = ss.length → qs b p c = goB (mayL ss p)
 | [], _, [], _, _, _ => rfl
 | h :: p, c, s :: ss, h0, hd, hl => by
  simp only [qs, CM (cX h0 hd), Option.bind_some, Ji p (c + 1) ss (by omega) (bV h0 hd) (by simpa using hl), mayL, nW]
theorem Ih {b : GBk} (h : Len b) (pl : List Int) : pZ b pl = some (planB b pl) := by
 have hst := h.st
 unfold pZ planB
 by_cases e : pl.length = b.Strokes.length
 ·have e1 : ((pl.length : Int) != (b.Strokes.length : Int)) = false := by simp [e]
  rw [e1, cond_false, CG (by omega), decide_eq_true e, tv _ _ e, Option.bind_some, fg (by omega), cond_true, Ji pl 0 b.Strokes (Int.le_refl _) rfl e, mu]
  cases pl.all (inB 0 b.Apprentices) <;> cases mayL b.Strokes pl <;> rfl
 ·have e1 : ((pl.length : Int) != (b.Strokes.length : Int)) = true := by simp; omega
  rw [e1, cond_true, decide_eq_false e]; rfl
theorem Jj {b : GBk} : ∀ (p : List Int) (c : Int) (ss : List GBs), 0 ≤ c → b.Strokes.drop c.toNat = ss → p.length = ss.length → oP b p c = goB (planL b.Apprentices ss p)
 | [], _, [], _, _, _ => rfl
 | h :: p, c, s :: ss, h0, hd, hl => by
  simp only [oP, q9, cX h0 hd, Option.bind_some, Jj p (c + 1) ss (by omega) (bV h0 hd) (by simpa using hl), planL, nW]
  have e : (h != 0) = !(h == 0) := rfl
  rw [e]
  cases inB 0 b.Apprentices h <;> cases s.Round <;> cases h == 0 <;> rfl
theorem CN {b : GBk} (h : Len b) (pl : List Int) : tt b pl = some (planB b pl) := by
 have hst := h.st
 unfold tt planB
 by_cases e : pl.length = b.Strokes.length
 ·have e1 : ((pl.length : Int) != (b.Strokes.length : Int)) = false := by simp [e]
  rw [e1, cond_false, decide_eq_true e, fg (by omega), cond_true, Jj pl 0 b.Strokes (Int.le_refl _) rfl e, mu]
  cases planL b.Apprentices b.Strokes pl <;> rfl
 ·have e1 : ((pl.length : Int) != (b.Strokes.length : Int)) = true := by simp; omega
  rw [e1, cond_true, decide_eq_false e]; rfl
theorem CP {b : GBk} (h : Len b) (n : Int) : tu b n = some (inB 0 ((b.Boards.length : Int) - 1) n) := by
 have := h.bo
 unfold tu
 rw [q9, Option.bind_some, gL (by omega) (by omega)]
theorem LZ {b : GBk} (h : Len b) (n : Int) : nH b n = some (inB 0 ((b.Boards.length : Int) - 1) n) := by
 have := h.bo
 unfold nH
 rw [vE, Option.bind_some, gL (by omega) (by omega)]
structure BOk (b : GBk) : Prop where
 ap : 0 ≤ b.Apprentices ∧ b.Apprentices ≤ 3
 nb : 1 ≤ b.Boards.length ∧ b.Boards.length ≤ 3
 bo : ∀ x ∈ b.Boards, 0 ≤ x ∧ x ≤ 60
 ns : 1 ≤ b.Strokes.length ∧ b.Strokes.length ≤ 6
 st : ∀ (i : Nat) s, b.Strokes[i]? = some s → strokeB b.Boards.length i s = true
theorem Jk {nb : Nat} : ∀ (p : List GBs) (c : Int), strokesB nb c p = true ↔ ∀ (i : Nat) s, p[i]? = some s → strokeB nb (c + i) s = true
 | [], c => by simp [strokesB]
 | s :: p, c => by
  simp only [strokesB, Bool.and_eq_true, Jk p]
  constructor
  ·rintro ⟨h1, h2⟩ i x hx
   cases i with
   | zero => simp at hx; subst hx; simpa using h1
   | succ i => have := h2 i x (by simpa using hx); rw [show c + (i + 1 : Nat) = c + 1 + i by omega]; exact this
  ·intro h
   refine ⟨by have := h 0 s rfl; simpa using this, fun i x hx => ?_⟩
   have := h (i + 1) x (by simpa using hx)
   rw [show c + (i + 1 : Nat) = c + 1 + i by omega] at this
   exact this
theorem z1 {b : GBk} : benchB b = true ↔ BOk b := by
 unfold benchB
 simp only [Bool.and_eq_true, nX, List.all_eq_true, Jk]
 constructor
 ·rintro ⟨h1, ⟨h2, h3⟩, h4, h5⟩
  exact ⟨h1, by omega, h3, by omega, fun i s hs => by have := h5 i s hs; simpa using this⟩
 ·rintro ⟨h1, h2, h3, h4, h5⟩
  exact ⟨h1, ⟨by omega, h3⟩, by omega, fun i s hs => by have := h5 i s hs; simpa using this⟩
structure SOk (nb : Nat) (n : Int) (s : GBs) : Prop where
 bo : 0 ≤ s.Board ∧ s.Board < nb
 hr : 1 ≤ s.Hours.Low ∧ s.Hours.Low ≤ s.Hours.High ∧ s.Hours.High ≤ 6
 nd : ∀ k ∈ s.Needs, 0 ≤ k ∧ k < n
 ad : adjB s.Needs = true
theorem Np {nb : Nat} {n : Int} {s : GBs} : strokeB nb n s = true ↔ SOk nb n s := by
 unfold strokeB
 simp only [Bool.and_eq_true, nX, List.all_eq_true]
 constructor
 ·rintro ⟨h1, ⟨h2, h3⟩, h4, h5⟩
  exact ⟨by omega, by omega, fun k hk => by have := h4 k hk; omega, h5⟩
 ·rintro ⟨h1, h2, h3, h4⟩
  exact ⟨by omega, ⟨by omega, by omega⟩, fun k hk => by have := h3 k hk; omega, h4⟩
theorem BOk.s {b : GBk} (h : BOk b) {i : Nat} {s : GBs} (hs : b.Strokes[i]? = some s) : SOk b.Boards.length i s := Np.1 (h.st i s hs)
structure POk (b : GBk) (pl : List Int) : Prop where
 len : pl.length = b.Strokes.length
 may : ∀ (i : Nat) s h, b.Strokes[i]? = some s → pl[i]? = some h → (0 ≤ h ∧ h ≤ b.Apprentices) ∧ (h = 0 ∨ s.Round = false)
theorem CQ {a : Int} : ∀ (ss : List GBs) (hs : List Int), hs.length = ss.length → (planL a ss hs = true ↔ ∀ (i : Nat) s h, ss[i]? = some s → hs[i]? = some h → (0 ≤ h ∧ h ≤ a) ∧ (h = 0 ∨ s.Round = false))
 | [], [], _ => by simp [planL]
 | s :: ss, h :: hs, e => by
  simp only [planL, Bool.and_eq_true, CQ ss hs (by simpa using e), nX, Bool.or_eq_true, beq_iff_eq, Bool.not_eq_true']
  constructor
  ·rintro ⟨h1, h2⟩ i x y hx hy
   cases i with
   | zero => simp at hx hy; subst hx hy; exact h1
   | succ i => exact h2 i x y (by simpa using hx) (by simpa using hy)
  ·intro hh
   exact ⟨hh 0 s h rfl rfl, fun i x y hx hy => hh (i + 1) x y (by simpa using hx) (by simpa using hy)⟩
theorem z2 {b : GBk} {pl : List Int} : planB b pl = true ↔ POk b pl := by
 unfold planB
 simp only [Bool.and_eq_true, decide_eq_true_eq]
 constructor
 ·rintro ⟨h1, h2⟩; exact ⟨h1, (CQ _ _ h1).1 h2⟩
 ·rintro ⟨h1, h2⟩; exact ⟨h1, (CQ _ _ h1).2 h2⟩
def aP (k : GBe) : Value := .agg ⟨[.int .i64 k.stroke, .int .i64 k.hours]⟩
def cR (a b : GBe) : Bool := ((a.stroke == b.stroke) && ((a.hours == b.hours) && true))
def cW (n : Int) : VV := .lit (.int .i64 n)
theorem m9 (a b : GBe) : aw Tryz.prog (Op.equal 152 (aP a) (aP b)) = some (cR a b) := by
 unfold Op.equal
 exact CS 5 152 _ _ _ (by kernel_rfl) 9995
theorem mA (b : Bool) (k : GBe) : aw Tryz.prog (Instr.checkKey b 10000 152 (aP k)) = some () := by
 cases b <;> kernel_rfl
theorem jB (a b : GBe) (h : cR a b = true) : a = b := by
 obtain ⟨astroke, ahours⟩ := a
 obtain ⟨bstroke, bhours⟩ := b
 simp only [cR, Bool.and_true, Bool.and_eq_true, beq_iff_eq] at h
 simp only [h]
theorem tw (a : GBe) : Instr.sameBits 10000 (aP a) (aP a) = true := by
 simp [aP, Instr.sameBits]
theorem Nq : ((Tryz.prog.info? 3).bind (·.zero)).map ofVal2 = some (cW 0) := by kernel_rfl
theorem mB (k : GBe) : VV.val? (.agg [.lit (.int .i64 k.stroke), .lit (.int .i64 k.hours)]) = some (aP k) := rfl
theorem qX {β : Nat} (l : List (GBe × Int)) (k : GBe) (H : Nat → Option VObj) (hb : H β = some (.map (encM aP cW l))) : vlookup Tryz.prog H 90 (.mp β) (.agg [.lit (.int .i64 k.stroke), .lit (.int .i64 k.hours)]) true = some (.tup [.lit (.int .i64 (mapGet cR 0 l k)), .lit (.bool (mapHas cR l k))]) :=
 Lz Tryz.underlying90 Tryz.underlying152 m9 mA Nq (mB k) hb
theorem qY {β : Nat} (l : List (GBe × Int)) (k : GBe) (n : Int) (H : Nat → Option VObj) (hb : H β = some (.map (encM aP cW l))) : vmapUpdate Tryz.prog H 90 (.mp β) (.agg [.lit (.int .i64 k.stroke), .lit (.int .i64 k.hours)]) (.lit (.int .i64 n)) = some (.upd β (.map (encM aP cW (mapSet cR l k n)))) :=
 xW Tryz.underlying90 Tryz.underlying152 m9 mA jB tw (mB k) hb
theorem CT {c : VV} {cs : List VV} : vload Tryz.prog 90 (c :: cs) = some c := by
 have h1 : aggT Tryz.prog 90 = some false := by kernel_rfl
 simp [vload, vpart, h1]
theorem CU : szT Tryz.prog 90 = some 1 := by kernel_rfl
theorem tx : vzl Tryz.prog 90 = some [.lit (.map none)] := by kernel_rfl
def mqr := And.intro (And.intro @yg @yh) True.intro
def mqt := And.intro (And.intro @CT @CU) @tx
def n5 (rc : GBk → (List Int) → Int → Int → (List (GBe × Int)) → Option ((Int) × List (GBe × Int))) (xb : GBk) (xp : List Int) (xs : Int) (xh : Int) (l0 : List (GBe × Int)) : Nat → Int → Option (LOut ((Int) × List (GBe × Int)) (Int))
 | 0, _ => none
 | k0 + 1, bL => cond (decide (bL ≥ 0)) (Option.bind (getI xp bL) (fun x1 => Option.bind (getI xp xs) (fun x2 => cond (x1 == x2) (Option.bind (rc xb xp bL xh l0) (fun r3 => some (.ret (r3.1, r3.2)))) (n5 rc xb xp xs xh l0 k0 (i64.wrap (bL - 1)))))) (some (.go bL))
def qS (rc : GBk → (List Int) → Int → Int → (List (GBe × Int)) → Option ((Int) × List (GBe × Int))) (xb : GBk) (xp : List Int) (xs : Int) (xh : Int) (l0 : List (GBe × Int)) : Option ((Int) × List (GBe × Int)) := lbind (n5 rc xb xp xs xh l0 1000000 (i64.wrap (xs - 1))) (fun r5 => some r5) (fun c4 => some (0, l0)) (fun _ _ => none)
theorem KL (rc : GBk → (List Int) → Int → Int → (List (GBe × Int)) → Option ((Int) × List (GBe × Int))) (rc_ok : ∀ (xb : GBk) (xp : List Int) (xs : Int) (xh : Int) (l0 : List (GBe × Int)) (R : (Int) × List (GBe × Int)), rc xb xp xs xh l0 = some R → VUpd Tryz.prog G0 118 (fun β => [.agg [.lit (.int .i64 xb.Apprentices), .sl (aa eI xb.Boards) (List.length xb.Boards) false, .sl (aa cGBs xb.Strokes) (List.length xb.Strokes) false, .sl (aa eI xp) (List.length xp) false, .mp β], .lit (.int .i64 xs), .lit (.int .i64 xh)]) (encM aP cW l0) (encM aP cW R.2) (fun _ => .lit (.int .i64 R.1))) (xb : GBk) (xp : List Int) (xs : Int) (xh : Int) (l0 : List (GBe × Int)) (R : (Int) × List (GBe × Int)) (h : qS rc xb xp xs xh l0 = some R) : VUpd Tryz.prog G0 108 (fun β => [.agg [.lit (.int .i64 xb.Apprentices), .sl (aa eI xb.Boards) (List.length xb.Boards) false, .sl (aa cGBs xb.Strokes) (List.length xb.Strokes) false, .sl (aa eI xp) (List.length xp) false, .mp β], .lit (.int .i64 xs), .lit (.int .i64 xh)]) (encM aP cW l0) (encM aP cW R.2) (fun _ => .lit (.int .i64 R.1)) := by
 intro bh nx hlt
 have aR := hY (β := bh) (nx := nx) hlt
 refine ar.run mixed Tryz.call108 Tryz.func108 rfl (by simp [Tryz.ntmps108]; kernel_rfl) ?_
 obtain ⟨KF, h, kF, kN⟩ := cA h
 simp only [qS] at h
 simp only [vz, mq, mqm, vsi, tyf, mqt, aR, nm, seval]
 obtain ⟨K6, h, vD, CB, Nk, oQ⟩ := eN h kN
 obtain ⟨f6, CD, h⟩ := call2 h
 obtain ⟨I6, m7⟩ : ∃ I : Nat → St → Prop, I = (fun m st => ∃ (p6 : Nat) (ji : Int), p6 = m ∧ st.df = [] ∧ nx + 5 ≤ st.nx ∧ st.H bh = some (.map (encM aP cW l0)) ∧ st.H nx = some (.cells (some 92) ((cGBk xb) ++ [.sl (aa eI xp) (List.length xp) false] ++ [.mp bh])) ∧ st.tm 1 = .lit (.int .i64 xs) ∧ st.tm 2 = .lit (.int .i64 xh) ∧ st.tm 3 = .ptr nx 0 ∧ st.tm 7 = .lit (.int .i64 ji) ∧ K6 (f6 p6 ji)) := ⟨_, rfl⟩
 refine loopK mixed (by kernel_rfl) I6 1000000 (by rw [m7]; refine ⟨1000000, i64.wrap (xs - 1), rfl, rfl, (show nx + 5 ≤ nx + 5 by omega), ?_, ?_, ?_, ?_, ?_, ?_, h⟩ <;> first | (simp only [ua, bO, aR, nm, seval] <;> rfl) | rfl) ?_
 rintro m ⟨tm, H, oR, df⟩ hinv
 rw [m7] at hinv
 obtain ⟨p6, ji, rfl, hdf, CE, H7, H8, e9, aQ, aT, bj, h⟩ := hinv
 simp only at hdf CE H7 H8 e9 aQ aT bj
 have oS := ng (a := nx) (m := 5) (b := oR) (by omega)
 have hU := hY (β := bh) (nx := oR) (by omega)
 subst hdf CD
 cases p6 with
 | zero =>
  simp only [n5, hs, reduceCtorEq] at h
  exact absurd h oQ
 | succ p6 =>
  simp only [n5, hs, reduceCtorEq] at h
  cases dN : (decide (ji ≥ 0))
  ·simp only [dN, hs] at h
   replace h := CB _ h
   try dsimp only at h
   try simp only [hs] at h
   try simp only [vz, mq, mqm, vsi, tyf, mqt, aR, oS, hU, e9, aQ, aT, bj, H7, H8, dN, nm, seval]
   refine cL (x := (.lit (.int .i64 0))) (by first | (simp only [Tryz.results108, resV, resL, resV1, cD, cE, uw, cr, tyf, mqt, aR, oS, hU, H7, H8, dN, nm, seval] <;> rfl) | rfl) ?_
   obtain rfl := kF _ h
   refine ⟨(by first | rfl | assumption | (simp only [aV, aX, aR, oS, hU, H7, H8, nm, seval] <;> rfl)), ?_⟩
   exact sq_of (j7 (by simp only [tre, tytre, mqr, Bool.and_self]) rfl)
  simp only [dN, hs] at h
  simp only [vz, mq, mqm, vsi, tyf, mqt, aR, oS, hU, e9, aQ, aT, bj, H7, H8, dN, nm, seval]
  refine lp (fun tm => tm 1 = .lit (.int .i64 xs) ∧ tm 2 = .lit (.int .i64 xh) ∧ tm 3 = .ptr nx 0 ∧ tm 7 = .lit (.int .i64 ji) ∧ True) (by refine ⟨e9, aQ, aT, bj, trivial⟩ <;> first | (simp only [ua, bO, aR, oS, hU, e9, aQ, aT, bj, H7, H8, dN, nm, seval] <;> rfl) | rfl) ?_
  rintro tm ⟨bE, b5, bF, bQ, _⟩
  obtain ⟨Nr, me, h⟩ := optI h oQ
  try simp only [hs] at h
  obtain ⟨Ns, hD, h⟩ := optI h oQ
  try simp only [hs] at h
  cases fp : (Nr == Ns)
  ·simp only [fp, hs] at h
   have kL := And.intro aR (And.intro oS (And.intro hU (And.intro H7 (And.intro H8 (And.intro dN fp)))))
   simp only [vz, mq, mqm, vsi, tyf, mqt, kL, bE, b5, bF, bQ, (aB me), (aB hD), nm, seval]
   exact ⟨p6, Nat.lt_succ_self _, by rw [m7]; refine ⟨p6, i64.wrap (ji - 1), rfl, rfl, (show nx + 5 ≤ oR + 16 by omega), ?_, ?_, bE, b5, bF, ?_, (by first | exact h | (simp only [kL]; exact h))⟩ <;> first | (simp only [ua, bO, kL, bE, b5, bF, bQ, nm, seval] <;> rfl) | rfl⟩
  simp only [fp, hs] at h
  have qA := And.intro aR (And.intro oS (And.intro hU (And.intro H7 (And.intro H8 (And.intro dN fp)))))
  obtain ⟨jj, CV, h⟩ := optI h oQ
  try simp only [hs] at h
  simp only [vz, mq, mqm, vsi, tyf, mqt, qA, bE, b5, bF, bQ, (aB me), (aB hD), nm, seval]
  refine kupd (VUpd.at (β := bh) (y := (fun _ => .lit (.int .i64 jj.1))) (rc_ok _ _ _ _ _ _ CV) (by omega) (by first | rfl | assumption | (simp only [aV, aX, qA, nm, seval] <;> rfl)) (by first | rfl | (simp only [nrm, aL, @dk, @fX] <;> rfl)) (gF (fun _ => rfl) _)) ?_
  refine gW (fun tm => tm 28 = .lit (.int .i64 jj.1) ∧ True) (by refine ⟨?_, trivial⟩ <;> first | (simp only [ua, bO, qA, bE, b5, bF, bQ, nm, seval] <;> rfl) | rfl) ?_
  rintro tm ⟨ca, _⟩
  try simp only [vz, mq, mqm, vsi, tyf, mqt, qA, (aB me), (aB hD), ca, nm, seval]
  refine cL (x := (.lit (.int .i64 jj.1))) (by first | (simp only [Tryz.results108, resV, resL, resV1, cD, cE, uw, cr, tyf, mqt, qA, (aB me), (aB hD), nm, seval] <;> rfl) | rfl) ?_
  replace h := vD _ h
  try dsimp only at h
  obtain rfl := kF _ h
  refine ⟨(by first | rfl | assumption | (simp only [aV, aX, qA, nm, seval] <;> rfl)), ?_⟩
  exact sq_of (j7 (by simp only [tre, tytre, mqr, Bool.and_self]) rfl)
def pY  : List Int → Int → Int → Option (LOut (Int) (Int))
 | [], cJ, eZ => some (.go eZ)
 | e0 :: p0, cJ, eZ => pY p0 (cJ + 1) (if eZ < e0 then e0 else eZ)
def lW (aW : List Int) : Option (Int) := cond (aC aW) (lbind (pY aW 0 0) (fun r2 => some r2) (fun c1 => some c1) (fun _ _ => none)) none
theorem uP (aW : List Int) (R : Int) (h : lW aW = some R) : ah Tryz.prog G0 105 [.sl (aa eI aW) (List.length aW) false] (.tree (.lit (.int .i64 R))) := by
 refine ah.runR mixed Tryz.call105 Tryz.func105 rfl (by simp [Tryz.ntmps105]; kernel_rfl) ?_
 obtain ⟨KF, h, kF, kN⟩ := cA h
 simp only [lW] at h
 cases g4 : (aC aW)
 ·simp only [g4, hs] at h
  exact absurd h kN
 simp only [g4, hs] at h
 simp only [vz, tyf, g4, nm, seval]
 obtain ⟨K3, h, rZ, lx, z5, nJ⟩ := eN h kN
 obtain ⟨f3, nK, h⟩ := call3 h
 obtain ⟨I3, gx⟩ : ∃ I : Nat → St → Prop, I = (fun m st => ∃ (p3 : List Int) (gQ : Int) (db : Int), m = List.length p3 ∧ 0 ≤ gQ ∧ List.drop (Int.toNat gQ) aW = p3 ∧ st.df = [] ∧ 5 ≤ st.nx ∧ st.tm 6 = .sl (aa eI aW) (List.length aW) false ∧ st.tm 7 = .lit (.int .i64 (List.length aW : Int)) ∧ st.tm 3 = .lit (.int .i64 db) ∧ st.tm 8 = .lit (.int .i64 gQ) ∧ K3 (f3 p3 gQ db)) := ⟨_, rfl⟩
 refine loopK mixed (by kernel_rfl) I3 (List.length aW) (by rw [gx]; refine ⟨aW, 0, 0, rfl, Int.le_refl _, rfl, rfl, (show 5 ≤ 5 by omega), ?_, ?_, ?_, ?_, h⟩ <;> first | (simp only [ua, nm, seval] <;> rfl) | rfl) ?_
 rintro m ⟨tm, H, fm, df⟩ hinv
 rw [gx] at hinv
 obtain ⟨p3, gQ, db, rfl, cH, dt, hdf, nL, e5, e6, e7, e8, h⟩ := hinv
 simp only at hdf nL e5 e6 e7 e8
 have n9 := fj (m := 5) (b := fm) (by omega)
 subst hdf nK
 cases p3 with
 | nil =>
  have iW : (decide (gQ < (List.length aW : Int))) = false := eg cH dt
  simp only [pY, hs, reduceCtorEq] at h
  replace h := lx _ h
  try dsimp only at h
  try simp only [hs] at h
  try simp only [vz, tyf, g4, n9, e5, e6, e7, e8, iW, nm, seval]
  refine cL (x := (.lit (.int .i64 db))) (by first | (simp only [Tryz.results105, resV, resL, resV1, cD, cE, uw, cr, tyf, g4, n9, iW, nm, seval] <;> rfl) | rfl) ?_
  obtain rfl := kF _ h
  refine fN ?_ ?_
  ·simp only [tre, tytre, Bool.and_self]
  ·first | (simp only [outV, uw, fY, cr, tyf, nrm, aL, g4, n9, e5, e6, e7, e8, iW, nm, seval] <;> rfl) | rfl
 | cons e3 p3 =>
  have f7 : (decide (gQ < (List.length aW : Int))) = true := eh cH dt
  have jw := cX cH dt
  have oD := dO cH dt g4
  simp only [pY, hs, reduceCtorEq] at h
  simp only [vz, tyf, g4, n9, e5, e6, e7, e8, f7, (aB jw), oD, nm, seval]
  exact ⟨List.length p3, Nat.lt_succ_self _, by rw [gx]; refine ⟨p3, gQ + 1, (if db < e3 then e3 else db), rfl, Int.le_trans cH (Int.le_add_one (Int.le_refl _)), bV cH dt, rfl, (show 5 ≤ fm + 10 by omega), e5, e6, ?_, ?_, (by first | exact h | (simp only [f7]; exact h))⟩ <;> first | (simp only [ua, n9, e5, e6, e7, e8, f7, oD, nm, seval] <;> rfl) | rfl⟩
end Go.V
end
