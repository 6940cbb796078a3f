/- Part of a proof. -/
import Derived.Test.YtmhlghgbfmcdaaaGreatDoorG6bi
set_option linter.all false
set_option maxRecDepth 4000
set_option maxHeartbeats 40000000
section
namespace Go.V
open Go Go.Proofs IntKind
def sy (al : GBk) : List Int → Int → Option (LOut (Bool) (Unit))
 | [], l6 => some (.go ())
 | e0 :: p0, l6 => Option.bind (vr al l6 e0) (fun r2 => cond (r2) (sy al p0 (l6 + 1)) (some (.ret false)))
def pU (al : GBk) (ah : List Int) : Option (Bool) := cond ((List.length ah : Int) != (List.length al.Strokes : Int)) (some false) (Option.bind (qk 0 ah al.Apprentices) (fun r1 => cond (r1) (cond (aG ah) (lbind (sy al ah 0) (fun r4 => some r4) (fun c3 => some true) (fun _ _ => none)) none) (some false)))
theorem Mm (al : GBk) (ah : List Int) (R : Bool) (h : pU al ah = some R) : ak Tryz.prog G0 68 [.agg (cGBk al), .sl (ae eI ah) (List.length ah) false] (.tree (.lit (.bool R))) := by
 refine ak.runR mixed Tryz.call68 Tryz.func68 rfl (by simp [Tryz.ntmps68]; kernel_rfl) ?_
 obtain ⟨KF, h, kF, kN⟩ := cI h
 simp only [pU] at h
 cases d5 : ((List.length ah : Int) != (List.length al.Strokes : Int))
 ·simp only [d5, hs] at h
  obtain ⟨r6, o7, h⟩ := optI h kN
  try simp only [hs] at h
  simp only [vz, tyf, d5, nm, seval]
  refine ktA (Hp _ _ _ _ o7) ?_
  refine bN (fun tm => tm 1 = .sl (ae eI ah) (List.length ah) false ∧ tm 2 = .ptr 0 0 ∧ tm 13 = .lit (.bool false) ∧ tm 17 = .lit (.bool r6) ∧ True) (by refine ⟨?_, ?_, ?_, ?_, trivial⟩ <;> first | (simp only [ua, d5, nm, seval] <;> rfl) | rfl) ?_
  rintro tm ⟨e8, e9, bk, bF, _⟩
  cases dJ : (r6)
  ·simp only [dJ, hs] at h
   try simp only [vz, tyf, d5, e8, e9, bk, bF, dJ, nm, seval]
   obtain rfl := kF _ h
   exact bw Tryz.results68 rfl
  simp only [dJ, hs] at h
  cases qM : (aG ah)
  ·simp only [qM, hs] at h
   exact absurd h kN
  simp only [qM, hs] at h
  simp only [vz, tyf, d5, e8, e9, bk, bF, dJ, qM, nm, seval]
  obtain ⟨SE, h, Jz, J0, SF, J1⟩ := eR h kN
  obtain ⟨SG, J2, h⟩ := call2 h
  obtain ⟨SH, qN⟩ : ∃ I : Nat → St → Prop, I = (fun m st => ∃ (oh : List Int) (dg : Int), m = List.length oh ∧ 0 ≤ dg ∧ List.drop (Int.toNat dg) ah = oh ∧ st.df = [] ∧ 18 ≤ st.nx ∧ st.H 0 = some (.cells (some 25) (cGBk al)) ∧ st.tm 2 = .ptr 0 0 ∧ st.tm 20 = .sl (ae eI ah) (List.length ah) false ∧ st.tm 21 = .lit (.int .i64 (List.length ah : Int)) ∧ st.tm 22 = .lit (.int .i64 dg) ∧ SE (SG oh dg)) := ⟨_, rfl⟩
  refine loopK mixed (by kernel_rfl) SH (List.length ah) (by rw [qN]; refine ⟨ah, 0, rfl, Int.le_refl _, rfl, rfl, (show 18 ≤ 18 by omega), ?_, e9, ?_, ?_, ?_, h⟩ <;> first | (simp only [ua, d5, e8, e9, bk, bF, dJ, nm, seval] <;> rfl) | rfl) ?_
  rintro m ⟨tm, H, wt, df⟩ hinv
  rw [qN] at hinv
  obtain ⟨oh, dg, rfl, jS, l7, hdf, J3, wu, bB, bK, cv, cD, h⟩ := hinv
  simp only at hdf J3 wu bB bK cv cD
  have yy := fw (m := 18) (b := wt) (by omega)
  subst hdf J2
  cases oh with
  | nil =>
   have mF : (decide (dg < (List.length ah : Int))) = false := fj jS l7
   simp only [sy, hs, reduceCtorEq] at h
   replace h := J0 _ h
   try dsimp only at h
   try simp only [hs] at h
   try simp only [vz, tyf, d5, dJ, qM, yy, bB, bK, cv, cD, wu, mF, nm, seval]
   obtain rfl := kF _ h
   exact bw Tryz.results68 rfl
  | cons bI oh =>
   have qA : (decide (dg < (List.length ah : Int))) = true := fh jS l7
   have mR := dG jS l7
   have kU := eQ jS l7 qM
   simp only [sy, hs, reduceCtorEq] at h
   obtain ⟨j2, iE, h⟩ := optI h J1
   try simp only [hs] at h
   simp only [vz, tyf, d5, dJ, qM, yy, bB, bK, cv, cD, wu, qA, (aB mR), kU, nm, seval]
   refine ktA (RB _ _ _ _ iE) ?_
   refine bN (fun tm => tm 2 = .ptr 0 0 ∧ tm 20 = .sl (ae eI ah) (List.length ah) false ∧ tm 21 = .lit (.int .i64 (List.length ah : Int)) ∧ tm 22 = .lit (.int .i64 dg) ∧ tm 30 = .lit (.bool j2) ∧ True) (by refine ⟨bB, bK, cv, cD, ?_, trivial⟩ <;> first | (simp only [ua, d5, dJ, yy, bB, bK, cv, cD, wu, qA, kU, nm, seval] <;> rfl) | rfl) ?_
   rintro tm ⟨bA, bZ, bR, cj, ck, _⟩
   have yz := And.intro d5 (And.intro dJ (And.intro qM (And.intro yy (And.intro wu (And.intro qA kU)))))
   cases ff : (j2)
   ·simp only [ff, hs] at h
    try simp only [vz, tyf, yz, (aB mR), bA, bZ, bR, cj, ck, ff, nm, seval]
    replace h := Jz _ h
    try dsimp only at h
    obtain rfl := kF _ h
    exact bw Tryz.results68 rfl
   simp only [ff, hs] at h
   simp only [vz, tyf, yz, (aB mR), bA, bZ, bR, cj, ck, ff, nm, seval]
   exact ⟨List.length oh, Nat.lt_succ_self _, by rw [qN]; refine ⟨oh, dg + 1, rfl, Int.le_trans jS (Int.le_add_one (Int.le_refl _)), cU jS l7, rfl, (show 18 ≤ wt + 13 by omega), ?_, bA, bZ, bR, ?_, (by first | exact h | (simp only [yz, ff]; exact h))⟩ <;> first | (simp only [ua, yz, bA, bZ, bR, cj, ck, ff, nm, seval] <;> rfl) | rfl⟩
 simp only [d5, hs] at h
 try simp only [vz, tyf, d5, nm, seval]
 obtain rfl := kF _ h
 exact bw Tryz.results68 rfl
def um (al : GBk) (ai : Int) : Option (Bool) := Option.bind (mA 0 ai (i64.wrap ((List.length al.Strokes : Int) - 1))) (fun r1 => some r1)
theorem Q8 (al : GBk) (ai : Int) (R : Bool) (h : um al ai = some R) : ak Tryz.prog G0 80 [.agg (cGBk al), .lit (.int .i64 ai)] (.tree (.lit (.bool R))) := by
 refine ak.runR mixed Tryz.call80 Tryz.func80 rfl (by simp [Tryz.ntmps80]; kernel_rfl) ?_
 obtain ⟨KF, h, kF, kN⟩ := cI h
 simp only [um] at h
 obtain ⟨r2, o3, h⟩ := optI h kN
 try simp only [hs] at h
 simp only [vz, tyf, nm, seval]
 refine ktA (rW _ _ _ _ o3) ?_
 refine bN (fun tm => tm 10 = .lit (.bool r2) ∧ True) (by refine ⟨?_, trivial⟩ <;> first | (simp only [ua, nm, seval] <;> rfl) | rfl) ?_
 rintro tm ⟨e4, _⟩
 try simp only [vz, tyf, e4, nm, seval]
 obtain rfl := kF _ h
 exact bw Tryz.results80 rfl
def qE  : List GBs → Int → Option (LOut (Bool) (Unit))
 | [], da => some (.go ())
 | e0 :: p0, da => cond (decide (da < 9)) (cond (decide ((List.length e0.Needs : Int) > 8)) (some (.ret false)) (qE p0 (da + 1))) (some (.go ()))
def se (al : GBk) : Option (Bool) := cond (aG al.Strokes) (lbind (qE al.Strokes 0) (fun r2 => some r2) (fun c1 => cond (decide ((List.length al.Boards : Int) ≤ 5)) (some (decide ((List.length al.Strokes : Int) ≤ 8))) (some false)) (fun _ _ => none)) none
theorem RG (al : GBk) (R : Bool) (h : se al = some R) : ak Tryz.prog G0 18 [.agg (cGBk al)] (.tree (.lit (.bool R))) := by
 refine ak.runR mixed Tryz.call18 Tryz.func18 rfl (by simp [Tryz.ntmps18]; kernel_rfl) ?_
 obtain ⟨KF, h, kF, kN⟩ := cI h
 simp only [se] at h
 cases g4 : (aG al.Strokes)
 ·simp only [g4, hs] at h
  exact absurd h kN
 simp only [g4, hs] at h
 simp only [vz, tyf, g4, nm, seval]
 obtain ⟨K3, h, mn, iB, rH, kh⟩ := eR h kN
 obtain ⟨f3, j8, h⟩ := call2 h
 obtain ⟨I3, dU⟩ : ∃ I : Nat → St → Prop, I = (fun m st => ∃ (p3 : List GBs) (cB : Int), m = List.length p3 ∧ 0 ≤ cB ∧ List.drop (Int.toNat cB) al.Strokes = p3 ∧ st.df = [] ∧ 3 ≤ st.nx ∧ st.H 0 = some (.cells (some 25) (cGBk al)) ∧ st.tm 1 = .ptr 0 0 ∧ st.tm 3 = .lit (.int .i64 cB) ∧ K3 (f3 p3 cB)) := ⟨_, rfl⟩
 refine loopK mixed (by kernel_rfl) I3 (List.length al.Strokes) (by rw [dU]; refine ⟨al.Strokes, 0, rfl, Int.le_refl _, rfl, rfl, (show 3 ≤ 3 by omega), ?_, ?_, ?_, h⟩ <;> first | (simp only [ua, nm, seval] <;> rfl) | rfl) ?_
 rintro m ⟨tm, H, dr, df⟩ hinv
 rw [dU] at hinv
 obtain ⟨p3, cB, rfl, bJ, ca, hdf, j9, H5, e6, e7, h⟩ := hinv
 simp only at hdf j9 H5 e6 e7
 have n8 := fw (m := 3) (b := dr) (by omega)
 subst hdf j8
 cases p3 with
 | nil =>
  have d9 : (decide (cB < (List.length al.Strokes : Int))) = false := fj bJ ca
  simp only [qE, hs, reduceCtorEq] at h
  replace h := iB _ h
  try dsimp only at h
  try simp only [hs] at h
  cases gv : (decide ((List.length al.Boards : Int) ≤ 5))
  ·simp only [gv, hs] at h
   try simp only [vz, tyf, g4, n8, e6, e7, H5, d9, gv, nm, seval]
   obtain rfl := kF _ h
   exact bw Tryz.results18 rfl
  simp only [gv, hs] at h
  try simp only [vz, tyf, g4, n8, e6, e7, H5, d9, gv, nm, seval]
  obtain rfl := kF _ h
  exact bw Tryz.results18 rfl
 | cons e3 p3 =>
  have cm : (decide (cB < (List.length al.Strokes : Int))) = true := fh bJ ca
  have gM := dG bJ ca
  have jI := eQ bJ ca g4
  simp only [qE, hs, reduceCtorEq] at h
  cases bx : (decide (cB < 9))
  ·simp only [bx, hs] at h
   replace h := iB _ h
   try dsimp only at h
   try simp only [hs] at h
   cases eg : (decide ((List.length al.Boards : Int) ≤ 5))
   ·simp only [eg, hs] at h
    have SI := And.intro g4 (And.intro n8 (And.intro H5 (And.intro cm (And.intro jI (And.intro bx eg)))))
    try simp only [vz, tyf, SI, e6, e7, (aT gM), nm, seval]
    obtain rfl := kF _ h
    exact bw Tryz.results18 rfl
   simp only [eg, hs] at h
   have SJ := And.intro g4 (And.intro n8 (And.intro H5 (And.intro cm (And.intro jI (And.intro bx eg)))))
   try simp only [vz, tyf, SJ, e6, e7, (aT gM), nm, seval]
   obtain rfl := kF _ h
   exact bw Tryz.results18 rfl
  simp only [bx, hs] at h
  cases eh : (decide ((List.length e3.Needs : Int) > 8))
  ·simp only [eh, hs] at h
   have jF := And.intro g4 (And.intro n8 (And.intro H5 (And.intro cm (And.intro jI (And.intro bx eh)))))
   simp only [vz, tyf, jF, e6, e7, (aT gM), nm, seval]
   exact ⟨List.length p3, Nat.lt_succ_self _, by rw [dU]; refine ⟨p3, cB + 1, rfl, Int.le_trans bJ (Int.le_add_one (Int.le_refl _)), cU bJ ca, rfl, (show 3 ≤ dr + 20 by omega), ?_, e6, ?_, (by first | exact h | (simp only [jF]; exact h))⟩ <;> first | (simp only [ua, jF, e6, e7, nm, seval] <;> rfl) | rfl⟩
  simp only [eh, hs] at h
  have SK := And.intro g4 (And.intro n8 (And.intro H5 (And.intro cm (And.intro jI (And.intro bx eh)))))
  try simp only [vz, tyf, SK, e6, e7, (aT gM), nm, seval]
  replace h := mn _ h
  try dsimp only at h
  obtain rfl := kF _ h
  exact bw Tryz.results18 rfl
def jT (jU : Int) (fV : Int) (fJ : Int) : Option (Bool) := cond (decide (jU ≥ fV)) (some (decide (jU ≤ fJ))) (some false)
theorem ma (jU : Int) (fV : Int) (fJ : Int) (R : Bool) (h : jT jU fV fJ = some R) : ak Tryz.prog G0 73 [.lit (.int .i64 jU), .lit (.int .i64 fV), .lit (.int .i64 fJ)] (.tree (.lit (.bool R))) := by
 refine ak.runR mixed Tryz.call73 Tryz.func73 rfl (by simp [Tryz.ntmps73]; kernel_rfl) ?_
 obtain ⟨KF, h, kF, kN⟩ := cI h
 simp only [jT] at h
 cases d1 : (decide (jU ≥ fV))
 ·simp only [d1, hs] at h
  try simp only [vz, tyf, d1, nm, seval]
  obtain rfl := kF _ h
  exact bw Tryz.results73 rfl
 simp only [d1, hs] at h
 try simp only [vz, tyf, d1, nm, seval]
 obtain rfl := kF _ h
 exact bw Tryz.results73 rfl
def qO (aD : Int) (x1 : GBs) : List Int → Int → Option (LOut (Bool) (Unit))
 | [], fz => some (.go ())
 | e0 :: p0, fz => Option.bind (jT e0 0 (i64.wrap (aD - 1))) (fun r5 => cond (r5) (cond (decide (fz > 0)) (Option.bind (getI x1.Needs (i64.wrap (fz - 1))) (fun x6 => cond (decide (e0 ≤ x6)) (some (.ret false)) (qO aD x1 p0 (fz + 1)))) (qO aD x1 p0 (fz + 1))) (some (.ret false)))
def wv (al : GBk) (aD : Int) : Option (Bool) := Option.bind (getI al.Strokes aD) (fun x1 => Option.bind (jT x1.Board 0 (i64.wrap ((List.length al.Boards : Int) - 1))) (fun r2 => cond (r2) (Option.bind (jT x1.Hours.Low 1 6) (fun r3 => cond (r3) (Option.bind (jT x1.Hours.High x1.Hours.Low 6) (fun r4 => cond (r4) (cond (aG x1.Needs) (lbind (qO aD x1 x1.Needs 0) (fun r8 => some r8) (fun c7 => some true) (fun _ _ => none)) none) (some false))) (some false))) (some false)))
theorem SL (al : GBk) (aD : Int) (R : Bool) (h : wv al aD = some R) : ak Tryz.prog G0 74 [.agg (cGBk al), .lit (.int .i64 aD)] (.tree (.lit (.bool R))) := by
 refine ak.runR mixed Tryz.call74 Tryz.func74 rfl (by simp [Tryz.ntmps74]; kernel_rfl) ?_
 obtain ⟨KF, h, kF, kN⟩ := cI h
 simp only [wv] at h
 obtain ⟨x9, hC, h⟩ := optI h kN
 try simp only [hs] at h
 obtain ⟨lV, lG, h⟩ := optI h kN
 try simp only [hs] at h
 simp only [vz, tyf, (aT hC), nm, seval]
 refine ktA (ma _ _ _ _ lG) ?_
 refine bN (fun tm => tm 1 = .lit (.int .i64 aD) ∧ tm 5 = .ptr 7 0 ∧ tm 18 = .lit (.bool lV) ∧ True) (by refine ⟨?_, ?_, ?_, trivial⟩ <;> first | (simp only [ua, nm, seval] <;> rfl) | rfl) ?_
 rintro tm ⟨bI, bS, cM, _⟩
 cases jh : (lV)
 ·simp only [jh, hs] at h
  try simp only [vz, tyf, (aT hC), bI, bS, cM, jh, nm, seval]
  obtain rfl := kF _ h
  exact bw Tryz.results74 rfl
 simp only [jh, hs] at h
 obtain ⟨kL, tJ, h⟩ := optI h kN
 try simp only [hs] at h
 simp only [vz, tyf, (aT hC), bI, bS, cM, jh, nm, seval]
 refine ktA (ma _ _ _ _ tJ) ?_
 refine bN (fun tm => tm 1 = .lit (.int .i64 aD) ∧ tm 5 = .ptr 7 0 ∧ tm 20 = .lit (.bool false) ∧ tm 24 = .lit (.bool kL) ∧ True) (by refine ⟨bI, bS, ?_, ?_, trivial⟩ <;> first | (simp only [ua, bI, bS, cM, jh, nm, seval] <;> rfl) | rfl) ?_
 rintro tm ⟨cD, dK, dI, cg, _⟩
 cases gW : (kL)
 ·simp only [gW, hs] at h
  try simp only [vz, tyf, (aT hC), jh, cD, dK, dI, cg, gW, nm, seval]
  obtain rfl := kF _ h
  exact bw Tryz.results74 rfl
 simp only [gW, hs] at h
 obtain ⟨kO, nO, h⟩ := optI h kN
 try simp only [hs] at h
 simp only [vz, tyf, (aT hC), jh, cD, dK, dI, cg, gW, nm, seval]
 refine ktA (ma _ _ _ _ nO) ?_
 refine bN (fun tm => tm 1 = .lit (.int .i64 aD) ∧ tm 5 = .ptr 7 0 ∧ tm 27 = .lit (.bool false) ∧ tm 34 = .lit (.bool kO) ∧ True) (by refine ⟨cD, dK, ?_, ?_, trivial⟩ <;> first | (simp only [ua, jh, cD, dK, dI, cg, gW, nm, seval] <;> rfl) | rfl) ?_
 rintro tm ⟨du, bA, bZ, bR, _⟩
 cases mU : (kO)
 ·simp only [mU, hs] at h
  try simp only [vz, tyf, (aT hC), jh, gW, du, bA, bZ, bR, mU, nm, seval]
  obtain rfl := kF _ h
  exact bw Tryz.results74 rfl
 simp only [mU, hs] at h
 cases qP : (aG x9.Needs)
 ·simp only [qP, hs] at h
  exact absurd h kN
 simp only [qP, hs] at h
 simp only [vz, tyf, (aT hC), jh, gW, du, bA, bZ, bR, mU, qP, nm, seval]
 obtain ⟨SM, h, wx, J4, SN, wy⟩ := eR h kN
 obtain ⟨SO, J5, h⟩ := call2 h
 obtain ⟨SP, mV⟩ : ∃ I : Nat → St → Prop, I = (fun m st => ∃ (mb : List Int) (dj : Int), m = List.length mb ∧ 0 ≤ dj ∧ List.drop (Int.toNat dj) x9.Needs = mb ∧ st.df = [] ∧ 35 ≤ st.nx ∧ st.H 7 = some (.cells (some 49) (cGBs x9)) ∧ st.tm 1 = .lit (.int .i64 aD) ∧ st.tm 5 = .ptr 7 0 ∧ st.tm 6 = .lit (.int .i64 dj) ∧ SM (SO mb dj)) := ⟨_, rfl⟩
 refine loopK mixed (by kernel_rfl) SP (List.length x9.Needs) (by rw [mV]; refine ⟨x9.Needs, 0, rfl, Int.le_refl _, rfl, rfl, (show 35 ≤ 35 by omega), ?_, du, bA, ?_, h⟩ <;> first | (simp only [ua, jh, gW, du, bA, bZ, bR, mU, nm, seval] <;> rfl) | rfl) ?_
 rintro m ⟨tm, H, qQ, df⟩ hinv
 rw [mV] at hinv
 obtain ⟨mb, dj, rfl, ix, jV, hdf, J6, wz, ed, fm, gJ, h⟩ := hinv
 simp only at hdf J6 wz ed fm gJ
 have y6 := fw (m := 35) (b := qQ) (by omega)
 subst hdf J5
 cases mb with
 | nil =>
  have lU : (decide (dj < (List.length x9.Needs : Int))) = false := fj ix jV
  simp only [qO, hs, reduceCtorEq] at h
  replace h := J4 _ h
  try dsimp only at h
  try simp only [hs] at h
  try simp only [vz, tyf, (aT hC), jh, gW, mU, qP, y6, ed, fm, gJ, wz, lU, nm, seval]
  obtain rfl := kF _ h
  exact bw Tryz.results74 rfl
 | cons ck mb =>
  have J7 : (decide (dj < (List.length x9.Needs : Int))) = true := fh ix jV
  have lW := dG ix jV
  have J8 := eQ ix jV qP
  simp only [qO, hs, reduceCtorEq] at h
  simp only [vz, tyf, (aT hC), jh, gW, mU, qP, y6, ed, fm, gJ, wz, J7, (aB lW), J8, nm, seval]
  refine jk (fun tm => tm 1 = .lit (.int .i64 aD) ∧ tm 5 = .ptr 7 0 ∧ tm 6 = .lit (.int .i64 dj) ∧ True) (by refine ⟨ed, fm, gJ, trivial⟩ <;> first | (simp only [ua, jh, gW, mU, y6, ed, fm, gJ, wz, J7, J8, nm, seval] <;> rfl) | rfl) ?_
  rintro tm ⟨cE, cy, cz, _⟩
  have mc := And.intro jh (And.intro gW (And.intro mU (And.intro qP (And.intro y6 (And.intro wz (And.intro J7 J8))))))
  obtain ⟨Nr, SQ, h⟩ := optI h wy
  try simp only [hs] at h
  simp only [vz, tyf, mc, (aT hC), (aB lW), cE, cy, cz, nm, seval]
  refine dktA (ma _ _ _ _ SQ) ?_
  refine bN (fun tm => tm 1 = .lit (.int .i64 aD) ∧ tm 5 = .ptr 7 0 ∧ tm 6 = .lit (.int .i64 dj) ∧ tm 51 = .lit (.bool Nr) ∧ True) (by refine ⟨cE, cy, cz, ?_, trivial⟩ <;> first | (simp only [ua, mc, cE, cy, cz, nm, seval] <;> rfl) | rfl) ?_
  rintro tm ⟨cu, dD, iF, iG, _⟩
  cases fC : (Nr)
  ·simp only [fC, hs] at h
   try simp only [vz, tyf, mc, (aT hC), (aB lW), cu, dD, iF, iG, fC, nm, seval]
   replace h := wx _ h
   try dsimp only at h
   obtain rfl := kF _ h
   exact bw Tryz.results74 rfl
  simp only [fC, hs] at h
  cases fQ : (decide (dj > 0))
  ·simp only [fQ, hs] at h
   simp only [vz, tyf, mc, (aT hC), (aB lW), cu, dD, iF, iG, fC, fQ, nm, seval]
   exact ⟨List.length mb, Nat.lt_succ_self _, by rw [mV]; refine ⟨mb, dj + 1, rfl, Int.le_trans ix (Int.le_add_one (Int.le_refl _)), cU ix jV, rfl, (show 35 ≤ qQ + 35 by omega), ?_, cu, dD, ?_, (by first | exact h | (simp only [mc, fC, fQ]; exact h))⟩ <;> first | (simp only [ua, mc, cu, dD, iF, iG, fC, fQ, nm, seval] <;> rfl) | rfl⟩
  simp only [fQ, hs] at h
  obtain ⟨SS, xJ, h⟩ := optI h wy
  try simp only [hs] at h
  cases s5 : (decide (ck ≤ SS))
  ·simp only [s5, hs] at h
   simp only [vz, tyf, mc, (aT hC), (aB lW), cu, dD, iF, iG, fC, fQ, (aB xJ), s5, nm, seval]
   exact ⟨List.length mb, Nat.lt_succ_self _, by rw [mV]; refine ⟨mb, dj + 1, rfl, Int.le_trans ix (Int.le_add_one (Int.le_refl _)), cU ix jV, rfl, (show 35 ≤ qQ + 35 by omega), ?_, cu, dD, ?_, (by first | exact h | (simp only [mc, fC, fQ, s5]; exact h))⟩ <;> first | (simp only [ua, mc, cu, dD, iF, iG, fC, fQ, s5, nm, seval] <;> rfl) | rfl⟩
  simp only [s5, hs] at h
  try simp only [vz, tyf, mc, (aT hC), (aB lW), cu, dD, iF, iG, fC, fQ, (aB xJ), s5, nm, seval]
  replace h := wx _ h
  try dsimp only at h
  obtain rfl := kF _ h
  exact bw Tryz.results74 rfl
def s6 (al : GBk) : List GBs → Int → Option (LOut (Bool) (Unit))
 | [], qR => some (.go ())
 | e1 :: p1, qR => Option.bind (wv al qR) (fun r6 => cond (r6) (s6 al p1 (qR + 1)) (some (.ret false)))
def s7  : List Int → Int → Option (LOut (Bool) (Unit))
 | [], da => some (.go ())
 | e0 :: p0, da => Option.bind (jT e0 0 60) (fun r4 => cond (r4) (s7 p0 (da + 1)) (some (.ret false)))
def vv (al : GBk) : Option (Bool) := Option.bind (jT al.Apprentices 0 3) (fun r1 => cond (r1) (Option.bind (jT (List.length al.Boards : Int) 1 3) (fun r2 => cond (r2) (Option.bind (jT (List.length al.Strokes : Int) 1 6) (fun r3 => cond (r3) (cond (aG al.Boards) (lbind (s7 al.Boards 0) (fun r9 => some r9) (fun c5 => cond (aG al.Strokes) (lbind (s6 al al.Strokes 0) (fun r8 => some r8) (fun c7 => some true) (fun _ _ => none)) none) (fun _ _ => none)) none) (some false))) (some false))) (some false))
theorem RJ (al : GBk) (R : Bool) (h : vv al = some R) : ak Tryz.prog G0 24 [.agg (cGBk al)] (.tree (.lit (.bool R))) := by
 refine ak.runR mixed Tryz.call24 Tryz.func24 rfl (by simp [Tryz.ntmps24]; kernel_rfl) ?_
 obtain ⟨KF, h, kF, kN⟩ := cI h
 simp only [vv] at h
 obtain ⟨nz, tI, h⟩ := optI h kN
 try simp only [hs] at h
 simp only [vz, tyf, nm, seval]
 refine ktA (ma _ _ _ _ tI) ?_
 refine bN (fun tm => tm 1 = .ptr 0 0 ∧ tm 7 = .lit (.bool nz) ∧ True) (by refine ⟨?_, ?_, trivial⟩ <;> first | (simp only [ua, nm, seval] <;> rfl) | rfl) ?_
 rintro tm ⟨cn, bI, _⟩
 cases bx : (nz)
 ·simp only [bx, hs] at h
  try simp only [vz, tyf, cn, bI, bx, nm, seval]
  obtain rfl := kF _ h
  exact bw Tryz.results24 rfl
 simp only [bx, hs] at h
 obtain ⟨qs, dx, h⟩ := optI h kN
 try simp only [hs] at h
 simp only [vz, tyf, cn, bI, bx, nm, seval]
 refine ktA (ma _ _ _ _ dx) ?_
 refine bN (fun tm => tm 1 = .ptr 0 0 ∧ tm 9 = .lit (.bool false) ∧ tm 13 = .lit (.bool qs) ∧ True) (by refine ⟨cn, ?_, ?_, trivial⟩ <;> first | (simp only [ua, cn, bI, bx, nm, seval] <;> rfl) | rfl) ?_
 rintro tm ⟨bK, cv, cD, _⟩
 cases ei : (qs)
 ·simp only [ei, hs] at h
  try simp only [vz, tyf, bx, bK, cv, cD, ei, nm, seval]
  obtain rfl := kF _ h
  exact bw Tryz.results24 rfl
 simp only [ei, hs] at h
 obtain ⟨iY, lO, h⟩ := optI h kN
 try simp only [hs] at h
 simp only [vz, tyf, bx, bK, cv, cD, ei, nm, seval]
 refine ktA (ma _ _ _ _ lO) ?_
 refine bN (fun tm => tm 1 = .ptr 0 0 ∧ tm 16 = .lit (.bool false) ∧ tm 20 = .lit (.bool iY) ∧ True) (by refine ⟨bK, ?_, ?_, trivial⟩ <;> first | (simp only [ua, bx, bK, cv, cD, ei, nm, seval] <;> rfl) | rfl) ?_
 rintro tm ⟨bG, cV, cN, _⟩
 cases fu : (iY)
 ·simp only [fu, hs] at h
  try simp only [vz, tyf, bx, ei, bG, cV, cN, fu, nm, seval]
  obtain rfl := kF _ h
  exact bw Tryz.results24 rfl
 simp only [fu, hs] at h
 cases ib : (aG al.Boards)
 ·simp only [ib, hs] at h
  exact absurd h kN
 simp only [ib, hs] at h
 simp only [vz, tyf, bx, ei, bG, cV, cN, fu, ib, nm, seval]
 obtain ⟨Dp, h, tM, py, Dq, kP⟩ := eR h kN
 obtain ⟨Dr, pz, h⟩ := call2 h
 obtain ⟨Ds, iQ⟩ : ∃ I : Nat → St → Prop, I = (fun m st => ∃ (iC : List Int) (eL : Int), m = List.length iC ∧ 0 ≤ eL ∧ List.drop (Int.toNat eL) al.Boards = iC ∧ st.df = [] ∧ 21 ≤ st.nx ∧ st.H 0 = some (.cells (some 25) (cGBk al)) ∧ st.tm 1 = .ptr 0 0 ∧ st.tm 3 = .lit (.int .i64 eL) ∧ Dp (Dr iC eL)) := ⟨_, rfl⟩
 refine loopK mixed (by kernel_rfl) Ds (List.length al.Boards) (by rw [iQ]; refine ⟨al.Boards, 0, rfl, Int.le_refl _, rfl, rfl, (show 21 ≤ 21 by omega), ?_, bG, ?_, h⟩ <;> first | (simp only [ua, bx, ei, bG, cV, cN, fu, nm, seval] <;> rfl) | rfl) ?_
 rintro m ⟨tm, H, dk, df⟩ hinv
 rw [iQ] at hinv
 obtain ⟨iC, eL, rfl, jW, l8, hdf, p8, ki, cj, ck, h⟩ := hinv
 simp only at hdf p8 ki cj ck
 have mW := fw (m := 21) (b := dk) (by omega)
 subst hdf pz
 cases iC with
 | nil =>
  have ff : (decide (eL < (List.length al.Boards : Int))) = false := fj jW l8
  simp only [s7, hs, reduceCtorEq] at h
  replace h := py _ h
  try dsimp only at h
  try simp only [hs] at h
  cases jd : (aG al.Strokes)
  ·simp only [jd, hs] at h
   exact absurd h kN
  simp only [jd, hs] at h
  simp only [vz, tyf, bx, ei, fu, ib, mW, cj, ck, ki, ff, jd, nm, seval]
  obtain ⟨SU, h, J9, JA, SV, JB⟩ := eR h kN
  obtain ⟨SW, JC, h⟩ := call2 h
  obtain ⟨SX, qS⟩ : ∃ I : Nat → St → Prop, I = (fun m st => ∃ (om : List GBs) (eM : Int), m = List.length om ∧ 0 ≤ eM ∧ List.drop (Int.toNat eM) al.Strokes = om ∧ st.df = [] ∧ dk + 6 ≤ st.nx ∧ st.H 0 = some (.cells (some 25) (cGBk al)) ∧ st.tm 1 = .ptr 0 0 ∧ st.tm 4 = .lit (.int .i64 eM) ∧ SU (SW om eM)) := ⟨_, rfl⟩
  refine loopK mixed (by kernel_rfl) SX (List.length al.Strokes) (by rw [qS]; refine ⟨al.Strokes, 0, rfl, Int.le_refl _, rfl, rfl, (show dk + 6 ≤ dk + 6 by omega), ?_, cj, ?_, h⟩ <;> first | (simp only [ua, bx, ei, fu, mW, cj, ck, ki, ff, nm, seval] <;> rfl) | rfl) ?_
  rintro m ⟨tm, H, qT, df⟩ hinv
  rw [qS] at hinv
  obtain ⟨om, eM, rfl, jX, l9, hdf, JD, w5, gz, gb, h⟩ := hinv
  simp only at hdf JD w5 gz gb
  have y7 := fw (m := 21) (b := qT) (by omega)
  have y8 := kH (a := dk) (m := 6) (b := qT) (by omega)
  subst hdf JC
  cases om with
  | nil =>
   have lY : (decide (eM < (List.length al.Strokes : Int))) = false := fj jX l9
   simp only [s6, hs, reduceCtorEq] at h
   replace h := JA _ h
   try dsimp only at h
   try simp only [hs] at h
   try simp only [vz, tyf, bx, ei, fu, ib, mW, ff, jd, y7, y8, gz, gb, w5, lY, nm, seval]
   obtain rfl := kF _ h
   exact bw Tryz.results24 rfl
  | cons ed om =>
   have JE : (decide (eM < (List.length al.Strokes : Int))) = true := fh jX l9
   have JF := dG jX l9
   have JG := eQ jX l9 jd
   simp only [s6, hs, reduceCtorEq] at h
   obtain ⟨pR, Ff, h⟩ := optI h JB
   try simp only [hs] at h
   simp only [vz, tyf, bx, ei, fu, ib, mW, ff, jd, y7, y8, gz, gb, w5, JE, (aT JF), JG, nm, seval]
   refine ktA (SL _ _ _ Ff) ?_
   refine bN (fun tm => tm 1 = .ptr 0 0 ∧ tm 4 = .lit (.int .i64 eM) ∧ tm 46 = .lit (.bool pR) ∧ True) (by refine ⟨gz, gb, ?_, trivial⟩ <;> first | (simp only [ua, bx, ei, fu, mW, ff, y7, y8, gz, gb, w5, JE, JG, nm, seval] <;> rfl) | rfl) ?_
   rintro tm ⟨cF, cu, dD, _⟩
   have gg := And.intro bx (And.intro ei (And.intro fu (And.intro ib (And.intro mW (And.intro ff (And.intro jd (And.intro y7 (And.intro y8 (And.intro w5 (And.intro JE JG))))))))))
   cases gS : (pR)
   ·simp only [gS, hs] at h
    try simp only [vz, tyf, gg, (aT JF), cF, cu, dD, gS, nm, seval]
    replace h := J9 _ h
    try dsimp only at h
    obtain rfl := kF _ h
    exact bw Tryz.results24 rfl
   simp only [gS, hs] at h
   simp only [vz, tyf, gg, (aT JF), cF, cu, dD, gS, nm, seval]
   exact ⟨List.length om, Nat.lt_succ_self _, by rw [qS]; refine ⟨om, eM + 1, rfl, Int.le_trans jX (Int.le_add_one (Int.le_refl _)), cU jX l9, rfl, (show dk + 6 ≤ qT + 12 by omega), ?_, cF, ?_, (by first | exact h | (simp only [gg, gS]; exact h))⟩ <;> first | (simp only [ua, gg, cF, cu, dD, gS, nm, seval] <;> rfl) | rfl⟩
 | cons bA iC =>
  have fC : (decide (eL < (List.length al.Boards : Int))) = true := fh jW l8
  have gT := dG jW l8
  have rK := eQ jW l8 ib
  simp only [s7, hs, reduceCtorEq] at h
  obtain ⟨Ns, gU, h⟩ := optI h kP
  try simp only [hs] at h
  simp only [vz, tyf, bx, ei, fu, ib, mW, cj, ck, ki, fC, (aB gT), rK, nm, seval]
  refine ktA (ma _ _ _ _ gU) ?_
  refine bN (fun tm => tm 1 = .ptr 0 0 ∧ tm 3 = .lit (.int .i64 eL) ∧ tm 35 = .lit (.bool Ns) ∧ True) (by refine ⟨cj, ck, ?_, trivial⟩ <;> first | (simp only [ua, bx, ei, fu, mW, cj, ck, ki, fC, rK, nm, seval] <;> rfl) | rfl) ?_
  rintro tm ⟨jY, md, fU, _⟩
  have y9 := And.intro bx (And.intro ei (And.intro fu (And.intro ib (And.intro mW (And.intro ki (And.intro fC rK))))))
  cases fK : (Ns)
  ·simp only [fK, hs] at h
   try simp only [vz, tyf, y9, (aB gT), jY, md, fU, fK, nm, seval]
   replace h := tM _ h
   try dsimp only at h
   obtain rfl := kF _ h
   exact bw Tryz.results24 rfl
  simp only [fK, hs] at h
  simp only [vz, tyf, y9, (aB gT), jY, md, fU, fK, nm, seval]
  exact ⟨List.length iC, Nat.lt_succ_self _, by rw [iQ]; refine ⟨iC, eL + 1, rfl, Int.le_trans jW (Int.le_add_one (Int.le_refl _)), cU jW l8, rfl, (show 21 ≤ dk + 15 by omega), ?_, jY, ?_, (by first | exact h | (simp only [y9, fK]; exact h))⟩ <;> first | (simp only [ua, y9, jY, md, fU, fK, nm, seval] <;> rfl) | rfl⟩

def yh (bD : List Int) : Option (Bool) := some (decide ((List.length bD : Int) ≤ 9))
theorem RH (bD : List Int) (R : Bool) (h : yh bD = some R) : ak Tryz.prog G0 19 [.sl (ae eI bD) (List.length bD) false] (.tree (.lit (.bool R))) := by
 refine ak.runR mixed Tryz.call19 Tryz.func19 rfl (by simp [Tryz.ntmps19]; kernel_rfl) ?_
 obtain ⟨KF, h, kF, kN⟩ := cI h
 simp only [yh] at h
 try simp only [vz, tyf, nm, seval]
 obtain rfl := kF _ h
 exact bw Tryz.results19 rfl
def qU (al : GBk) : List Int → Int → Option (LOut (Bool) (Unit))
 | [], cw => some (.go ())
 | e0 :: p0, cw => Option.bind (jT e0 0 al.Apprentices) (fun r1 => cond (r1) (Option.bind (getI al.Strokes cw) (fun x2 => cond (x2.Round) (cond (e0 != 0) (some (.ret false)) (qU al p0 (cw + 1))) (qU al p0 (cw + 1)))) (some (.ret false)))
def vw (al : GBk) (db : List Int) : Option (Bool) := cond ((List.length db : Int) != (List.length al.Strokes : Int)) (some false) (cond (aG db) (lbind (qU al db 0) (fun r4 => some r4) (fun c3 => some true) (fun _ _ => none)) none)
theorem RM (al : GBk) (db : List Int) (R : Bool) (h : vw al db = some R) : ak Tryz.prog G0 25 [.agg (cGBk al), .sl (ae eI db) (List.length db) false] (.tree (.lit (.bool R))) := by
 refine ak.runR mixed Tryz.call25 Tryz.func25 rfl (by simp [Tryz.ntmps25]; kernel_rfl) ?_
 obtain ⟨KF, h, kF, kN⟩ := cI h
 simp only [vw] at h
 cases d5 : ((List.length db : Int) != (List.length al.Strokes : Int))
 ·simp only [d5, hs] at h
  cases g7 : (aG db)
  ·simp only [g7, hs] at h
   exact absurd h kN
  simp only [g7, hs] at h
  simp only [vz, tyf, d5, g7, nm, seval]
  obtain ⟨K6, h, yA, JH, SY, qV⟩ := eR h kN
  obtain ⟨f6, JI, h⟩ := call2 h
  obtain ⟨I6, oo⟩ : ∃ I : Nat → St → Prop, I = (fun m st => ∃ (p6 : List Int) (fW : Int), m = List.length p6 ∧ 0 ≤ fW ∧ List.drop (Int.toNat fW) db = p6 ∧ st.df = [] ∧ 9 ≤ st.nx ∧ st.H 0 = some (.cells (some 25) (cGBk al)) ∧ st.tm 1 = .sl (ae eI db) (List.length db) false ∧ st.tm 2 = .ptr 0 0 ∧ st.tm 5 = .lit (.int .i64 fW) ∧ K6 (f6 p6 fW)) := ⟨_, rfl⟩
  refine loopK mixed (by kernel_rfl) I6 (List.length db) (by rw [oo]; refine ⟨db, 0, rfl, Int.le_refl _, rfl, rfl, (show 9 ≤ 9 by omega), ?_, ?_, ?_, ?_, h⟩ <;> first | (simp only [ua, d5, nm, seval] <;> rfl) | rfl) ?_
  rintro m ⟨tm, H, qW, df⟩ hinv
  rw [oo] at hinv
  obtain ⟨p6, fW, rfl, oq, s8, hdf, JJ, H8, e9, bk, bF, h⟩ := hinv
  simp only at hdf JJ H8 e9 bk bF
  have dP := fw (m := 9) (b := qW) (by omega)
  subst hdf JI
  cases p6 with
  | nil =>
   have de : (decide (fW < (List.length db : Int))) = false := fj oq s8
   simp only [qU, hs, reduceCtorEq] at h
   replace h := JH _ h
   try dsimp only at h
   try simp only [hs] at h
   try simp only [vz, tyf, d5, g7, dP, e9, bk, bF, H8, de, nm, seval]
   obtain rfl := kF _ h
   exact bw Tryz.results25 rfl
  | cons e6 p6 =>
   have bx : (decide (fW < (List.length db : Int))) = true := fh oq s8
   have dx := dG oq s8
   have s9 := eQ oq s8 g7
   simp only [qU, hs, reduceCtorEq] at h
   simp only [vz, tyf, d5, g7, dP, e9, bk, bF, H8, bx, (aB dx), s9, nm, seval]
   refine jk (fun tm => tm 1 = .sl (ae eI db) (List.length db) false ∧ tm 2 = .ptr 0 0 ∧ tm 5 = .lit (.int .i64 fW) ∧ True) (by refine ⟨e9, bk, bF, trivial⟩ <;> first | (simp only [ua, d5, dP, e9, bk, bF, H8, bx, s9, nm, seval] <;> rfl) | rfl) ?_
   rintro tm ⟨bK, cv, cD, _⟩
   obtain ⟨gw, iq, h⟩ := optI h qV
   try simp only [hs] at h
   simp only [vz, tyf, d5, g7, dP, H8, bx, (aB dx), s9, bK, cv, cD, nm, seval]
   refine dktA (ma _ _ _ _ iq) ?_
   refine bN (fun tm => tm 1 = .sl (ae eI db) (List.length db) false ∧ tm 2 = .ptr 0 0 ∧ tm 5 = .lit (.int .i64 fW) ∧ tm 24 = .lit (.bool gw) ∧ True) (by refine ⟨bK, cv, cD, ?_, trivial⟩ <;> first | (simp only [ua, d5, dP, H8, bx, s9, bK, cv, cD, nm, seval] <;> rfl) | rfl) ?_
   rintro tm ⟨cg, bG, cV, cN, _⟩
   cases fu : (gw)
   ·simp only [fu, hs] at h
    have SZ := And.intro d5 (And.intro g7 (And.intro dP (And.intro H8 (And.intro bx (And.intro s9 fu)))))
    try simp only [vz, tyf, SZ, (aB dx), cg, bG, cV, cN, nm, seval]
    replace h := yA _ h
    try dsimp only at h
    obtain rfl := kF _ h
    exact bw Tryz.results25 rfl
   simp only [fu, hs] at h
   have iw := And.intro d5 (And.intro g7 (And.intro dP (And.intro H8 (And.intro bx (And.intro s9 fu)))))
   obtain ⟨xW, jK, h⟩ := optI h qV
   try simp only [hs] at h
   cases lA : (xW.Round)
   ·simp only [lA, hs] at h
    simp only [vz, tyf, iw, (aB dx), cg, bG, cV, cN, (aT jK), lA, nm, seval]
    exact ⟨List.length p6, Nat.lt_succ_self _, by rw [oo]; refine ⟨p6, fW + 1, rfl, Int.le_trans oq (Int.le_add_one (Int.le_refl _)), cU oq s8, rfl, (show 9 ≤ qW + 30 by omega), ?_, cg, bG, ?_, (by first | exact h | (simp only [iw, lA]; exact h))⟩ <;> first | (simp only [ua, iw, cg, bG, cV, cN, lA, nm, seval] <;> rfl) | rfl | (simp only [ua, tyf, iw, cg, bG, cV, cN, lA, nm, seval] <;> rfl)⟩
   simp only [lA, hs] at h
   cases qX : (e6 != 0)
   ·simp only [qX, hs] at h
    simp only [vz, tyf, iw, (aB dx), cg, bG, cV, cN, (aT jK), lA, qX, nm, seval]
    exact ⟨List.length p6, Nat.lt_succ_self _, by rw [oo]; refine ⟨p6, fW + 1, rfl, Int.le_trans oq (Int.le_add_one (Int.le_refl _)), cU oq s8, rfl, (show 9 ≤ qW + 30 by omega), ?_, cg, bG, ?_, (by first | exact h | (simp only [iw, lA, qX]; exact h))⟩ <;> first | (simp only [ua, iw, cg, bG, cV, cN, lA, qX, nm, seval] <;> rfl) | rfl | (simp only [ua, tyf, iw, cg, bG, cV, cN, lA, qX, nm, seval] <;> rfl)⟩
   simp only [qX, hs] at h
   try simp only [vz, tyf, iw, (aB dx), cg, bG, cV, cN, (aT jK), lA, qX, nm, seval]
   replace h := yA _ h
   try dsimp only at h
   obtain rfl := kF _ h
   exact bw Tryz.results25 rfl
 simp only [d5, hs] at h
 try simp only [vz, tyf, d5, nm, seval]
 obtain rfl := kF _ h
 exact bw Tryz.results25 rfl

def sf (al : GBk) (cO : Int) : Option (Bool) := Option.bind (jT cO 0 (i64.wrap ((List.length al.Strokes : Int) - 1))) (fun r1 => some r1)
theorem MR (al : GBk) (cO : Int) (R : Bool) (h : sf al cO = some R) : ak Tryz.prog G0 45 [.agg (cGBk al), .lit (.int .i64 cO)] (.tree (.lit (.bool R))) := by
 refine ak.runR mixed Tryz.call45 Tryz.func45 rfl (by simp [Tryz.ntmps45]; kernel_rfl) ?_
 obtain ⟨KF, h, kF, kN⟩ := cI h
 simp only [sf] at h
 obtain ⟨r2, o3, h⟩ := optI h kN
 try simp only [hs] at h
 simp only [vz, tyf, nm, seval]
 refine ktA (ma _ _ _ _ o3) ?_
 refine bN (fun tm => tm 10 = .lit (.bool r2) ∧ True) (by refine ⟨?_, trivial⟩ <;> first | (simp only [ua, nm, seval] <;> rfl) | rfl) ?_
 rintro tm ⟨e4, _⟩
 try simp only [vz, tyf, e4, nm, seval]
 obtain rfl := kF _ h
 exact bw Tryz.results45 rfl
theorem yB (a n b : Int) : mA a n b = some (inB a b n) := csome _ _
theorem jZ (n a b : Int) : jT n a b = some (inB a b n) := csome _ _
theorem Nt (a b : Int) : ∀ (p : List Int) (c : Int), rX a b p c = goB (p.all (inB a b))
 | [], _ => rfl
 | e :: p, c => by simp only [rX, yB, Option.bind_some, Nt a b p, List.all_cons, qh]
theorem JK {l : List Int} (hl : l.length < 9223372036854775808) (a b : Int) : qk a l b = some (l.all (inB a b)) := by
 unfold qk
 rw [fE hl, cond_true, Nt, nL]
 exact csome _ _ ▸ by cases l.all (inB a b) <;> rfl
def adjB : List Int → Bool
 | a :: b :: l => decide (a < b) && adjB (b :: l)
 | _ => true
theorem Nu {ns : List Int} (hn : ns.length < 9223372036854775808) : ∀ (p : List Int) (c a : Int), 1 ≤ c → ns.drop (c - 1).toNat = a :: p → sa ns p c = goB (adjB (a :: p))
 | [], _, _, _, _ => rfl
 | e :: p, c, a, hc, hd => by
  have h1 := dG (by omega) hd
  have hb := (vd h1).2
  have h2 := cU (by omega) hd
  simp only [sa]
  rw [fD (by omega) (by omega), h1, Option.bind_some, Nu hn p (c + 1) e (by omega) (by rw [← h2]; congr 1; omega)]
  have ea : adjB (a :: e :: p) = (decide (a < e) && adjB (e :: p)) := rfl
  rw [ea, qh]
  by_cases h : e ≤ a
  ·rw [decide_eq_true h, decide_eq_false (Int.not_lt.2 h)]; rfl
  ·rw [decide_eq_false h, decide_eq_true (Int.not_le.1 h)]; rfl
theorem JL {l : List Int} (hl : l.length < 9223372036854775808) (a b : Int) : vo a l b = some (adjB l && l.all (inB a b)) := by
 unfold vo
 have hle : leB 0 1 = true := by decide
 rw [fE hl, cond_true, hle, cond_true, JK hl]
 cases l with
 | nil => rfl
 | cons x p =>
  have := Nu hl p 1 x (Int.le_refl _) rfl
  simp only [Int.reduceToNat, List.drop_succ_cons, List.drop_zero]
  rw [this, nL, Option.bind_some]
  cases adjB (x :: p) <;> rfl
def strokeB (nb : Nat) (n : Int) (s : GBs) : Bool := inB 0 ((nb : Int) - 1) s.Board && ((inB 1 6 s.Hours.Low && inB s.Hours.Low 6 s.Hours.High) && (s.Needs.all (inB 0 (n - 1)) && adjB s.Needs))
def strokesB (nb : Nat) : Int → List GBs → Bool
 | _, [] => true
 | c, s :: l => strokeB nb c s && strokesB nb (c + 1) l
def benchB (b : GBk) : Bool := inB 0 3 b.Apprentices && ((inB 1 3 b.Boards.length && b.Boards.all (inB 0 60)) && (inB 1 6 b.Strokes.length && strokesB b.Boards.length 0 b.Strokes))
structure Len (b : GBk) : Prop where
 bo : b.Boards.length < 9223372036854775808
 st : b.Strokes.length < 9223372036854775808
 nd : ∀ s ∈ b.Strokes, s.Needs.length < 9223372036854775808
theorem JM (a b : Int) (x : GSpan) : vn a x b = some (inB a b x.Low && inB x.Low b x.High) := by
 unfold vn inB
 by_cases h1 : a ≤ x.Low <;> by_cases h2 : x.Low ≤ x.High <;> by_cases h3 : x.High ≤ b <;> by_cases h4 : x.Low ≤ b <;> simp [h1, h2, h3, h4] <;> omega
theorem Nv {b : GBk} (hb : b.Boards.length < 9223372036854775808) : ∀ (p : List GBs) (c : Int), 0 ≤ c → c + p.length < 9223372036854775808 → (∀ s ∈ p, s.Needs.length < 9223372036854775808) → sb b p c = goB (strokesB b.Boards.length c p)
 | [], _, _, _, _ => rfl
 | s :: p, c, h0, h1, h2 => by
  simp only [List.length_cons] at h1
  have hs := h2 s (List.mem_cons_self ..)
  simp only [sb, yd, yB, Option.bind_some, JM]
  rw [fD (by omega) (by omega), fD (by omega) (by omega), JL hs, Nv hb p (c + 1) (by omega) (by omega) (fun s hs => h2 s (List.mem_cons_of_mem _ hs))]
  simp only [strokesB, strokeB, qh, Option.bind_some]
  cases inB 0 ((b.Boards.length : Int) - 1) s.Board <;> cases inB 1 6 s.Hours.Low <;> cases inB s.Hours.Low 6 s.Hours.High <;> cases s.Needs.all (inB 0 (c - 1)) <;> cases adjB s.Needs <;> rfl
theorem xR {b : GBk} (h : Len b) : pT b = some (benchB b) := by
 unfold pT benchB yc ye
 simp only [yB, Option.bind_some, JK h.bo]
 rw [fE h.st, cond_true, Nv h.bo b.Strokes 0 (Int.le_refl _) (by have := h.st; omega) h.nd, nL]
 cases inB 0 3 b.Apprentices <;> cases inB 1 3 (b.Boards.length : Int) <;> cases b.Boards.all (inB 0 60) <;> cases inB 1 6 (b.Strokes.length : Int) <;> cases strokesB b.Boards.length 0 b.Strokes <;> rfl
def adjF (a : Option Int) : List Int → Bool
 | [] => true
 | e :: l => (match a with | some x => decide (x < e) | none => true) && adjF (some e) l
theorem Nw : ∀ (l : List Int) (a : Int), adjF (some a) l = adjB (a :: l)
 | [], _ => rfl
 | e :: l, a => by unfold adjF adjB; rw [Nw l e]
theorem JN (l : List Int) : adjF none l = adjB l := by
 cases l with
 | nil => rfl
 | cons e l => unfold adjF; rw [Nw l e]; rfl
theorem Ny {n : Int} (hn : -9223372036854775807 ≤ n) (xG : n < 9223372036854775808) {s : GBs} (hl : s.Needs.length < 9223372036854775808) : ∀ (p : List Int) (c : Int) (a : Option Int), 0 ≤ c → s.Needs.drop c.toNat = p → (c = 0 ∧ a = none ∨ 0 < c ∧ getI s.Needs (c - 1) = a ∧ a ≠ none) →
  qO n s p c = goB (p.all (inB 0 (n - 1)) && adjF a p)
 | [], _, _, _, _, _ => rfl
 | e :: p, c, a, h0, hd, ha => by
  have h1 := dG h0 hd
  have hb := (vd h1).2
  simp only [qO, jZ, Option.bind_some]
  rw [fD (by omega) (by omega), Ny hn xG hl p (c + 1) (some e) (by omega) (cU h0 hd) (.inr ⟨by omega, by rw [show c + 1 - 1 = c by omega]; exact h1, by simp⟩)]
  simp only [List.all_cons, adjF]
  rcases ha with ⟨rfl, rfl⟩ | ⟨hc, ha, hne⟩
  ·cases inB 0 (n - 1) e <;> cases p.all (inB 0 (n - 1)) <;> cases adjF (some e) p <;> rfl
  ·rw [fD (by omega) (by omega), ha, decide_eq_true (show c > 0 from hc)]
   cases a with
   | none => exact absurd rfl hne
   | some x =>
    simp only [cond_true, Option.bind_some]
    by_cases h : e ≤ x
    ·rw [decide_eq_true h, decide_eq_false (Int.not_lt.2 h)]
     cases inB 0 (n - 1) e <;> simp [goB]
    ·rw [decide_eq_false h, decide_eq_true (Int.not_le.1 h)]
     cases inB 0 (n - 1) e <;> cases p.all (inB 0 (n - 1)) <;> cases adjF (some e) p <;> rfl
theorem JO {b : GBk} (h : Len b) {n : Int} {s : GBs} (hs : getI b.Strokes n = some s) : wv b n = some (strokeB b.Boards.length n s) := by
 have hb := vd hs
 have hst := h.st
 have hl := h.nd s (Hi hs)
 have hbo := h.bo
 unfold wv strokeB
 simp only [hs, Option.bind_some, jZ]
 rw [fD (by omega) (by omega), fE hl, cond_true, Ny (by omega) (by omega) hl s.Needs 0 none (Int.le_refl _) rfl (.inl ⟨rfl, rfl⟩), nL, JN]
 cases inB 0 ((b.Boards.length : Int) - 1) s.Board <;> cases inB 1 6 s.Hours.Low <;> cases inB s.Hours.Low 6 s.Hours.High <;> cases s.Needs.all (inB 0 (n - 1)) <;> cases adjB s.Needs <;> rfl
theorem Nz : ∀ (p : List Int) (c : Int), s7 p c = goB (p.all (inB 0 60))
 | [], _ => rfl
 | e :: p, c => by simp only [s7, jZ, Option.bind_some, Nz p, List.all_cons, qh]
theorem N0 {b : GBk} (h : Len b) : ∀ (p : List GBs) (c : Int), 0 ≤ c → b.Strokes.drop c.toNat = p → s6 b p c = goB (strokesB b.Boards.length c p)
 | [], _, _, _ => rfl
 | s :: p, c, h0, hd => by
  simp only [s6, JO h (dG h0 hd), Option.bind_some, N0 h p (c + 1) (by omega) (cU h0 hd), strokesB, qh]
theorem HD {b : GBk} (h : Len b) : vv b = some (benchB b) := by
 unfold vv benchB
 simp only [jZ, Option.bind_some]
 rw [fE h.bo, fE h.st, Nz, N0 h b.Strokes 0 (Int.le_refl _) rfl, nL, nL]
 cases inB 0 3 b.Apprentices <;> cases inB 1 3 (b.Boards.length : Int) <;> cases b.Boards.all (inB 0 60) <;> cases inB 1 6 (b.Strokes.length : Int) <;> cases strokesB b.Boards.length 0 b.Strokes <;> rfl
def planL (a : Int) : List GBs → List Int → Bool
 | s :: ss, h :: hs => (inB 0 a h && (h == 0 || !s.Round)) && planL a ss hs
 | _, _ => true
def planB (b : GBk) (pl : List Int) : Bool := decide (pl.length = b.Strokes.length) && planL b.Apprentices b.Strokes pl
def mayL : List GBs → List Int → Bool
 | s :: ss, h :: hs => (h == 0 || !s.Round) && mayL ss hs
 | _, _ => true
theorem w6 {a : Int} : ∀ (ss : List GBs) (hs : List Int), hs.length = ss.length → planL a ss hs = (hs.all (inB 0 a) && mayL ss hs)
 | [], [], _ => rfl
 | s :: ss, h :: hs, e => by
  simp only [planL, mayL, List.all_cons, w6 ss hs (by simpa using e)]
  cases inB 0 a h <;> cases hs.all (inB 0 a) <;> cases (h == 0 || !s.Round) <;> simp
theorem JP {b : GBk} {n h : Int} {s : GBs} (hs : getI b.Strokes n = some s) : vr b n h = some (h == 0 || !s.Round) := by
 unfold vr
 cases h == 0 <;> simp [hs]
theorem N1 {b : GBk} : ∀ (p : List Int) (c : Int) (ss : List GBs), 0 ≤ c → b.Strokes.drop c.toNat = ss → p.length = ss.length → sy b p c = goB (mayL ss p)
 | [], _, [], _, _, _ => rfl
 | h :: p, c, s :: ss, h0, hd, hl => by
  simp only [sy, JP (dG h0 hd), Option.bind_some, N1 p (c + 1) ss (by omega) (cU h0 hd) (by simpa using hl), mayL, qh]
theorem xS {b : GBk} (h : Len b) (pl : List Int) : pU b pl = some (planB b pl) := by
 have hst := h.st
 unfold pU planB
 by_cases e : pl.length = b.Strokes.length
 ·have e1 : ((pl.length : Int) != (b.Strokes.length : Int)) = false := by simp [e]
  rw [e1, cond_false, JK (by omega), decide_eq_true e, w6 _ _ e, Option.bind_some, fE (by omega), cond_true, N1 pl 0 b.Strokes (Int.le_refl _) rfl e, nL]
  cases pl.all (inB 0 b.Apprentices) <;> cases mayL b.Strokes pl <;> rfl
 ·have e1 : ((pl.length : Int) != (b.Strokes.length : Int)) = true := by simp; omega
  rw [e1, cond_true, decide_eq_false e]; rfl
theorem w7 {b : GBk} : ∀ (p : List Int) (c : Int) (ss : List GBs), 0 ≤ c → b.Strokes.drop c.toNat = ss → p.length = ss.length → qU b p c = goB (planL b.Apprentices ss p)
 | [], _, [], _, _, _ => rfl
 | h :: p, c, s :: ss, h0, hd, hl => by
  simp only [qU, jZ, dG h0 hd, Option.bind_some, w7 p (c + 1) ss (by omega) (cU h0 hd) (by simpa using hl), planL, qh]
  have e : (h != 0) = !(h == 0) := rfl
  rw [e]
  cases inB 0 b.Apprentices h <;> cases s.Round <;> cases h == 0 <;> rfl
theorem HE {b : GBk} (h : Len b) (pl : List Int) : vw b pl = some (planB b pl) := by
 have hst := h.st
 unfold vw planB
 by_cases e : pl.length = b.Strokes.length
 ·have e1 : ((pl.length : Int) != (b.Strokes.length : Int)) = false := by simp [e]
  rw [e1, cond_false, decide_eq_true e, fE (by omega), cond_true, w7 pl 0 b.Strokes (Int.le_refl _) rfl e, nL]
  cases planL b.Apprentices b.Strokes pl <;> rfl
 ·have e1 : ((pl.length : Int) != (b.Strokes.length : Int)) = true := by simp; omega
  rw [e1, cond_true, decide_eq_false e]; rfl
theorem v9 {b : GBk} (h : Len b) (n : Int) : sf b n = some (inB 0 ((b.Strokes.length : Int) - 1) n) := by
 have := h.st
 unfold sf
 rw [jZ, Option.bind_some, fD (by omega) (by omega)]
theorem Mn {b : GBk} (h : Len b) (n : Int) : um b n = some (inB 0 ((b.Strokes.length : Int) - 1) n) := by
 have := h.st
 unfold um
 rw [yB, Option.bind_some, fD (by omega) (by omega)]
structure BOk (b : GBk) : Prop where
 ap : 0 ≤ b.Apprentices ∧ b.Apprentices ≤ 3
 nb : 1 ≤ b.Boards.length ∧ b.Boards.length ≤ 3
 bo : ∀ x ∈ b.Boards, 0 ≤ x ∧ x ≤ 60
 ns : 1 ≤ b.Strokes.length ∧ b.Strokes.length ≤ 6
 st : ∀ (i : Nat) s, b.Strokes[i]? = some s → strokeB b.Boards.length i s = true
theorem N2 {nb : Nat} : ∀ (p : List GBs) (c : Int), strokesB nb c p = true ↔ ∀ (i : Nat) s, p[i]? = some s → strokeB nb (c + i) s = true
 | [], c => by simp [strokesB]
 | s :: p, c => by
  simp only [strokesB, Bool.and_eq_true, N2 p]
  constructor
  ·rintro ⟨h1, h2⟩ i x hx
   cases i with
   | zero => simp at hx; subst hx; simpa using h1
   | succ i => have := h2 i x (by simpa using hx); rw [show c + (i + 1 : Nat) = c + 1 + i by omega]; exact this
  ·intro h
   refine ⟨by have := h 0 s rfl; simpa using this, fun i x hx => ?_⟩
   have := h (i + 1) x (by simpa using hx)
   rw [show c + (i + 1 : Nat) = c + 1 + i by omega] at this
   exact this
theorem xQ {b : GBk} : benchB b = true ↔ BOk b := by
 unfold benchB
 simp only [Bool.and_eq_true, lT, List.all_eq_true, N2]
 constructor
 ·rintro ⟨h1, ⟨h2, h3⟩, h4, h5⟩
  exact ⟨h1, by omega, h3, by omega, fun i s hs => by have := h5 i s hs; simpa using this⟩
 ·rintro ⟨h1, h2, h3, h4, h5⟩
  exact ⟨h1, ⟨by omega, h3⟩, by omega, fun i s hs => by have := h5 i s hs; simpa using this⟩
structure SOk (nb : Nat) (n : Int) (s : GBs) : Prop where
 bo : 0 ≤ s.Board ∧ s.Board < nb
 hr : 1 ≤ s.Hours.Low ∧ s.Hours.Low ≤ s.Hours.High ∧ s.Hours.High ≤ 6
 nd : ∀ k ∈ s.Needs, 0 ≤ k ∧ k < n
 ad : adjB s.Needs = true
theorem Ta {nb : Nat} {n : Int} {s : GBs} : strokeB nb n s = true ↔ SOk nb n s := by
 unfold strokeB
 simp only [Bool.and_eq_true, lT, List.all_eq_true]
 constructor
 ·rintro ⟨h1, ⟨h2, h3⟩, h4, h5⟩
  exact ⟨by omega, by omega, fun k hk => by have := h4 k hk; omega, h5⟩
 ·rintro ⟨h1, h2, h3, h4⟩
  exact ⟨by omega, ⟨by omega, by omega⟩, fun k hk => by have := h3 k hk; omega, h4⟩
theorem BOk.s {b : GBk} (h : BOk b) {i : Nat} {s : GBs} (hs : b.Strokes[i]? = some s) : SOk b.Boards.length i s := Ta.1 (h.st i s hs)
structure POk (b : GBk) (pl : List Int) : Prop where
 len : pl.length = b.Strokes.length
 may : ∀ (i : Nat) s h, b.Strokes[i]? = some s → pl[i]? = some h → (0 ≤ h ∧ h ≤ b.Apprentices) ∧ (h = 0 ∨ s.Round = false)
theorem JQ {a : Int} : ∀ (ss : List GBs) (hs : List Int), hs.length = ss.length → (planL a ss hs = true ↔ ∀ (i : Nat) s h, ss[i]? = some s → hs[i]? = some h → (0 ≤ h ∧ h ≤ a) ∧ (h = 0 ∨ s.Round = false))
 | [], [], _ => by simp [planL]
 | s :: ss, h :: hs, e => by
  simp only [planL, Bool.and_eq_true, JQ ss hs (by simpa using e), lT, Bool.or_eq_true, beq_iff_eq, Bool.not_eq_true']
  constructor
  ·rintro ⟨h1, h2⟩ i x y hx hy
   cases i with
   | zero => simp at hx hy; subst hx hy; exact h1
   | succ i => exact h2 i x y (by simpa using hx) (by simpa using hy)
  ·intro hh
   exact ⟨hh 0 s h rfl rfl, fun i x y hx hy => hh (i + 1) x y (by simpa using hx) (by simpa using hy)⟩
theorem Fp {b : GBk} {pl : List Int} : planB b pl = true ↔ POk b pl := by
 unfold planB
 simp only [Bool.and_eq_true, decide_eq_true_eq]
 constructor
 ·rintro ⟨h1, h2⟩; exact ⟨h1, (JQ _ _ h1).1 h2⟩
 ·rintro ⟨h1, h2⟩; exact ⟨h1, (JQ _ _ h1).2 h2⟩
def aM (k : Gbe) : Value := .agg ⟨[.int .i64 k.stroke, .int .i64 k.hours]⟩
def dE (a b : Gbe) : Bool := ((a.stroke == b.stroke) && ((a.hours == b.hours) && true))
def bQ (n : Int) : VV := .lit (.int .i64 n)
theorem ot (a b : Gbe) : aE Tryz.prog (Op.equal 152 (aM a) (aM b)) = some (dE a b) := by
 unfold Op.equal
 exact CJ 5 152 _ _ _ (by kernel_rfl) 9995
theorem ou (b : Bool) (k : Gbe) : aE Tryz.prog (Instr.checkKey b 10000 152 (aM k)) = some () := by
 cases b <;> kernel_rfl
theorem ly (a b : Gbe) (h : dE a b = true) : a = b := by
 obtain ⟨astroke, ahours⟩ := a
 obtain ⟨bstroke, bhours⟩ := b
 simp only [dE, Bool.and_true, Bool.and_eq_true, beq_iff_eq] at h
 simp only [h]
theorem w8 (a : Gbe) : Instr.sameBits 10000 (aM a) (aM a) = true := by
 simp [aM, Instr.sameBits]
theorem Tb : ((Tryz.prog.info? 3).bind (·.zero)).map ofVal2 = some (bQ 0) := by kernel_rfl
theorem ov (k : Gbe) : VV.val? (.agg [.lit (.int .i64 k.stroke), .lit (.int .i64 k.hours)]) = some (aM k) := rfl
theorem vH {β : Nat} (l : List (Gbe × Int)) (k : Gbe) (H : Nat → Option VObj) (hb : H β = some (.map (encM aM bQ l))) : vlookup Tryz.prog H 90 (.mp β) (.agg [.lit (.int .i64 k.stroke), .lit (.int .i64 k.hours)]) true = some (.tup [.lit (.int .i64 (mapGet dE 0 l k)), .lit (.bool (mapHas dE l k))]) :=
 O6 Tryz.underlying90 Tryz.underlying152 ot ou Tb (ov k) hb
theorem vI {β : Nat} (l : List (Gbe × Int)) (k : Gbe) (n : Int) (H : Nat → Option VObj) (hb : H β = some (.map (encM aM bQ l))) : vmapUpdate Tryz.prog H 90 (.mp β) (.agg [.lit (.int .i64 k.stroke), .lit (.int .i64 k.hours)]) (.lit (.int .i64 n)) = some (.upd β (.map (encM aM bQ (mapSet dE l k n)))) :=
 AH Tryz.underlying90 Tryz.underlying152 ot ou ly w8 (ov k) hb
theorem JR {c : VV} {cs : List VV} : vload Tryz.prog 90 (c :: cs) = some c := by
 have h1 : aggT Tryz.prog 90 = some false := by kernel_rfl
 simp [vload, vpart, h1]
theorem JS : szT Tryz.prog 90 = some 1 := by kernel_rfl
theorem wC : vzl Tryz.prog 90 = some [.lit (.map none)] := by kernel_rfl
def mqr := (And.intro @AT (And.intro @AU True.intro))
def mqt := (And.intro @JR (And.intro @JS @wC))
def qF (rc : GBk → (List Int) → Int → Int → (List (Gbe × Int)) → Option ((Int) × List (Gbe × Int))) (aa : GBk) (ag : List Int) (ai : Int) (aj : Int) (l0 : List (Gbe × Int)) : Nat → Int → Option (LOut ((Int) × List (Gbe × Int)) (Int))
 | 0, _ => none
 | k0 + 1, cY => cond (decide (cY ≥ 0)) (Option.bind (getI ag cY) (fun x1 => Option.bind (getI ag ai) (fun x2 => cond (x1 == x2) (Option.bind (rc aa ag cY aj l0) (fun r3 => some (.ret (r3.1, r3.2)))) (qF rc aa ag ai aj l0 k0 (i64.wrap (cY - 1)))))) (some (.go cY))
def vD (rc : GBk → (List Int) → Int → Int → (List (Gbe × Int)) → Option ((Int) × List (Gbe × Int))) (aa : GBk) (ag : List Int) (ai : Int) (aj : Int) (l0 : List (Gbe × Int)) : Option ((Int) × List (Gbe × Int)) := lbind (qF rc aa ag ai aj l0 1000000 (i64.wrap (ai - 1))) (fun r5 => some r5) (fun c4 => some (0, l0)) (fun _ _ => none)
theorem RY (rc : GBk → (List Int) → Int → Int → (List (Gbe × Int)) → Option ((Int) × List (Gbe × Int))) (rc_ok : ∀ (aa : GBk) (ag : List Int) (ai : Int) (aj : Int) (l0 : List (Gbe × Int)) (R : (Int) × List (Gbe × Int)), rc aa ag ai aj l0 = some R → VUpd Tryz.prog G0 118 (fun β => [.agg [.lit (.int .i64 aa.Apprentices), .sl (ae eI aa.Boards) (List.length aa.Boards) false, .sl (ae cGBs aa.Strokes) (List.length aa.Strokes) false, .sl (ae eI ag) (List.length ag) false, .mp β], .lit (.int .i64 ai), .lit (.int .i64 aj)]) (encM aM bQ l0) (encM aM bQ R.2) (fun _ => .lit (.int .i64 R.1))) (aa : GBk) (ag : List Int) (ai : Int) (aj : Int) (l0 : List (Gbe × Int)) (R : (Int) × List (Gbe × Int)) (h : vD rc aa ag ai aj l0 = some R) : VUpd Tryz.prog G0 108 (fun β => [.agg [.lit (.int .i64 aa.Apprentices), .sl (ae eI aa.Boards) (List.length aa.Boards) false, .sl (ae cGBs aa.Strokes) (List.length aa.Strokes) false, .sl (ae eI ag) (List.length ag) false, .mp β], .lit (.int .i64 ai), .lit (.int .i64 aj)]) (encM aM bQ l0) (encM aM bQ R.2) (fun _ => .lit (.int .i64 R.1)) := by
 intro bt nx hlt
 have bd := fZ (β := bt) (nx := nx) hlt
 refine au.run mixed Tryz.call108 Tryz.func108 rfl (by simp [Tryz.ntmps108]; kernel_rfl) ?_
 obtain ⟨KF, h, kF, kN⟩ := cI h
 simp only [vD] at h
 simp only [vz, mq, mqm, vsi, tyf, mqt, bd, nm, seval]
 obtain ⟨K6, h, yA, JH, SY, qV⟩ := eR h kN
 obtain ⟨f6, JI, h⟩ := call2 h
 obtain ⟨I6, oo⟩ : ∃ I : Nat → St → Prop, I = (fun m st => ∃ (p6 : Nat) (ka : Int), p6 = m ∧ st.df = [] ∧ nx + 5 ≤ st.nx ∧ st.H bt = some (.map (encM aM bQ l0)) ∧ st.H nx = some (.cells (some 92) ((cGBk aa) ++ [.sl (ae eI ag) (List.length ag) false] ++ [.mp bt])) ∧ st.tm 1 = .lit (.int .i64 ai) ∧ st.tm 2 = .lit (.int .i64 aj) ∧ st.tm 3 = .ptr nx 0 ∧ st.tm 7 = .lit (.int .i64 ka) ∧ K6 (f6 p6 ka)) := ⟨_, rfl⟩
 refine loopK mixed (by kernel_rfl) I6 1000000 (by rw [oo]; refine ⟨1000000, i64.wrap (ai - 1), rfl, rfl, (show nx + 5 ≤ nx + 5 by omega), ?_, ?_, ?_, ?_, ?_, ?_, h⟩ <;> first | (simp only [ua, bW, bd, nm, seval] <;> rfl) | rfl) ?_
 rintro m ⟨tm, H, qW, df⟩ hinv
 rw [oo] at hinv
 obtain ⟨p6, ka, rfl, hdf, JJ, H7, H8, e9, bk, bF, cn, h⟩ := hinv
 simp only at hdf JJ H7 H8 e9 bk bF cn
 have qY := kH (a := nx) (m := 5) (b := qW) (by omega)
 have iD := fZ (β := bt) (nx := qW) (by omega)
 subst hdf JI
 cases p6 with
 | zero =>
  simp only [qF, hs, reduceCtorEq] at h
  exact absurd h qV
 | succ p6 =>
  simp only [qF, hs, reduceCtorEq] at h
  cases eg : (decide (ka ≥ 0))
  ·simp only [eg, hs] at h
   replace h := JH _ h
   try dsimp only at h
   try simp only [hs] at h
   try simp only [vz, mq, mqm, vsi, tyf, mqt, bd, qY, iD, e9, bk, bF, cn, H7, H8, eg, nm, seval]
   refine ct (x := (.lit (.int .i64 0))) (by first | (simp only [Tryz.results108, resV, resL, aO, bX, bY, uw, cr, tyf, mqt, bd, qY, iD, H7, H8, eg, nm, seval] <;> rfl) | rfl) ?_
   obtain rfl := kF _ h
   refine ⟨(by first | rfl | assumption | (simp only [ba, bj, bd, qY, iD, H7, H8, nm, seval] <;> rfl)), ?_⟩
   exact sq_of (hO (by simp only [tre, aI, mqr, Bool.and_self]) rfl)
  simp only [eg, hs] at h
  simp only [vz, mq, mqm, vsi, tyf, mqt, bd, qY, iD, e9, bk, bF, cn, H7, H8, eg, nm, seval]
  refine jk (fun tm => tm 1 = .lit (.int .i64 ai) ∧ tm 2 = .lit (.int .i64 aj) ∧ tm 3 = .ptr nx 0 ∧ tm 7 = .lit (.int .i64 ka) ∧ True) (by refine ⟨e9, bk, bF, cn, trivial⟩ <;> first | (simp only [ua, bW, bd, qY, iD, e9, bk, bF, cn, H7, H8, eg, nm, seval] <;> rfl) | rfl) ?_
  rintro tm ⟨bB, bK, cv, cD, _⟩
  obtain ⟨Tc, iq, h⟩ := optI h qV
  try simp only [hs] at h
  obtain ⟨Td, ku, h⟩ := optI h qV
  try simp only [hs] at h
  cases eP : (Tc == Td)
  ·simp only [eP, hs] at h
   have JT := And.intro bd (And.intro qY (And.intro iD (And.intro H7 (And.intro H8 (And.intro eg eP)))))
   simp only [vz, mq, mqm, vsi, tyf, mqt, JT, bB, bK, cv, cD, (aB iq), (aB ku), nm, seval]
   exact ⟨p6, Nat.lt_succ_self _, by rw [oo]; refine ⟨p6, i64.wrap (ka - 1), rfl, rfl, (show nx + 5 ≤ qW + 16 by omega), ?_, ?_, bB, bK, cv, ?_, (by first | exact h | (simp only [JT]; exact h))⟩ <;> first | (simp only [ua, bW, JT, bB, bK, cv, cD, nm, seval] <;> rfl) | rfl⟩
  simp only [eP, hs] at h
  have sA := And.intro bd (And.intro qY (And.intro iD (And.intro H7 (And.intro H8 (And.intro eg eP)))))
  obtain ⟨JU, Te, h⟩ := optI h qV
  try simp only [hs] at h
  simp only [vz, mq, mqm, vsi, tyf, mqt, sA, bB, bK, cv, cD, (aB iq), (aB ku), nm, seval]
  refine kupd (VUpd.at (β := bt) (y := (fun _ => .lit (.int .i64 JU.1))) (rc_ok _ _ _ _ _ _ Te) (by omega) (by first | rfl | assumption | (simp only [ba, bj, sA, nm, seval] <;> rfl)) (by first | rfl | (simp only [nrm, aF, @dH, @gk] <;> rfl)) (gj (fun _ => rfl) _)) ?_
  refine gD (fun tm => tm 28 = .lit (.int .i64 JU.1) ∧ True) (by refine ⟨?_, trivial⟩ <;> first | (simp only [ua, bW, sA, bB, bK, cv, cD, nm, seval] <;> rfl) | rfl) ?_
  rintro tm ⟨bR, _⟩
  try simp only [vz, mq, mqm, vsi, tyf, mqt, sA, (aB iq), (aB ku), bR, nm, seval]
  refine ct (x := (.lit (.int .i64 JU.1))) (by first | (simp only [Tryz.results108, resV, resL, aO, bX, bY, uw, cr, tyf, mqt, sA, (aB iq), (aB ku), nm, seval] <;> rfl) | rfl) ?_
  replace h := yA _ h
  try dsimp only at h
  obtain rfl := kF _ h
  refine ⟨(by first | rfl | assumption | (simp only [ba, bj, sA, nm, seval] <;> rfl)), ?_⟩
  exact sq_of (hO (by simp only [tre, aI, mqr, Bool.and_self]) rfl)
def sn  : List Int → Int → Int → Option (LOut (Int) (Int))
 | [], eT, da => some (.go da)
 | e0 :: p0, eT, da => sn p0 (eT + 1) (if da < e0 then e0 else da)
def qB (bp : List Int) : Option (Int) := cond (aG bp) (lbind (sn bp 0 0) (fun r2 => some r2) (fun c1 => some c1) (fun _ _ => none)) none
theorem HO (bp : List Int) (R : Int) (h : qB bp = some R) : ak Tryz.prog G0 105 [.sl (ae eI bp) (List.length bp) false] (.tree (.lit (.int .i64 R))) := by
 refine ak.runR mixed Tryz.call105 Tryz.func105 rfl (by simp [Tryz.ntmps105]; kernel_rfl) ?_
 obtain ⟨KF, h, kF, kN⟩ := cI h
 simp only [qB] at h
 cases g4 : (aG bp)
 ·simp only [g4, hs] at h
  exact absurd h kN
 simp only [g4, hs] at h
 simp only [vz, tyf, g4, nm, seval]
 obtain ⟨K3, h, mn, iB, rH, kh⟩ := eR h kN
 obtain ⟨f3, j8, h⟩ := call3 h
 obtain ⟨I3, dU⟩ : ∃ I : Nat → St → Prop, I = (fun m st => ∃ (p3 : List Int) (dm : Int) (cB : Int), m = List.length p3 ∧ 0 ≤ dm ∧ List.drop (Int.toNat dm) bp = p3 ∧ st.df = [] ∧ 5 ≤ st.nx ∧ st.tm 6 = .sl (ae eI bp) (List.length bp) false ∧ st.tm 7 = .lit (.int .i64 (List.length bp : Int)) ∧ st.tm 3 = .lit (.int .i64 cB) ∧ st.tm 8 = .lit (.int .i64 dm) ∧ K3 (f3 p3 dm cB)) := ⟨_, rfl⟩
 refine loopK mixed (by kernel_rfl) I3 (List.length bp) (by rw [dU]; refine ⟨bp, 0, 0, rfl, Int.le_refl _, rfl, rfl, (show 5 ≤ 5 by omega), ?_, ?_, ?_, ?_, h⟩ <;> first | (simp only [ua, nm, seval] <;> rfl) | rfl) ?_
 rintro m ⟨tm, H, dr, df⟩ hinv
 rw [dU] at hinv
 obtain ⟨p3, dm, cB, rfl, bJ, ca, hdf, j9, e5, e6, e7, e8, h⟩ := hinv
 simp only at hdf j9 e5 e6 e7 e8
 have n9 := fw (m := 5) (b := dr) (by omega)
 subst hdf j8
 cases p3 with
 | nil =>
  have gv : (decide (dm < (List.length bp : Int))) = false := fj bJ ca
  simp only [sn, hs, reduceCtorEq] at h
  replace h := iB _ h
  try dsimp only at h
  try simp only [hs] at h
  try simp only [vz, tyf, g4, n9, e5, e6, e7, e8, gv, nm, seval]
  refine ct (x := (.lit (.int .i64 cB))) (by first | (simp only [Tryz.results105, resV, resL, aO, bX, bY, uw, cr, tyf, g4, n9, gv, nm, seval] <;> rfl) | rfl) ?_
  obtain rfl := kF _ h
  refine fB ?_ ?_
  ·simp only [tre, aI, Bool.and_self]
  ·first | (simp only [outV, uw, fp, cr, tyf, nrm, aF, g4, n9, e5, e6, e7, e8, gv, nm, seval] <;> rfl) | rfl
 | cons e3 p3 =>
  have cm : (decide (dm < (List.length bp : Int))) = true := fh bJ ca
  have gM := dG bJ ca
  have jI := eQ bJ ca g4
  simp only [sn, hs, reduceCtorEq] at h
  simp only [vz, tyf, g4, n9, e5, e6, e7, e8, cm, (aB gM), jI, nm, seval]
  exact ⟨List.length p3, Nat.lt_succ_self _, by rw [dU]; refine ⟨p3, dm + 1, (if cB < e3 then e3 else cB), rfl, Int.le_trans bJ (Int.le_add_one (Int.le_refl _)), cU bJ ca, rfl, (show 5 ≤ dr + 10 by omega), e5, e6, ?_, ?_, (by first | exact h | (simp only [cm]; exact h))⟩ <;> first | (simp only [ua, n9, e5, e6, e7, e8, cm, jI, nm, seval] <;> rfl) | rfl⟩
end Go.V
end
