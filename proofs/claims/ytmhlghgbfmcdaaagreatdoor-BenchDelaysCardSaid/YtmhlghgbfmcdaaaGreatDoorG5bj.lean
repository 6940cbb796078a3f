/- Part of a proof. -/
import Derived.Test.YtmhlghgbfmcdaaaGreatDoorG5bi
set_option linter.all false
set_option maxRecDepth 4000
set_option maxHeartbeats 40000000
section
namespace Go.V
open Go Go.Proofs IntKind
def we (ak : GBk) : List Int → Int → Option (LOut (Bool) (Unit))
 | [], nn => some (.go ())
 | e0 :: p0, nn => Option.bind (zw ak nn e0) (fun r2 => cond (r2) (we ak p0 (nn + 1)) (some (.ret false)))
def qI (ak : GBk) (ai : List Int) : Option (Bool) := cond ((List.length ai : Int) != (List.length ak.Strokes : Int)) (some false) (Option.bind (tf 0 ai ak.Apprentices) (fun r1 => cond (r1) (cond (aF ai) (aT (we ak ai 0) (fun r4 => some r4) (fun c3 => some true) (fun _ _ => none)) none) (some false)))
theorem Dx (ak : GBk) (ai : List Int) (R : Bool) (h : qI ak ai = some R) : al Tryz.prog G0 68 [.agg (cGBk ak), .sl (ae eI ai) (List.length ai) false] (.tree (.lit (.bool R))) := by
 refine al.runR mixed Tryz.call68 Tryz.func68 rfl (by simp [Tryz.ntmps68]; kernel_rfl) ?_
 obtain ⟨KF, h, kF, kN⟩ := cR h
 simp only [qI] at h
 cases d5 : ((List.length ai : Int) != (List.length ak.Strokes : Int))
 ·simp only [d5, hs] at h
  obtain ⟨r6, o7, h⟩ := optI h kN
  try simp only [hs] at h
  simp only [vz, tyf, d5, nm, seval]
  refine ktA (Jl _ _ _ _ o7) ?_
  refine bM (fun tm => tm 1 = .sl (ae eI ai) (List.length ai) false ∧ tm 2 = .ptr 0 0 ∧ tm 13 = .lit (.bool false) ∧ tm 17 = .lit (.bool r6) ∧ True) (by refine ⟨?_, ?_, ?_, ?_, trivial⟩ <;> first | (simp only [ua, d5, nm, seval] <;> rfl) | rfl) ?_
  rintro tm ⟨e8, e9, bj, bG, _⟩
  cases bT : (r6)
  ·simp only [bT, hs] at h
   try simp only [vz, tyf, d5, e8, e9, bj, bG, bT, nm, seval]
   obtain rfl := kF _ h
   exact bz Tryz.results68 rfl
  simp only [bT, hs] at h
  cases tt : (aF ai)
  ·simp only [tt, hs] at h
   exact absurd h kN
  simp only [tt, hs] at h
  simp only [vz, tyf, d5, e8, e9, bj, bG, bT, tt, nm, seval]
  obtain ⟨Vo, h, JK, JL, Vp, JM⟩ := fa h kN
  obtain ⟨Vq, JN, h⟩ := call2 h
  obtain ⟨Vr, tu⟩ : ∃ I : Nat → St → Prop, I = (fun m st => ∃ (rv : List Int) (dv : Int), m = List.length rv ∧ 0 ≤ dv ∧ List.drop (Int.toNat dv) ai = rv ∧ st.df = [] ∧ 18 ≤ st.nx ∧ st.H 0 = some (.cells (some 25) (cGBk ak)) ∧ st.tm 2 = .ptr 0 0 ∧ st.tm 20 = .sl (ae eI ai) (List.length ai) false ∧ st.tm 21 = .lit (.int .i64 (List.length ai : Int)) ∧ st.tm 22 = .lit (.int .i64 dv) ∧ Vo (Vq rv dv)) := ⟨_, rfl⟩
  refine loopK mixed (by kernel_rfl) Vr (List.length ai) (by rw [tu]; refine ⟨ai, 0, rfl, Int.le_refl _, rfl, rfl, (show 18 ≤ 18 by omega), ?_, e9, ?_, ?_, ?_, h⟩ <;> first | (simp only [ua, d5, e8, e9, bj, bG, bT, nm, seval] <;> rfl) | rfl) ?_
  rintro m ⟨tm, H, z1, df⟩ hinv
  rw [tu] at hinv
  obtain ⟨rv, dv, rfl, lN, np, hdf, JO, z2, bD, bH, bR, cP, h⟩ := hinv
  simp only at hdf JO z2 bD bH bR cP
  have CI := fb (m := 18) (b := z1) (by omega)
  subst hdf JN
  cases rv with
  | nil =>
   have p8 : (decide (dv < (List.length ai : Int))) = false := fc lN np
   simp only [we, hs, reduceCtorEq] at h
   replace h := JL _ h
   try dsimp only at h
   try simp only [hs] at h
   try simp only [vz, tyf, d5, bT, tt, CI, bD, bH, bR, cP, z2, p8, nm, seval]
   obtain rfl := kF _ h
   exact bz Tryz.results68 rfl
  | cons cg rv =>
   have so : (decide (dv < (List.length ai : Int))) = true := fe lN np
   have pA := dD lN np
   have mQ := eG lN np tt
   simp only [we, hs, reduceCtorEq] at h
   obtain ⟨jx, lf, h⟩ := optI h JM
   try simp only [hs] at h
   simp only [vz, tyf, d5, bT, tt, CI, bD, bH, bR, cP, z2, so, (aw pA), mQ, nm, seval]
   refine ktA (Vc _ _ _ _ lf) ?_
   refine bM (fun tm => tm 2 = .ptr 0 0 ∧ tm 20 = .sl (ae eI ai) (List.length ai) false ∧ tm 21 = .lit (.int .i64 (List.length ai : Int)) ∧ tm 22 = .lit (.int .i64 dv) ∧ tm 30 = .lit (.bool jx) ∧ True) (by refine ⟨bD, bH, bR, cP, ?_, trivial⟩ <;> first | (simp only [ua, d5, bT, CI, bD, bH, bR, cP, z2, so, mQ, nm, seval] <;> rfl) | rfl) ?_
   rintro tm ⟨bu, cU, cI, du, dr, _⟩
   have CJ := And.intro d5 (And.intro bT (And.intro tt (And.intro CI (And.intro z2 (And.intro so mQ)))))
   cases gX : (jx)
   ·simp only [gX, hs] at h
    try simp only [vz, tyf, CJ, (aw pA), bu, cU, cI, du, dr, gX, nm, seval]
    replace h := JK _ h
    try dsimp only at h
    obtain rfl := kF _ h
    exact bz Tryz.results68 rfl
   simp only [gX, hs] at h
   simp only [vz, tyf, CJ, (aw pA), bu, cU, cI, du, dr, gX, nm, seval]
   exact ⟨List.length rv, Nat.lt_succ_self _, by rw [tu]; refine ⟨rv, dv + 1, rfl, Int.le_trans lN (Int.le_add_one (Int.le_refl _)), cC lN np, rfl, (show 18 ≤ z1 + 13 by omega), ?_, bu, cU, cI, ?_, (by first | exact h | (simp only [CJ, gX]; exact h))⟩ <;> first | (simp only [ua, CJ, bu, cU, cI, du, dr, gX, nm, seval] <;> rfl) | rfl⟩
 simp only [d5, hs] at h
 try simp only [vz, tyf, d5, nm, seval]
 obtain rfl := kF _ h
 exact bz Tryz.results68 rfl
def xc (ak : GBk) (ah : Int) : Option (Bool) := Option.bind (pM 0 ah (i64.wrap ((List.length ak.Strokes : Int) - 1))) (fun r1 => some r1)
theorem Td (ak : GBk) (ah : Int) (R : Bool) (h : xc ak ah = some R) : al Tryz.prog G0 80 [.agg (cGBk ak), .lit (.int .i64 ah)] (.tree (.lit (.bool R))) := by
 refine al.runR mixed Tryz.call80 Tryz.func80 rfl (by simp [Tryz.ntmps80]; kernel_rfl) ?_
 obtain ⟨KF, h, kF, kN⟩ := cR h
 simp only [xc] at h
 obtain ⟨r2, o3, h⟩ := optI h kN
 try simp only [hs] at h
 simp only [vz, tyf, nm, seval]
 refine ktA (vX _ _ _ _ o3) ?_
 refine bM (fun tm => tm 10 = .lit (.bool r2) ∧ True) (by refine ⟨?_, trivial⟩ <;> first | (simp only [ua, nm, seval] <;> rfl) | rfl) ?_
 rintro tm ⟨e4, _⟩
 try simp only [vz, tyf, e4, nm, seval]
 obtain rfl := kF _ h
 exact bz Tryz.results80 rfl
def sx  : List GBs → Int → Option (LOut (Bool) (Unit))
 | [], dj => some (.go ())
 | e0 :: p0, dj => cond (decide (dj < 9)) (cond (decide ((List.length e0.Needs : Int) > 8)) (some (.ret false)) (sx p0 (dj + 1))) (some (.go ()))
def Cc (ak : GBk) : Option (Bool) := cond (aF ak.Strokes) (aT (sx ak.Strokes 0) (fun r2 => some r2) (fun c1 => cond (decide ((List.length ak.Boards : Int) ≤ 5)) (some (decide ((List.length ak.Strokes : Int) ≤ 8))) (some false)) (fun _ _ => none)) none
theorem Vs (ak : GBk) (R : Bool) (h : Cc ak = some R) : al Tryz.prog G0 18 [.agg (cGBk ak)] (.tree (.lit (.bool R))) := by
 refine al.runR mixed Tryz.call18 Tryz.func18 rfl (by simp [Tryz.ntmps18]; kernel_rfl) ?_
 obtain ⟨KF, h, kF, kN⟩ := cR h
 simp only [Cc] at h
 cases g4 : (aF ak.Strokes)
 ·simp only [g4, hs] at h
  exact absurd h kN
 simp only [g4, hs] at h
 simp only [vz, tyf, g4, nm, seval]
 obtain ⟨K3, h, qQ, lA, xk, pn⟩ := fa h kN
 obtain ⟨f3, mM, h⟩ := call2 h
 obtain ⟨I3, fV⟩ : ∃ I : Nat → St → Prop, I = (fun m st => ∃ (p3 : List GBs) (cE : Int), m = List.length p3 ∧ 0 ≤ cE ∧ List.drop (Int.toNat cE) ak.Strokes = p3 ∧ st.df = [] ∧ 3 ≤ st.nx ∧ st.H 0 = some (.cells (some 25) (cGBk ak)) ∧ st.tm 1 = .ptr 0 0 ∧ st.tm 3 = .lit (.int .i64 cE) ∧ K3 (f3 p3 cE)) := ⟨_, rfl⟩
 refine loopK mixed (by kernel_rfl) I3 (List.length ak.Strokes) (by rw [fV]; refine ⟨ak.Strokes, 0, rfl, Int.le_refl _, rfl, rfl, (show 3 ≤ 3 by omega), ?_, ?_, ?_, h⟩ <;> first | (simp only [ua, nm, seval] <;> rfl) | rfl) ?_
 rintro m ⟨tm, H, fh, df⟩ hinv
 rw [fV] at hinv
 obtain ⟨p3, cE, rfl, cu, dg, hdf, mN, H5, e6, e7, h⟩ := hinv
 simp only at hdf mN H5 e6 e7
 have n8 := fb (m := 3) (b := fh) (by omega)
 subst hdf mM
 cases p3 with
 | nil =>
  have d9 : (decide (cE < (List.length ak.Strokes : Int))) = false := fc cu dg
  simp only [sx, hs, reduceCtorEq] at h
  replace h := lA _ h
  try dsimp only at h
  try simp only [hs] at h
  cases gJ : (decide ((List.length ak.Boards : Int) ≤ 5))
  ·simp only [gJ, hs] at h
   try simp only [vz, tyf, g4, n8, e6, e7, H5, d9, gJ, nm, seval]
   obtain rfl := kF _ h
   exact bz Tryz.results18 rfl
  simp only [gJ, hs] at h
  try simp only [vz, tyf, g4, n8, e6, e7, H5, d9, gJ, nm, seval]
  obtain rfl := kF _ h
  exact bz Tryz.results18 rfl
 | cons e3 p3 =>
  have bS : (decide (cE < (List.length ak.Strokes : Int))) = true := fe cu dg
  have gH := dD cu dg
  have hJ := eG cu dg g4
  simp only [sx, hs, reduceCtorEq] at h
  cases bw : (decide (cE < 9))
  ·simp only [bw, hs] at h
   replace h := lA _ h
   try dsimp only at h
   try simp only [hs] at h
   cases fk : (decide ((List.length ak.Boards : Int) ≤ 5))
   ·simp only [fk, hs] at h
    have Vt := And.intro g4 (And.intro n8 (And.intro H5 (And.intro bS (And.intro hJ (And.intro bw fk)))))
    try simp only [vz, tyf, Vt, e6, e7, (aM gH), nm, seval]
    obtain rfl := kF _ h
    exact bz Tryz.results18 rfl
   simp only [fk, hs] at h
   have Vu := And.intro g4 (And.intro n8 (And.intro H5 (And.intro bS (And.intro hJ (And.intro bw fk)))))
   try simp only [vz, tyf, Vu, e6, e7, (aM gH), nm, seval]
   obtain rfl := kF _ h
   exact bz Tryz.results18 rfl
  simp only [bw, hs] at h
  cases lD : (decide ((List.length e3.Needs : Int) > 8))
  ·simp only [lD, hs] at h
   have lO := And.intro g4 (And.intro n8 (And.intro H5 (And.intro bS (And.intro hJ (And.intro bw lD)))))
   simp only [vz, tyf, lO, e6, e7, (aM gH), nm, seval]
   exact ⟨List.length p3, Nat.lt_succ_self _, by rw [fV]; refine ⟨p3, cE + 1, rfl, Int.le_trans cu (Int.le_add_one (Int.le_refl _)), cC cu dg, rfl, (show 3 ≤ fh + 20 by omega), ?_, e6, ?_, (by first | exact h | (simp only [lO]; exact h))⟩ <;> first | (simp only [ua, lO, e6, e7, nm, seval] <;> rfl) | rfl⟩
  simp only [lD, hs] at h
  have Vv := And.intro g4 (And.intro n8 (And.intro H5 (And.intro bS (And.intro hJ (And.intro bw lD)))))
  try simp only [vz, tyf, Vv, e6, e7, (aM gH), nm, seval]
  replace h := qQ _ h
  try dsimp only at h
  obtain rfl := kF _ h
  exact bz Tryz.results18 rfl
def lP (lQ : Int) (gO : Int) (gB : Int) : Option (Bool) := cond (decide (lQ ≥ gO)) (some (decide (lQ ≤ gB))) (some false)
theorem oH (lQ : Int) (gO : Int) (gB : Int) (R : Bool) (h : lP lQ gO gB = some R) : al Tryz.prog G0 73 [.lit (.int .i64 lQ), .lit (.int .i64 gO), .lit (.int .i64 gB)] (.tree (.lit (.bool R))) := by
 refine al.runR mixed Tryz.call73 Tryz.func73 rfl (by simp [Tryz.ntmps73]; kernel_rfl) ?_
 obtain ⟨KF, h, kF, kN⟩ := cR h
 simp only [lP] at h
 cases d1 : (decide (lQ ≥ gO))
 ·simp only [d1, hs] at h
  try simp only [vz, tyf, d1, nm, seval]
  obtain rfl := kF _ h
  exact bz Tryz.results73 rfl
 simp only [d1, hs] at h
 try simp only [vz, tyf, d1, nm, seval]
 obtain rfl := kF _ h
 exact bz Tryz.results73 rfl
def tv (aq : Int) (x1 : GBs) : List Int → Int → Option (LOut (Bool) (Unit))
 | [], iP => some (.go ())
 | e0 :: p0, iP => Option.bind (lP e0 0 (i64.wrap (aq - 1))) (fun r5 => cond (r5) (cond (decide (iP > 0)) (Option.bind (getI x1.Needs (i64.wrap (iP - 1))) (fun x6 => cond (decide (e0 ≤ x6)) (some (.ret false)) (tv aq x1 p0 (iP + 1)))) (tv aq x1 p0 (iP + 1))) (some (.ret false)))
def z3 (ak : GBk) (aq : Int) : Option (Bool) := Option.bind (getI ak.Strokes aq) (fun x1 => Option.bind (lP x1.Board 0 (i64.wrap ((List.length ak.Boards : Int) - 1))) (fun r2 => cond (r2) (Option.bind (lP x1.Hours.Low 1 6) (fun r3 => cond (r3) (Option.bind (lP x1.Hours.High x1.Hours.Low 6) (fun r4 => cond (r4) (cond (aF x1.Needs) (aT (tv aq x1 x1.Needs 0) (fun r8 => some r8) (fun c7 => some true) (fun _ _ => none)) none) (some false))) (some false))) (some false)))
theorem Vw (ak : GBk) (aq : Int) (R : Bool) (h : z3 ak aq = some R) : al Tryz.prog G0 74 [.agg (cGBk ak), .lit (.int .i64 aq)] (.tree (.lit (.bool R))) := by
 refine al.runR mixed Tryz.call74 Tryz.func74 rfl (by simp [Tryz.ntmps74]; kernel_rfl) ?_
 obtain ⟨KF, h, kF, kN⟩ := cR h
 simp only [z3] at h
 obtain ⟨x9, jh, h⟩ := optI h kN
 try simp only [hs] at h
 obtain ⟨tw, ry, h⟩ := optI h kN
 try simp only [hs] at h
 simp only [vz, tyf, (aM jh), nm, seval]
 refine ktA (oH _ _ _ _ ry) ?_
 refine bM (fun tm => tm 1 = .lit (.int .i64 aq) ∧ tm 5 = .ptr 7 0 ∧ tm 18 = .lit (.bool tw) ∧ True) (by refine ⟨?_, ?_, ?_, trivial⟩ <;> first | (simp only [ua, nm, seval] <;> rfl) | rfl) ?_
 rintro tm ⟨cg, dM, dK, _⟩
 cases ko : (tw)
 ·simp only [ko, hs] at h
  try simp only [vz, tyf, (aM jh), cg, dM, dK, ko, nm, seval]
  obtain rfl := kF _ h
  exact bz Tryz.results74 rfl
 simp only [ko, hs] at h
 obtain ⟨mR, xo, h⟩ := optI h kN
 try simp only [hs] at h
 simp only [vz, tyf, (aM jh), cg, dM, dK, ko, nm, seval]
 refine ktA (oH _ _ _ _ xo) ?_
 refine bM (fun tm => tm 1 = .lit (.int .i64 aq) ∧ tm 5 = .ptr 7 0 ∧ tm 20 = .lit (.bool false) ∧ tm 24 = .lit (.bool mR) ∧ True) (by refine ⟨cg, dM, ?_, ?_, trivial⟩ <;> first | (simp only [ua, cg, dM, dK, ko, nm, seval] <;> rfl) | rfl) ?_
 rintro tm ⟨cP, gb, fQ, cO, _⟩
 cases jX : (mR)
 ·simp only [jX, hs] at h
  try simp only [vz, tyf, (aM jh), ko, cP, gb, fQ, cO, jX, nm, seval]
  obtain rfl := kF _ h
  exact bz Tryz.results74 rfl
 simp only [jX, hs] at h
 obtain ⟨tq, wb, h⟩ := optI h kN
 try simp only [hs] at h
 simp only [vz, tyf, (aM jh), ko, cP, gb, fQ, cO, jX, nm, seval]
 refine ktA (oH _ _ _ _ wb) ?_
 refine bM (fun tm => tm 1 = .lit (.int .i64 aq) ∧ tm 5 = .ptr 7 0 ∧ tm 27 = .lit (.bool false) ∧ tm 34 = .lit (.bool tq) ∧ True) (by refine ⟨cP, gb, ?_, ?_, trivial⟩ <;> first | (simp only [ua, ko, cP, gb, fQ, cO, jX, nm, seval] <;> rfl) | rfl) ?_
 rintro tm ⟨cH, bu, cU, cI, _⟩
 cases pP : (tq)
 ·simp only [pP, hs] at h
  try simp only [vz, tyf, (aM jh), ko, jX, cH, bu, cU, cI, pP, nm, seval]
  obtain rfl := kF _ h
  exact bz Tryz.results74 rfl
 simp only [pP, hs] at h
 cases tx : (aF x9.Needs)
 ·simp only [tx, hs] at h
  exact absurd h kN
 simp only [tx, hs] at h
 simp only [vz, tyf, (aM jh), ko, jX, cH, bu, cU, cI, pP, tx, nm, seval]
 obtain ⟨Vx, h, z4, JP, Vy, z5⟩ := fa h kN
 obtain ⟨Vz, JQ, h⟩ := call2 h
 obtain ⟨V0, pQ⟩ : ∃ I : Nat → St → Prop, I = (fun m st => ∃ (oI : List Int) (d6 : Int), m = List.length oI ∧ 0 ≤ d6 ∧ List.drop (Int.toNat d6) x9.Needs = oI ∧ st.df = [] ∧ 35 ≤ st.nx ∧ st.H 7 = some (.cells (some 49) (cGBs x9)) ∧ st.tm 1 = .lit (.int .i64 aq) ∧ st.tm 5 = .ptr 7 0 ∧ st.tm 6 = .lit (.int .i64 d6) ∧ Vx (Vz oI d6)) := ⟨_, rfl⟩
 refine loopK mixed (by kernel_rfl) V0 (List.length x9.Needs) (by rw [pQ]; refine ⟨x9.Needs, 0, rfl, Int.le_refl _, rfl, rfl, (show 35 ≤ 35 by omega), ?_, cH, bu, ?_, h⟩ <;> first | (simp only [ua, ko, jX, cH, bu, cU, cI, pP, nm, seval] <;> rfl) | rfl) ?_
 rintro m ⟨tm, H, tz, df⟩ hinv
 rw [pQ] at hinv
 obtain ⟨oI, d6, rfl, j4, lR, hdf, JR, z6, i7, jU, ov, h⟩ := hinv
 simp only at hdf JR z6 i7 jU ov
 have CK := fb (m := 35) (b := tz) (by omega)
 subst hdf JQ
 cases oI with
 | nil =>
  have oy : (decide (d6 < (List.length x9.Needs : Int))) = false := fc j4 lR
  simp only [tv, hs, reduceCtorEq] at h
  replace h := JP _ h
  try dsimp only at h
  try simp only [hs] at h
  try simp only [vz, tyf, (aM jh), ko, jX, pP, tx, CK, i7, jU, ov, z6, oy, nm, seval]
  obtain rfl := kF _ h
  exact bz Tryz.results74 rfl
 | cons dr oI =>
  have JS : (decide (d6 < (List.length x9.Needs : Int))) = true := fe j4 lR
  have qV := dD j4 lR
  have JT := eG j4 lR tx
  simp only [tv, hs, reduceCtorEq] at h
  simp only [vz, tyf, (aM jh), ko, jX, pP, tx, CK, i7, jU, ov, z6, JS, (aw qV), JT, nm, seval]
  refine j3 (fun tm => tm 1 = .lit (.int .i64 aq) ∧ tm 5 = .ptr 7 0 ∧ tm 6 = .lit (.int .i64 d6) ∧ True) (by refine ⟨i7, jU, ov, trivial⟩ <;> first | (simp only [ua, ko, jX, pP, CK, i7, jU, ov, z6, JS, JT, nm, seval] <;> rfl) | rfl) ?_
  rintro tm ⟨de, cN, d4, _⟩
  have oJ := And.intro ko (And.intro jX (And.intro pP (And.intro tx (And.intro CK (And.intro z6 (And.intro JS JT))))))
  obtain ⟨CL, V1, h⟩ := optI h z5
  try simp only [hs] at h
  simp only [vz, tyf, oJ, (aM jh), (aw qV), de, cN, d4, nm, seval]
  refine dktA (oH _ _ _ _ V1) ?_
  refine bM (fun tm => tm 1 = .lit (.int .i64 aq) ∧ tm 5 = .ptr 7 0 ∧ tm 6 = .lit (.int .i64 d6) ∧ tm 51 = .lit (.bool CL) ∧ True) (by refine ⟨de, cN, d4, ?_, trivial⟩ <;> first | (simp only [ua, oJ, de, cN, d4, nm, seval] <;> rfl) | rfl) ?_
  rintro tm ⟨dq, fR, gZ, hC, _⟩
  cases j5 : (CL)
  ·simp only [j5, hs] at h
   try simp only [vz, tyf, oJ, (aM jh), (aw qV), dq, fR, gZ, hC, j5, nm, seval]
   replace h := z4 _ h
   try dsimp only at h
   obtain rfl := kF _ h
   exact bz Tryz.results74 rfl
  simp only [j5, hs] at h
  cases ju : (decide (d6 > 0))
  ·simp only [ju, hs] at h
   simp only [vz, tyf, oJ, (aM jh), (aw qV), dq, fR, gZ, hC, j5, ju, nm, seval]
   exact ⟨List.length oI, Nat.lt_succ_self _, by rw [pQ]; refine ⟨oI, d6 + 1, rfl, Int.le_trans j4 (Int.le_add_one (Int.le_refl _)), cC j4 lR, rfl, (show 35 ≤ tz + 35 by omega), ?_, dq, fR, ?_, (by first | exact h | (simp only [oJ, j5, ju]; exact h))⟩ <;> first | (simp only [ua, oJ, dq, fR, gZ, hC, j5, ju, nm, seval] <;> rfl) | rfl⟩
  simp only [ju, hs] at h
  obtain ⟨V2, BM, h⟩ := optI h z5
  try simp only [hs] at h
  cases wg : (decide (dr ≤ V2))
  ·simp only [wg, hs] at h
   simp only [vz, tyf, oJ, (aM jh), (aw qV), dq, fR, gZ, hC, j5, ju, (aw BM), wg, nm, seval]
   exact ⟨List.length oI, Nat.lt_succ_self _, by rw [pQ]; refine ⟨oI, d6 + 1, rfl, Int.le_trans j4 (Int.le_add_one (Int.le_refl _)), cC j4 lR, rfl, (show 35 ≤ tz + 35 by omega), ?_, dq, fR, ?_, (by first | exact h | (simp only [oJ, j5, ju, wg]; exact h))⟩ <;> first | (simp only [ua, oJ, dq, fR, gZ, hC, j5, ju, wg, nm, seval] <;> rfl) | rfl⟩
  simp only [wg, hs] at h
  try simp only [vz, tyf, oJ, (aM jh), (aw qV), dq, fR, gZ, hC, j5, ju, (aw BM), wg, nm, seval]
  replace h := z4 _ h
  try dsimp only at h
  obtain rfl := kF _ h
  exact bz Tryz.results74 rfl
def wh (ak : GBk) : List GBs → Int → Option (LOut (Bool) (Unit))
 | [], t0 => some (.go ())
 | e1 :: p1, t0 => Option.bind (z3 ak t0) (fun r6 => cond (r6) (wh ak p1 (t0 + 1)) (some (.ret false)))
def wi  : List Int → Int → Option (LOut (Bool) (Unit))
 | [], dj => some (.go ())
 | e0 :: p0, dj => Option.bind (lP e0 0 60) (fun r4 => cond (r4) (wi p0 (dj + 1)) (some (.ret false)))
def z7 (ak : GBk) : Option (Bool) := Option.bind (lP ak.Apprentices 0 3) (fun r1 => cond (r1) (Option.bind (lP (List.length ak.Boards : Int) 1 3) (fun r2 => cond (r2) (Option.bind (lP (List.length ak.Strokes : Int) 1 6) (fun r3 => cond (r3) (cond (aF ak.Boards) (aT (wi ak.Boards 0) (fun r9 => some r9) (fun c5 => cond (aF ak.Strokes) (aT (wh ak ak.Strokes 0) (fun r8 => some r8) (fun c7 => some true) (fun _ _ => none)) none) (fun _ _ => none)) none) (some false))) (some false))) (some false))
theorem V3 (ak : GBk) (R : Bool) (h : z7 ak = some R) : al Tryz.prog G0 24 [.agg (cGBk ak)] (.tree (.lit (.bool R))) := by
 refine al.runR mixed Tryz.call24 Tryz.func24 rfl (by simp [Tryz.ntmps24]; kernel_rfl) ?_
 obtain ⟨KF, h, kF, kN⟩ := cR h
 simp only [z7] at h
 obtain ⟨v8, z8, h⟩ := optI h kN
 try simp only [hs] at h
 simp only [vz, tyf, nm, seval]
 refine ktA (oH _ _ _ _ z8) ?_
 refine bM (fun tm => tm 1 = .ptr 0 0 ∧ tm 7 = .lit (.bool v8) ∧ True) (by refine ⟨?_, ?_, trivial⟩ <;> first | (simp only [ua, nm, seval] <;> rfl) | rfl) ?_
 rintro tm ⟨bX, cg, _⟩
 cases bw : (v8)
 ·simp only [bw, hs] at h
  try simp only [vz, tyf, bX, cg, bw, nm, seval]
  obtain rfl := kF _ h
  exact bz Tryz.results24 rfl
 simp only [bw, hs] at h
 obtain ⟨CG, dZ, h⟩ := optI h kN
 try simp only [hs] at h
 simp only [vz, tyf, bX, cg, bw, nm, seval]
 refine ktA (oH _ _ _ _ dZ) ?_
 refine bM (fun tm => tm 1 = .ptr 0 0 ∧ tm 9 = .lit (.bool false) ∧ tm 13 = .lit (.bool CG) ∧ True) (by refine ⟨bX, ?_, ?_, trivial⟩ <;> first | (simp only [ua, bX, cg, bw, nm, seval] <;> rfl) | rfl) ?_
 rintro tm ⟨bH, bR, cP, _⟩
 cases ep : (CG)
 ·simp only [ep, hs] at h
  try simp only [vz, tyf, bw, bH, bR, cP, ep, nm, seval]
  obtain rfl := kF _ h
  exact bz Tryz.results24 rfl
 simp only [ep, hs] at h
 obtain ⟨ke, ou, h⟩ := optI h kN
 try simp only [hs] at h
 simp only [vz, tyf, bw, bH, bR, cP, ep, nm, seval]
 refine ktA (oH _ _ _ _ ou) ?_
 refine bM (fun tm => tm 1 = .ptr 0 0 ∧ tm 16 = .lit (.bool false) ∧ tm 20 = .lit (.bool ke) ∧ True) (by refine ⟨bH, ?_, ?_, trivial⟩ <;> first | (simp only [ua, bw, bH, bR, cP, ep, nm, seval] <;> rfl) | rfl) ?_
 rintro tm ⟨bU, cn, bV, _⟩
 cases fX : (ke)
 ·simp only [fX, hs] at h
  try simp only [vz, tyf, bw, ep, bU, cn, bV, fX, nm, seval]
  obtain rfl := kF _ h
  exact bz Tryz.results24 rfl
 simp only [fX, hs] at h
 cases j6 : (aF ak.Boards)
 ·simp only [j6, hs] at h
  exact absurd h kN
 simp only [j6, hs] at h
 simp only [vz, tyf, bw, ep, bU, cn, bV, fX, j6, nm, seval]
 obtain ⟨JU, h, z9, t4, JV, nq⟩ := fa h kN
 obtain ⟨JW, t5, h⟩ := call2 h
 obtain ⟨JX, kq⟩ : ∃ I : Nat → St → Prop, I = (fun m st => ∃ (jY : List Int) (eO : Int), m = List.length jY ∧ 0 ≤ eO ∧ List.drop (Int.toNat eO) ak.Boards = jY ∧ st.df = [] ∧ 21 ≤ st.nx ∧ st.H 0 = some (.cells (some 25) (cGBk ak)) ∧ st.tm 1 = .ptr 0 0 ∧ st.tm 3 = .lit (.int .i64 eO) ∧ JU (JW jY eO)) := ⟨_, rfl⟩
 refine loopK mixed (by kernel_rfl) JX (List.length ak.Boards) (by rw [kq]; refine ⟨ak.Boards, 0, rfl, Int.le_refl _, rfl, rfl, (show 21 ≤ 21 by omega), ?_, bU, ?_, h⟩ <;> first | (simp only [ua, bw, ep, bU, cn, bV, fX, nm, seval] <;> rfl) | rfl) ?_
 rintro m ⟨tm, H, dI, df⟩ hinv
 rw [kq] at hinv
 obtain ⟨jY, eO, rfl, lS, nr, hdf, t6, gu, du, dr, h⟩ := hinv
 simp only at hdf t6 gu du dr
 have pR := fb (m := 21) (b := dI) (by omega)
 subst hdf t5
 cases jY with
 | nil =>
  have gX : (decide (eO < (List.length ak.Boards : Int))) = false := fc lS nr
  simp only [wi, hs, reduceCtorEq] at h
  replace h := t4 _ h
  try dsimp only at h
  try simp only [hs] at h
  cases kf : (aF ak.Strokes)
  ·simp only [kf, hs] at h
   exact absurd h kN
  simp only [kf, hs] at h
  simp only [vz, tyf, bw, ep, fX, j6, pR, du, dr, gu, gX, kf, nm, seval]
  obtain ⟨V4, h, JY, JZ, V5, Ka⟩ := fa h kN
  obtain ⟨V6, Kb, h⟩ := call2 h
  obtain ⟨V7, t7⟩ : ∃ I : Nat → St → Prop, I = (fun m st => ∃ (rz : List GBs) (eP : Int), m = List.length rz ∧ 0 ≤ eP ∧ List.drop (Int.toNat eP) ak.Strokes = rz ∧ st.df = [] ∧ dI + 6 ≤ st.nx ∧ st.H 0 = some (.cells (some 25) (cGBk ak)) ∧ st.tm 1 = .ptr 0 0 ∧ st.tm 4 = .lit (.int .i64 eP) ∧ V4 (V6 rz eP)) := ⟨_, rfl⟩
  refine loopK mixed (by kernel_rfl) V7 (List.length ak.Strokes) (by rw [t7]; refine ⟨ak.Strokes, 0, rfl, Int.le_refl _, rfl, rfl, (show dI + 6 ≤ dI + 6 by omega), ?_, du, ?_, h⟩ <;> first | (simp only [ua, bw, ep, fX, pR, du, dr, gu, gX, nm, seval] <;> rfl) | rfl) ?_
  rintro m ⟨tm, H, t8, df⟩ hinv
  rw [t7] at hinv
  obtain ⟨rz, eP, rfl, lT, nt, hdf, Kc, zA, m0, lM, h⟩ := hinv
  simp only at hdf Kc zA m0 lM
  have CM := fb (m := 21) (b := t8) (by omega)
  have CN := mn (a := dI) (m := 6) (b := t8) (by omega)
  subst hdf Kb
  cases rz with
  | nil =>
   have V8 : (decide (eP < (List.length ak.Strokes : Int))) = false := fc lT nt
   simp only [wh, hs, reduceCtorEq] at h
   replace h := JZ _ h
   try dsimp only at h
   try simp only [hs] at h
   try simp only [vz, tyf, bw, ep, fX, j6, pR, gX, kf, CM, CN, m0, lM, zA, V8, nm, seval]
   obtain rfl := kF _ h
   exact bz Tryz.results24 rfl
  | cons i7 rz =>
   have Ke : (decide (eP < (List.length ak.Strokes : Int))) = true := fe lT nt
   have Kf := dD lT nt
   have Kg := eG lT nt kf
   simp only [wh, hs, reduceCtorEq] at h
   obtain ⟨si, DD, h⟩ := optI h Ka
   try simp only [hs] at h
   simp only [vz, tyf, bw, ep, fX, j6, pR, gX, kf, CM, CN, m0, lM, zA, Ke, (aM Kf), Kg, nm, seval]
   refine ktA (Vw _ _ _ DD) ?_
   refine bM (fun tm => tm 1 = .ptr 0 0 ∧ tm 4 = .lit (.int .i64 eP) ∧ tm 46 = .lit (.bool si) ∧ True) (by refine ⟨m0, lM, ?_, trivial⟩ <;> first | (simp only [ua, bw, ep, fX, pR, gX, CM, CN, m0, lM, zA, Ke, Kg, nm, seval] <;> rfl) | rfl) ?_
   rintro tm ⟨dL, dq, fR, _⟩
   have hS := And.intro bw (And.intro ep (And.intro fX (And.intro j6 (And.intro pR (And.intro gX (And.intro kf (And.intro CM (And.intro CN (And.intro zA (And.intro Ke Kg))))))))))
   cases oL : (si)
   ·simp only [oL, hs] at h
    try simp only [vz, tyf, hS, (aM Kf), dL, dq, fR, oL, nm, seval]
    replace h := JY _ h
    try dsimp only at h
    obtain rfl := kF _ h
    exact bz Tryz.results24 rfl
   simp only [oL, hs] at h
   simp only [vz, tyf, hS, (aM Kf), dL, dq, fR, oL, nm, seval]
   exact ⟨List.length rz, Nat.lt_succ_self _, by rw [t7]; refine ⟨rz, eP + 1, rfl, Int.le_trans lT (Int.le_add_one (Int.le_refl _)), cC lT nt, rfl, (show dI + 6 ≤ t8 + 12 by omega), ?_, dL, ?_, (by first | exact h | (simp only [hS, oL]; exact h))⟩ <;> first | (simp only [ua, hS, dL, dq, fR, oL, nm, seval] <;> rfl) | rfl⟩
 | cons bu jY =>
  have j5 : (decide (eO < (List.length ak.Boards : Int))) = true := fe lS nr
  have jk := dD lS nr
  have wj := eG lS nr j6
  simp only [wi, hs, reduceCtorEq] at h
  obtain ⟨QU, jl, h⟩ := optI h nq
  try simp only [hs] at h
  simp only [vz, tyf, bw, ep, fX, j6, pR, du, dr, gu, j5, (aw jk), wj, nm, seval]
  refine ktA (oH _ _ _ _ jl) ?_
  refine bM (fun tm => tm 1 = .ptr 0 0 ∧ tm 3 = .lit (.int .i64 eO) ∧ tm 35 = .lit (.bool QU) ∧ True) (by refine ⟨du, dr, ?_, trivial⟩ <;> first | (simp only [ua, bw, ep, fX, pR, du, dr, gu, j5, wj, nm, seval] <;> rfl) | rfl) ?_
  rintro tm ⟨lU, jZ, jm, _⟩
  have CP := And.intro bw (And.intro ep (And.intro fX (And.intro j6 (And.intro pR (And.intro gu (And.intro j5 wj))))))
  cases gC : (QU)
  ·simp only [gC, hs] at h
   try simp only [vz, tyf, CP, (aw jk), lU, jZ, jm, gC, nm, seval]
   replace h := z9 _ h
   try dsimp only at h
   obtain rfl := kF _ h
   exact bz Tryz.results24 rfl
  simp only [gC, hs] at h
  simp only [vz, tyf, CP, (aw jk), lU, jZ, jm, gC, nm, seval]
  exact ⟨List.length jY, Nat.lt_succ_self _, by rw [kq]; refine ⟨jY, eO + 1, rfl, Int.le_trans lS (Int.le_add_one (Int.le_refl _)), cC lS nr, rfl, (show 21 ≤ dI + 15 by omega), ?_, lU, ?_, (by first | exact h | (simp only [CP, gC]; exact h))⟩ <;> first | (simp only [ua, CP, lU, jZ, jm, gC, nm, seval] <;> rfl) | rfl⟩
def vJ (ak : GBk) : Option (Bool) := Option.bind (Cc ak) (fun r1 => cond (r1) (Option.bind (z7 ak) (fun r2 => some r2)) (some false))
theorem V9 (ak : GBk) (R : Bool) (h : vJ ak = some R) : al Tryz.prog G0 30 [.agg (cGBk ak)] (.tree (.lit (.bool R))) := by
 refine al.runR mixed Tryz.call30 Tryz.func30 rfl (by simp [Tryz.ntmps30]; kernel_rfl) ?_
 obtain ⟨KF, h, kF, kN⟩ := cR h
 simp only [vJ] at h
 obtain ⟨r3, o4, h⟩ := optI h kN
 try simp only [hs] at h
 simp only [vz, tyf, nm, seval]
 refine ktA (Vs _ _ o4) ?_
 refine bM (fun tm => tm 1 = .ptr 0 0 ∧ tm 4 = .lit (.bool r3) ∧ True) (by refine ⟨?_, ?_, trivial⟩ <;> first | (simp only [ua, nm, seval] <;> rfl) | rfl) ?_
 rintro tm ⟨e5, e6, _⟩
 cases d7 : (r3)
 ·simp only [d7, hs] at h
  try simp only [vz, tyf, e5, e6, d7, nm, seval]
  obtain rfl := kF _ h
  exact bz Tryz.results30 rfl
 simp only [d7, hs] at h
 obtain ⟨r8, o9, h⟩ := optI h kN
 try simp only [hs] at h
 simp only [vz, tyf, e5, e6, d7, nm, seval]
 refine ktA (V3 _ _ o9) ?_
 refine bM (fun tm => tm 5 = .lit (.bool true) ∧ tm 7 = .lit (.bool r8) ∧ True) (by refine ⟨?_, ?_, trivial⟩ <;> first | (simp only [ua, e5, e6, d7, nm, seval] <;> rfl) | rfl) ?_
 rintro tm ⟨bj, bG, _⟩
 try simp only [vz, tyf, d7, bj, bG, nm, seval]
 obtain rfl := kF _ h
 exact bz Tryz.results30 rfl
def zB (bF : List Int) : Option (Bool) := some (decide ((List.length bF : Int) ≤ 9))
theorem QV (bF : List Int) (R : Bool) (h : zB bF = some R) : al Tryz.prog G0 19 [.sl (ae eI bF) (List.length bF) false] (.tree (.lit (.bool R))) := by
 refine al.runR mixed Tryz.call19 Tryz.func19 rfl (by simp [Tryz.ntmps19]; kernel_rfl) ?_
 obtain ⟨KF, h, kF, kN⟩ := cR h
 simp only [zB] at h
 try simp only [vz, tyf, nm, seval]
 obtain rfl := kF _ h
 exact bz Tryz.results19 rfl
def t9 (ak : GBk) : List Int → Int → Option (LOut (Bool) (Unit))
 | [], ct => some (.go ())
 | e0 :: p0, ct => Option.bind (lP e0 0 ak.Apprentices) (fun r1 => cond (r1) (Option.bind (getI ak.Strokes ct) (fun x2 => cond (x2.Round) (cond (e0 != 0) (some (.ret false)) (t9 ak p0 (ct + 1))) (t9 ak p0 (ct + 1)))) (some (.ret false)))
def zC (ak : GBk) (dm : List Int) : Option (Bool) := cond ((List.length dm : Int) != (List.length ak.Strokes : Int)) (some false) (cond (aF dm) (aT (t9 ak dm 0) (fun r4 => some r4) (fun c3 => some true) (fun _ _ => none)) none)
theorem VA (ak : GBk) (dm : List Int) (R : Bool) (h : zC ak dm = some R) : al Tryz.prog G0 25 [.agg (cGBk ak), .sl (ae eI dm) (List.length dm) false] (.tree (.lit (.bool R))) := by
 refine al.runR mixed Tryz.call25 Tryz.func25 rfl (by simp [Tryz.ntmps25]; kernel_rfl) ?_
 obtain ⟨KF, h, kF, kN⟩ := cR h
 simp only [zC] at h
 cases d5 : ((List.length dm : Int) != (List.length ak.Strokes : Int))
 ·simp only [d5, hs] at h
  cases g7 : (aF dm)
  ·simp only [g7, hs] at h
   exact absurd h kN
  simp only [g7, hs] at h
  simp only [vz, tyf, d5, g7, nm, seval]
  obtain ⟨K6, h, CQ, Kh, VB, tA⟩ := fa h kN
  obtain ⟨f6, Ki, h⟩ := call2 h
  obtain ⟨I6, rA⟩ : ∃ I : Nat → St → Prop, I = (fun m st => ∃ (p6 : List Int) (gP : Int), m = List.length p6 ∧ 0 ≤ gP ∧ List.drop (Int.toNat gP) dm = p6 ∧ st.df = [] ∧ 9 ≤ st.nx ∧ st.H 0 = some (.cells (some 25) (cGBk ak)) ∧ st.tm 1 = .sl (ae eI dm) (List.length dm) false ∧ st.tm 2 = .ptr 0 0 ∧ st.tm 5 = .lit (.int .i64 gP) ∧ K6 (f6 p6 gP)) := ⟨_, rfl⟩
  refine loopK mixed (by kernel_rfl) I6 (List.length dm) (by rw [rA]; refine ⟨dm, 0, rfl, Int.le_refl _, rfl, rfl, (show 9 ≤ 9 by omega), ?_, ?_, ?_, ?_, h⟩ <;> first | (simp only [ua, d5, nm, seval] <;> rfl) | rfl) ?_
  rintro m ⟨tm, H, tB, df⟩ hinv
  rw [rA] at hinv
  obtain ⟨p6, gP, rfl, rB, wm, hdf, Kj, H8, e9, bj, bG, h⟩ := hinv
  simp only at hdf Kj H8 e9 bj bG
  have jW := fb (m := 9) (b := tB) (by omega)
  subst hdf Ki
  cases p6 with
  | nil =>
   have dW : (decide (gP < (List.length dm : Int))) = false := fc rB wm
   simp only [t9, hs, reduceCtorEq] at h
   replace h := Kh _ h
   try dsimp only at h
   try simp only [hs] at h
   try simp only [vz, tyf, d5, g7, jW, e9, bj, bG, H8, dW, nm, seval]
   obtain rfl := kF _ h
   exact bz Tryz.results25 rfl
  | cons e6 p6 =>
   have bw : (decide (gP < (List.length dm : Int))) = true := fe rB wm
   have dZ := dD rB wm
   have wo := eG rB wm g7
   simp only [t9, hs, reduceCtorEq] at h
   simp only [vz, tyf, d5, g7, jW, e9, bj, bG, H8, bw, (aw dZ), wo, nm, seval]
   refine j3 (fun tm => tm 1 = .sl (ae eI dm) (List.length dm) false ∧ tm 2 = .ptr 0 0 ∧ tm 5 = .lit (.int .i64 gP) ∧ True) (by refine ⟨e9, bj, bG, trivial⟩ <;> first | (simp only [ua, d5, jW, e9, bj, bG, H8, bw, wo, nm, seval] <;> rfl) | rfl) ?_
   rintro tm ⟨bH, bR, cP, _⟩
   obtain ⟨ff, mw, h⟩ := optI h tA
   try simp only [hs] at h
   simp only [vz, tyf, d5, g7, jW, H8, bw, (aw dZ), wo, bH, bR, cP, nm, seval]
   refine dktA (oH _ _ _ _ mw) ?_
   refine bM (fun tm => tm 1 = .sl (ae eI dm) (List.length dm) false ∧ tm 2 = .ptr 0 0 ∧ tm 5 = .lit (.int .i64 gP) ∧ tm 24 = .lit (.bool ff) ∧ True) (by refine ⟨bH, bR, cP, ?_, trivial⟩ <;> first | (simp only [ua, d5, jW, H8, bw, wo, bH, bR, cP, nm, seval] <;> rfl) | rfl) ?_
   rintro tm ⟨cO, bU, cn, bV, _⟩
   cases fX : (ff)
   ·simp only [fX, hs] at h
    have VC := And.intro d5 (And.intro g7 (And.intro jW (And.intro H8 (And.intro bw (And.intro wo fX)))))
    try simp only [vz, tyf, VC, (aw dZ), cO, bU, cn, bV, nm, seval]
    replace h := CQ _ h
    try dsimp only at h
    obtain rfl := kF _ h
    exact bz Tryz.results25 rfl
   simp only [fX, hs] at h
   have jy := And.intro d5 (And.intro g7 (And.intro jW (And.intro H8 (And.intro bw (And.intro wo fX)))))
   obtain ⟨BW, lC, h⟩ := optI h tA
   try simp only [hs] at h
   cases nu : (BW.Round)
   ·simp only [nu, hs] at h
    simp only [vz, tyf, jy, (aw dZ), cO, bU, cn, bV, (aM lC), nu, nm, seval]
    exact ⟨List.length p6, Nat.lt_succ_self _, by rw [rA]; refine ⟨p6, gP + 1, rfl, Int.le_trans rB (Int.le_add_one (Int.le_refl _)), cC rB wm, rfl, (show 9 ≤ tB + 30 by omega), ?_, cO, bU, ?_, (by first | exact h | (simp only [jy, nu]; exact h))⟩ <;> first | (simp only [ua, jy, cO, bU, cn, bV, nu, nm, seval] <;> rfl) | rfl | (simp only [ua, tyf, jy, cO, bU, cn, bV, nu, nm, seval] <;> rfl)⟩
   simp only [nu, hs] at h
   cases tC : (e6 != 0)
   ·simp only [tC, hs] at h
    simp only [vz, tyf, jy, (aw dZ), cO, bU, cn, bV, (aM lC), nu, tC, nm, seval]
    exact ⟨List.length p6, Nat.lt_succ_self _, by rw [rA]; refine ⟨p6, gP + 1, rfl, Int.le_trans rB (Int.le_add_one (Int.le_refl _)), cC rB wm, rfl, (show 9 ≤ tB + 30 by omega), ?_, cO, bU, ?_, (by first | exact h | (simp only [jy, nu, tC]; exact h))⟩ <;> first | (simp only [ua, jy, cO, bU, cn, bV, nu, tC, nm, seval] <;> rfl) | rfl | (simp only [ua, tyf, jy, cO, bU, cn, bV, nu, tC, nm, seval] <;> rfl)⟩
   simp only [tC, hs] at h
   try simp only [vz, tyf, jy, (aw dZ), cO, bU, cn, bV, (aM lC), nu, tC, nm, seval]
   replace h := CQ _ h
   try dsimp only at h
   obtain rfl := kF _ h
   exact bz Tryz.results25 rfl
 simp only [d5, hs] at h
 try simp only [vz, tyf, d5, nm, seval]
 obtain rfl := kF _ h
 exact bz Tryz.results25 rfl

def tD (ak : GBk) (da : Int) : Option (Bool) := Option.bind (lP da 0 (i64.wrap ((List.length ak.Strokes : Int) - 1))) (fun r1 => some r1)
theorem Kk (ak : GBk) (da : Int) (R : Bool) (h : tD ak da = some R) : al Tryz.prog G0 45 [.agg (cGBk ak), .lit (.int .i64 da)] (.tree (.lit (.bool R))) := by
 refine al.runR mixed Tryz.call45 Tryz.func45 rfl (by simp [Tryz.ntmps45]; kernel_rfl) ?_
 obtain ⟨KF, h, kF, kN⟩ := cR h
 simp only [tD] at h
 obtain ⟨r2, o3, h⟩ := optI h kN
 try simp only [hs] at h
 simp only [vz, tyf, nm, seval]
 refine ktA (oH _ _ _ _ o3) ?_
 refine bM (fun tm => tm 10 = .lit (.bool r2) ∧ True) (by refine ⟨?_, trivial⟩ <;> first | (simp only [ua, nm, seval] <;> rfl) | rfl) ?_
 rintro tm ⟨e4, _⟩
 try simp only [vz, tyf, e4, nm, seval]
 obtain rfl := kF _ h
 exact bz Tryz.results45 rfl
theorem CS (a n b : Int) : pM a n b = some (inB a b n) := csome _ _
theorem lV (n a b : Int) : lP n a b = some (inB a b n) := csome _ _
theorem QW (a b : Int) : ∀ (p : List Int) (c : Int), vY a b p c = goB (p.all (inB a b))
 | [], _ => rfl
 | e :: p, c => by simp only [vY, CS, Option.bind_some, QW a b p, List.all_cons, sZ]
theorem Kl {l : List Int} (hl : l.length < 9223372036854775808) (a b : Int) : tf a l b = some (l.all (inB a b)) := by
 unfold tf
 rw [fU hl, cond_true, QW, rn]
 exact csome _ _ ▸ by cases l.all (inB a b) <;> rfl
def adjB : List Int → Bool
 | a :: b :: l => decide (a < b) && adjB (b :: l)
 | _ => true
theorem QX {ns : List Int} (hn : ns.length < 9223372036854775808) : ∀ (p : List Int) (c a : Int), 1 ≤ c → ns.drop (c - 1).toNat = a :: p → wa ns p c = goB (adjB (a :: p))
 | [], _, _, _, _ => rfl
 | e :: p, c, a, hc, hd => by
  have h1 := dD (by omega) hd
  have hb := (ta h1).2
  have h2 := cC (by omega) hd
  simp only [wa]
  rw [gy (by omega) (by omega), h1, Option.bind_some, QX hn p (c + 1) e (by omega) (by rw [← h2]; congr 1; omega)]
  have ea : adjB (a :: e :: p) = (decide (a < e) && adjB (e :: p)) := rfl
  rw [ea, sZ]
  by_cases h : e ≤ a
  ·rw [decide_eq_true h, decide_eq_false (Int.not_lt.2 h)]; rfl
  ·rw [decide_eq_false h, decide_eq_true (Int.not_le.1 h)]; rfl
theorem Km {l : List Int} (hl : l.length < 9223372036854775808) (a b : Int) : zt a l b = some (adjB l && l.all (inB a b)) := by
 unfold zt
 have hle : leB 0 1 = true := by decide
 rw [fU hl, cond_true, hle, cond_true, Kl hl]
 cases l with
 | nil => rfl
 | cons x p =>
  have := QX hl p 1 x (Int.le_refl _) rfl
  simp only [Int.reduceToNat, List.drop_succ_cons, List.drop_zero]
  rw [this, rn, Option.bind_some]
  cases adjB (x :: p) <;> rfl
def strokeB (nb : Nat) (n : Int) (s : GBs) : Bool := inB 0 ((nb : Int) - 1) s.Board && ((inB 1 6 s.Hours.Low && inB s.Hours.Low 6 s.Hours.High) && (s.Needs.all (inB 0 (n - 1)) && adjB s.Needs))
def strokesB (nb : Nat) : Int → List GBs → Bool
 | _, [] => true
 | c, s :: l => strokeB nb c s && strokesB nb (c + 1) l
def benchB (b : GBk) : Bool := inB 0 3 b.Apprentices && ((inB 1 3 b.Boards.length && b.Boards.all (inB 0 60)) && (inB 1 6 b.Strokes.length && strokesB b.Boards.length 0 b.Strokes))
structure Len (b : GBk) : Prop where
 bo : b.Boards.length < 9223372036854775808
 st : b.Strokes.length < 9223372036854775808
 nd : ∀ s ∈ b.Strokes, s.Needs.length < 9223372036854775808
theorem Kn (a b : Int) (x : GSpan) : zr a x b = some (inB a b x.Low && inB x.Low b x.High) := by
 unfold zr inB
 by_cases h1 : a ≤ x.Low <;> by_cases h2 : x.Low ≤ x.High <;> by_cases h3 : x.High ≤ b <;> by_cases h4 : x.Low ≤ b <;> simp [h1, h2, h3, h4] <;> omega
theorem QY {b : GBk} (hb : b.Boards.length < 9223372036854775808) : ∀ (p : List GBs) (c : Int), 0 ≤ c → c + p.length < 9223372036854775808 → (∀ s ∈ p, s.Needs.length < 9223372036854775808) → wc b p c = goB (strokesB b.Boards.length c p)
 | [], _, _, _, _ => rfl
 | s :: p, c, h0, h1, h2 => by
  simp only [List.length_cons] at h1
  have hs := h2 s (List.mem_cons_self ..)
  simp only [wc, CB, CS, Option.bind_some, Kn]
  rw [gy (by omega) (by omega), gy (by omega) (by omega), Km hs, QY hb p (c + 1) (by omega) (by omega) (fun s hs => h2 s (List.mem_cons_of_mem _ hs))]
  simp only [strokesB, strokeB, sZ, Option.bind_some]
  cases inB 0 ((b.Boards.length : Int) - 1) s.Board <;> cases inB 1 6 s.Hours.Low <;> cases inB s.Hours.Low 6 s.Hours.High <;> cases s.Needs.all (inB 0 (c - 1)) <;> cases adjB s.Needs <;> rfl
theorem DI {b : GBk} (h : Len b) : qH b = some (benchB b) := by
 unfold qH benchB CA CD
 simp only [CS, Option.bind_some, Kl h.bo]
 rw [fU h.st, cond_true, QY h.bo b.Strokes 0 (Int.le_refl _) (by have := h.st; omega) h.nd, rn]
 cases inB 0 3 b.Apprentices <;> cases inB 1 3 (b.Boards.length : Int) <;> cases b.Boards.all (inB 0 60) <;> cases inB 1 6 (b.Strokes.length : Int) <;> cases strokesB b.Boards.length 0 b.Strokes <;> rfl
def adjF (a : Option Int) : List Int → Bool
 | [] => true
 | e :: l => (match a with | some x => decide (x < e) | none => true) && adjF (some e) l
theorem QZ : ∀ (l : List Int) (a : Int), adjF (some a) l = adjB (a :: l)
 | [], _ => rfl
 | e :: l, a => by unfold adjF adjB; rw [QZ l e]
theorem Ko (l : List Int) : adjF none l = adjB l := by
 cases l with
 | nil => rfl
 | cons e l => unfold adjF; rw [QZ l e]; rfl
theorem Ra {n : Int} (hn : -9223372036854775807 ≤ n) (CT : n < 9223372036854775808) {s : GBs} (hl : s.Needs.length < 9223372036854775808) : ∀ (p : List Int) (c : Int) (a : Option Int), 0 ≤ c → s.Needs.drop c.toNat = p → (c = 0 ∧ a = none ∨ 0 < c ∧ getI s.Needs (c - 1) = a ∧ a ≠ none) →
  tv n s p c = goB (p.all (inB 0 (n - 1)) && adjF a p)
 | [], _, _, _, _, _ => rfl
 | e :: p, c, a, h0, hd, ha => by
  have h1 := dD h0 hd
  have hb := (ta h1).2
  simp only [tv, lV, Option.bind_some]
  rw [gy (by omega) (by omega), Ra hn CT hl p (c + 1) (some e) (by omega) (cC h0 hd) (.inr ⟨by omega, by rw [show c + 1 - 1 = c by omega]; exact h1, by simp⟩)]
  simp only [List.all_cons, adjF]
  rcases ha with ⟨rfl, rfl⟩ | ⟨hc, ha, hne⟩
  ·cases inB 0 (n - 1) e <;> cases p.all (inB 0 (n - 1)) <;> cases adjF (some e) p <;> rfl
  ·rw [gy (by omega) (by omega), ha, decide_eq_true (show c > 0 from hc)]
   cases a with
   | none => exact absurd rfl hne
   | some x =>
    simp only [cond_true, Option.bind_some]
    by_cases h : e ≤ x
    ·rw [decide_eq_true h, decide_eq_false (Int.not_lt.2 h)]
     cases inB 0 (n - 1) e <;> simp [goB]
    ·rw [decide_eq_false h, decide_eq_true (Int.not_le.1 h)]
     cases inB 0 (n - 1) e <;> cases p.all (inB 0 (n - 1)) <;> cases adjF (some e) p <;> rfl
theorem Kp {b : GBk} (h : Len b) {n : Int} {s : GBs} (hs : getI b.Strokes n = some s) : z3 b n = some (strokeB b.Boards.length n s) := by
 have hb := ta hs
 have hst := h.st
 have hl := h.nd s (Jf hs)
 have hbo := h.bo
 unfold z3 strokeB
 simp only [hs, Option.bind_some, lV]
 rw [gy (by omega) (by omega), fU hl, cond_true, Ra (by omega) (by omega) hl s.Needs 0 none (Int.le_refl _) rfl (.inl ⟨rfl, rfl⟩), rn, Ko]
 cases inB 0 ((b.Boards.length : Int) - 1) s.Board <;> cases inB 1 6 s.Hours.Low <;> cases inB s.Hours.Low 6 s.Hours.High <;> cases s.Needs.all (inB 0 (n - 1)) <;> cases adjB s.Needs <;> rfl
theorem Rb : ∀ (p : List Int) (c : Int), wi p c = goB (p.all (inB 0 60))
 | [], _ => rfl
 | e :: p, c => by simp only [wi, lV, Option.bind_some, Rb p, List.all_cons, sZ]
theorem Rc {b : GBk} (h : Len b) : ∀ (p : List GBs) (c : Int), 0 ≤ c → b.Strokes.drop c.toNat = p → wh b p c = goB (strokesB b.Boards.length c p)
 | [], _, _, _ => rfl
 | s :: p, c, h0, hd => by
  simp only [wh, Kp h (dD h0 hd), Option.bind_some, Rc h p (c + 1) (by omega) (cC h0 hd), strokesB, sZ]
theorem Ej {b : GBk} (h : Len b) : z7 b = some (benchB b) := by
 unfold z7 benchB
 simp only [lV, Option.bind_some]
 rw [fU h.bo, fU h.st, Rb, Rc h b.Strokes 0 (Int.le_refl _) rfl, rn, rn]
 cases inB 0 3 b.Apprentices <;> cases inB 1 3 (b.Boards.length : Int) <;> cases b.Boards.all (inB 0 60) <;> cases inB 1 6 (b.Strokes.length : Int) <;> cases strokesB b.Boards.length 0 b.Strokes <;> rfl
def planL (a : Int) : List GBs → List Int → Bool
 | s :: ss, h :: hs => (inB 0 a h && (h == 0 || !s.Round)) && planL a ss hs
 | _, _ => true
def planB (b : GBk) (pl : List Int) : Bool := decide (pl.length = b.Strokes.length) && planL b.Apprentices b.Strokes pl
def mayL : List GBs → List Int → Bool
 | s :: ss, h :: hs => (h == 0 || !s.Round) && mayL ss hs
 | _, _ => true
theorem zD {a : Int} : ∀ (ss : List GBs) (hs : List Int), hs.length = ss.length → planL a ss hs = (hs.all (inB 0 a) && mayL ss hs)
 | [], [], _ => rfl
 | s :: ss, h :: hs, e => by
  simp only [planL, mayL, List.all_cons, zD ss hs (by simpa using e)]
  cases inB 0 a h <;> cases hs.all (inB 0 a) <;> cases (h == 0 || !s.Round) <;> simp
theorem Kq {b : GBk} {n h : Int} {s : GBs} (hs : getI b.Strokes n = some s) : zw b n h = some (h == 0 || !s.Round) := by
 unfold zw
 cases h == 0 <;> simp [hs]
theorem Rd {b : GBk} : ∀ (p : List Int) (c : Int) (ss : List GBs), 0 ≤ c → b.Strokes.drop c.toNat = ss → p.length = ss.length → we b p c = goB (mayL ss p)
 | [], _, [], _, _, _ => rfl
 | h :: p, c, s :: ss, h0, hd, hl => by
  simp only [we, Kq (dD h0 hd), Option.bind_some, Rd p (c + 1) ss (by omega) (cC h0 hd) (by simpa using hl), mayL, sZ]
theorem DJ {b : GBk} (h : Len b) (pl : List Int) : qI b pl = some (planB b pl) := by
 have hst := h.st
 unfold qI planB
 by_cases e : pl.length = b.Strokes.length
 ·have e1 : ((pl.length : Int) != (b.Strokes.length : Int)) = false := by simp [e]
  rw [e1, cond_false, Kl (by omega), decide_eq_true e, zD _ _ e, Option.bind_some, fU (by omega), cond_true, Rd pl 0 b.Strokes (Int.le_refl _) rfl e, rn]
  cases pl.all (inB 0 b.Apprentices) <;> cases mayL b.Strokes pl <;> rfl
 ·have e1 : ((pl.length : Int) != (b.Strokes.length : Int)) = true := by simp; omega
  rw [e1, cond_true, decide_eq_false e]; rfl
theorem zE {b : GBk} : ∀ (p : List Int) (c : Int) (ss : List GBs), 0 ≤ c → b.Strokes.drop c.toNat = ss → p.length = ss.length → t9 b p c = goB (planL b.Apprentices ss p)
 | [], _, [], _, _, _ => rfl
 | h :: p, c, s :: ss, h0, hd, hl => by
  simp only [t9, lV, dD h0 hd, Option.bind_some, zE p (c + 1) ss (by omega) (cC h0 hd) (by simpa using hl), planL, sZ]
  have e : (h != 0) = !(h == 0) := rfl
  rw [e]
  cases inB 0 b.Apprentices h <;> cases s.Round <;> cases h == 0 <;> rfl
theorem Ks {b : GBk} (h : Len b) (pl : List Int) : zC b pl = some (planB b pl) := by
 have hst := h.st
 unfold zC planB
 by_cases e : pl.length = b.Strokes.length
 ·have e1 : ((pl.length : Int) != (b.Strokes.length : Int)) = false := by simp [e]
  rw [e1, cond_false, decide_eq_true e, fU (by omega), cond_true, zE pl 0 b.Strokes (Int.le_refl _) rfl e, rn]
  cases planL b.Apprentices b.Strokes pl <;> rfl
 ·have e1 : ((pl.length : Int) != (b.Strokes.length : Int)) = true := by simp; omega
  rw [e1, cond_true, decide_eq_false e]; rfl
theorem tE {b : GBk} (h : Len b) (n : Int) : tD b n = some (inB 0 ((b.Strokes.length : Int) - 1) n) := by
 have := h.st
 unfold tD
 rw [lV, Option.bind_some, gy (by omega) (by omega)]
theorem Tf {b : GBk} (h : Len b) (n : Int) : xc b n = some (inB 0 ((b.Strokes.length : Int) - 1) n) := by
 have := h.st
 unfold xc
 rw [CS, Option.bind_some, gy (by omega) (by omega)]
structure BOk (b : GBk) : Prop where
 ap : 0 ≤ b.Apprentices ∧ b.Apprentices ≤ 3
 nb : 1 ≤ b.Boards.length ∧ b.Boards.length ≤ 3
 bo : ∀ x ∈ b.Boards, 0 ≤ x ∧ x ≤ 60
 ns : 1 ≤ b.Strokes.length ∧ b.Strokes.length ≤ 6
 st : ∀ (i : Nat) s, b.Strokes[i]? = some s → strokeB b.Boards.length i s = true
theorem Re {nb : Nat} : ∀ (p : List GBs) (c : Int), strokesB nb c p = true ↔ ∀ (i : Nat) s, p[i]? = some s → strokeB nb (c + i) s = true
 | [], c => by simp [strokesB]
 | s :: p, c => by
  simp only [strokesB, Bool.and_eq_true, Re p]
  constructor
  ·rintro ⟨h1, h2⟩ i x hx
   cases i with
   | zero => simp at hx; subst hx; simpa using h1
   | succ i => have := h2 i x (by simpa using hx); rw [show c + (i + 1 : Nat) = c + 1 + i by omega]; exact this
  ·intro h
   refine ⟨by have := h 0 s rfl; simpa using this, fun i x hx => ?_⟩
   have := h (i + 1) x (by simpa using hx)
   rw [show c + (i + 1 : Nat) = c + 1 + i by omega] at this
   exact this
theorem vC {b : GBk} : benchB b = true ↔ BOk b := by
 unfold benchB
 simp only [Bool.and_eq_true, my, List.all_eq_true, Re]
 constructor
 ·rintro ⟨h1, ⟨h2, h3⟩, h4, h5⟩
  exact ⟨h1, by omega, h3, by omega, fun i s hs => by have := h5 i s hs; simpa using this⟩
 ·rintro ⟨h1, h2, h3, h4, h5⟩
  exact ⟨h1, ⟨by omega, h3⟩, by omega, fun i s hs => by have := h5 i s hs; simpa using this⟩
structure SOk (nb : Nat) (n : Int) (s : GBs) : Prop where
 bo : 0 ≤ s.Board ∧ s.Board < nb
 hr : 1 ≤ s.Hours.Low ∧ s.Hours.Low ≤ s.Hours.High ∧ s.Hours.High ≤ 6
 nd : ∀ k ∈ s.Needs, 0 ≤ k ∧ k < n
 ad : adjB s.Needs = true
theorem VD {nb : Nat} {n : Int} {s : GBs} : strokeB nb n s = true ↔ SOk nb n s := by
 unfold strokeB
 simp only [Bool.and_eq_true, my, List.all_eq_true]
 constructor
 ·rintro ⟨h1, ⟨h2, h3⟩, h4, h5⟩
  exact ⟨by omega, by omega, fun k hk => by have := h4 k hk; omega, h5⟩
 ·rintro ⟨h1, h2, h3, h4⟩
  exact ⟨by omega, ⟨by omega, by omega⟩, fun k hk => by have := h3 k hk; omega, h4⟩
theorem BOk.s {b : GBk} (h : BOk b) {i : Nat} {s : GBs} (hs : b.Strokes[i]? = some s) : SOk b.Boards.length i s := VD.1 (h.st i s hs)
structure POk (b : GBk) (pl : List Int) : Prop where
 len : pl.length = b.Strokes.length
 may : ∀ (i : Nat) s h, b.Strokes[i]? = some s → pl[i]? = some h → (0 ≤ h ∧ h ≤ b.Apprentices) ∧ (h = 0 ∨ s.Round = false)
theorem Kt {a : Int} : ∀ (ss : List GBs) (hs : List Int), hs.length = ss.length → (planL a ss hs = true ↔ ∀ (i : Nat) s h, ss[i]? = some s → hs[i]? = some h → (0 ≤ h ∧ h ≤ a) ∧ (h = 0 ∨ s.Round = false))
 | [], [], _ => by simp [planL]
 | s :: ss, h :: hs, e => by
  simp only [planL, Bool.and_eq_true, Kt ss hs (by simpa using e), my, Bool.or_eq_true, beq_iff_eq, Bool.not_eq_true']
  constructor
  ·rintro ⟨h1, h2⟩ i x y hx hy
   cases i with
   | zero => simp at hx hy; subst hx hy; exact h1
   | succ i => exact h2 i x y (by simpa using hx) (by simpa using hy)
  ·intro hh
   exact ⟨hh 0 s h rfl rfl, fun i x y hx hy => hh (i + 1) x y (by simpa using hx) (by simpa using hy)⟩
theorem BS {b : GBk} {pl : List Int} : planB b pl = true ↔ POk b pl := by
 unfold planB
 simp only [Bool.and_eq_true, decide_eq_true_eq]
 constructor
 ·rintro ⟨h1, h2⟩; exact ⟨h1, (Kt _ _ h1).1 h2⟩
 ·rintro ⟨h1, h2⟩; exact ⟨h1, (Kt _ _ h1).2 h2⟩
def aI (k : Gbe) : Value := .agg ⟨[.int .i64 k.stroke, .int .i64 k.hours]⟩
def dP (a b : Gbe) : Bool := ((a.stroke == b.stroke) && ((a.hours == b.hours) && true))
def bQ (n : Int) : VV := .lit (.int .i64 n)
theorem rC (a b : Gbe) : aH Tryz.prog (Op.equal 152 (aI a) (aI b)) = some (dP a b) := by
 unfold Op.equal
 exact Ku 5 152 _ _ _ (by kernel_rfl) 9995
theorem rD (b : Bool) (k : Gbe) : aH Tryz.prog (Instr.checkKey b 10000 152 (aI k)) = some () := by
 cases b <;> kernel_rfl
theorem mU (a b : Gbe) (h : dP a b = true) : a = b := by
 obtain ⟨astroke, ahours⟩ := a
 obtain ⟨bstroke, bhours⟩ := b
 simp only [dP, Bool.and_true, Bool.and_eq_true, beq_iff_eq] at h
 simp only [h]
theorem zF (a : Gbe) : Instr.sameBits 10000 (aI a) (aI a) = true := by
 simp [aI, Instr.sameBits]
theorem VE : ((Tryz.prog.info? 3).bind (·.zero)).map ofVal2 = some (bQ 0) := by kernel_rfl
theorem rE (k : Gbe) : VV.val? (.agg [.lit (.int .i64 k.stroke), .lit (.int .i64 k.hours)]) = some (aI k) := rfl
theorem xu {β : Nat} (l : List (Gbe × Int)) (k : Gbe) (H : Nat → Option VObj) (hb : H β = some (.map (encM aI bQ l))) : vlookup Tryz.prog H 90 (.mp β) (.agg [.lit (.int .i64 k.stroke), .lit (.int .i64 k.hours)]) true = some (.tup [.lit (.int .i64 (mapGet dP 0 l k)), .lit (.bool (mapHas dP l k))]) :=
 UE Tryz.underlying90 Tryz.underlying152 rC rD VE (rE k) hb
theorem xv {β : Nat} (l : List (Gbe × Int)) (k : Gbe) (n : Int) (H : Nat → Option VObj) (hb : H β = some (.map (encM aI bQ l))) : vmapUpdate Tryz.prog H 90 (.mp β) (.agg [.lit (.int .i64 k.stroke), .lit (.int .i64 k.hours)]) (.lit (.int .i64 n)) = some (.upd β (.map (encM aI bQ (mapSet dP l k n)))) :=
 Hb Tryz.underlying90 Tryz.underlying152 rC rD mU zF (rE k) hb
theorem Kv {c : VV} {cs : List VV} : vload Tryz.prog 90 (c :: cs) = some c := by
 have h1 : aggT Tryz.prog 90 = some false := by kernel_rfl
 simp [vload, vpart, h1]
theorem Kw : szT Tryz.prog 90 = some 1 := by kernel_rfl
theorem zG : vzl Tryz.prog 90 = some [.lit (.map none)] := by kernel_rfl
def mqr := (And.intro @Hm (And.intro @Ho True.intro))
def mqt := (And.intro @Kv (And.intro @Kw @zG))
def sy (rc : GBk → (List Int) → Int → Int → (List (Gbe × Int)) → Option ((Int) × List (Gbe × Int))) (aa : GBk) (ag : List Int) (ah : Int) (aj : Int) (l0 : List (Gbe × Int)) : Nat → Int → Option (LOut ((Int) × List (Gbe × Int)) (Int))
 | 0, _ => none
 | k0 + 1, dt => cond (decide (dt ≥ 0)) (Option.bind (getI ag dt) (fun x1 => Option.bind (getI ag ah) (fun x2 => cond (x1 == x2) (Option.bind (rc aa ag dt aj l0) (fun r3 => some (.ret (r3.1, r3.2)))) (sy rc aa ag ah aj l0 k0 (i64.wrap (dt - 1)))))) (some (.go dt))
def xn (rc : GBk → (List Int) → Int → Int → (List (Gbe × Int)) → Option ((Int) × List (Gbe × Int))) (aa : GBk) (ag : List Int) (ah : Int) (aj : Int) (l0 : List (Gbe × Int)) : Option ((Int) × List (Gbe × Int)) := aT (sy rc aa ag ah aj l0 1000000 (i64.wrap (ah - 1))) (fun r5 => some r5) (fun c4 => some (0, l0)) (fun _ _ => none)
theorem Tn (rc : GBk → (List Int) → Int → Int → (List (Gbe × Int)) → Option ((Int) × List (Gbe × Int))) (rc_ok : ∀ (aa : GBk) (ag : List Int) (ah : Int) (aj : Int) (l0 : List (Gbe × Int)) (R : (Int) × List (Gbe × Int)), rc aa ag ah aj l0 = some R → VUpd Tryz.prog G0 118 (fun β => [.agg [.lit (.int .i64 aa.Apprentices), .sl (ae eI aa.Boards) (List.length aa.Boards) false, .sl (ae cGBs aa.Strokes) (List.length aa.Strokes) false, .sl (ae eI ag) (List.length ag) false, .mp β], .lit (.int .i64 ah), .lit (.int .i64 aj)]) (encM aI bQ l0) (encM aI bQ R.2) (fun _ => .lit (.int .i64 R.1))) (aa : GBk) (ag : List Int) (ah : Int) (aj : Int) (l0 : List (Gbe × Int)) (R : (Int) × List (Gbe × Int)) (h : xn rc aa ag ah aj l0 = some R) : VUpd Tryz.prog G0 108 (fun β => [.agg [.lit (.int .i64 aa.Apprentices), .sl (ae eI aa.Boards) (List.length aa.Boards) false, .sl (ae cGBs aa.Strokes) (List.length aa.Strokes) false, .sl (ae eI ag) (List.length ag) false, .mp β], .lit (.int .i64 ah), .lit (.int .i64 aj)]) (encM aI bQ l0) (encM aI bQ R.2) (fun _ => .lit (.int .i64 R.1)) := by
 intro bp nx hlt
 have aZ := hY (β := bp) (nx := nx) hlt
 refine aB.run mixed Tryz.call108 Tryz.func108 rfl (by simp [Tryz.ntmps108]; kernel_rfl) ?_
 obtain ⟨KF, h, kF, kN⟩ := cR h
 simp only [xn] at h
 simp only [vz, mq, mqm, vsi, tyf, mqt, aZ, nm, seval]
 obtain ⟨K6, h, CQ, Kh, VB, tA⟩ := fa h kN
 obtain ⟨f6, Ki, h⟩ := call2 h
 obtain ⟨I6, rA⟩ : ∃ I : Nat → St → Prop, I = (fun m st => ∃ (p6 : Nat) (lW : Int), p6 = m ∧ st.df = [] ∧ nx + 5 ≤ st.nx ∧ st.H bp = some (.map (encM aI bQ l0)) ∧ st.H nx = some (.cells (some 92) ((cGBk aa) ++ [.sl (ae eI ag) (List.length ag) false] ++ [.mp bp])) ∧ st.tm 1 = .lit (.int .i64 ah) ∧ st.tm 2 = .lit (.int .i64 aj) ∧ st.tm 3 = .ptr nx 0 ∧ st.tm 7 = .lit (.int .i64 lW) ∧ K6 (f6 p6 lW)) := ⟨_, rfl⟩
 refine loopK mixed (by kernel_rfl) I6 1000000 (by rw [rA]; refine ⟨1000000, i64.wrap (ah - 1), rfl, rfl, (show nx + 5 ≤ nx + 5 by omega), ?_, ?_, ?_, ?_, ?_, ?_, h⟩ <;> first | (simp only [ua, bL, aZ, nm, seval] <;> rfl) | rfl) ?_
 rintro m ⟨tm, H, tB, df⟩ hinv
 rw [rA] at hinv
 obtain ⟨p6, lW, rfl, hdf, Kj, H7, H8, e9, bj, bG, bX, h⟩ := hinv
 simp only at hdf Kj H7 H8 e9 bj bG bX
 have tF := mn (a := nx) (m := 5) (b := tB) (by omega)
 have ka := hY (β := bp) (nx := tB) (by omega)
 subst hdf Ki
 cases p6 with
 | zero =>
  simp only [sy, hs, reduceCtorEq] at h
  exact absurd h tA
 | succ p6 =>
  simp only [sy, hs, reduceCtorEq] at h
  cases fk : (decide (lW ≥ 0))
  ·simp only [fk, hs] at h
   replace h := Kh _ h
   try dsimp only at h
   try simp only [hs] at h
   try simp only [vz, mq, mqm, vsi, tyf, mqt, aZ, tF, ka, e9, bj, bG, bX, H7, H8, fk, nm, seval]
   refine cz (x := (.lit (.int .i64 0))) (by first | (simp only [Tryz.results108, resV, resL, aO, cj, ck, uw, cr, tyf, mqt, aZ, tF, ka, H7, H8, fk, nm, seval] <;> rfl) | rfl) ?_
   obtain rfl := kF _ h
   refine ⟨(by first | rfl | assumption | (simp only [bc, bm, aZ, tF, ka, H7, H8, nm, seval] <;> rfl)), ?_⟩
   exact sq_of (jd (by simp only [tre, aK, mqr, Bool.and_self]) rfl)
  simp only [fk, hs] at h
  simp only [vz, mq, mqm, vsi, tyf, mqt, aZ, tF, ka, e9, bj, bG, bX, H7, H8, fk, nm, seval]
  refine j3 (fun tm => tm 1 = .lit (.int .i64 ah) ∧ tm 2 = .lit (.int .i64 aj) ∧ tm 3 = .ptr nx 0 ∧ tm 7 = .lit (.int .i64 lW) ∧ True) (by refine ⟨e9, bj, bG, bX, trivial⟩ <;> first | (simp only [ua, bL, aZ, tF, ka, e9, bj, bG, bX, H7, H8, fk, nm, seval] <;> rfl) | rfl) ?_
  rintro tm ⟨bD, bH, bR, cP, _⟩
  obtain ⟨Kx, mw, h⟩ := optI h tA
  try simp only [hs] at h
  obtain ⟨VG, m6, h⟩ := optI h tA
  try simp only [hs] at h
  cases hO : (Kx == VG)
  ·simp only [hO, hs] at h
   have Ky := And.intro aZ (And.intro tF (And.intro ka (And.intro H7 (And.intro H8 (And.intro fk hO)))))
   simp only [vz, mq, mqm, vsi, tyf, mqt, Ky, bD, bH, bR, cP, (aw mw), (aw m6), nm, seval]
   exact ⟨p6, Nat.lt_succ_self _, by rw [rA]; refine ⟨p6, i64.wrap (lW - 1), rfl, rfl, (show nx + 5 ≤ tB + 16 by omega), ?_, ?_, bD, bH, bR, ?_, (by first | exact h | (simp only [Ky]; exact h))⟩ <;> first | (simp only [ua, bL, Ky, bD, bH, bR, cP, nm, seval] <;> rfl) | rfl⟩
  simp only [hO, hs] at h
  have wq := And.intro aZ (And.intro tF (And.intro ka (And.intro H7 (And.intro H8 (And.intro fk hO)))))
  obtain ⟨zH, VH, h⟩ := optI h tA
  try simp only [hs] at h
  simp only [vz, mq, mqm, vsi, tyf, mqt, wq, bD, bH, bR, cP, (aw mw), (aw m6), nm, seval]
  refine kupd (VUpd.at (β := bp) (y := (fun _ => .lit (.int .i64 zH.1))) (rc_ok _ _ _ _ _ _ VH) (by omega) (by first | rfl | assumption | (simp only [bc, bm, wq, nm, seval] <;> rfl)) (by first | rfl | (simp only [nrm, aG, @cT, @fp] <;> rfl)) (gg (fun _ => rfl) _)) ?_
  refine gw (fun tm => tm 28 = .lit (.int .i64 zH.1) ∧ True) (by refine ⟨?_, trivial⟩ <;> first | (simp only [ua, bL, wq, bD, bH, bR, cP, nm, seval] <;> rfl) | rfl) ?_
  rintro tm ⟨cI, _⟩
  try simp only [vz, mq, mqm, vsi, tyf, mqt, wq, (aw mw), (aw m6), cI, nm, seval]
  refine cz (x := (.lit (.int .i64 zH.1))) (by first | (simp only [Tryz.results108, resV, resL, aO, cj, ck, uw, cr, tyf, mqt, wq, (aw mw), (aw m6), nm, seval] <;> rfl) | rfl) ?_
  replace h := CQ _ h
  try dsimp only at h
  obtain rfl := kF _ h
  refine ⟨(by first | rfl | assumption | (simp only [bc, bm, wq, nm, seval] <;> rfl)), ?_⟩
  exact sq_of (jd (by simp only [tre, aK, mqr, Bool.and_self]) rfl)
def vK  : List Int → Int → Int → Option (LOut (Int) (Int))
 | [], fq, dj => some (.go dj)
 | e0 :: p0, fq, dj => vK p0 (fq + 1) (if dj < e0 then e0 else dj)
def pC (bt : List Int) : Option (Int) := cond (aF bt) (aT (vK bt 0 0) (fun r2 => some r2) (fun c1 => some c1) (fun _ _ => none)) none
theorem xp (bt : List Int) (R : Int) (h : pC bt = some R) : al Tryz.prog G0 105 [.sl (ae eI bt) (List.length bt) false] (.tree (.lit (.int .i64 R))) := by
 refine al.runR mixed Tryz.call105 Tryz.func105 rfl (by simp [Tryz.ntmps105]; kernel_rfl) ?_
 obtain ⟨KF, h, kF, kN⟩ := cR h
 simp only [pC] at h
 cases g4 : (aF bt)
 ·simp only [g4, hs] at h
  exact absurd h kN
 simp only [g4, hs] at h
 simp only [vz, tyf, g4, nm, seval]
 obtain ⟨K3, h, qQ, lA, xk, pn⟩ := fa h kN
 obtain ⟨f3, mM, h⟩ := call3 h
 obtain ⟨I3, fV⟩ : ∃ I : Nat → St → Prop, I = (fun m st => ∃ (p3 : List Int) (dG : Int) (cE : Int), m = List.length p3 ∧ 0 ≤ dG ∧ List.drop (Int.toNat dG) bt = p3 ∧ st.df = [] ∧ 5 ≤ st.nx ∧ st.tm 6 = .sl (ae eI bt) (List.length bt) false ∧ st.tm 7 = .lit (.int .i64 (List.length bt : Int)) ∧ st.tm 3 = .lit (.int .i64 cE) ∧ st.tm 8 = .lit (.int .i64 dG) ∧ K3 (f3 p3 dG cE)) := ⟨_, rfl⟩
 refine loopK mixed (by kernel_rfl) I3 (List.length bt) (by rw [fV]; refine ⟨bt, 0, 0, rfl, Int.le_refl _, rfl, rfl, (show 5 ≤ 5 by omega), ?_, ?_, ?_, ?_, h⟩ <;> first | (simp only [ua, nm, seval] <;> rfl) | rfl) ?_
 rintro m ⟨tm, H, fh, df⟩ hinv
 rw [fV] at hinv
 obtain ⟨p3, dG, cE, rfl, cu, dg, hdf, mN, e5, e6, e7, e8, h⟩ := hinv
 simp only at hdf mN e5 e6 e7 e8
 have n9 := fb (m := 5) (b := fh) (by omega)
 subst hdf mM
 cases p3 with
 | nil =>
  have gJ : (decide (dG < (List.length bt : Int))) = false := fc cu dg
  simp only [vK, hs, reduceCtorEq] at h
  replace h := lA _ h
  try dsimp only at h
  try simp only [hs] at h
  try simp only [vz, tyf, g4, n9, e5, e6, e7, e8, gJ, nm, seval]
  refine cz (x := (.lit (.int .i64 cE))) (by first | (simp only [Tryz.results105, resV, resL, aO, cj, ck, uw, cr, tyf, g4, n9, gJ, nm, seval] <;> rfl) | rfl) ?_
  obtain rfl := kF _ h
  refine gV ?_ ?_
  ·simp only [tre, aK, Bool.and_self]
  ·first | (simp only [outV, uw, gq, cr, tyf, nrm, aG, g4, n9, e5, e6, e7, e8, gJ, nm, seval] <;> rfl) | rfl
 | cons e3 p3 =>
  have bS : (decide (dG < (List.length bt : Int))) = true := fe cu dg
  have gH := dD cu dg
  have hJ := eG cu dg g4
  simp only [vK, hs, reduceCtorEq] at h
  simp only [vz, tyf, g4, n9, e5, e6, e7, e8, bS, (aw gH), hJ, nm, seval]
  exact ⟨List.length p3, Nat.lt_succ_self _, by rw [fV]; refine ⟨p3, dG + 1, (if cE < e3 then e3 else cE), rfl, Int.le_trans cu (Int.le_add_one (Int.le_refl _)), cC cu dg, rfl, (show 5 ≤ fh + 10 by omega), e5, e6, ?_, ?_, (by first | exact h | (simp only [bS]; exact h))⟩ <;> first | (simp only [ua, n9, e5, e6, e7, e8, bS, hJ, nm, seval] <;> rfl) | rfl⟩
end Go.V
end
