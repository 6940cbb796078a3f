/- Part of a proof. -/
import Derived.Test.YtlkognggeadanaaGreatDoorWbi
set_option linter.all false
set_option maxRecDepth 4000
set_option maxHeartbeats 40000000
section
namespace Go.V
open Go Go.Proofs IntKind
def wc (ae : GSpan) (fQ : Int) : Option (Bool) := Option.bind (l8 ae.Low 0 fQ) (fun r1 => cond (r1) (Option.bind (l8 ae.High ae.Low fQ) (fun r2 => some r2)) (some false))
theorem Kc (ae : GSpan) (fQ : Int) (R : Bool) (h : wc ae fQ = some R) : ag Tryz.prog G0 76 [.agg (cGSpan ae), .lit (.int .i64 fQ)] (.tree (.lit (.bool R))) := by
 refine ag.runR mixed Tryz.call76 Tryz.func76 rfl (by simp [Tryz.ntmps76]; kernel_rfl) ?_
 obtain ⟨KF, h, kF, kN⟩ := dZ h
 simp only [wc] at h
 obtain ⟨r3, o4, h⟩ := optI h kN
 try simp only [hs] at h
 simp only [vz, tyf, nm, seval]
 refine ktA (nW _ _ _ _ o4) ?_
 refine bt (fun tm => tm 1 = .lit (.int .i64 fQ) ∧ tm 2 = .ptr 0 0 ∧ tm 8 = .lit (.bool r3) ∧ True) (by refine ⟨?_, ?_, ?_, trivial⟩ <;> first | (simp only [ua, nm, seval] <;> rfl) | rfl) ?_
 rintro tm ⟨e5, e6, e7, _⟩
 cases d8 : (r3)
 ·simp only [d8, hs] at h
  try simp only [vz, tyf, e5, e6, e7, d8, nm, seval]
  obtain rfl := kF _ h
  exact bd Tryz.results76 rfl
 simp only [d8, hs] at h
 obtain ⟨r9, Ke, h⟩ := optI h kN
 try simp only [hs] at h
 simp only [vz, tyf, e5, e6, e7, d8, nm, seval]
 refine ktA (nW _ _ _ _ Ke) ?_
 refine bt (fun tm => tm 9 = .lit (.bool true) ∧ tm 15 = .lit (.bool r9) ∧ True) (by refine ⟨?_, ?_, trivial⟩ <;> first | (simp only [ua, e5, e6, e7, d8, nm, seval] <;> rfl) | rfl) ?_
 rintro tm ⟨bm, bU, _⟩
 try simp only [vz, tyf, d8, bm, bU, nm, seval]
 obtain rfl := kF _ h
 exact bd Tryz.results76 rfl
theorem ag.runRQ {P : Program} {G : Glob} (hm : P.follows .mixedOrders = true) {f : FuncId} {fn : Func} {code : Code} {args : List VV} {r : PRes} (hc : Callable P f) (hf : P.funcs[f]? = some fn) (hb : fn.body = some code)
  (hst : (decide (args.length ≤ fn.ntmps) && codeQ fn.ntmps code) = true) (h : CWp P (G.at (some none)) fn.ntmps code (OpenPostD P G fn (RR r) (RPn r)) { tm := argsTm args, H := fun _ => none, nx := 0, df := [] }) : ag P G f args r := by
 rw [Bool.and_eq_true] at hst
 exact ag.runR hm hc hf hb (by rw [Bool.and_eq_true]; exact ⟨hst.1, oS hst.2⟩) h
def ta (ae : GLs) : List GLp → Int → Option (LOut (Bool) (Unit))
 | [], fC => some (.go ())
 | e0 :: p0, fC => Option.bind (we ae e0.Left) (fun r1 => cond (r1) (Option.bind (we ae e0.Right) (fun r2 => cond (r2) (Option.bind (wc e0.Space 9) (fun r3 => cond (r3) (cond (decide (fC > 0)) (Option.bind (getI ae.Pairs (i64.wrap (fC - 1))) (fun x4 => cond (decide (x4.Left > e0.Left)) (some (.ret false)) (cond (x4.Left == e0.Left) (cond (decide (x4.Right ≥ e0.Right)) (some (.ret false)) (ta ae p0 (fC + 1))) (ta ae p0 (fC + 1))))) (ta ae p0 (fC + 1))) (some (.ret false)))) (some (.ret false)))) (some (.ret false)))
def AA (ae : GLs) : Option (Bool) := cond (lenOk ae.Pairs) (lbind (ta ae ae.Pairs 0) (fun r6 => some r6) (fun c5 => some (decide ((List.length ae.Pairs : Int) ≤ 6))) (fun _ _ => none)) none
theorem Y7 (ae : GLs) (R : Bool) (h : AA ae = some R) : ag Tryz.prog G0 75 [.agg (cGLs ae)] (.tree (.lit (.bool R))) := by
 refine ag.runRQ mixed Tryz.call75 Tryz.func75 rfl (by simp [Tryz.ntmps75]; kernel_rfl) ?_
 obtain ⟨KF, h, kF, kN⟩ := dZ h
 simp only [AA] at h
 cases g8 : (lenOk ae.Pairs)
 ·simp only [g8, hs] at h
  exact absurd h kN
 simp only [g8, hs] at h
 simp only [vz, tyf, g8, nm, seval]
 obtain ⟨K7, h, AB, Y8, kB7, F8⟩ := fP h kN
 obtain ⟨f7, Y9, h⟩ := call2 h
 obtain ⟨I7, AD⟩ : ∃ I : Nat → St → Prop, I = (fun m st => ∃ (p7 : List GLp) (gm : Int), m = List.length p7 ∧ 0 ≤ gm ∧ List.drop (Int.toNat gm) ae.Pairs = p7 ∧ st.df = [] ∧ 3 ≤ st.nx ∧ st.H 0 = some (.cells (some 28) (cGLs ae)) ∧ st.tm 1 = .ptr 0 0 ∧ st.tm 3 = .lit (.int .i64 gm) ∧ K7 (f7 p7 gm)) := ⟨_, rfl⟩
 refine loopK mixed (oS (by kernel_rfl)) I7 (List.length ae.Pairs) (by rw [AD]; refine ⟨ae.Pairs, 0, rfl, Int.le_refl _, rfl, rfl, (show 3 ≤ 3 by omega), ?_, ?_, ?_, h⟩ <;> first | (simp only [ua, nm, seval] <;> rfl) | rfl) ?_
 rintro m ⟨tm, H, vc, df⟩ hinv
 rw [AD] at hinv
 obtain ⟨p7, gm, rfl, tc, wg, hdf, YA, H9, bj, bm, h⟩ := hinv
 simp only at hdf YA H9 bj bm
 have il := fO (m := 3) (b := vc) (by omega)
 subst hdf Y9
 cases p7 with
 | nil =>
  have bB : (decide (gm < (List.length ae.Pairs : Int))) = false := eZ tc wg
  simp only [ta, hs, reduceCtorEq] at h
  replace h := Y8 _ h
  try dsimp only at h
  try simp only [hs] at h
  try simp only [vz, tyf, g8, il, bj, bm, H9, bB, nm, seval]
  obtain rfl := kF _ h
  exact bd Tryz.results75 rfl
 | cons e7 p7 =>
  have bQ : (decide (gm < (List.length ae.Pairs : Int))) = true := eY tc wg
  have iW := dY tc wg
  have mV := fa tc wg g8
  simp only [ta, hs, reduceCtorEq] at h
  obtain ⟨F9, qS, h⟩ := optI h F8
  try simp only [hs] at h
  simp only [vz, tyf, g8, il, bj, bm, H9, bQ, (cB iW), mV, nm, seval]
  refine ktA (Kf _ _ _ qS) ?_
  refine bt (fun tm => tm 1 = .ptr 0 0 ∧ tm 3 = .lit (.int .i64 gm) ∧ tm 4 = .ptr (vc + 10) 0 ∧ tm 20 = .lit (.bool F9) ∧ True) (by refine ⟨bj, bm, ?_, ?_, trivial⟩ <;> first | (simp only [ua, il, bj, bm, H9, bQ, mV, nm, seval] <;> rfl) | rfl) ?_
  rintro tm ⟨db, gR, eE, cE, _⟩
  cases lJ : (F9)
  ·simp only [lJ, hs] at h
   try simp only [vz, tyf, g8, il, H9, bQ, (cB iW), mV, db, gR, eE, cE, lJ, nm, seval]
   replace h := AB _ h
   try dsimp only at h
   obtain rfl := kF _ h
   exact bd Tryz.results75 rfl
  simp only [lJ, hs] at h
  obtain ⟨AE, vd, h⟩ := optI h F8
  try simp only [hs] at h
  simp only [vz, tyf, g8, il, H9, bQ, (cB iW), mV, db, gR, eE, cE, lJ, nm, seval]
  refine ktA (Kf _ _ _ vd) ?_
  refine bt (fun tm => tm 1 = .ptr 0 0 ∧ tm 3 = .lit (.int .i64 gm) ∧ tm 4 = .ptr (vc + 10) 0 ∧ tm 22 = .lit (.bool false) ∧ tm 26 = .lit (.bool AE) ∧ True) (by refine ⟨db, gR, eE, ?_, ?_, trivial⟩ <;> first | (simp only [ua, il, H9, bQ, mV, db, gR, eE, cE, lJ, nm, seval] <;> rfl) | rfl) ?_
  rintro tm ⟨cy, cO, eu, gn, bS, _⟩
  cases im : (AE)
  ·simp only [im, hs] at h
   have YB := And.intro g8 (And.intro il (And.intro H9 (And.intro bQ (And.intro mV (And.intro lJ im)))))
   try simp only [vz, tyf, YB, (cB iW), cy, cO, eu, gn, bS, nm, seval]
   replace h := AB _ h
   try dsimp only at h
   obtain rfl := kF _ h
   exact bd Tryz.results75 rfl
  simp only [im, hs] at h
  have m5 := And.intro g8 (And.intro il (And.intro H9 (And.intro bQ (And.intro mV (And.intro lJ im)))))
  obtain ⟨AF, Kg, h⟩ := optI h F8
  try simp only [hs] at h
  simp only [vz, tyf, m5, (cB iW), cy, cO, eu, gn, bS, nm, seval]
  refine ktA (Kc _ _ _ Kg) ?_
  refine bt (fun tm => tm 1 = .ptr 0 0 ∧ tm 3 = .lit (.int .i64 gm) ∧ tm 4 = .ptr (vc + 10) 0 ∧ tm 29 = .lit (.bool false) ∧ tm 32 = .lit (.bool AF) ∧ True) (by refine ⟨cy, cO, eu, ?_, ?_, trivial⟩ <;> first | (simp only [ua, m5, cy, cO, eu, gn, bS, nm, seval] <;> rfl) | rfl) ?_
  rintro tm ⟨dj, cF, cb, cm, ck, _⟩
  cases eC : (AF)
  ·simp only [eC, hs] at h
   try simp only [vz, tyf, m5, (cB iW), dj, cF, cb, cm, ck, eC, nm, seval]
   replace h := AB _ h
   try dsimp only at h
   obtain rfl := kF _ h
   exact bd Tryz.results75 rfl
  simp only [eC, hs] at h
  simp only [vz, tyf, m5, (cB iW), dj, cF, cb, cm, ck, eC, nm, seval]
  refine kl (fun tm => tm 1 = .ptr 0 0 ∧ tm 3 = .lit (.int .i64 gm) ∧ tm 4 = .ptr (vc + 10) 0 ∧ True) (by refine ⟨dj, cF, cb, trivial⟩ <;> first | (simp only [ua, m5, dj, cF, cb, cm, ck, eC, nm, seval] <;> rfl) | rfl) ?_
  rintro tm ⟨bC, cn, dc, _⟩
  cases km : (decide (gm > 0))
  ·simp only [km, hs] at h
   simp only [vz, tyf, m5, (cB iW), eC, bC, cn, dc, km, nm, seval]
   exact ⟨List.length p7, Nat.lt_succ_self _, by rw [AD]; refine ⟨p7, gm + 1, rfl, Int.le_trans tc (Int.le_add_one (Int.le_refl _)), bJ tc wg, rfl, (show 3 ≤ vc + 71 by omega), ?_, bC, ?_, (by first | exact h | (simp only [m5, eC, km]; exact h))⟩ <;> first | (simp only [ua, m5, eC, bC, cn, dc, km, nm, seval] <;> rfl) | rfl⟩
  simp only [km, hs] at h
  obtain ⟨Kh, yH, h⟩ := optI h F8
  try simp only [hs] at h
  cases gS : (decide (Kh.Left > e7.Left))
  ·simp only [gS, hs] at h
   cases nX : (Kh.Left == e7.Left)
   ·simp only [nX, hs] at h
    simp only [vz, tyf, m5, (cB iW), eC, bC, cn, dc, km, (cB yH), gS, nX, nm, seval]
    exact ⟨List.length p7, Nat.lt_succ_self _, by rw [AD]; refine ⟨p7, gm + 1, rfl, Int.le_trans tc (Int.le_add_one (Int.le_refl _)), bJ tc wg, rfl, (show 3 ≤ vc + 71 by omega), ?_, bC, ?_, (by first | exact h | (simp only [m5, eC, km, gS, nX]; exact h))⟩ <;> first | (simp only [ua, m5, eC, bC, cn, dc, km, gS, nX, nm, seval] <;> rfl) | rfl⟩
   simp only [nX, hs] at h
   cases oU : (decide (Kh.Right ≥ e7.Right))
   ·simp only [oU, hs] at h
    simp only [vz, tyf, m5, (cB iW), eC, bC, cn, dc, km, (cB yH), gS, nX, oU, nm, seval]
    exact ⟨List.length p7, Nat.lt_succ_self _, by rw [AD]; refine ⟨p7, gm + 1, rfl, Int.le_trans tc (Int.le_add_one (Int.le_refl _)), bJ tc wg, rfl, (show 3 ≤ vc + 71 by omega), ?_, bC, ?_, (by first | exact h | (simp only [m5, eC, km, gS, nX, oU]; exact h))⟩ <;> first | (simp only [ua, m5, eC, bC, cn, dc, km, gS, nX, oU, nm, seval] <;> rfl) | rfl⟩
   simp only [oU, hs] at h
   try simp only [vz, tyf, m5, (cB iW), eC, bC, cn, dc, km, (cB yH), gS, nX, oU, nm, seval]
   replace h := AB _ h
   try dsimp only at h
   obtain rfl := kF _ h
   exact bd Tryz.results75 rfl
  simp only [gS, hs] at h
  try simp only [vz, tyf, m5, (cB iW), eC, bC, cn, dc, km, (cB yH), gS, nm, seval]
  replace h := AB _ h
  try dsimp only at h
  obtain rfl := kF _ h
  exact bd Tryz.results75 rfl
def AG (eF : Int) : Option (Bool) := Option.bind (l8 eF 1 400) (fun r1 => some r1)
theorem YC (eF : Int) (R : Bool) (h : AG eF = some R) : ag Tryz.prog G0 57 [.lit (.int .i64 eF)] (.tree (.lit (.bool R))) := by
 refine ag.runR mixed Tryz.call57 Tryz.func57 rfl (by simp [Tryz.ntmps57]; kernel_rfl) ?_
 obtain ⟨KF, h, kF, kN⟩ := dZ h
 simp only [AG] at h
 obtain ⟨r2, o3, h⟩ := optI h kN
 try simp only [hs] at h
 simp only [vz, tyf, nm, seval]
 refine ktA (nW _ _ _ _ o3) ?_
 refine bt (fun tm => tm 4 = .lit (.bool r2) ∧ True) (by refine ⟨?_, trivial⟩ <;> first | (simp only [ua, nm, seval] <;> rfl) | rfl) ?_
 rintro tm ⟨e4, _⟩
 try simp only [vz, tyf, e4, nm, seval]
 obtain rfl := kF _ h
 exact bd Tryz.results57 rfl
def yI (ae : GLs) : List GLw → Int → Option (LOut (Bool) (Unit))
 | [], AH => some (.go ())
 | e1 :: p1, AH => Option.bind (AI ae e1) (fun r3 => cond (r3) (yI ae p1 (AH + 1)) (some (.ret false)))
def yJ  : List Int → Int → Option (LOut (Bool) (Unit))
 | [], fC => some (.go ())
 | e0 :: p0, fC => Option.bind (l8 e0 1 20) (fun r1 => cond (r1) (yJ p0 (fC + 1)) (some (.ret false)))
def AJ (ae : GLs) : Option (Bool) := cond (lenOk ae.Widths) (lbind (yJ ae.Widths 0) (fun td => some td) (fun c2 => cond (lenOk ae.Words) (lbind (yI ae ae.Words 0) (fun tC => some tC) (fun c4 => Option.bind (l8 (List.length ae.Widths : Int) 1 6) (fun r5 => cond (r5) (Option.bind (AA ae) (fun r6 => cond (r6) (Option.bind (wc ae.Other 9) (fun r7 => cond (r7) (Option.bind (wc ae.Gap 20) (fun r8 => cond (r8) (Option.bind (l8 ae.Hyphen 1 20) (fun r9 => cond (r9) (Option.bind (l8 (List.length ae.Words : Int) 1 4) (fun Ki => cond (Ki) (Option.bind (AG ae.Wide) (fun qx => cond (qx) (Option.bind (l8 ae.Rows 1 3) (fun yK => some yK)) (some false))) (some false))) (some false))) (some false))) (some false))) (some false))) (some false))) (fun _ _ => none)) none) (fun _ _ => none)) none
theorem YD (ae : GLs) (R : Bool) (h : AJ ae = some R) : ag Tryz.prog G0 22 [.agg (cGLs ae)] (.tree (.lit (.bool R))) := by
 refine ag.runR mixed Tryz.call22 Tryz.func22 rfl (by simp [Tryz.ntmps22]; kernel_rfl) ?_
 obtain ⟨KF, h, kF, kN⟩ := dZ h
 simp only [AJ] at h
 cases qy : (lenOk ae.Widths)
 ·simp only [qy, hs] at h
  exact absurd h kN
 simp only [qy, hs] at h
 simp only [vz, tyf, qy, nm, seval]
 obtain ⟨YE, h, Kj, Kk, YF, Kl⟩ := fP h kN
 obtain ⟨YG, Km, h⟩ := call2 h
 obtain ⟨YH, wh⟩ : ∃ I : Nat → St → Prop, I = (fun m st => ∃ (vf : List Int) (gA : Int), m = List.length vf ∧ 0 ≤ gA ∧ List.drop (Int.toNat gA) ae.Widths = vf ∧ st.df = [] ∧ 3 ≤ st.nx ∧ st.H 0 = some (.cells (some 28) (cGLs ae)) ∧ st.tm 1 = .ptr 0 0 ∧ st.tm 3 = .lit (.int .i64 gA) ∧ YE (YG vf gA)) := ⟨_, rfl⟩
 refine loopK mixed (by kernel_rfl) YH (List.length ae.Widths) (by rw [wh]; refine ⟨ae.Widths, 0, rfl, Int.le_refl _, rfl, rfl, (show 3 ≤ 3 by omega), ?_, ?_, ?_, h⟩ <;> first | (simp only [ua, nm, seval] <;> rfl) | rfl) ?_
 rintro m ⟨tm, H, mW, df⟩ hinv
 rw [wh] at hinv
 obtain ⟨vf, gA, rfl, oV, qT, hdf, Kn, nY, bT, db, h⟩ := hinv
 simp only at hdf Kn nY bT db
 have lK := fO (m := 3) (b := mW) (by omega)
 subst hdf Km
 cases vf with
 | nil =>
  have fR : (decide (gA < (List.length ae.Widths : Int))) = false := eZ oV qT
  simp only [yJ, hs, reduceCtorEq] at h
  replace h := Kk _ h
  try dsimp only at h
  try simp only [hs] at h
  cases lL : (lenOk ae.Words)
  ·simp only [lL, hs] at h
   exact absurd h kN
  simp only [lL, hs] at h
  simp only [vz, tyf, qy, lK, bT, db, nY, fR, lL, nm, seval]
  obtain ⟨Ko, h, mX, wj, Kp, jI⟩ := fP h kN
  obtain ⟨Kq, wm, h⟩ := call2 h
  obtain ⟨Ks, jJ⟩ : ∃ I : Nat → St → Prop, I = (fun m st => ∃ (jg : List GLw) (gj : Int), m = List.length jg ∧ 0 ≤ gj ∧ List.drop (Int.toNat gj) ae.Words = jg ∧ st.df = [] ∧ mW + 6 ≤ st.nx ∧ st.H 0 = some (.cells (some 28) (cGLs ae)) ∧ st.tm 1 = .ptr 0 0 ∧ st.tm 4 = .lit (.int .i64 gj) ∧ Ko (Kq jg gj)) := ⟨_, rfl⟩
  refine loopK mixed (by kernel_rfl) Ks (List.length ae.Words) (by rw [jJ]; refine ⟨ae.Words, 0, rfl, Int.le_refl _, rfl, rfl, (show mW + 6 ≤ mW + 6 by omega), ?_, bT, ?_, h⟩ <;> first | (simp only [ua, lK, bT, db, nY, fR, nm, seval] <;> rfl) | rfl) ?_
  rintro m ⟨tm, H, gW, df⟩ hinv
  rw [jJ] at hinv
  obtain ⟨jg, gj, rfl, fb, gB, hdf, wo, mY, cM, cy, h⟩ := hinv
  simp only at hdf wo mY cM cy
  have yL := fO (m := 3) (b := gW) (by omega)
  have jh := tA (a := mW) (m := 6) (b := gW) (by omega)
  subst hdf wm
  cases jg with
  | nil =>
   have dL : (decide (gj < (List.length ae.Words : Int))) = false := eZ fb gB
   simp only [yI, hs, reduceCtorEq] at h
   replace h := wj _ h
   try dsimp only at h
   try simp only [hs] at h
   obtain ⟨AK, Kt, h⟩ := optI h kN
   try simp only [hs] at h
   simp only [vz, tyf, qy, lK, fR, lL, yL, jh, cM, cy, mY, dL, nm, seval]
   refine ktA (nW _ _ _ _ Kt) ?_
   refine bt (fun tm => tm 1 = .ptr 0 0 ∧ tm 37 = .lit (.bool AK) ∧ True) (by refine ⟨cM, ?_, trivial⟩ <;> first | (simp only [ua, lK, fR, yL, jh, cM, cy, mY, dL, nm, seval] <;> rfl) | rfl) ?_
   rintro tm ⟨lM, fX, _⟩
   have lN := And.intro qy (And.intro lK (And.intro fR (And.intro lL (And.intro yL (And.intro jh (And.intro mY dL))))))
   cases gX : (AK)
   ·simp only [gX, hs] at h
    try simp only [vz, tyf, lN, lM, fX, gX, nm, seval]
    obtain rfl := kF _ h
    exact bd Tryz.results22 rfl
   simp only [gX, hs] at h
   obtain ⟨AM, Ku, h⟩ := optI h kN
   try simp only [hs] at h
   simp only [vz, tyf, lN, lM, fX, gX, nm, seval]
   refine ktA (Y7 _ _ Ku) ?_
   refine bt (fun tm => tm 1 = .ptr 0 0 ∧ tm 38 = .lit (.bool true) ∧ tm 40 = .lit (.bool AM) ∧ True) (by refine ⟨lM, ?_, ?_, trivial⟩ <;> first | (simp only [ua, lN, lM, fX, gX, nm, seval] <;> rfl) | rfl) ?_
   rintro tm ⟨cb, cm, ck, _⟩
   cases eC : (AM)
   ·simp only [eC, hs] at h
    try simp only [vz, tyf, lN, gX, cb, cm, ck, eC, nm, seval]
    obtain rfl := kF _ h
    exact bd Tryz.results22 rfl
   simp only [eC, hs] at h
   obtain ⟨UW, Kv, h⟩ := optI h kN
   try simp only [hs] at h
   simp only [vz, tyf, lN, gX, cb, cm, ck, eC, nm, seval]
   refine ktA (Kc _ _ _ Kv) ?_
   refine bt (fun tm => tm 1 = .ptr 0 0 ∧ tm 42 = .lit (.bool true) ∧ tm 45 = .lit (.bool UW) ∧ True) (by refine ⟨cb, ?_, ?_, trivial⟩ <;> first | (simp only [ua, lN, gX, cb, cm, ck, eC, nm, seval] <;> rfl) | rfl) ?_
   rintro tm ⟨dc, iq, gT, _⟩
   cases fY : (UW)
   ·simp only [fY, hs] at h
    try simp only [vz, tyf, lN, gX, eC, dc, iq, gT, fY, nm, seval]
    obtain rfl := kF _ h
    exact bd Tryz.results22 rfl
   simp only [fY, hs] at h
   obtain ⟨UX, YI, h⟩ := optI h kN
   try simp only [hs] at h
   simp only [vz, tyf, lN, gX, eC, dc, iq, gT, fY, nm, seval]
   refine ktA (Kc _ _ _ YI) ?_
   refine bt (fun tm => tm 1 = .ptr 0 0 ∧ tm 47 = .lit (.bool true) ∧ tm 50 = .lit (.bool UX) ∧ True) (by refine ⟨dc, ?_, ?_, trivial⟩ <;> first | (simp only [ua, lN, gX, eC, dc, iq, gT, fY, nm, seval] <;> rfl) | rfl) ?_
   rintro tm ⟨jD, jK, m6, _⟩
   cases nZ : (UX)
   ·simp only [nZ, hs] at h
    try simp only [vz, tyf, lN, gX, eC, fY, jD, jK, m6, nZ, nm, seval]
    obtain rfl := kF _ h
    exact bd Tryz.results22 rfl
   simp only [nZ, hs] at h
   obtain ⟨UY, YJ, h⟩ := optI h kN
   try simp only [hs] at h
   simp only [vz, tyf, lN, gX, eC, fY, jD, jK, m6, nZ, nm, seval]
   refine ktA (nW _ _ _ _ YJ) ?_
   refine bt (fun tm => tm 1 = .ptr 0 0 ∧ tm 52 = .lit (.bool true) ∧ tm 55 = .lit (.bool UY) ∧ True) (by refine ⟨jD, ?_, ?_, trivial⟩ <;> first | (simp only [ua, lN, gX, eC, fY, jD, jK, m6, nZ, nm, seval] <;> rfl) | rfl) ?_
   rintro tm ⟨lO, mZ, l9, _⟩
   cases fZ : (UY)
   ·simp only [fZ, hs] at h
    try simp only [vz, tyf, lN, gX, eC, fY, nZ, lO, mZ, l9, fZ, nm, seval]
    obtain rfl := kF _ h
    exact bd Tryz.results22 rfl
   simp only [fZ, hs] at h
   obtain ⟨AN, Kw, h⟩ := optI h kN
   try simp only [hs] at h
   simp only [vz, tyf, lN, gX, eC, fY, nZ, lO, mZ, l9, fZ, nm, seval]
   refine ktA (nW _ _ _ _ Kw) ?_
   refine bt (fun tm => tm 1 = .ptr 0 0 ∧ tm 57 = .lit (.bool true) ∧ tm 61 = .lit (.bool AN) ∧ True) (by refine ⟨lO, ?_, ?_, trivial⟩ <;> first | (simp only [ua, lN, gX, eC, fY, nZ, lO, mZ, l9, fZ, nm, seval] <;> rfl) | rfl) ?_
   rintro tm ⟨fx, f2, gp, _⟩
   cases m7 : (AN)
   ·simp only [m7, hs] at h
    have YK := And.intro lN (And.intro gX (And.intro eC (And.intro fY (And.intro nZ (And.intro fZ m7)))))
    try simp only [vz, tyf, YK, fx, f2, gp, nm, seval]
    obtain rfl := kF _ h
    exact bd Tryz.results22 rfl
   simp only [m7, hs] at h
   have yM := And.intro lN (And.intro gX (And.intro eC (And.intro fY (And.intro nZ (And.intro fZ m7)))))
   obtain ⟨AO, Kx, h⟩ := optI h kN
   try simp only [hs] at h
   simp only [vz, tyf, yM, fx, f2, gp, nm, seval]
   refine ktA (YC _ _ Kx) ?_
   refine bt (fun tm => tm 1 = .ptr 0 0 ∧ tm 63 = .lit (.bool true) ∧ tm 66 = .lit (.bool AO) ∧ True) (by refine ⟨fx, ?_, ?_, trivial⟩ <;> first | (simp only [ua, yM, fx, f2, gp, nm, seval] <;> rfl) | rfl) ?_
   rintro tm ⟨fc, lA, kL, _⟩
   cases yN : (AO)
   ·simp only [yN, hs] at h
    try simp only [vz, tyf, yM, fc, lA, kL, yN, nm, seval]
    obtain rfl := kF _ h
    exact bd Tryz.results22 rfl
   simp only [yN, hs] at h
   obtain ⟨YL, YM, h⟩ := optI h kN
   try simp only [hs] at h
   simp only [vz, tyf, yM, fc, lA, kL, yN, nm, seval]
   refine ktA (nW _ _ _ _ YM) ?_
   refine bt (fun tm => tm 68 = .lit (.bool true) ∧ tm 71 = .lit (.bool YL) ∧ True) (by refine ⟨?_, ?_, trivial⟩ <;> first | (simp only [ua, yM, fc, lA, kL, yN, nm, seval] <;> rfl) | rfl) ?_
   rintro tm ⟨fD, dN, _⟩
   try simp only [vz, tyf, yM, yN, fD, dN, nm, seval]
   obtain rfl := kF _ h
   exact bd Tryz.results22 rfl
  | cons cE jg =>
   have Ky : (decide (gj < (List.length ae.Words : Int))) = true := eY fb gB
   have FA := dY fb gB
   have Kz := fa fb gB lL
   simp only [yI, hs, reduceCtorEq] at h
   simp only [vz, tyf, qy, lK, fR, lL, yL, jh, cM, cy, mY, Ky, (aH FA), Kz, nm, seval]
   refine kl (fun tm => tm 1 = .ptr 0 0 ∧ tm 4 = .lit (.int .i64 gj) ∧ True) (by refine ⟨cM, cy, trivial⟩ <;> first | (simp only [ua, lK, fR, yL, jh, cM, cy, mY, Ky, Kz, nm, seval] <;> rfl) | rfl) ?_
   rintro tm ⟨bK, bL, _⟩
   have yO := And.intro qy (And.intro lK (And.intro fR (And.intro lL (And.intro yL (And.intro jh (And.intro mY (And.intro Ky Kz)))))))
   obtain ⟨UZ, YN, h⟩ := optI h jI
   try simp only [hs] at h
   simp only [vz, tyf, yO, (aH FA), bK, bL, nm, seval]
   refine dktA (YO _ _ _ YN) ?_
   refine bt (fun tm => tm 1 = .ptr 0 0 ∧ tm 4 = .lit (.int .i64 gj) ∧ tm 32 = .lit (.bool UZ) ∧ True) (by refine ⟨bK, bL, ?_, trivial⟩ <;> first | (simp only [ua, yO, bK, bL, nm, seval] <;> rfl) | rfl) ?_
   rintro tm ⟨bW, cl, ga, _⟩
   cases oW : (UZ)
   ·simp only [oW, hs] at h
    try simp only [vz, tyf, yO, (aH FA), bW, cl, ga, oW, nm, seval]
    replace h := mX _ h
    try dsimp only at h
    obtain rfl := kF _ h
    exact bd Tryz.results22 rfl
   simp only [oW, hs] at h
   simp only [vz, tyf, yO, (aH FA), bW, cl, ga, oW, nm, seval]
   exact ⟨List.length jg, Nat.lt_succ_self _, by rw [jJ]; refine ⟨jg, gj + 1, rfl, Int.le_trans fb (Int.le_add_one (Int.le_refl _)), bJ fb gB, rfl, (show mW + 6 ≤ gW + 16 by omega), ?_, bW, ?_, (by first | exact h | (simp only [yO, oW]; exact h))⟩ <;> first | (simp only [ua, yO, bW, cl, ga, oW, nm, seval] <;> rfl) | rfl⟩
 | cons dO vf =>
  have qU : (decide (gA < (List.length ae.Widths : Int))) = true := eY oV qT
  have K1 := dY oV qT
  have AP := fa oV qT qy
  simp only [yJ, hs, reduceCtorEq] at h
  obtain ⟨AQ, vg, h⟩ := optI h Kl
  try simp only [hs] at h
  simp only [vz, tyf, qy, lK, bT, db, nY, qU, (au K1), AP, nm, seval]
  refine ktA (nW _ _ _ _ vg) ?_
  refine bt (fun tm => tm 1 = .ptr 0 0 ∧ tm 3 = .lit (.int .i64 gA) ∧ tm 17 = .lit (.bool AQ) ∧ True) (by refine ⟨bT, db, ?_, trivial⟩ <;> first | (simp only [ua, lK, bT, db, nY, qU, AP, nm, seval] <;> rfl) | rfl) ?_
  rintro tm ⟨m8, lP, na, _⟩
  cases yP : (AQ)
  ·simp only [yP, hs] at h
   try simp only [vz, tyf, qy, lK, nY, qU, (au K1), AP, m8, lP, na, yP, nm, seval]
   replace h := Kj _ h
   try dsimp only at h
   obtain rfl := kF _ h
   exact bd Tryz.results22 rfl
  simp only [yP, hs] at h
  simp only [vz, tyf, qy, lK, nY, qU, (au K1), AP, m8, lP, na, yP, nm, seval]
  exact ⟨List.length vf, Nat.lt_succ_self _, by rw [wh]; refine ⟨vf, gA + 1, rfl, Int.le_trans oV (Int.le_add_one (Int.le_refl _)), bJ oV qT, rfl, (show 3 ≤ mW + 15 by omega), ?_, m8, ?_, (by first | exact h | (simp only [qU, yP]; exact h))⟩ <;> first | (simp only [ua, lK, nY, qU, AP, m8, lP, na, yP, nm, seval] <;> rfl) | rfl⟩
def yQ  : List GLw → Int → Option (LOut (Bool) (Unit))
 | [], fC => some (.go ())
 | e0 :: p0, fC => cond (decide (fC < 6)) (cond (decide ((List.length e0.Signs : Int) > 8)) (some (.ret false)) (cond (decide ((List.length e0.Cuts : Int) > 8)) (some (.ret false)) (yQ p0 (fC + 1)))) (some (.go ()))
def AR (ae : GLs) : Option (Bool) := cond (lenOk ae.Words) (lbind (yQ ae.Words 0) (fun r2 => some r2) (fun c1 => cond (decide ((List.length ae.Widths : Int) ≤ 8)) (cond (decide ((List.length ae.Pairs : Int) ≤ 8)) (some (decide ((List.length ae.Words : Int) ≤ 6))) (some false)) (some false)) (fun _ _ => none)) none
theorem YP (ae : GLs) (R : Bool) (h : AR ae = some R) : ag Tryz.prog G0 17 [.agg (cGLs ae)] (.tree (.lit (.bool R))) := by
 refine ag.runR mixed Tryz.call17 Tryz.func17 rfl (by simp [Tryz.ntmps17]; kernel_rfl) ?_
 obtain ⟨KF, h, kF, kN⟩ := dZ h
 simp only [AR] at h
 cases g4 : (lenOk ae.Words)
 ·simp only [g4, hs] at h
  exact absurd h kN
 simp only [g4, hs] at h
 simp only [vz, tyf, g4, nm, seval]
 obtain ⟨K3, h, qV, qz, AS, AT⟩ := fP h kN
 obtain ⟨f3, qW, h⟩ := call2 h
 obtain ⟨I3, ji⟩ : ∃ I : Nat → St → Prop, I = (fun m st => ∃ (p3 : List GLw) (gq : Int), m = List.length p3 ∧ 0 ≤ gq ∧ List.drop (Int.toNat gq) ae.Words = p3 ∧ st.df = [] ∧ 3 ≤ st.nx ∧ st.H 0 = some (.cells (some 28) (cGLs ae)) ∧ st.tm 1 = .ptr 0 0 ∧ st.tm 3 = .lit (.int .i64 gq) ∧ K3 (f3 p3 gq)) := ⟨_, rfl⟩
 refine loopK mixed (by kernel_rfl) I3 (List.length ae.Words) (by rw [ji]; refine ⟨ae.Words, 0, rfl, Int.le_refl _, rfl, rfl, (show 3 ≤ 3 by omega), ?_, ?_, ?_, h⟩ <;> first | (simp only [ua, nm, seval] <;> rfl) | rfl) ?_
 rintro m ⟨tm, H, lQ, df⟩ hinv
 rw [ji] at hinv
 obtain ⟨p3, gq, rfl, eP, fE, hdf, qX, H5, e6, e7, h⟩ := hinv
 simp only at hdf qX H5 e6 e7
 have n8 := fO (m := 3) (b := lQ) (by omega)
 subst hdf qW
 cases p3 with
 | nil =>
  have d9 : (decide (gq < (List.length ae.Words : Int))) = false := eZ eP fE
  simp only [yQ, hs, reduceCtorEq] at h
  replace h := qz _ h
  try dsimp only at h
  try simp only [hs] at h
  cases cw : (decide ((List.length ae.Widths : Int) ≤ 8))
  ·simp only [cw, hs] at h
   try simp only [vz, tyf, g4, n8, e6, e7, H5, d9, cw, nm, seval]
   obtain rfl := kF _ h
   exact bd Tryz.results17 rfl
  simp only [cw, hs] at h
  cases fF : (decide ((List.length ae.Pairs : Int) ≤ 8))
  ·simp only [fF, hs] at h
   try simp only [vz, tyf, g4, n8, e6, e7, H5, d9, cw, fF, nm, seval]
   obtain rfl := kF _ h
   exact bd Tryz.results17 rfl
  simp only [fF, hs] at h
  try simp only [vz, tyf, g4, n8, e6, e7, H5, d9, cw, fF, nm, seval]
  obtain rfl := kF _ h
  exact bd Tryz.results17 rfl
 | cons e3 p3 =>
  have bD : (decide (gq < (List.length ae.Words : Int))) = true := eY eP fE
  have m9 := dY eP fE
  have q9 := fa eP fE g4
  simp only [yQ, hs, reduceCtorEq] at h
  cases eG : (decide (gq < 6))
  ·simp only [eG, hs] at h
   replace h := qz _ h
   try dsimp only at h
   try simp only [hs] at h
   cases gY : (decide ((List.length ae.Widths : Int) ≤ 8))
   ·simp only [gY, hs] at h
    have YQ := And.intro g4 (And.intro n8 (And.intro H5 (And.intro bD (And.intro q9 (And.intro eG gY)))))
    try simp only [vz, tyf, YQ, e6, e7, (aH m9), nm, seval]
    obtain rfl := kF _ h
    exact bd Tryz.results17 rfl
   simp only [gY, hs] at h
   have Va := And.intro g4 (And.intro n8 (And.intro H5 (And.intro bD (And.intro q9 (And.intro eG gY)))))
   cases fS : (decide ((List.length ae.Pairs : Int) ≤ 8))
   ·simp only [fS, hs] at h
    try simp only [vz, tyf, Va, e6, e7, (aH m9), fS, nm, seval]
    obtain rfl := kF _ h
    exact bd Tryz.results17 rfl
   simp only [fS, hs] at h
   try simp only [vz, tyf, Va, e6, e7, (aH m9), fS, nm, seval]
   obtain rfl := kF _ h
   exact bd Tryz.results17 rfl
  simp only [eG, hs] at h
  cases cg : (decide ((List.length e3.Signs : Int) > 8))
  ·simp only [cg, hs] at h
   have FB := And.intro g4 (And.intro n8 (And.intro H5 (And.intro bD (And.intro q9 (And.intro eG cg)))))
   cases tD : (decide ((List.length e3.Cuts : Int) > 8))
   ·simp only [tD, hs] at h
    simp only [vz, tyf, FB, e6, e7, (aH m9), tD, nm, seval]
    exact ⟨List.length p3, Nat.lt_succ_self _, by rw [ji]; refine ⟨p3, gq + 1, rfl, Int.le_trans eP (Int.le_add_one (Int.le_refl _)), bJ eP fE, rfl, (show 3 ≤ lQ + 30 by omega), ?_, e6, ?_, (by first | exact h | (simp only [FB, tD]; exact h))⟩ <;> first | (simp only [ua, FB, e6, e7, tD, nm, seval] <;> rfl) | rfl⟩
   simp only [tD, hs] at h
   try simp only [vz, tyf, FB, e6, e7, (aH m9), tD, nm, seval]
   replace h := qV _ h
   try dsimp only at h
   obtain rfl := kF _ h
   exact bd Tryz.results17 rfl
  simp only [cg, hs] at h
  have AU := And.intro g4 (And.intro n8 (And.intro H5 (And.intro bD (And.intro q9 (And.intro eG cg)))))
  try simp only [vz, tyf, AU, e6, e7, (aH m9), nm, seval]
  replace h := qV _ h
  try dsimp only at h
  obtain rfl := kF _ h
  exact bd Tryz.results17 rfl
def AV (ec : GLx) : Option (Bool) := cond (decide ((List.length ec.Out : Int) ≤ 6)) (some (decide ((List.length ec.Ends : Int) ≤ 10))) (some false)
theorem YR (ec : GLx) (R : Bool) (h : AV ec = some R) : ag Tryz.prog G0 18 [.agg (cGLx ec)] (.tree (.lit (.bool R))) := by
 refine ag.runR mixed Tryz.call18 Tryz.func18 rfl (by simp [Tryz.ntmps18]; kernel_rfl) ?_
 obtain ⟨KF, h, kF, kN⟩ := dZ h
 simp only [AV] at h
 cases d1 : (decide ((List.length ec.Out : Int) ≤ 6))
 ·simp only [d1, hs] at h
  try simp only [vz, tyf, d1, nm, seval]
  obtain rfl := kF _ h
  exact bd Tryz.results18 rfl
 simp only [d1, hs] at h
 try simp only [vz, tyf, d1, nm, seval]
 obtain rfl := kF _ h
 exact bd Tryz.results18 rfl
def tE (ae : GLs) (dW : List Int) : List Int → Int → Option (LOut (Bool) (Unit))
 | [], bV => some (.go ())
 | e0 :: p0, bV => Option.bind (l8 e0 0 (i64.wrap ((List.length ae.Words : Int) - 1))) (fun r1 => cond (r1) (Option.bind (getI ae.Words e0) (fun x2 => cond (x2.Free) (cond (decide (bV > 0)) (Option.bind (getI dW (i64.wrap (bV - 1))) (fun x3 => cond (decide (e0 ≤ x3)) (some (.ret false)) (tE ae dW p0 (bV + 1)))) (tE ae dW p0 (bV + 1))) (some (.ret false)))) (some (.ret false)))
def AW (ae : GLs) (dW : List Int) : Option (Bool) := cond (lenOk dW) (lbind (tE ae dW dW 0) (fun r5 => some r5) (fun c4 => some (decide ((List.length dW : Int) < (List.length ae.Words : Int)))) (fun _ _ => none)) none
theorem YS (ae : GLs) (dW : List Int) (R : Bool) (h : AW ae dW = some R) : ag Tryz.prog G0 50 [.agg (cGLs ae), .sl (ad eI dW) (List.length dW) false] (.tree (.lit (.bool R))) := by
 refine ag.runRQ mixed Tryz.call50 Tryz.func50 rfl (by simp [Tryz.ntmps50]; kernel_rfl) ?_
 obtain ⟨KF, h, kF, kN⟩ := dZ h
 simp only [AW] at h
 cases g7 : (lenOk dW)
 ·simp only [g7, hs] at h
  exact absurd h kN
 simp only [g7, hs] at h
 simp only [vz, tyf, g7, nm, seval]
 obtain ⟨K6, h, wq, tF, K2, iH⟩ := fP h kN
 obtain ⟨f6, wu, h⟩ := call2 h
 obtain ⟨I6, ir⟩ : ∃ I : Nat → St → Prop, I = (fun m st => ∃ (p6 : List Int) (bn : Int), m = List.length p6 ∧ 0 ≤ bn ∧ List.drop (Int.toNat bn) dW = p6 ∧ st.df = [] ∧ 3 ≤ st.nx ∧ st.H 0 = some (.cells (some 28) (cGLs ae)) ∧ st.tm 1 = .sl (ad eI dW) (List.length dW) false ∧ st.tm 2 = .ptr 0 0 ∧ st.tm 5 = .lit (.int .i64 bn) ∧ K6 (f6 p6 bn)) := ⟨_, rfl⟩
 refine loopK mixed (oS (by kernel_rfl)) I6 (List.length dW) (by rw [ir]; refine ⟨dW, 0, rfl, Int.le_refl _, rfl, rfl, (show 3 ≤ 3 by omega), ?_, ?_, ?_, ?_, h⟩ <;> first | (simp only [ua, nm, seval] <;> rfl) | rfl) ?_
 rintro m ⟨tm, H, eM, df⟩ hinv
 rw [ir] at hinv
 obtain ⟨p6, bn, rfl, de, eN, hdf, wv, H8, e9, bj, bm, h⟩ := hinv
 simp only at hdf wv H8 e9 bj bm
 have il := fO (m := 3) (b := eM) (by omega)
 subst hdf wu
 cases p6 with
 | nil =>
  have bB : (decide (bn < (List.length dW : Int))) = false := eZ de eN
  simp only [tE, hs, reduceCtorEq] at h
  replace h := tF _ h
  try dsimp only at h
  try simp only [hs] at h
  try simp only [vz, tyf, g7, il, e9, bj, bm, H8, bB, nm, seval]
  obtain rfl := kF _ h
  exact bd Tryz.results50 rfl
 | cons e6 p6 =>
  have bQ : (decide (bn < (List.length dW : Int))) = true := eY de eN
  have iW := dY de eN
  have mV := fa de eN g7
  simp only [tE, hs, reduceCtorEq] at h
  simp only [vz, tyf, g7, il, e9, bj, bm, H8, bQ, (au iW), mV, nm, seval]
  refine kl (fun tm => tm 1 = .sl (ad eI dW) (List.length dW) false ∧ tm 2 = .ptr 0 0 ∧ tm 5 = .lit (.int .i64 bn) ∧ True) (by refine ⟨e9, bj, bm, trivial⟩ <;> first | (simp only [ua, il, e9, bj, bm, H8, bQ, mV, nm, seval] <;> rfl) | rfl) ?_
  rintro tm ⟨dv, bT, db, _⟩
  obtain ⟨vh, jj, h⟩ := optI h iH
  try simp only [hs] at h
  simp only [vz, tyf, g7, il, H8, bQ, (au iW), mV, dv, bT, db, nm, seval]
  refine dktA (nW _ _ _ _ jj) ?_
  refine bt (fun tm => tm 1 = .sl (ad eI dW) (List.length dW) false ∧ tm 2 = .ptr 0 0 ∧ tm 5 = .lit (.int .i64 bn) ∧ tm 20 = .lit (.bool vh) ∧ True) (by refine ⟨dv, bT, db, ?_, trivial⟩ <;> first | (simp only [ua, il, H8, bQ, mV, dv, bT, db, nm, seval] <;> rfl) | rfl) ?_
  rintro tm ⟨cE, dw, cN, cM, _⟩
  cases qA : (vh)
  ·simp only [qA, hs] at h
   try simp only [vz, tyf, g7, il, H8, bQ, (au iW), mV, cE, dw, cN, cM, qA, nm, seval]
   replace h := wq _ h
   try dsimp only at h
   obtain rfl := kF _ h
   exact bd Tryz.results50 rfl
  simp only [qA, hs] at h
  obtain ⟨YT, FC, h⟩ := optI h iH
  try simp only [hs] at h
  cases dL : (YT.Free)
  ·simp only [dL, hs] at h
   have YU := And.intro g7 (And.intro il (And.intro H8 (And.intro bQ (And.intro mV (And.intro qA dL)))))
   try simp only [vz, tyf, YU, (au iW), cE, dw, cN, cM, (aH FC), nm, seval]
   replace h := wq _ h
   try dsimp only at h
   obtain rfl := kF _ h
   exact bd Tryz.results50 rfl
  simp only [dL, hs] at h
  have dk := And.intro g7 (And.intro il (And.intro H8 (And.intro bQ (And.intro mV (And.intro qA dL)))))
  cases eQ : (decide (bn > 0))
  ·simp only [eQ, hs] at h
   simp only [vz, tyf, dk, (au iW), cE, dw, cN, cM, (aH FC), eQ, nm, seval]
   exact ⟨List.length p6, Nat.lt_succ_self _, by rw [ir]; refine ⟨p6, bn + 1, rfl, Int.le_trans de (Int.le_add_one (Int.le_refl _)), bJ de eN, rfl, (show 3 ≤ eM + 45 by omega), ?_, cE, dw, ?_, (by first | exact h | (simp only [dk, eQ]; exact h))⟩ <;> first | (simp only [ua, dk, cE, dw, cN, cM, eQ, nm, seval] <;> rfl) | rfl | (simp only [ua, tyf, dk, cE, dw, cN, cM, eQ, nm, seval] <;> rfl)⟩
  simp only [eQ, hs] at h
  obtain ⟨YV, Vb, h⟩ := optI h iH
  try simp only [hs] at h
  cases gX : (decide (e6 ≤ YV))
  ·simp only [gX, hs] at h
   simp only [vz, tyf, dk, (au iW), cE, dw, cN, cM, (aH FC), eQ, (au Vb), gX, nm, seval]
   exact ⟨List.length p6, Nat.lt_succ_self _, by rw [ir]; refine ⟨p6, bn + 1, rfl, Int.le_trans de (Int.le_add_one (Int.le_refl _)), bJ de eN, rfl, (show 3 ≤ eM + 45 by omega), ?_, cE, dw, ?_, (by first | exact h | (simp only [dk, eQ, gX]; exact h))⟩ <;> first | (simp only [ua, dk, cE, dw, cN, cM, eQ, gX, nm, seval] <;> rfl) | rfl | (simp only [ua, tyf, dk, cE, dw, cN, cM, eQ, gX, nm, seval] <;> rfl)⟩
  simp only [gX, hs] at h
  try simp only [vz, tyf, dk, (au iW), cE, dw, cN, cM, (aH FC), eQ, (au Vb), gX, nm, seval]
  replace h := wq _ h
  try dsimp only at h
  obtain rfl := kF _ h
  exact bd Tryz.results50 rfl
def yR (eJ : Int) : List Int → Int → Option (LOut (Bool) (Unit))
 | [], bV => some (.go ())
 | e0 :: p0, bV => cond (e0 == eJ) (some (.ret true)) (yR eJ p0 (bV + 1))
def vi (aj : List Int) (eJ : Int) : Option (Bool) := cond (lenOk aj) (lbind (yR eJ aj 0) (fun r2 => some r2) (fun c1 => some false) (fun _ _ => none)) none
theorem FD (aj : List Int) (eJ : Int) (R : Bool) (h : vi aj eJ = some R) : ag Tryz.prog G0 77 [.sl (ad eI aj) (List.length aj) false, .lit (.int .i64 eJ)] (.tree (.lit (.bool R))) := by
 refine ag.runR mixed Tryz.call77 Tryz.func77 rfl (by simp [Tryz.ntmps77]; kernel_rfl) ?_
 obtain ⟨KF, h, kF, kN⟩ := dZ h
 simp only [vi] at h
 cases g4 : (lenOk aj)
 ·simp only [g4, hs] at h
  exact absurd h kN
 simp only [g4, hs] at h
 simp only [vz, tyf, g4, nm, seval]
 obtain ⟨K3, h, qV, qz, AS, AT⟩ := fP h kN
 obtain ⟨f3, qW, h⟩ := call2 h
 obtain ⟨I3, ji⟩ : ∃ I : Nat → St → Prop, I = (fun m st => ∃ (p3 : List Int) (lR : Int), m = List.length p3 ∧ 0 ≤ lR ∧ List.drop (Int.toNat lR) aj = p3 ∧ st.df = [] ∧ 2 ≤ st.nx ∧ st.tm 0 = .sl (ad eI aj) (List.length aj) false ∧ st.tm 1 = .lit (.int .i64 eJ) ∧ st.tm 5 = .lit (.int .i64 lR) ∧ K3 (f3 p3 lR)) := ⟨_, rfl⟩
 refine loopK mixed (by kernel_rfl) I3 (List.length aj) (by rw [ji]; refine ⟨aj, 0, rfl, Int.le_refl _, rfl, rfl, (show 2 ≤ 2 by omega), ?_, ?_, ?_, h⟩ <;> first | (simp only [ua, nm, seval] <;> rfl) | rfl) ?_
 rintro m ⟨tm, H, lQ, df⟩ hinv
 rw [ji] at hinv
 obtain ⟨p3, lR, rfl, eP, fE, hdf, qX, e5, e6, e7, h⟩ := hinv
 simp only at hdf qX e5 e6 e7
 have n8 := fO (m := 2) (b := lQ) (by omega)
 subst hdf qW
 cases p3 with
 | nil =>
  have d9 : (decide (lR < (List.length aj : Int))) = false := eZ eP fE
  simp only [yR, hs, reduceCtorEq] at h
  replace h := qz _ h
  try dsimp only at h
  try simp only [hs] at h
  try simp only [vz, tyf, g4, n8, e5, e6, e7, d9, nm, seval]
  obtain rfl := kF _ h
  exact bd Tryz.results77 rfl
 | cons e3 p3 =>
  have cw : (decide (lR < (List.length aj : Int))) = true := eY eP fE
  have jE := dY eP fE
  have KA := fa eP fE g4
  simp only [yR, hs, reduceCtorEq] at h
  cases bB : (e3 == eJ)
  ·simp only [bB, hs] at h
   simp only [vz, tyf, g4, n8, e5, e6, e7, cw, (au jE), KA, bB, nm, seval]
   exact ⟨List.length p3, Nat.lt_succ_self _, by rw [ji]; refine ⟨p3, lR + 1, rfl, Int.le_trans eP (Int.le_add_one (Int.le_refl _)), bJ eP fE, rfl, (show 2 ≤ lQ + 13 by omega), e5, e6, ?_, (by first | exact h | (simp only [cw, bB]; exact h))⟩ <;> first | (simp only [ua, n8, e5, e6, e7, cw, KA, bB, nm, seval] <;> rfl) | rfl⟩
  simp only [bB, hs] at h
  try simp only [vz, tyf, g4, n8, e5, e6, e7, cw, (au jE), KA, bB, nm, seval]
  replace h := qV _ h
  try dsimp only at h
  obtain rfl := kF _ h
  exact bd Tryz.results77 rfl
def AX (gC : GLe) (gD : GLe) : Option (Bool) := cond (decide (gC.Word < gD.Word)) (some true) (cond (gC.Word == gD.Word) (some (decide (gC.Letters < gD.Letters))) (some false))
theorem YW (gC : GLe) (gD : GLe) (R : Bool) (h : AX gC gD = some R) : ag Tryz.prog G0 78 [.agg (cGLe gC), .agg (cGLe gD)] (.tree (.lit (.bool R))) := by
 refine ag.runR mixed Tryz.call78 Tryz.func78 rfl (by simp [Tryz.ntmps78]; kernel_rfl) ?_
 obtain ⟨KF, h, kF, kN⟩ := dZ h
 simp only [AX] at h
 cases d1 : (decide (gC.Word < gD.Word))
 ·simp only [d1, hs] at h
  cases d2 : (gC.Word == gD.Word)
  ·simp only [d2, hs] at h
   try simp only [vz, tyf, d1, d2, nm, seval]
   obtain rfl := kF _ h
   exact bd Tryz.results78 rfl
  simp only [d2, hs] at h
  try simp only [vz, tyf, d1, d2, nm, seval]
  obtain rfl := kF _ h
  exact bd Tryz.results78 rfl
 simp only [d1, hs] at h
 try simp only [vz, tyf, d1, nm, seval]
 obtain rfl := kF _ h
 exact bd Tryz.results78 rfl
def yS (aG : List Int) : Nat → Int → Option (LOut (Int) (Int))
 | 0, _ => none
 | k0 + 1, bV => Option.bind (vi aG bV) (fun r1 => cond (r1) (yS aG k0 (i64.wrap (bV - 1))) (some (.go bV)))
def FE (ae : GLs) (aG : List Int) : Option (Int) := lbind (yS aG 1000000 (i64.wrap ((List.length ae.Words : Int) - 1))) (fun r3 => some r3) (fun c2 => some c2) (fun _ _ => none)
theorem YX (ae : GLs) (aG : List Int) (R : Int) (h : FE ae aG = some R) : ag Tryz.prog G0 79 [.agg (cGLs ae), .sl (ad eI aG) (List.length aG) false] (.tree (.lit (.int .i64 R))) := by
 refine ag.runR mixed Tryz.call79 Tryz.func79 rfl (by simp [Tryz.ntmps79]; kernel_rfl) ?_
 obtain ⟨KF, h, kF, kN⟩ := dZ h
 simp only [FE] at h
 simp only [vz, tyf, nm, seval]
 obtain ⟨K4, h, Vc, KB, YY, FF⟩ := fP h kN
 obtain ⟨f4, KC, h⟩ := call2 h
 obtain ⟨I4, wx⟩ : ∃ I : Nat → St → Prop, I = (fun m st => ∃ (p4 : Nat) (oX : Int), p4 = m ∧ st.df = [] ∧ 7 ≤ st.nx ∧ st.tm 1 = .sl (ad eI aG) (List.length aG) false ∧ st.tm 5 = .lit (.int .i64 oX) ∧ K4 (f4 p4 oX)) := ⟨_, rfl⟩
 refine loopK mixed (by kernel_rfl) I4 1000000 (by rw [wx]; refine ⟨1000000, i64.wrap ((List.length ae.Words : Int) - 1), rfl, rfl, (show 7 ≤ 7 by omega), ?_, ?_, h⟩ <;> first | (simp only [ua, nm, seval] <;> rfl) | rfl) ?_
 rintro m ⟨tm, H, AY, df⟩ hinv
 rw [wx] at hinv
 obtain ⟨p4, oX, rfl, hdf, KD, e5, e6, h⟩ := hinv
 simp only at hdf KD e5 e6
 have n7 := fO (m := 7) (b := AY) (by omega)
 subst hdf KC
 cases p4 with
 | zero =>
  simp only [yS, hs, reduceCtorEq] at h
  exact absurd h FF
 | succ p4 =>
  simp only [yS, hs, reduceCtorEq] at h
  obtain ⟨r8, o9, h⟩ := optI h FF
  try simp only [hs] at h
  simp only [vz, tyf, n7, e5, e6, nm, seval]
  refine ktA (FD _ _ _ o9) ?_
  refine bt (fun tm => tm 1 = .sl (ad eI aG) (List.length aG) false ∧ tm 5 = .lit (.int .i64 oX) ∧ tm 12 = .lit (.bool r8) ∧ True) (by refine ⟨e5, e6, ?_, trivial⟩ <;> first | (simp only [ua, n7, e5, e6, nm, seval] <;> rfl) | rfl) ?_
  rintro tm ⟨bj, bm, bU, _⟩
  cases bB : (r8)
  ·simp only [bB, hs] at h
   replace h := KB _ h
   try dsimp only at h
   try simp only [hs] at h
   try simp only [vz, tyf, n7, bj, bm, bU, bB, nm, seval]
   refine dX (x := (.lit (.int .i64 oX))) (by first | (simp only [Tryz.results79, resV, resL, aV, dP, dQ, uw, cr, tyf, n7, bB, nm, seval] <;> rfl) | rfl) ?_
   obtain rfl := kF _ h
   refine dV ?_ ?_
   ·simp only [tre, aF, Bool.and_self]
   ·first | (simp only [outV, uw, eK, cr, tyf, nrm, aE, n7, bj, bm, bU, bB, nm, seval] <;> rfl) | rfl
  simp only [bB, hs] at h
  simp only [vz, tyf, n7, bj, bm, bU, bB, nm, seval]
  exact ⟨p4, Nat.lt_succ_self _, by rw [wx]; refine ⟨p4, i64.wrap (oX - 1), rfl, rfl, (show 7 ≤ AY + 6 by omega), bj, ?_, (by first | exact h | (simp only [bB]; exact h))⟩ <;> first | (simp only [ua, n7, bj, bm, bU, bB, nm, seval] <;> rfl) | rfl⟩
def qY (ae : GLs) (av : GLx) : List GLe → Int → Option (LOut (Bool) (Unit))
 | [], bV => some (.go ())
 | e0 :: p0, bV => Option.bind (l8 e0.Word 0 (i64.wrap ((List.length ae.Words : Int) - 1))) (fun r2 => cond (r2) (Option.bind (vi av.Out e0.Word) (fun r3 => cond (r3) (some (.ret false)) (cond (decide (bV > 0)) (Option.bind (getI av.Ends (i64.wrap (bV - 1))) (fun x4 => Option.bind (AX x4 e0) (fun r5 => cond (r5) (Option.bind (getI ae.Words e0.Word) (fun x6 => cond (e0.Letters != (List.length x6.Signs : Int)) (Option.bind (vi x6.Cuts e0.Letters) (fun r7 => cond (r7) (qY ae av p0 (bV + 1)) (some (.ret false)))) (qY ae av p0 (bV + 1)))) (some (.ret false))))) (Option.bind (getI ae.Words e0.Word) (fun x8 => cond (e0.Letters != (List.length x8.Signs : Int)) (Option.bind (vi x8.Cuts e0.Letters) (fun r9 => cond (r9) (qY ae av p0 (bV + 1)) (some (.ret false)))) (qY ae av p0 (bV + 1))))))) (some (.ret false)))
def AZ (ae : GLs) (av : GLx) : Option (Bool) := Option.bind (AW ae av.Out) (fun r1 => cond (r1) (cond ((List.length av.Ends : Int) == 0) (some false) (cond (lenOk av.Ends) (lbind (qY ae av av.Ends 0) (fun td => some td) (fun mA => Option.bind (FE ae av.Out) (fun qx => Option.bind (getI av.Ends (i64.wrap ((List.length av.Ends : Int) - 1))) (fun FG => Option.bind (getI ae.Words qx) (fun YZ => some (FG.Word == qx && (FG.Letters == (List.length YZ.Signs : Int))))))) (fun _ _ => none)) none)) (some false))
theorem Za (ae : GLs) (av : GLx) (R : Bool) (h : AZ ae av = some R) : ag Tryz.prog G0 23 [.agg (cGLs ae), .agg (cGLx av)] (.tree (.lit (.bool R))) := by
 refine ag.runRQ mixed Tryz.call23 Tryz.func23 rfl (by simp [Tryz.ntmps23]; kernel_rfl) ?_
 obtain ⟨KF, h, kF, kN⟩ := dZ h
 simp only [AZ] at h
 obtain ⟨wy, iW, h⟩ := optI h kN
 try simp only [hs] at h
 simp only [vz, tyf, nm, seval]
 refine ktA (YS _ _ _ iW) ?_
 refine bt (fun tm => tm 2 = .ptr 0 0 ∧ tm 3 = .ptr 1 0 ∧ tm 12 = .lit (.bool wy) ∧ True) (by refine ⟨?_, ?_, ?_, trivial⟩ <;> first | (simp only [ua, nm, seval] <;> rfl) | rfl) ?_
 rintro tm ⟨dv, bT, db, _⟩
 cases cg : (wy)
 ·simp only [cg, hs] at h
  try simp only [vz, tyf, dv, bT, db, cg, nm, seval]
  obtain rfl := kF _ h
  exact bd Tryz.results23 rfl
 simp only [cg, hs] at h
 cases fR : ((List.length av.Ends : Int) == 0)
 ·simp only [fR, hs] at h
  cases lL : (lenOk av.Ends)
  ·simp only [lL, hs] at h
   exact absurd h kN
  simp only [lL, hs] at h
  simp only [vz, tyf, dv, bT, db, cg, fR, lL, nm, seval]
  obtain ⟨Ko, h, mX, wj, Kp, jI⟩ := fP h kN
  obtain ⟨Kq, wm, h⟩ := call2 h
  obtain ⟨Ks, jJ⟩ : ∃ I : Nat → St → Prop, I = (fun m st => ∃ (jg : List GLe) (dm : Int), m = List.length jg ∧ 0 ≤ dm ∧ List.drop (Int.toNat dm) av.Ends = jg ∧ st.df = [] ∧ 15 ≤ st.nx ∧ st.H 0 = some (.cells (some 28) (cGLs ae)) ∧ st.H 1 = some (.cells (some 31) (cGLx av)) ∧ st.tm 2 = .ptr 0 0 ∧ st.tm 3 = .ptr 1 0 ∧ st.tm 5 = .lit (.int .i64 dm) ∧ Ko (Kq jg dm)) := ⟨_, rfl⟩
  refine loopK mixed (oS (by kernel_rfl)) Ks (List.length av.Ends) (by rw [jJ]; refine ⟨av.Ends, 0, rfl, Int.le_refl _, rfl, rfl, (show 15 ≤ 15 by omega), ?_, ?_, dv, bT, ?_, h⟩ <;> first | (simp only [ua, dv, bT, db, cg, fR, nm, seval] <;> rfl) | rfl) ?_
  rintro m ⟨tm, H, gW, df⟩ hinv
  rw [jJ] at hinv
  obtain ⟨jg, dm, rfl, fb, gB, hdf, wo, mY, wz, cy, cO, eu, h⟩ := hinv
  simp only at hdf wo mY wz cy cO eu
  have yT := fO (m := 15) (b := gW) (by omega)
  subst hdf wm
  cases jg with
  | nil =>
   have w5 : (decide (dm < (List.length av.Ends : Int))) = false := eZ fb gB
   simp only [qY, hs, reduceCtorEq] at h
   replace h := wj _ h
   try dsimp only at h
   try simp only [hs] at h
   obtain ⟨Vd, vj, h⟩ := optI h kN
   try simp only [hs] at h
   simp only [vz, tyf, cg, fR, lL, yT, cy, cO, eu, mY, wz, w5, nm, seval]
   refine ktA (YX _ _ _ vj) ?_
   refine bt (fun tm => tm 2 = .ptr 0 0 ∧ tm 3 = .ptr 1 0 ∧ tm 85 = .lit (.int .i64 Vd) ∧ True) (by refine ⟨cy, cO, ?_, trivial⟩ <;> first | (simp only [ua, cg, fR, yT, cy, cO, eu, mY, wz, w5, nm, seval] <;> rfl) | rfl) ?_
   rintro tm ⟨fX, fu, iu, _⟩
   have KE := And.intro cg (And.intro fR (And.intro lL (And.intro yT (And.intro mY (And.intro wz w5)))))
   simp only [vz, tyf, KE, fX, fu, iu, nm, seval]
   refine kl (fun tm => tm 2 = .ptr 0 0 ∧ tm 3 = .ptr 1 0 ∧ tm 8 = .lit (.int .i64 Vd) ∧ True) (by refine ⟨fX, fu, ?_, trivial⟩ <;> first | (simp only [ua, KE, fX, fu, iu, nm, seval] <;> rfl) | rfl) ?_
   rintro tm ⟨cF, cb, cm, _⟩
   obtain ⟨x40, Zb, h⟩ := optI h kN
   try simp only [hs] at h
   obtain ⟨x42, Kv, h⟩ := optI h kN
   try simp only [hs] at h
   try simp only [vz, tyf, KE, cF, cb, cm, (bc Zb), (aH Kv), nm, seval]
   obtain rfl := kF _ h
   exact bd Tryz.results23 rfl
  | cons cE jg =>
   have vk : (decide (dm < (List.length av.Ends : Int))) = true := eY fb gB
   have nb := dY fb gB
   have w6 := fa fb gB lL
   simp only [qY, hs, reduceCtorEq] at h
   simp only [vz, tyf, cg, fR, lL, yT, cy, cO, eu, mY, wz, vk, (bc nb), w6, nm, seval]
   refine kl (fun tm => tm 2 = .ptr 0 0 ∧ tm 3 = .ptr 1 0 ∧ tm 5 = .lit (.int .i64 dm) ∧ tm 6 = .ptr (gW + 10) 0 ∧ True) (by refine ⟨cy, cO, eu, ?_, trivial⟩ <;> first | (simp only [ua, cg, fR, yT, cy, cO, eu, mY, wz, vk, w6, nm, seval] <;> rfl) | rfl) ?_
   rintro tm ⟨jL, iv, gu, jD, _⟩
   have gE := And.intro cg (And.intro fR (And.intro lL (And.intro yT (And.intro mY (And.intro wz (And.intro vk w6))))))
   obtain ⟨w7, Ba, h⟩ := optI h jI
   try simp only [hs] at h
   simp only [vz, tyf, gE, (bc nb), jL, iv, gu, jD, nm, seval]
   refine dktA (nW _ _ _ _ Ba) ?_
   refine bt (fun tm => tm 2 = .ptr 0 0 ∧ tm 3 = .ptr 1 0 ∧ tm 5 = .lit (.int .i64 dm) ∧ tm 6 = .ptr (gW + 10) 0 ∧ tm 38 = .lit (.bool w7) ∧ True) (by refine ⟨jL, iv, gu, jD, ?_, trivial⟩ <;> first | (simp only [ua, gE, jL, iv, gu, jD, nm, seval] <;> rfl) | rfl) ?_
   rintro tm ⟨iX, lB, lO, mZ, l9, _⟩
   cases fZ : (w7)
   ·simp only [fZ, hs] at h
    try simp only [vz, tyf, gE, (bc nb), iX, lB, lO, mZ, l9, fZ, nm, seval]
    replace h := mX _ h
    try dsimp only at h
    obtain rfl := kF _ h
    exact bd Tryz.results23 rfl
   simp only [fZ, hs] at h
   obtain ⟨AN, Kw, h⟩ := optI h jI
   try simp only [hs] at h
   simp only [vz, tyf, gE, (bc nb), iX, lB, lO, mZ, l9, fZ, nm, seval]
   refine dktA (FD _ _ _ Kw) ?_
   refine bt (fun tm => tm 2 = .ptr 0 0 ∧ tm 3 = .ptr 1 0 ∧ tm 5 = .lit (.int .i64 dm) ∧ tm 6 = .ptr (gW + 10) 0 ∧ tm 40 = .lit (.bool false) ∧ tm 45 = .lit (.bool AN) ∧ True) (by refine ⟨iX, lB, lO, mZ, ?_, ?_, trivial⟩ <;> first | (simp only [ua, gE, iX, lB, lO, mZ, l9, fZ, nm, seval] <;> rfl) | rfl) ?_
   rintro tm ⟨fx, f2, gp, lC, lS, kn, _⟩
   cases jF : (AN)
   ·simp only [jF, hs] at h
    cases fe : (decide (dm > 0))
    ·simp only [fe, hs] at h
     obtain ⟨oY, oa, h⟩ := optI h jI
     try simp only [hs] at h
     cases qZ : (cE.Letters != (List.length oY.Signs : Int))
     ·simp only [qZ, hs] at h
      simp only [vz, tyf, gE, (bc nb), fZ, fx, f2, gp, lC, lS, kn, jF, fe, (aH oa), qZ, nm, seval]
      exact ⟨List.length jg, Nat.lt_succ_self _, by rw [jJ]; refine ⟨jg, dm + 1, rfl, Int.le_trans fb (Int.le_add_one (Int.le_refl _)), bJ fb gB, rfl, (show 15 ≤ gW + 67 by omega), ?_, ?_, fx, f2, ?_, (by first | exact h | (simp only [gE, fZ, jF, fe, qZ]; exact h))⟩ <;> first | (simp only [ua, gE, fZ, fx, f2, gp, lC, lS, kn, jF, fe, qZ, nm, seval] <;> rfl) | rfl⟩
     simp only [qZ, hs] at h
     obtain ⟨Ve, Zc, h⟩ := optI h jI
     try simp only [hs] at h
     simp only [vz, tyf, gE, (bc nb), fZ, fx, f2, gp, lC, lS, kn, jF, fe, (aH oa), qZ, nm, seval]
     refine ktA (FD _ _ _ Zc) ?_
     refine bt (fun tm => tm 2 = .ptr 0 0 ∧ tm 3 = .ptr 1 0 ∧ tm 5 = .lit (.int .i64 dm) ∧ tm 74 = .lit (.bool true) ∧ tm 79 = .lit (.bool Ve) ∧ True) (by refine ⟨fx, f2, gp, ?_, ?_, trivial⟩ <;> first | (simp only [ua, gE, fZ, fx, f2, gp, lC, lS, kn, jF, fe, qZ, nm, seval] <;> rfl) | rfl) ?_
     rintro tm ⟨iw, fD, dN, cK, bE, _⟩
     cases yU : (Ve)
     ·simp only [yU, hs] at h
      try simp only [vz, tyf, gE, (bc nb), fZ, jF, fe, (aH oa), qZ, iw, fD, dN, cK, bE, yU, nm, seval]
      replace h := mX _ h
      try dsimp only at h
      obtain rfl := kF _ h
      exact bd Tryz.results23 rfl
     simp only [yU, hs] at h
     simp only [vz, tyf, gE, (bc nb), fZ, jF, fe, (aH oa), qZ, iw, fD, dN, cK, bE, yU, nm, seval]
     exact ⟨List.length jg, Nat.lt_succ_self _, by rw [jJ]; refine ⟨jg, dm + 1, rfl, Int.le_trans fb (Int.le_add_one (Int.le_refl _)), bJ fb gB, rfl, (show 15 ≤ gW + 67 by omega), ?_, ?_, iw, fD, ?_, (by first | exact h | (simp only [gE, fZ, jF, fe, qZ, yU]; exact h))⟩ <;> first | (simp only [ua, gE, fZ, jF, fe, qZ, iw, fD, dN, cK, bE, yU, nm, seval] <;> rfl) | rfl⟩
    simp only [fe, hs] at h
    obtain ⟨x81, yV, h⟩ := optI h jI
    try simp only [hs] at h
    obtain ⟨Vf, Zd, h⟩ := optI h jI
    try simp only [hs] at h
    simp only [vz, tyf, gE, (bc nb), fZ, fx, f2, gp, lC, lS, kn, jF, fe, (bc yV), nm, seval]
    refine dktA (YW _ _ _ Zd) ?_
    refine bt (fun tm => tm 2 = .ptr 0 0 ∧ tm 3 = .ptr 1 0 ∧ tm 5 = .lit (.int .i64 dm) ∧ tm 6 = .ptr (gW + 10) 0 ∧ tm 47 = .lit (.bool false) ∧ tm 50 = .lit (.bool true) ∧ tm 58 = .lit (.bool Vf) ∧ True) (by refine ⟨fx, f2, gp, lC, ?_, ?_, ?_, trivial⟩ <;> first | (simp only [ua, gE, fZ, fx, f2, gp, lC, lS, kn, jF, fe, nm, seval] <;> rfl) | rfl) ?_
    rintro tm ⟨cj, bW, cl, ga, Bb, Bc, Bd, _⟩
    cases iI : (Vf)
    ·simp only [iI, hs] at h
     try simp only [vz, tyf, gE, (bc nb), fZ, jF, fe, (bc yV), cj, bW, cl, ga, Bb, Bc, Bd, iI, nm, seval]
     replace h := mX _ h
     try dsimp only at h
     obtain rfl := kF _ h
     exact bd Tryz.results23 rfl
    simp only [iI, hs] at h
    obtain ⟨Ze, vg, h⟩ := optI h jI
    try simp only [hs] at h
    cases mB : (cE.Letters != (List.length Ze.Signs : Int))
    ·simp only [mB, hs] at h
     simp only [vz, tyf, gE, (bc nb), fZ, jF, fe, (bc yV), cj, bW, cl, ga, Bb, Bc, Bd, iI, (aH vg), mB, nm, seval]
     exact ⟨List.length jg, Nat.lt_succ_self _, by rw [jJ]; refine ⟨jg, dm + 1, rfl, Int.le_trans fb (Int.le_add_one (Int.le_refl _)), bJ fb gB, rfl, (show 15 ≤ gW + 67 by omega), ?_, ?_, cj, bW, ?_, (by first | exact h | (simp only [gE, fZ, jF, fe, iI, mB]; exact h))⟩ <;> first | (simp only [ua, gE, fZ, jF, fe, cj, bW, cl, ga, Bb, Bc, Bd, iI, mB, nm, seval] <;> rfl) | rfl⟩
    simp only [mB, hs] at h
    obtain ⟨Vg, yW, h⟩ := optI h jI
    try simp only [hs] at h
    simp only [vz, tyf, gE, (bc nb), fZ, jF, fe, (bc yV), cj, bW, cl, ga, Bb, Bc, Bd, iI, (aH vg), mB, nm, seval]
    refine ktA (FD _ _ _ yW) ?_
    refine bt (fun tm => tm 2 = .ptr 0 0 ∧ tm 3 = .ptr 1 0 ∧ tm 5 = .lit (.int .i64 dm) ∧ tm 74 = .lit (.bool true) ∧ tm 79 = .lit (.bool Vg) ∧ True) (by refine ⟨cj, bW, cl, ?_, ?_, trivial⟩ <;> first | (simp only [ua, gE, fZ, jF, fe, cj, bW, cl, ga, Bb, Bc, Bd, iI, mB, nm, seval] <;> rfl) | rfl) ?_
    rintro tm ⟨lD, mC, gv, fG, fH, _⟩
    cases tG : (Vg)
    ·simp only [tG, hs] at h
     have KG := And.intro gE (And.intro fZ (And.intro jF (And.intro fe (And.intro iI (And.intro mB tG)))))
     try simp only [vz, tyf, KG, (bc nb), (bc yV), (aH vg), lD, mC, gv, fG, fH, nm, seval]
     replace h := mX _ h
     try dsimp only at h
     obtain rfl := kF _ h
     exact bd Tryz.results23 rfl
    simp only [tG, hs] at h
    have w8 := And.intro gE (And.intro fZ (And.intro jF (And.intro fe (And.intro iI (And.intro mB tG)))))
    simp only [vz, tyf, w8, (bc nb), (bc yV), (aH vg), lD, mC, gv, fG, fH, nm, seval]
    exact ⟨List.length jg, Nat.lt_succ_self _, by rw [jJ]; refine ⟨jg, dm + 1, rfl, Int.le_trans fb (Int.le_add_one (Int.le_refl _)), bJ fb gB, rfl, (show 15 ≤ gW + 67 by omega), ?_, ?_, lD, mC, ?_, (by first | exact h | (simp only [w8]; exact h))⟩ <;> first | (simp only [ua, w8, lD, mC, gv, fG, fH, nm, seval] <;> rfl) | rfl⟩
   simp only [jF, hs] at h
   try simp only [vz, tyf, gE, (bc nb), fZ, fx, f2, gp, lC, lS, kn, jF, nm, seval]
   replace h := mX _ h
   try dsimp only at h
   obtain rfl := kF _ h
   exact bd Tryz.results23 rfl
 simp only [fR, hs] at h
 try simp only [vz, tyf, dv, bT, db, cg, fR, nm, seval]
 obtain rfl := kF _ h
 exact bd Tryz.results23 rfl
def yX (ae : GLs) (bp : GLx) : Option (Bool) := Option.bind (AR ae) (fun r1 => cond (r1) (Option.bind (AV bp) (fun r2 => cond (r2) (Option.bind (AJ ae) (fun r3 => cond (r3) (Option.bind (AZ ae bp) (fun r4 => some r4)) (some false))) (some false))) (some false))
theorem Zf (ae : GLs) (bp : GLx) (R : Bool) (h : yX ae bp = some R) : ag Tryz.prog G0 27 [.agg (cGLs ae), .agg (cGLx bp)] (.tree (.lit (.bool R))) := by
 refine ag.runR mixed Tryz.call27 Tryz.func27 rfl (by simp [Tryz.ntmps27]; kernel_rfl) ?_
 obtain ⟨KF, h, kF, kN⟩ := dZ h
 simp only [yX] at h
 obtain ⟨r5, o6, h⟩ := optI h kN
 try simp only [hs] at h
 simp only [vz, tyf, nm, seval]
 refine ktA (YP _ _ o6) ?_
 refine bt (fun tm => tm 2 = .ptr 0 0 ∧ tm 3 = .ptr 1 0 ∧ tm 6 = .lit (.bool r5) ∧ True) (by refine ⟨?_, ?_, ?_, trivial⟩ <;> first | (simp only [ua, nm, seval] <;> rfl) | rfl) ?_
 rintro tm ⟨e7, e8, e9, _⟩
 cases cw : (r5)
 ·simp only [cw, hs] at h
  try simp only [vz, tyf, e7, e8, e9, cw, nm, seval]
  obtain rfl := kF _ h
  exact bd Tryz.results27 rfl
 simp only [cw, hs] at h
 obtain ⟨qx, jE, h⟩ := optI h kN
 try simp only [hs] at h
 simp only [vz, tyf, e7, e8, e9, cw, nm, seval]
 refine ktA (YR _ _ jE) ?_
 refine bt (fun tm => tm 2 = .ptr 0 0 ∧ tm 3 = .ptr 1 0 ∧ tm 7 = .lit (.bool true) ∧ tm 9 = .lit (.bool qx) ∧ True) (by refine ⟨e7, e8, ?_, ?_, trivial⟩ <;> first | (simp only [ua, e7, e8, e9, cw, nm, seval] <;> rfl) | rfl) ?_
 rintro tm ⟨bA, cL, dO, dM, _⟩
 cases fA : (qx)
 ·simp only [fA, hs] at h
  try simp only [vz, tyf, cw, bA, cL, dO, dM, fA, nm, seval]
  obtain rfl := kF _ h
  exact bd Tryz.results27 rfl
 simp only [fA, hs] at h
 obtain ⟨FH, Be, h⟩ := optI h kN
 try simp only [hs] at h
 simp only [vz, tyf, cw, bA, cL, dO, dM, fA, nm, seval]
 refine ktA (YD _ _ Be) ?_
 refine bt (fun tm => tm 2 = .ptr 0 0 ∧ tm 3 = .ptr 1 0 ∧ tm 11 = .lit (.bool true) ∧ tm 13 = .lit (.bool FH) ∧ True) (by refine ⟨bA, cL, ?_, ?_, trivial⟩ <;> first | (simp only [ua, cw, bA, cL, dO, dM, fA, nm, seval] <;> rfl) | rfl) ?_
 rintro tm ⟨gR, eE, cE, dw, _⟩
 cases mD : (FH)
 ·simp only [mD, hs] at h
  try simp only [vz, tyf, cw, fA, gR, eE, cE, dw, mD, nm, seval]
  obtain rfl := kF _ h
  exact bd Tryz.results27 rfl
 simp only [mD, hs] at h
 obtain ⟨FI, kM, h⟩ := optI h kN
 try simp only [hs] at h
 simp only [vz, tyf, cw, fA, gR, eE, cE, dw, mD, nm, seval]
 refine ktA (Za _ _ _ kM) ?_
 refine bt (fun tm => tm 15 = .lit (.bool true) ∧ tm 18 = .lit (.bool FI) ∧ True) (by refine ⟨?_, ?_, trivial⟩ <;> first | (simp only [ua, cw, fA, gR, eE, cE, dw, mD, nm, seval] <;> rfl) | rfl) ?_
 rintro tm ⟨cO, eu, _⟩
 try simp only [vz, tyf, cw, fA, mD, cO, eu, nm, seval]
 obtain rfl := kF _ h
 exact bd Tryz.results27 rfl
theorem vl (a n b : Int) : oc a n b = some (inB a b n) := by
 unfold oc inB
 cases decide (a ≤ n) <;> rfl
theorem in_eq (n a b : Int) : l8 n a b = some (inB a b n) := by
 unfold l8 inB
 show cond (decide (a ≤ n)) _ _ = _
 cases decide (a ≤ n) <;> rfl
def spanB (m : Int) (x : GSpan) : Bool := decide (0 ≤ x.Low) && (decide (x.Low ≤ x.High) && decide (x.High ≤ m))
theorem KH (x : GSpan) (m : Int) : w9 0 x m = some (spanB m x) := by
 unfold w9 spanB
 cases decide (0 ≤ x.Low) <;> cases decide (x.Low ≤ x.High) <;> rfl
theorem wA (x : GSpan) (m : Int) : wc x m = some (spanB m x) := by
 unfold wc
 simp only [in_eq, Option.bind_some]
 by_cases h1 : 0 ≤ x.Low <;> by_cases h2 : x.Low ≤ x.High <;> by_cases h3 : x.High ≤ m <;> by_cases h4 : x.Low ≤ m <;> simp [inB, spanB, h1, h2, h3, h4] <;> omega
theorem Vh (a b : Int) : ∀ (p : List Int) (i : Int), yY a b p i = goB (p.all (inB a b))
 | [], _ => rfl
 | e :: p, i => by
  simp only [yY, mF, cnot, cand, vl, Option.bind_some, Vh a b p, List.all_cons]
theorem KI (a b : Int) (xs : List Int) (h : lenOk xs = true) : wB a xs b = some (xs.all (inB a b)) := by
 simp only [wB, h, cond_true, Vh]
 cases xs.all (inB a b) <;> rfl
def incr : Int → List Int → Bool
 | _, [] => true
 | q, e :: p => !decide (e ≤ q) && incr e p
def incrL : List Int → Bool
 | [] => true
 | e :: p => incr e p
theorem yZ {α : Type} {xs p : List α} {q : α} {i : Int} (h0 : 1 ≤ i) (hi : i < 9223372036854775808) (h : xs.drop (i - 1).toNat = q :: p) : getI xs (i64.wrap (i - 1)) = some q := by
 rw [kO (by omega) (by omega)]
 exact dY (by omega) h
theorem za {α : Type} {xs p : List α} {n : Nat} (h : xs.drop n = p) : n + p.length ≤ xs.length ∨ p = [] := by
 subst h
 by_cases hn : n ≤ xs.length
 ·left; simp; omega
 ·right; exact List.drop_eq_nil_of_le (by omega)
theorem Vi (xs : List Int) (hl : lenOk xs = true) : ∀ (p : List Int) (q i : Int), 1 ≤ i → xs.drop (i - 1).toNat = q :: p → zb xs p i = goB (incr q p)
 | [], _, _, _, _ => rfl
 | e :: p, q, i, h0, h => by
  have hb := wC hl
  have hle := za h
  simp only [List.length_cons] at hle
  have hi : i < 9223372036854775808 := by
   rcases hle with hle | hle
   ·omega
   ·cases hle
  have hn : xs.drop (i + 1 - 1).toNat = e :: p := by
   have := bJ (i := i - 1) (by omega) h
   rwa [show i - 1 + 1 = i + 1 - 1 by omega] at this
  simp only [zb, mF, cnot, cand, yZ h0 hi h, Option.bind_some, Vi xs hl p e (i + 1) (by omega) hn, incr]
theorem Vj (a b : Int) (xs : List Int) (h : lenOk xs = true) : zc a xs b = some (incrL xs && xs.all (inB a b)) := by
 have h1 : leB 0 1 = true := rfl
 simp only [zc, h, h1, cond_true, KI a b xs h]
 cases xs with
 | nil => rfl
 | cons e p =>
  have := Vi (e :: p) h p e 1 (by omega) (by rfl)
  rw [show List.drop (Int.toNat 1) (e :: p) = p from rfl, this]
  simp only [incrL]
  cases incr e p <;> rfl
def cutsB (hi : Int) : Option Int → List Int → Bool
 | _, [] => true
 | none, e :: p => inB 1 hi e && cutsB hi (some e) p
 | some q, e :: p => inB 1 hi e && (!decide (e ≤ q) && cutsB hi (some e) p)
theorem Vk (hi : Int) : ∀ (p : List Int) (q : Int), cutsB hi (some q) p = (incr q p && p.all (inB 1 hi))
 | [], _ => rfl
 | e :: p, q => by
  simp only [cutsB, Vk hi p e, incr, List.all_cons]
  cases h1 : inB 1 hi e <;> cases h2 : decide (e ≤ q) <;> cases h3 : incr e p <;> simp [h1, h2, h3]
theorem KJ (hi : Int) : ∀ (p : List Int), cutsB hi none p = (incrL p && p.all (inB 1 hi))
 | [] => rfl
 | e :: p => by
  simp only [cutsB, Vk, incrL, List.all_cons]
  cases h1 : inB 1 hi e <;> cases h2 : incr e p <;> simp [h1, h2]
theorem Vl (w : GLw) (hl : lenOk w.Cuts = true) : ∀ (p : List Int) (q : Int) (i : Int), 1 ≤ i → w.Cuts.drop (i - 1).toNat = q :: p →
  tH w p i = goB (cutsB (i64.wrap ((w.Signs.length : Int) - 1)) (some q) p)
 | [], _, _, _, _ => rfl
 | e :: p, q, i, h0, h => by
  have hb := wC hl
  have hle := za h
  simp only [List.length_cons] at hle
  have hi : i < 9223372036854775808 := by
   rcases hle with hle | hle
   ·omega
   ·cases hle
  have hn : w.Cuts.drop (i + 1 - 1).toNat = e :: p := by
   have := bJ (i := i - 1) (by omega) h
   rwa [show i - 1 + 1 = i + 1 - 1 by omega] at this
  have hp : decide (i > 0) = true := by simp; omega
  simp only [tH, mF, cnot, cand, in_eq, yZ h0 hi h, hp, Option.bind_some, Vl w hl p e (i + 1) (by omega) hn, cutsB, cond_true]
theorem Zg (w : GLw) (hl : lenOk w.Cuts = true) : tH w w.Cuts 0 = goB (cutsB (i64.wrap ((w.Signs.length : Int) - 1)) none w.Cuts) := by
 generalize hc : w.Cuts = cs
 cases cs with
 | nil => rfl
 | cons e p =>
  have := Vl w hl p e (0 + 1) (by omega) (by rw [hc]; rfl)
  simp only [tH, mF, cnot, cand, in_eq, Option.bind_some, this, cutsB, show decide ((0 : Int) > 0) = false from rfl, cond_false]
theorem wD (s : GLs) (n : Int) : we s n = some (inB 0 (i64.wrap ((s.Widths.length : Int) - 1)) n) := by
 simp only [we, in_eq, Option.bind_some]
theorem Vm (s : GLs) : ∀ (p : List Int) (i : Int), zd s p i = goB (p.all (inB 0 (i64.wrap ((s.Widths.length : Int) - 1))))
 | [], _ => rfl
 | e :: p, i => by
  simp only [zd, mF, cnot, cand, wD, Option.bind_some, Vm s p, List.all_cons]
def wordB (n : Int) (w : GLw) : Bool := inB 1 6 w.Signs.length && (w.Signs.all (inB 0 n) && (incrL w.Cuts && w.Cuts.all (inB 1 (i64.wrap ((w.Signs.length : Int) - 1)))))
theorem KK (s : GLs) (w : GLw) (h1 : lenOk w.Signs = true) (h2 : lenOk w.Cuts = true) : AI s w = some (wordB (i64.wrap ((s.Widths.length : Int) - 1)) w) := by
 simp only [AI, h1, h2, cond_true, Vm, Zg w h2, in_eq, Option.bind_some, KJ, wordB]
 cases w.Signs.all _ <;> cases (incrL w.Cuts && w.Cuts.all _) <;> cases inB 1 6 _ <;> rfl
def Fine (w : GLw) : Prop := lenOk w.Signs = true ∧ lenOk w.Cuts = true
theorem Vn (s : GLs) : ∀ (p : List GLw) (i : Int), (∀ w ∈ p, Fine w) → yI s p i = goB (p.all (wordB (i64.wrap ((s.Widths.length : Int) - 1))))
 | [], _, _ => rfl
 | e :: p, i, h => by
  have he := h e (List.mem_cons_self ..)
  simp only [yI, mF, cnot, cand, KK s e he.1 he.2, Option.bind_some, Vn s p (i + 1) (fun w hw => h w (List.mem_cons_of_mem _ hw)), List.all_cons]
theorem Vo (n : Int) : ∀ (p : List GLw) (i : Int), (∀ w ∈ p, Fine w) → ze n p i = goB (p.all (wordB (i64.wrap (n - 1))))
 | [], _, _ => rfl
 | e :: p, i, h => by
  have he := h e (List.mem_cons_self ..)
  simp only [ze, mF, cnot, cand, vl, KI _ _ _ he.1, Vj _ _ _ he.2, Option.bind_some, Vo n p (i + 1) (fun w hw => h w (List.mem_cons_of_mem _ hw)), List.all_cons, wordB]
theorem Vp : ∀ (p : List Int) (i : Int), yJ p i = goB (p.all (inB 1 20))
 | [], _ => rfl
 | e :: p, i => by
  simp only [yJ, mF, cnot, cand, in_eq, Option.bind_some, Vp p, List.all_cons]
def sgn (a b : Int) : Int := if a < b then -1 else if a > b then 1 else 0
theorem KL (a b : Int) : zf a b = some (sgn a b) := by
 unfold zf Bf sgn
 by_cases h1 : a < b <;> by_cases h2 : a > b <;> simp [h1, h2]
def pairGe (a b : GLp) : Bool := cond (decide (a.Left > b.Left)) true (cond (a.Left == b.Left) (decide (a.Right ≥ b.Right)) false)
theorem or_eq (a b : Int) : Bg [a, b] = some (if a = 0 then b else a) := by
 have e : (fun x : Int => x != 0) a = !decide (a = 0) := by by_cases h : a = 0 <;> simp [h]
 have e' : (b != 0) = !decide (b = 0) := by by_cases h : b = 0 <;> simp [h]
 simp only [] at e
 by_cases h : a = 0 <;> by_cases h' : b = 0 <;> simp [Bg, Bh, lenOk, lbind, e, e', h, h']
theorem Zh (a b : GLp) : ∃ r, Bi a b = some r ∧ decide (r ≥ 0) = pairGe a b := by
 refine ⟨_, by simp only [Bi, KL, or_eq, Option.bind_some]; rfl, ?_⟩
 unfold sgn pairGe
 by_cases h1 : a.Left < b.Left
 ·have : ¬ a.Left > b.Left := by omega
  have h3 : ¬ a.Left = b.Left := by omega
  simp [h1, this, h3]
 ·by_cases h2 : a.Left > b.Left
  ·simp [h1, h2]
  ·have h3 : a.Left = b.Left := by omega
   by_cases h4 : a.Right < b.Right
   ·have : ¬ a.Right ≥ b.Right := by omega
    simp [h3, h4]
   ·by_cases h5 : a.Right > b.Right
    ·simp [h3, h4, h5]; omega
    ·simp [h3, h4, h5]; omega
def pairB (m : Int) (e : GLp) : Bool := inB 0 m e.Left && (inB 0 m e.Right && spanB 9 e.Space)
def pairsG (m : Int) : Option GLp → List GLp → Bool
 | _, [] => true
 | none, e :: p => pairB m e && pairsG m (some e) p
 | some q, e :: p => pairB m e && (!pairGe q e && pairsG m (some e) p)
theorem Vq (s : GLs) (hl : lenOk s.Pairs = true) : ∀ (p : List GLp) (q : GLp) (i : Int), 1 ≤ i → s.Pairs.drop (i - 1).toNat = q :: p →
  ta s p i = goB (pairsG (i64.wrap ((s.Widths.length : Int) - 1)) (some q) p)
 | [], _, _, _, _ => rfl
 | e :: p, q, i, h0, h => by
  have hb := wC hl
  have hle := za h
  simp only [List.length_cons] at hle
  have hi : i < 9223372036854775808 := by
   rcases hle with hle | hle
   ·omega
   ·cases hle
  have hn : s.Pairs.drop (i + 1 - 1).toNat = e :: p := by
   have := bJ (i := i - 1) (by omega) h
   rwa [show i - 1 + 1 = i + 1 - 1 by omega] at this
  have hp : decide (i > 0) = true := by simp; omega
  simp only [ta, mF, cnot, wD, wA, yZ h0 hi h, hp, Option.bind_some, Vq s hl p e (i + 1) (by omega) hn, pairsG, pairB, cand, cond_true, pairGe]
  cases decide (q.Left > e.Left) <;> cases (q.Left == e.Left) <;> rfl
theorem Zi (s : GLs) (hl : lenOk s.Pairs = true) : ta s s.Pairs 0 = goB (pairsG (i64.wrap ((s.Widths.length : Int) - 1)) none s.Pairs) := by
 generalize hc : s.Pairs = cs
 cases cs with
 | nil => rfl
 | cons e p =>
  have := Vq s hl p e (0 + 1) (by omega) (by rw [hc]; rfl)
  simp only [ta, mF, cnot, cand, wD, wA, Option.bind_some, this, pairsG, pairB, show decide ((0 : Int) > 0) = false from rfl, cond_false]
theorem Vr (xs : List GLp) (n : Int) (hl : lenOk xs = true) : ∀ (p : List GLp) (q : GLp) (i : Int), 1 ≤ i → xs.drop (i - 1).toNat = q :: p →
  tI xs n p i = goB (pairsG (i64.wrap (n - 1)) (some q) p)
 | [], _, _, _, _ => rfl
 | e :: p, q, i, h0, h => by
  have hb := wC hl
  have hle := za h
  simp only [List.length_cons] at hle
  have hi : i < 9223372036854775808 := by
   rcases hle with hle | hle
   ·omega
   ·cases hle
  have hn : xs.drop (i + 1 - 1).toNat = e :: p := by
   have := bJ (i := i - 1) (by omega) h
   rwa [show i - 1 + 1 = i + 1 - 1 by omega] at this
  have hp : decide (i > 0) = true := by simp; omega
  obtain ⟨r, hr, hr'⟩ := Zh q e
  simp only [tI, mF, cnot, vl, KH, yZ h0 hi h, hp, hr, hr', Option.bind_some, Vr xs n hl p e (i + 1) (by omega) hn, pairsG, pairB, cand, cond_true]
theorem Zj (xs : List GLp) (n : Int) (hl : lenOk xs = true) : tI xs n xs 0 = goB (pairsG (i64.wrap (n - 1)) none xs) := by
 cases xs with
 | nil => rfl
 | cons e p =>
  have := Vr (e :: p) n hl p e (0 + 1) (by omega) rfl
  simp only [tI, mF, cnot, cand, vl, KH, Option.bind_some, this, pairsG, pairB, show decide ((0 : Int) > 0) = false from rfl, cond_false]
def FineS (s : GLs) : Prop := lenOk s.Widths = true ∧ lenOk s.Pairs = true ∧ lenOk s.Words = true ∧ ∀ w ∈ s.Words, Fine w
def sheetB (s : GLs) : Bool :=
 inB 1 6 s.Widths.length && s.Widths.all (inB 1 20) &&
 (decide ((s.Pairs.length : Int) ≤ 6) && pairsG (i64.wrap ((s.Widths.length : Int) - 1)) none s.Pairs) &&
 spanB 9 s.Other && spanB 20 s.Gap && inB 1 20 s.Hyphen &&
 (inB 1 4 s.Words.length && s.Words.all (wordB (i64.wrap ((s.Widths.length : Int) - 1)))) &&
 inB 1 400 s.Wide && inB 1 3 s.Rows
theorem KM (n : Int) : AG n = some (inB 1 400 n) := by
 simp only [AG, in_eq, Option.bind_some]
theorem KN (s : GLs) (h : lenOk s.Pairs = true) : AA s = some (decide ((s.Pairs.length : Int) ≤ 6) && pairsG (i64.wrap ((s.Widths.length : Int) - 1)) none s.Pairs) := by
 simp only [AA, h, cond_true, Zi s h, vm, csome]
 rw [Bool.and_comm]
theorem KO (xs : List GLp) (n : Int) (h : lenOk xs = true) : Bj xs n = some (decide ((xs.length : Int) ≤ 6) && pairsG (i64.wrap (n - 1)) none xs) := by
 simp only [Bj, h, cond_true, Zj xs n h, vm]
 by_cases hn : (xs.length : Int) ≤ 6
 ·have : ¬ (xs.length : Int) > 6 := by omega
  simp only [hn, this, decide_true, decide_false, cond_false, Bool.true_and]
  cases pairsG _ _ xs <;> rfl
 ·have : (xs.length : Int) > 6 := by omega
  simp only [hn, this, decide_true, decide_false, cond_true, Bool.false_and]
theorem Zk (s : GLs) (h : FineS s) : AJ s = some (sheetB s) := by
 obtain ⟨h1, h2, h3, h4⟩ := h
 simp only [AJ, h1, h3, cond_true, Vp, Vn s _ _ h4, vm, in_eq, wA, KM, KN s h2, Option.bind_some, csome, sheetB, ← Bool.and_assoc]
 congr 1
 simp only [Bool.and_assoc]
 cases s.Widths.all _ <;> cases s.Words.all _ <;> simp [Bool.and_comm, Bool.and_left_comm]
theorem Zl (xs : List Int) (h : lenOk xs = true) : Bk xs = some (inB 1 6 xs.length && xs.all (inB 1 20)) := by
 simp only [Bk, vl, KI _ _ _ h, Option.bind_some, csome]
theorem Zm (xs : List GLw) (n : Int) (h : lenOk xs = true) (hw : ∀ w ∈ xs, Fine w) : Bl xs n = some (inB 1 4 xs.length && xs.all (wordB (i64.wrap (n - 1)))) := by
 simp only [Bl, vl, Option.bind_some, h, cond_true, Vo n xs 0 hw, vm, csome, Bool.and_true]
theorem KP (s : GLs) (h : FineS s) : vn s = some (sheetB s) := by
 obtain ⟨h1, h2, h3, h4⟩ := h
 simp only [vn, Zl _ h1, KO _ _ h2, Zm _ _ h3 h4, vl, KH, Option.bind_some, csome, sheetB, Bool.and_assoc]
end Go.V
end
