/- Part of a proof. -/
import Derived.Test.YtclkbhbhohdgbaaGreatDoorE3be
set_option linter.all false
set_option maxRecDepth 4000
set_option maxHeartbeats 40000000
section
namespace Go.V
open Go Go.Proofs IntKind Tryz
def rN (ak : List GLp) (aR : Int) : List GLp → Int → Option (LOut (Bool) (Unit))
 | [], cV => some (.go ())
 | e0 :: p0, cV => Option.bind (nO 0 e0.Left (i64.wrap (aR - 1))) (fun r1 => cond (r1) (Option.bind (nO 0 e0.Right (i64.wrap (aR - 1))) (fun r2 => cond (r2) (Option.bind (uU 0 e0.Space 9) (fun r3 => cond (r3) (cond (decide (cV > 0)) (Option.bind (getI ak (i64.wrap (cV - 1))) (fun x4 => Option.bind (zL x4 e0) (fun r5 => cond (decide (r5 ≥ 0)) (some (.ret false)) (rN ak aR p0 (cV + 1))))) (rN ak aR p0 (cV + 1))) (some (.ret false)))) (some (.ret false)))) (some (.ret false)))
def zM (ak : List GLp) (aR : Int) : Option (Bool) := cond (decide ((List.length ak : Int) > 6)) (some false) (cond (lenOk ak) (lbind (rN ak aR ak 0) (fun r7 => some r7) (fun c6 => some true) (fun _ _ => none)) none)
theorem X7 (ak : List GLp) (aR : Int) (R : Bool) (h : zM ak aR = some R) : ah prog G0 110 [.sl (ad cGLp ak) (List.length ak) false, .lit (.int .i64 aR)] (.tree (.lit (.bool R))) := by
 refine ah.runR mixed call110 func110 rfl (by simp [ntmps110]; kernel_rfl) ?_
 obtain ⟨KF, h, kF, kN⟩ := eN h
 simp only [zM] at h
 cases d8 : (decide ((List.length ak : Int) > 6))
 ·simp only [d8, hs] at h
  cases eO : (lenOk ak)
  ·simp only [eO, hs] at h
   exact absurd h kN
  simp only [eO, hs] at h
  simp only [vz, tyf, d8, eO, nm, seval]
  obtain ⟨K9, h, uC, wS, Tc, qM⟩ := hX h kN
  obtain ⟨f9, zk, h⟩ := call2 h
  obtain ⟨I9, ml⟩ : ∃ I : Nat → St → Prop, I = (fun m st => ∃ (p9 : List GLp) (cE : Int), m = List.length p9 ∧ 0 ≤ cE ∧ List.drop (Int.toNat cE) ak = p9 ∧ st.df = [] ∧ 7 ≤ st.nx ∧ st.tm 0 = .sl (ad cGLp ak) (List.length ak) false ∧ st.tm 1 = .lit (.int .i64 aR) ∧ st.tm 10 = .sl (ad cGLp ak) (List.length ak) false ∧ st.tm 11 = .lit (.int .i64 (List.length ak : Int)) ∧ st.tm 12 = .lit (.int .i64 cE) ∧ K9 (f9 p9 cE)) := ⟨_, rfl⟩
  refine loopK mixed (by kernel_rfl) I9 (List.length ak) (by rw [ml]; refine ⟨ak, 0, rfl, qZg _, rfl, rfl, (show 7 ≤ 7 by omega), ?_, ?_, ?_, ?_, ?_, h⟩ <;> first | (simp only [ua, d8, nm, seval] <;> rfl) | rfl) ?_
  rintro m ⟨tm, H, iw, df⟩ aL
  rw [ml] at aL
  obtain ⟨p9, cE, rfl, gv, iE, hdf, zl, br, cj, bA, bK, bW, h⟩ := aL
  simp only at hdf zl br cj bA bK bW
  have jb := gQ (m := 7) (b := iw) (by omega)
  subst hdf zk
  cases p9 with
  | nil =>
   have iy : (decide (cE < (List.length ak : Int))) = false := gB gv iE
   simp only [rN, hs, reduceCtorEq] at h
   replace h := wS _ h
   try dsimp only at h
   try simp only [hs] at h
   try simp only [vz, tyf, d8, eO, jb, br, cj, bA, bK, bW, iy, nm, seval]
   obtain rfl := kF _ h
   exact bR results110 rfl
  | cons e9 p9 =>
   have lT : (decide (cE < (List.length ak : Int))) = true := gq gv iE
   have lU := eV gv iE
   have uW := gu gv iE eO
   simp only [rN, hs, reduceCtorEq] at h
   obtain ⟨qT, iG, h⟩ := optI h qM
   try simp only [hs] at h
   simp only [vz, tyf, d8, eO, jb, br, cj, bA, bK, bW, lT, (ct lU), uW, nm, seval]
   refine ktA (rO _ _ _ _ iG) ?_
   refine bQ (fun tm => tm 0 = .sl (ad cGLp ak) (List.length ak) false ∧ tm 1 = .lit (.int .i64 aR) ∧ tm 5 = .lit (.int .i64 cE) ∧ tm 6 = .ptr (iw + 4) 0 ∧ tm 10 = .sl (ad cGLp ak) (List.length ak) false ∧ tm 11 = .lit (.int .i64 (List.length ak : Int)) ∧ tm 12 = .lit (.int .i64 cE) ∧ tm 21 = .lit (.bool qT) ∧ True) (by refine ⟨br, cj, ?_, ?_, bA, bK, bW, ?_, trivial⟩ <;> first | (simp only [ua, d8, jb, br, cj, bA, bK, bW, lT, uW, nm, seval] <;> rfl) | rfl) ?_
   rintro tm ⟨cI, du, cG, dG, fj, fS, gE, dk, _⟩
   cases cT : (qT)
   ·simp only [cT, hs] at h
    try simp only [vz, tyf, d8, eO, jb, lT, (ct lU), uW, cI, du, cG, dG, fj, fS, gE, dk, cT, nm, seval]
    replace h := uC _ h
    try dsimp only at h
    obtain rfl := kF _ h
    exact bR results110 rfl
   simp only [cT, hs] at h
   obtain ⟨zN, HY, h⟩ := optI h qM
   try simp only [hs] at h
   simp only [vz, tyf, d8, eO, jb, lT, (ct lU), uW, cI, du, cG, dG, fj, fS, gE, dk, cT, nm, seval]
   refine ktA (rO _ _ _ _ HY) ?_
   refine bQ (fun tm => tm 0 = .sl (ad cGLp ak) (List.length ak) false ∧ tm 1 = .lit (.int .i64 aR) ∧ tm 5 = .lit (.int .i64 cE) ∧ tm 6 = .ptr (iw + 4) 0 ∧ tm 10 = .sl (ad cGLp ak) (List.length ak) false ∧ tm 11 = .lit (.int .i64 (List.length ak : Int)) ∧ tm 12 = .lit (.int .i64 cE) ∧ tm 23 = .lit (.bool false) ∧ tm 28 = .lit (.bool zN) ∧ True) (by refine ⟨cI, du, cG, dG, fj, fS, gE, ?_, ?_, trivial⟩ <;> first | (simp only [ua, d8, jb, lT, uW, cI, du, cG, dG, fj, fS, gE, dk, cT, nm, seval] <;> rfl) | rfl) ?_
   rintro tm ⟨hY, gS, cg, bT, bG, bJ, bS, cU, ck, _⟩
   cases oX : (zN)
   ·simp only [oX, hs] at h
    have X8 := qZk d8 (qZk eO (qZk jb (qZk lT (qZk uW (qZk cT oX)))))
    try simp only [vz, tyf, X8, (ct lU), hY, gS, cg, bT, bG, bJ, bS, cU, ck, nm, seval]
    replace h := uC _ h
    try dsimp only at h
    obtain rfl := kF _ h
    exact bR results110 rfl
   simp only [oX, hs] at h
   have lV := qZk d8 (qZk eO (qZk jb (qZk lT (qZk uW (qZk cT oX)))))
   obtain ⟨T6, wZ, h⟩ := optI h qM
   try simp only [hs] at h
   simp only [vz, tyf, lV, (ct lU), hY, gS, cg, bT, bG, bJ, bS, cU, ck, nm, seval]
   refine ktA (HZ _ _ _ _ wZ) ?_
   refine bQ (fun tm => tm 0 = .sl (ad cGLp ak) (List.length ak) false ∧ tm 1 = .lit (.int .i64 aR) ∧ tm 5 = .lit (.int .i64 cE) ∧ tm 6 = .ptr (iw + 4) 0 ∧ tm 10 = .sl (ad cGLp ak) (List.length ak) false ∧ tm 11 = .lit (.int .i64 (List.length ak : Int)) ∧ tm 12 = .lit (.int .i64 cE) ∧ tm 31 = .lit (.bool false) ∧ tm 34 = .lit (.bool T6) ∧ True) (by refine ⟨hY, gS, cg, bT, bG, bJ, bS, ?_, ?_, trivial⟩ <;> first | (simp only [ua, lV, hY, gS, cg, bT, bG, bJ, bS, cU, ck, nm, seval] <;> rfl) | rfl) ?_
   rintro tm ⟨fk, cA, cZ, de, dF, nP, jT, mn, dJ, _⟩
   cases nf : (T6)
   ·simp only [nf, hs] at h
    try simp only [vz, tyf, lV, (ct lU), fk, cA, cZ, de, dF, nP, jT, mn, dJ, nf, nm, seval]
    replace h := uC _ h
    try dsimp only at h
    obtain rfl := kF _ h
    exact bR results110 rfl
   simp only [nf, hs] at h
   simp only [vz, tyf, lV, (ct lU), fk, cA, cZ, de, dF, nP, jT, mn, dJ, nf, nm, seval]
   refine uX (fun tm => tm 0 = .sl (ad cGLp ak) (List.length ak) false ∧ tm 1 = .lit (.int .i64 aR) ∧ tm 5 = .lit (.int .i64 cE) ∧ tm 6 = .ptr (iw + 4) 0 ∧ tm 10 = .sl (ad cGLp ak) (List.length ak) false ∧ tm 11 = .lit (.int .i64 (List.length ak : Int)) ∧ tm 12 = .lit (.int .i64 cE) ∧ True) (by refine ⟨fk, cA, cZ, de, dF, nP, jT, trivial⟩ <;> first | (simp only [ua, lV, fk, cA, cZ, de, dF, nP, jT, mn, dJ, nf, nm, seval] <;> rfl) | rfl) ?_
   rintro tm ⟨dR, fa, fy, fz, dN, eD, mo, _⟩
   cases lW : (decide (cE > 0))
   ·simp only [lW, hs] at h
    simp only [vz, tyf, lV, (ct lU), nf, dR, fa, fy, fz, dN, eD, mo, lW, nm, seval]
    exact ⟨List.length p9, qZc _, by rw [ml]; refine ⟨p9, cE + 1, rfl, qZm gv (qZl (qZg _)), cb gv iE, rfl, (show 7 ≤ iw + 41 by omega), dR, fa, dN, eD, ?_, (by first | exact h | (simp only [lV, nf, lW]; exact h))⟩ <;> first | (simp only [ua, lV, nf, dR, fa, fy, fz, dN, eD, mo, lW, nm, seval] <;> rfl) | rfl⟩
   simp only [lW, hs] at h
   obtain ⟨x66, Ia, h⟩ := optI h qM
   try simp only [hs] at h
   obtain ⟨zO, Ib, h⟩ := optI h qM
   try simp only [hs] at h
   simp only [vz, tyf, lV, (ct lU), nf, dR, fa, fy, fz, dN, eD, mo, lW, (ct Ia), nm, seval]
   refine dktA (X9 _ _ _ Ib) ?_
   refine bQ (fun tm => tm 0 = .sl (ad cGLp ak) (List.length ak) false ∧ tm 1 = .lit (.int .i64 aR) ∧ tm 10 = .sl (ad cGLp ak) (List.length ak) false ∧ tm 11 = .lit (.int .i64 (List.length ak : Int)) ∧ tm 12 = .lit (.int .i64 cE) ∧ tm 39 = .lit (.bool true) ∧ tm 46 = .lit (.int .i64 zO) ∧ True) (by refine ⟨dR, fa, dN, eD, mo, ?_, ?_, trivial⟩ <;> first | (simp only [ua, lV, nf, dR, fa, fy, fz, dN, eD, mo, lW, nm, seval] <;> rfl) | rfl) ?_
   rintro tm ⟨gT, sS, sT, DD, Ic, Ie, zP, _⟩
   cases xa : (decide (zO ≥ 0))
   ·simp only [xa, hs] at h
    simp only [vz, tyf, lV, (ct lU), nf, lW, (ct Ia), gT, sS, sT, DD, Ic, Ie, zP, xa, nm, seval]
    exact ⟨List.length p9, qZc _, by rw [ml]; refine ⟨p9, cE + 1, rfl, qZm gv (qZl (qZg _)), cb gv iE, rfl, (show 7 ≤ iw + 41 by omega), gT, sS, sT, DD, ?_, (by first | exact h | (simp only [lV, nf, lW, xa]; exact h))⟩ <;> first | (simp only [ua, lV, nf, lW, gT, sS, sT, DD, Ic, Ie, zP, xa, nm, seval] <;> rfl) | rfl⟩
   simp only [xa, hs] at h
   try simp only [vz, tyf, lV, (ct lU), nf, lW, (ct Ia), gT, sS, sT, DD, Ic, Ie, zP, xa, nm, seval]
   replace h := uC _ h
   try dsimp only at h
   obtain rfl := kF _ h
   exact bR results110 rfl
 simp only [d8, hs] at h
 try simp only [vz, tyf, d8, nm, seval]
 obtain rfl := kF _ h
 exact bR results110 rfl
def xb (aj : List Int) : List Int → Int → Option (LOut (Bool) (Unit))
 | [], nQ => some (.go ())
 | e0 :: p0, nQ => Option.bind (getI aj (i64.wrap (nQ - 1))) (fun x1 => cond (decide (e0 ≤ x1)) (some (.ret false)) (xb aj p0 (nQ + 1)))
def xc (aS : Int) (aj : List Int) (bl : Int) : Option (Bool) := cond (lenOk aj) (cond (leB 0 1) (lbind (xb aj (List.drop (Int.toNat 1) aj) 1) (fun r4 => some r4) (fun c2 => Option.bind (uY aS aj bl) (fun r3 => some r3)) (fun _ _ => none)) none) none
theorem XA (aS : Int) (aj : List Int) (bl : Int) (R : Bool) (h : xc aS aj bl = some R) : ah prog G0 149 [.lit (.int .i64 aS), .sl (ad eI aj) (List.length aj) false, .lit (.int .i64 bl)] (.tree (.lit (.bool R))) := by
 refine ah.runR mixed call149 func149 rfl (by simp [ntmps149]; kernel_rfl) ?_
 obtain ⟨KF, h, kF, kN⟩ := eN h
 simp only [xc] at h
 cases g6 : (lenOk aj)
 ·simp only [g6, hs] at h
  exact absurd h kN
 simp only [g6, hs] at h
 cases g7 : (leB 0 1)
 ·simp only [g7, hs] at h
  exact absurd h kN
 simp only [g7, hs] at h
 simp only [vz, tyf, g6, g7, nm, seval]
 obtain ⟨K5, h, XB, XC, kB5, XD⟩ := hX h kN
 obtain ⟨f5, XE, h⟩ := call2 h
 obtain ⟨I5, Ig⟩ : ∃ I : Nat → St → Prop, I = (fun m st => ∃ (p5 : List Int) (ky : Int), m = List.length p5 ∧ 0 ≤ ky ∧ List.drop (Int.toNat ky) aj = p5 ∧ st.df = [] ∧ 2 ≤ st.nx ∧ st.tm 0 = .lit (.int .i64 aS) ∧ st.tm 1 = .sl (ad eI aj) (List.length aj) false ∧ st.tm 2 = .lit (.int .i64 bl) ∧ st.tm 7 = .lit (.int .i64 ky) ∧ K5 (f5 p5 ky)) := ⟨_, rfl⟩
 refine loopK mixed (by kernel_rfl) I5 (List.length (List.drop (Int.toNat 1) aj)) (by rw [Ig]; refine ⟨List.drop (Int.toNat 1) aj, 1, rfl, of_decide_eq_true g7, rfl, rfl, (show 2 ≤ 2 by omega), ?_, ?_, ?_, ?_, h⟩ <;> first | (simp only [ua, nm, seval] <;> rfl) | rfl) ?_
 rintro m ⟨tm, H, T7, df⟩ aL
 rw [Ig] at aL
 obtain ⟨p5, ky, rfl, xd, zQ, hdf, sK, e8, e9, bx, br, h⟩ := aL
 simp only at hdf sK e8 e9 bx br
 have ll := gQ (m := 2) (b := T7) (by omega)
 subst hdf XE
 cases p5 with
 | nil =>
  have cy : (decide (ky < (List.length aj : Int))) = false := gB xd zQ
  simp only [xb, hs, reduceCtorEq] at h
  replace h := XC _ h
  try dsimp only at h
  try simp only [hs] at h
  obtain ⟨xe, uZ, h⟩ := optI h kN
  try simp only [hs] at h
  simp only [vz, tyf, g6, g7, ll, e8, e9, bx, br, cy, nm, seval]
  refine ktA (Ih _ _ _ _ uZ) ?_
  refine bQ (fun tm => tm 27 = .lit (.bool xe) ∧ True) (by refine ⟨?_, trivial⟩ <;> first | (simp only [ua, ll, e8, e9, bx, br, cy, nm, seval] <;> rfl) | rfl) ?_
  rintro tm ⟨cD, _⟩
  try simp only [vz, tyf, g6, g7, ll, cy, cD, nm, seval]
  obtain rfl := kF _ h
  exact bR results149 rfl
 | cons e5 p5 =>
  have iy : (decide (ky < (List.length aj : Int))) = true := gq xd zQ
  have Ii := eV xd zQ
  have zR := gu xd zQ g6
  simp only [xb, hs, reduceCtorEq] at h
  simp only [vz, tyf, g6, g7, ll, e8, e9, bx, br, iy, (aF Ii), zR, nm, seval]
  refine uX (fun tm => tm 0 = .lit (.int .i64 aS) ∧ tm 1 = .sl (ad eI aj) (List.length aj) false ∧ tm 2 = .lit (.int .i64 bl) ∧ tm 7 = .lit (.int .i64 ky) ∧ True) (by refine ⟨e8, e9, bx, br, trivial⟩ <;> first | (simp only [ua, ll, e8, e9, bx, br, iy, zR, nm, seval] <;> rfl) | rfl) ?_
  rintro tm ⟨gR, bZ, cW, cI, _⟩
  obtain ⟨XF, xf, h⟩ := optI h XD
  try simp only [hs] at h
  cases xg : (decide (e5 ≤ XF))
  ·simp only [xg, hs] at h
   simp only [vz, tyf, g6, g7, ll, iy, (aF Ii), zR, gR, bZ, cW, cI, (aF xf), xg, nm, seval]
   exact ⟨List.length p5, qZc _, by rw [Ig]; refine ⟨p5, ky + 1, rfl, qZm xd (qZl (qZg _)), cb xd zQ, rfl, (show 2 ≤ T7 + 17 by omega), gR, bZ, cW, ?_, (by first | exact h | (simp only [iy, xg]; exact h))⟩ <;> first | (simp only [ua, ll, iy, zR, gR, bZ, cW, cI, xg, nm, seval] <;> rfl) | rfl⟩
  simp only [xg, hs] at h
  try simp only [vz, tyf, g6, g7, ll, iy, (aF Ii), zR, gR, bZ, cW, cI, (aF xf), xg, nm, seval]
  replace h := XB _ h
  try dsimp only at h
  obtain rfl := kF _ h
  exact bR results149 rfl
def xh (aR : Int) : List GLw → Int → Option (LOut (Bool) (Unit))
 | [], sU => some (.go ())
 | e0 :: p0, sU => Option.bind (nO 1 (List.length e0.Signs : Int) 6) (fun r2 => cond (r2) (Option.bind (uY 0 e0.Signs (i64.wrap (aR - 1))) (fun r3 => cond (r3) (Option.bind (xc 1 e0.Cuts (i64.wrap ((List.length e0.Signs : Int) - 1))) (fun r4 => cond (r4) (xh aR p0 (sU + 1)) (some (.ret false)))) (some (.ret false)))) (some (.ret false)))
def zS (aV : List GLw) (aR : Int) : Option (Bool) := Option.bind (nO 1 (List.length aV : Int) 4) (fun r1 => cond (r1) (cond (lenOk aV) (lbind (xh aR aV 0) (fun r6 => some r6) (fun c5 => some true) (fun _ _ => none)) none) (some false))
theorem XG (aV : List GLw) (aR : Int) (R : Bool) (h : zS aV aR = some R) : ah prog G0 113 [.sl (ad cGLw aV) (List.length aV) false, .lit (.int .i64 aR)] (.tree (.lit (.bool R))) := by
 refine ah.runR mixed call113 func113 rfl (by simp [ntmps113]; kernel_rfl) ?_
 obtain ⟨KF, h, kF, kN⟩ := eN h
 simp only [zS] at h
 obtain ⟨r7, o8, h⟩ := optI h kN
 try simp only [hs] at h
 simp only [vz, tyf, nm, seval]
 refine ktA (rO _ _ _ _ o8) ?_
 refine bQ (fun tm => tm 0 = .sl (ad cGLw aV) (List.length aV) false ∧ tm 1 = .lit (.int .i64 aR) ∧ tm 10 = .lit (.bool r7) ∧ True) (by refine ⟨?_, ?_, ?_, trivial⟩ <;> first | (simp only [ua, nm, seval] <;> rfl) | rfl) ?_
 rintro tm ⟨e9, bx, br, _⟩
 cases dK : (r7)
 ·simp only [dK, hs] at h
  try simp only [vz, tyf, e9, bx, br, dK, nm, seval]
  obtain rfl := kF _ h
  exact bR results113 rfl
 simp only [dK, hs] at h
 cases qU : (lenOk aV)
 ·simp only [qU, hs] at h
  exact absurd h kN
 simp only [qU, hs] at h
 simp only [vz, tyf, e9, bx, br, dK, qU, nm, seval]
 obtain ⟨XH, h, va, Ij, XI, vb⟩ := hX h kN
 obtain ⟨XJ, Ik, h⟩ := call2 h
 obtain ⟨XK, vc⟩ : ∃ I : Nat → St → Prop, I = (fun m st => ∃ (sV : List GLw) (d4 : Int), m = List.length sV ∧ 0 ≤ d4 ∧ List.drop (Int.toNat d4) aV = sV ∧ st.df = [] ∧ 8 ≤ st.nx ∧ st.tm 1 = .lit (.int .i64 aR) ∧ st.tm 12 = .sl (ad cGLw aV) (List.length aV) false ∧ st.tm 13 = .lit (.int .i64 (List.length aV : Int)) ∧ st.tm 14 = .lit (.int .i64 d4) ∧ XH (XJ sV d4)) := ⟨_, rfl⟩
 refine loopK mixed (by kernel_rfl) XK (List.length aV) (by rw [vc]; refine ⟨aV, 0, rfl, qZg _, rfl, rfl, (show 8 ≤ 8 by omega), bx, ?_, ?_, ?_, h⟩ <;> first | (simp only [ua, e9, bx, br, dK, nm, seval] <;> rfl) | rfl) ?_
 rintro m ⟨tm, H, rP, df⟩ aL
 rw [vc] at aL
 obtain ⟨sV, d4, rfl, nR, pI, hdf, Il, bW, cD, bm, cq, h⟩ := aL
 simp only at hdf Il bW cD bm cq
 have ko := gQ (m := 8) (b := rP) (by omega)
 subst hdf Ik
 cases sV with
 | nil =>
  have cH : (decide (d4 < (List.length aV : Int))) = false := gB nR pI
  simp only [xh, hs, reduceCtorEq] at h
  replace h := Ij _ h
  try dsimp only at h
  try simp only [hs] at h
  try simp only [vz, tyf, dK, qU, ko, bW, cD, bm, cq, cH, nm, seval]
  obtain rfl := kF _ h
  exact bR results113 rfl
 | cons bA sV =>
  have lX : (decide (d4 < (List.length aV : Int))) = true := gq nR pI
  have rQ := eV nR pI
  have sW := gu nR pI qU
  simp only [xh, hs, reduceCtorEq] at h
  obtain ⟨zT, xf, h⟩ := optI h vb
  try simp only [hs] at h
  simp only [vz, tyf, dK, qU, ko, bW, cD, bm, cq, lX, (av rQ), sW, nm, seval]
  refine ktA (rO _ _ _ _ xf) ?_
  refine bQ (fun tm => tm 1 = .lit (.int .i64 aR) ∧ tm 6 = .ptr (rP + 3) 0 ∧ tm 7 = .lit (.int .i64 (List.length bA.Signs : Int)) ∧ tm 12 = .sl (ad cGLw aV) (List.length aV) false ∧ tm 13 = .lit (.int .i64 (List.length aV : Int)) ∧ tm 14 = .lit (.int .i64 d4) ∧ tm 22 = .lit (.bool zT) ∧ True) (by refine ⟨bW, ?_, ?_, cD, bm, cq, ?_, trivial⟩ <;> first | (simp only [ua, dK, ko, bW, cD, bm, cq, lX, sW, nm, seval] <;> rfl) | rfl) ?_
  rintro tm ⟨dG, fj, fS, gE, dk, gM, gD, _⟩
  cases qO : (zT)
  ·simp only [qO, hs] at h
   try simp only [vz, tyf, dK, qU, ko, lX, (av rQ), sW, dG, fj, fS, gE, dk, gM, gD, qO, nm, seval]
   replace h := va _ h
   try dsimp only at h
   obtain rfl := kF _ h
   exact bR results113 rfl
  simp only [qO, hs] at h
  obtain ⟨vd, qP, h⟩ := optI h vb
  try simp only [hs] at h
  simp only [vz, tyf, dK, qU, ko, lX, (av rQ), sW, dG, fj, fS, gE, dk, gM, gD, qO, nm, seval]
  refine ktA (Ih _ _ _ _ qP) ?_
  refine bQ (fun tm => tm 1 = .lit (.int .i64 aR) ∧ tm 6 = .ptr (rP + 3) 0 ∧ tm 7 = .lit (.int .i64 (List.length bA.Signs : Int)) ∧ tm 12 = .sl (ad cGLw aV) (List.length aV) false ∧ tm 13 = .lit (.int .i64 (List.length aV : Int)) ∧ tm 14 = .lit (.int .i64 d4) ∧ tm 24 = .lit (.bool false) ∧ tm 29 = .lit (.bool vd) ∧ True) (by refine ⟨dG, fj, fS, gE, dk, gM, ?_, ?_, trivial⟩ <;> first | (simp only [ua, dK, ko, lX, sW, dG, fj, fS, gE, dk, gM, gD, qO, nm, seval] <;> rfl) | rfl) ?_
  rintro tm ⟨cg, bT, bG, bJ, bS, cU, ck, cC, _⟩
  cases DE : (vd)
  ·simp only [DE, hs] at h
   have lV := qZk dK (qZk qU (qZk ko (qZk lX (qZk sW (qZk qO DE)))))
   try simp only [vz, tyf, lV, (av rQ), cg, bT, bG, bJ, bS, cU, ck, cC, nm, seval]
   replace h := va _ h
   try dsimp only at h
   obtain rfl := kF _ h
   exact bR results113 rfl
  simp only [DE, hs] at h
  have qR := qZk dK (qZk qU (qZk ko (qZk lX (qZk sW (qZk qO DE)))))
  obtain ⟨T8, xi, h⟩ := optI h vb
  try simp only [hs] at h
  simp only [vz, tyf, qR, (av rQ), cg, bT, bG, bJ, bS, cU, ck, cC, nm, seval]
  refine ktA (XA _ _ _ _ xi) ?_
  refine bQ (fun tm => tm 1 = .lit (.int .i64 aR) ∧ tm 12 = .sl (ad cGLw aV) (List.length aV) false ∧ tm 13 = .lit (.int .i64 (List.length aV : Int)) ∧ tm 14 = .lit (.int .i64 d4) ∧ tm 32 = .lit (.bool false) ∧ tm 37 = .lit (.bool T8) ∧ True) (by refine ⟨cg, bJ, bS, cU, ?_, ?_, trivial⟩ <;> first | (simp only [ua, qR, cg, bT, bG, bJ, bS, cU, ck, cC, nm, seval] <;> rfl) | rfl) ?_
  rintro tm ⟨cA, cZ, de, dF, nP, jT, _⟩
  cases xj : (T8)
  ·simp only [xj, hs] at h
   try simp only [vz, tyf, qR, (av rQ), cA, cZ, de, dF, nP, jT, xj, nm, seval]
   replace h := va _ h
   try dsimp only at h
   obtain rfl := kF _ h
   exact bR results113 rfl
  simp only [xj, hs] at h
  simp only [vz, tyf, qR, (av rQ), cA, cZ, de, dF, nP, jT, xj, nm, seval]
  exact ⟨List.length sV, qZc _, by rw [vc]; refine ⟨sV, d4 + 1, rfl, qZm nR (qZl (qZg _)), cb nR pI, rfl, (show 8 ≤ rP + 30 by omega), cA, cZ, de, ?_, (by first | exact h | (simp only [qR, xj]; exact h))⟩ <;> first | (simp only [ua, qR, cA, cZ, de, dF, nP, jT, xj, nm, seval] <;> rfl) | rfl⟩
def u7 (ae : GLs) : Option (Bool) := Option.bind (zU ae.Widths) (fun r1 => cond (r1) (Option.bind (zM ae.Pairs (List.length ae.Widths : Int)) (fun r2 => cond (r2) (Option.bind (uU 0 ae.Other 9) (fun r3 => cond (r3) (Option.bind (uU 0 ae.Gap 20) (fun r4 => cond (r4) (Option.bind (nO 1 ae.Hyphen 20) (fun r5 => cond (r5) (Option.bind (zS ae.Words (List.length ae.Widths : Int)) (fun r6 => cond (r6) (Option.bind (nO 1 ae.Wide 400) (fun r7 => cond (r7) (Option.bind (nO 1 ae.Rows 3) (fun r8 => some r8)) (some false))) (some false))) (some false))) (some false))) (some false))) (some false))) (some false))
theorem SV (ae : GLs) (R : Bool) (h : u7 ae = some R) : ah prog G0 68 [.agg (cGLs ae)] (.tree (.lit (.bool R))) := by
 refine ah.runR mixed call68 func68 rfl (by simp [ntmps68]; kernel_rfl) ?_
 obtain ⟨KF, h, kF, kN⟩ := eN h
 simp only [u7] at h
 obtain ⟨r9, Im, h⟩ := optI h kN
 try simp only [hs] at h
 simp only [vz, tyf, nm, seval]
 refine ktA (XL _ _ Im) ?_
 refine bQ (fun tm => tm 1 = .ptr 0 0 ∧ tm 5 = .lit (.bool r9) ∧ True) (by refine ⟨?_, ?_, trivial⟩ <;> first | (simp only [ua, nm, seval] <;> rfl) | rfl) ?_
 rintro tm ⟨br, cj, _⟩
 cases cy : (r9)
 ·simp only [cy, hs] at h
  try simp only [vz, tyf, br, cj, cy, nm, seval]
  obtain rfl := kF _ h
  exact bR results68 rfl
 simp only [cy, hs] at h
 obtain ⟨xe, uZ, h⟩ := optI h kN
 try simp only [hs] at h
 simp only [vz, tyf, br, cj, cy, nm, seval]
 refine ktA (X7 _ _ _ uZ) ?_
 refine bQ (fun tm => tm 1 = .ptr 0 0 ∧ tm 6 = .lit (.bool true) ∧ tm 12 = .lit (.bool xe) ∧ True) (by refine ⟨br, ?_, ?_, trivial⟩ <;> first | (simp only [ua, br, cj, cy, nm, seval] <;> rfl) | rfl) ?_
 rintro tm ⟨cD, bm, cq, _⟩
 cases dL : (xe)
 ·simp only [dL, hs] at h
  try simp only [vz, tyf, cy, cD, bm, cq, dL, nm, seval]
  obtain rfl := kF _ h
  exact bR results68 rfl
 simp only [dL, hs] at h
 obtain ⟨T9, XM, h⟩ := optI h kN
 try simp only [hs] at h
 simp only [vz, tyf, cy, cD, bm, cq, dL, nm, seval]
 refine ktA (HZ _ _ _ _ XM) ?_
 refine bQ (fun tm => tm 1 = .ptr 0 0 ∧ tm 14 = .lit (.bool true) ∧ tm 17 = .lit (.bool T9) ∧ True) (by refine ⟨cD, ?_, ?_, trivial⟩ <;> first | (simp only [ua, cy, cD, bm, cq, dL, nm, seval] <;> rfl) | rfl) ?_
 rintro tm ⟨cW, cI, du, _⟩
 cases iZ : (T9)
 ·simp only [iZ, hs] at h
  try simp only [vz, tyf, cy, dL, cW, cI, du, iZ, nm, seval]
  obtain rfl := kF _ h
  exact bR results68 rfl
 simp only [iZ, hs] at h
 obtain ⟨wX, pz, h⟩ := optI h kN
 try simp only [hs] at h
 simp only [vz, tyf, cy, dL, cW, cI, du, iZ, nm, seval]
 refine ktA (HZ _ _ _ _ pz) ?_
 refine bQ (fun tm => tm 1 = .ptr 0 0 ∧ tm 19 = .lit (.bool true) ∧ tm 22 = .lit (.bool wX) ∧ True) (by refine ⟨cW, ?_, ?_, trivial⟩ <;> first | (simp only [ua, cy, dL, cW, cI, du, iZ, nm, seval] <;> rfl) | rfl) ?_
 rintro tm ⟨fS, gE, dk, _⟩
 cases cT : (wX)
 ·simp only [cT, hs] at h
  try simp only [vz, tyf, cy, dL, iZ, fS, gE, dk, cT, nm, seval]
  obtain rfl := kF _ h
  exact bR results68 rfl
 simp only [cT, hs] at h
 obtain ⟨zN, HY, h⟩ := optI h kN
 try simp only [hs] at h
 simp only [vz, tyf, cy, dL, iZ, fS, gE, dk, cT, nm, seval]
 refine ktA (rO _ _ _ _ HY) ?_
 refine bQ (fun tm => tm 1 = .ptr 0 0 ∧ tm 24 = .lit (.bool true) ∧ tm 27 = .lit (.bool zN) ∧ True) (by refine ⟨fS, ?_, ?_, trivial⟩ <;> first | (simp only [ua, cy, dL, iZ, fS, gE, dk, cT, nm, seval] <;> rfl) | rfl) ?_
 rintro tm ⟨hY, gS, cg, _⟩
 cases qV : (zN)
 ·simp only [qV, hs] at h
  try simp only [vz, tyf, cy, dL, iZ, cT, hY, gS, cg, qV, nm, seval]
  obtain rfl := kF _ h
  exact bR results68 rfl
 simp only [qV, hs] at h
 obtain ⟨TA, XN, h⟩ := optI h kN
 try simp only [hs] at h
 simp only [vz, tyf, cy, dL, iZ, cT, hY, gS, cg, qV, nm, seval]
 refine ktA (XG _ _ _ XN) ?_
 refine bQ (fun tm => tm 1 = .ptr 0 0 ∧ tm 29 = .lit (.bool true) ∧ tm 35 = .lit (.bool TA) ∧ True) (by refine ⟨hY, ?_, ?_, trivial⟩ <;> first | (simp only [ua, cy, dL, iZ, cT, hY, gS, cg, qV, nm, seval] <;> rfl) | rfl) ?_
 rintro tm ⟨bS, cU, ck, _⟩
 cases oX : (TA)
 ·simp only [oX, hs] at h
  try simp only [vz, tyf, cy, dL, iZ, cT, qV, bS, cU, ck, oX, nm, seval]
  obtain rfl := kF _ h
  exact bR results68 rfl
 simp only [oX, hs] at h
 obtain ⟨TB, XO, h⟩ := optI h kN
 try simp only [hs] at h
 simp only [vz, tyf, cy, dL, iZ, cT, qV, bS, cU, ck, oX, nm, seval]
 refine ktA (rO _ _ _ _ XO) ?_
 refine bQ (fun tm => tm 1 = .ptr 0 0 ∧ tm 37 = .lit (.bool true) ∧ tm 40 = .lit (.bool TB) ∧ True) (by refine ⟨bS, ?_, ?_, trivial⟩ <;> first | (simp only [ua, cy, dL, iZ, cT, qV, bS, cU, ck, oX, nm, seval] <;> rfl) | rfl) ?_
 rintro tm ⟨eP, eQ, fk, _⟩
 cases jU : (TB)
 ·simp only [jU, hs] at h
  have XP := qZk cy (qZk dL (qZk iZ (qZk cT (qZk qV (qZk oX jU)))))
  try simp only [vz, tyf, XP, eP, eQ, fk, nm, seval]
  obtain rfl := kF _ h
  exact bR results68 rfl
 simp only [jU, hs] at h
 have zV := qZk cy (qZk dL (qZk iZ (qZk cT (qZk qV (qZk oX jU)))))
 obtain ⟨DF, Io, h⟩ := optI h kN
 try simp only [hs] at h
 simp only [vz, tyf, zV, eP, eQ, fk, nm, seval]
 refine ktA (rO _ _ _ _ Io) ?_
 refine bQ (fun tm => tm 42 = .lit (.bool true) ∧ tm 45 = .lit (.bool DF) ∧ True) (by refine ⟨?_, ?_, trivial⟩ <;> first | (simp only [ua, zV, eP, eQ, fk, nm, seval] <;> rfl) | rfl) ?_
 rintro tm ⟨jT, mn, _⟩
 try simp only [vz, tyf, zV, jT, mn, nm, seval]
 obtain rfl := kF _ h
 exact bR results68 rfl
def mr (jc : Int) (jd : Int) (iM : Int) : Option (Bool) := cond (decide (jc ≥ jd)) (some (decide (jc ≤ iM))) (some false)
theorem pJ (jc : Int) (jd : Int) (iM : Int) (R : Bool) (h : mr jc jd iM = some R) : ah prog G0 73 [.lit (.int .i64 jc), .lit (.int .i64 jd), .lit (.int .i64 iM)] (.tree (.lit (.bool R))) := by
 refine ah.runR mixed call73 func73 rfl (by simp [ntmps73]; kernel_rfl) ?_
 obtain ⟨KF, h, kF, kN⟩ := eN h
 simp only [mr] at h
 cases d1 : (decide (jc ≥ jd))
 ·simp only [d1, hs] at h
  try simp only [vz, tyf, d1, nm, seval]
  obtain rfl := kF _ h
  exact bR results73 rfl
 simp only [d1, hs] at h
 try simp only [vz, tyf, d1, nm, seval]
 obtain rfl := kF _ h
 exact bR results73 rfl
def vf (ae : GLs) (je : Int) : Option (Bool) := Option.bind (mr je 0 (i64.wrap ((List.length ae.Widths : Int) - 1))) (fun r1 => some r1)
theorem Ip (ae : GLs) (je : Int) (R : Bool) (h : vf ae je = some R) : ah prog G0 119 [.agg (cGLs ae), .lit (.int .i64 je)] (.tree (.lit (.bool R))) := by
 refine ah.runR mixed call119 func119 rfl (by simp [ntmps119]; kernel_rfl) ?_
 obtain ⟨KF, h, kF, kN⟩ := eN h
 simp only [vf] at h
 obtain ⟨r2, o3, h⟩ := optI h kN
 try simp only [hs] at h
 simp only [vz, tyf, nm, seval]
 refine ktA (pJ _ _ _ _ o3) ?_
 refine bQ (fun tm => tm 10 = .lit (.bool r2) ∧ True) (by refine ⟨?_, trivial⟩ <;> first | (simp only [ua, nm, seval] <;> rfl) | rfl) ?_
 rintro tm ⟨e4, _⟩
 try simp only [vz, tyf, e4, nm, seval]
 obtain rfl := kF _ h
 exact bR results119 rfl
def rR (cJ : GLw) : List Int → Int → Option (LOut (Bool) (Unit))
 | [], pK => some (.go ())
 | e1 :: p1, pK => Option.bind (mr e1 1 (i64.wrap ((List.length cJ.Signs : Int) - 1))) (fun r3 => cond (r3) (cond (decide (pK > 0)) (Option.bind (getI cJ.Cuts (i64.wrap (pK - 1))) (fun x4 => cond (decide (e1 ≤ x4)) (some (.ret false)) (rR cJ p1 (pK + 1)))) (rR cJ p1 (pK + 1))) (some (.ret false)))
def xk (ae : GLs) : List Int → Int → Option (LOut (Bool) (Unit))
 | [], dc => some (.go ())
 | e0 :: p0, dc => Option.bind (vf ae e0) (fun r1 => cond (r1) (xk ae p0 (dc + 1)) (some (.ret false)))
def zW (ae : GLs) (cJ : GLw) : Option (Bool) := cond (lenOk cJ.Signs) (lbind (xk ae cJ.Signs 0) (fun r8 => some r8) (fun c2 => cond (lenOk cJ.Cuts) (lbind (rR cJ cJ.Cuts 0) (fun r7 => some r7) (fun c5 => Option.bind (mr (List.length cJ.Signs : Int) 1 6) (fun r6 => some r6)) (fun _ _ => none)) none) (fun _ _ => none)) none
theorem XQ (ae : GLs) (cJ : GLw) (R : Bool) (h : zW ae cJ = some R) : ah prog G0 74 [.agg (cGLs ae), .agg (cGLw cJ)] (.tree (.lit (.bool R))) := by
 refine ah.runR mixed call74 func74 rfl (by simp [ntmps74]; kernel_rfl) ?_
 obtain ⟨KF, h, kF, kN⟩ := eN h
 simp only [zW] at h
 cases eO : (lenOk cJ.Signs)
 ·simp only [eO, hs] at h
  exact absurd h kN
 simp only [eO, hs] at h
 simp only [vz, tyf, eO, nm, seval]
 obtain ⟨K9, h, uC, wS, Tc, qM⟩ := hX h kN
 obtain ⟨f9, zk, h⟩ := call2 h
 obtain ⟨I9, ml⟩ : ∃ I : Nat → St → Prop, I = (fun m st => ∃ (p9 : List Int) (jA : Int), m = List.length p9 ∧ 0 ≤ jA ∧ List.drop (Int.toNat jA) cJ.Signs = p9 ∧ st.df = [] ∧ 4 ≤ st.nx ∧ st.H 0 = some (.cells (some 28) (cGLs ae)) ∧ st.H 1 = some (.cells (some 79) (cGLw cJ)) ∧ st.tm 2 = .ptr 0 0 ∧ st.tm 3 = .ptr 1 0 ∧ st.tm 5 = .lit (.int .i64 jA) ∧ K9 (f9 p9 jA)) := ⟨_, rfl⟩
 refine loopK mixed (by kernel_rfl) I9 (List.length cJ.Signs) (by rw [ml]; refine ⟨cJ.Signs, 0, rfl, qZg _, rfl, rfl, (show 4 ≤ 4 by omega), ?_, ?_, ?_, ?_, ?_, h⟩ <;> first | (simp only [ua, nm, seval] <;> rfl) | rfl) ?_
 rintro m ⟨tm, H, iw, df⟩ aL
 rw [ml] at aL
 obtain ⟨p9, jA, rfl, gv, iE, hdf, zl, j7, j8, bA, bK, bW, h⟩ := aL
 simp only at hdf zl j7 j8 bA bK bW
 have jb := gQ (m := 4) (b := iw) (by omega)
 subst hdf zk
 cases p9 with
 | nil =>
  have iy : (decide (jA < (List.length cJ.Signs : Int))) = false := gB gv iE
  simp only [xk, hs, reduceCtorEq] at h
  replace h := wS _ h
  try dsimp only at h
  try simp only [hs] at h
  cases sX : (lenOk cJ.Cuts)
  ·simp only [sX, hs] at h
   exact absurd h kN
  simp only [sX, hs] at h
  simp only [vz, tyf, eO, jb, bA, bK, bW, j7, j8, iy, sX, nm, seval]
  obtain ⟨XR, h, zX, Iq, XS, zY⟩ := hX h kN
  obtain ⟨XT, Ir, h⟩ := call2 h
  obtain ⟨XU, rS⟩ : ∃ I : Nat → St → Prop, I = (fun m st => ∃ (qW : List Int) (fm : Int), m = List.length qW ∧ 0 ≤ fm ∧ List.drop (Int.toNat fm) cJ.Cuts = qW ∧ st.df = [] ∧ iw + 6 ≤ st.nx ∧ st.H 1 = some (.cells (some 79) (cGLw cJ)) ∧ st.tm 3 = .ptr 1 0 ∧ st.tm 6 = .lit (.int .i64 fm) ∧ XR (XT qW fm)) := ⟨_, rfl⟩
  refine loopK mixed (by kernel_rfl) XU (List.length cJ.Cuts) (by rw [rS]; refine ⟨cJ.Cuts, 0, rfl, qZg _, rfl, rfl, (show iw + 6 ≤ iw + 6 by omega), ?_, bK, ?_, h⟩ <;> first | (simp only [ua, jb, bA, bK, bW, j7, j8, iy, nm, seval] <;> rfl) | rfl) ?_
  rintro m ⟨tm, H, rT, df⟩ aL
  rw [rS] at aL
  obtain ⟨qW, fm, rfl, ln, nS, hdf, Is, gC, bZ, cW, h⟩ := aL
  simp only at hdf Is gC bZ cW
  have xl := gQ (m := 4) (b := rT) (by omega)
  have xm := sY (a := iw) (m := 6) (b := rT) (by omega)
  subst hdf Ir
  cases qW with
  | nil =>
   have iZ : (decide (fm < (List.length cJ.Cuts : Int))) = false := gB ln nS
   simp only [rR, hs, reduceCtorEq] at h
   replace h := Iq _ h
   try dsimp only at h
   try simp only [hs] at h
   obtain ⟨wX, pz, h⟩ := optI h kN
   try simp only [hs] at h
   simp only [vz, tyf, eO, jb, iy, sX, xl, xm, bZ, cW, gC, iZ, nm, seval]
   refine ktA (pJ _ _ _ _ pz) ?_
   refine bQ (fun tm => tm 61 = .lit (.bool wX) ∧ True) (by refine ⟨?_, trivial⟩ <;> first | (simp only [ua, jb, iy, xl, xm, bZ, cW, gC, iZ, nm, seval] <;> rfl) | rfl) ?_
   rintro tm ⟨fS, _⟩
   have uE := qZk eO (qZk jb (qZk iy (qZk sX (qZk xl (qZk xm (qZk gC iZ))))))
   try simp only [vz, tyf, uE, fS, nm, seval]
   obtain rfl := kF _ h
   exact bR results74 rfl
  | cons cq qW =>
   have It : (decide (fm < (List.length cJ.Cuts : Int))) = true := gq ln nS
   have xn := eV ln nS
   have Iu := gu ln nS sX
   simp only [rR, hs, reduceCtorEq] at h
   simp only [vz, tyf, eO, jb, iy, sX, xl, xm, bZ, cW, gC, It, (aF xn), Iu, nm, seval]
   refine uX (fun tm => tm 3 = .ptr 1 0 ∧ tm 6 = .lit (.int .i64 fm) ∧ True) (by refine ⟨bZ, cW, trivial⟩ <;> first | (simp only [ua, jb, iy, xl, xm, bZ, cW, gC, It, Iu, nm, seval] <;> rfl) | rfl) ?_
   rintro tm ⟨fx, hY, _⟩
   have qX := qZk eO (qZk jb (qZk iy (qZk sX (qZk xl (qZk xm (qZk gC (qZk It Iu)))))))
   obtain ⟨zZ, Iv, h⟩ := optI h zY
   try simp only [hs] at h
   simp only [vz, tyf, qX, (aF xn), fx, hY, nm, seval]
   refine dktA (pJ _ _ _ _ Iv) ?_
   refine bQ (fun tm => tm 3 = .ptr 1 0 ∧ tm 6 = .lit (.int .i64 fm) ∧ tm 38 = .lit (.bool zZ) ∧ True) (by refine ⟨fx, hY, ?_, trivial⟩ <;> first | (simp only [ua, qX, fx, hY, nm, seval] <;> rfl) | rfl) ?_
   rintro tm ⟨bG, bJ, bS, _⟩
   cases dO : (zZ)
   ·simp only [dO, hs] at h
    try simp only [vz, tyf, qX, (aF xn), bG, bJ, bS, dO, nm, seval]
    replace h := zX _ h
    try dsimp only at h
    obtain rfl := kF _ h
    exact bR results74 rfl
   simp only [dO, hs] at h
   cases rU : (decide (fm > 0))
   ·simp only [rU, hs] at h
    simp only [vz, tyf, qX, (aF xn), bG, bJ, bS, dO, rU, nm, seval]
    exact ⟨List.length qW, qZc _, by rw [rS]; refine ⟨qW, fm + 1, rfl, qZm ln (qZl (qZg _)), cb ln nS, rfl, (show iw + 6 ≤ rT + 37 by omega), ?_, bG, ?_, (by first | exact h | (simp only [qX, dO, rU]; exact h))⟩ <;> first | (simp only [ua, qX, bG, bJ, bS, dO, rU, nm, seval] <;> rfl) | rfl⟩
   simp only [rU, hs] at h
   obtain ⟨XV, TC, h⟩ := optI h zY
   try simp only [hs] at h
   cases jV : (decide (cq ≤ XV))
   ·simp only [jV, hs] at h
    simp only [vz, tyf, qX, (aF xn), bG, bJ, bS, dO, rU, (aF TC), jV, nm, seval]
    exact ⟨List.length qW, qZc _, by rw [rS]; refine ⟨qW, fm + 1, rfl, qZm ln (qZl (qZg _)), cb ln nS, rfl, (show iw + 6 ≤ rT + 37 by omega), ?_, bG, ?_, (by first | exact h | (simp only [qX, dO, rU, jV]; exact h))⟩ <;> first | (simp only [ua, qX, bG, bJ, bS, dO, rU, jV, nm, seval] <;> rfl) | rfl⟩
   simp only [jV, hs] at h
   try simp only [vz, tyf, qX, (aF xn), bG, bJ, bS, dO, rU, (aF TC), jV, nm, seval]
   replace h := zX _ h
   try dsimp only at h
   obtain rfl := kF _ h
   exact bR results74 rfl
 | cons e9 p9 =>
  have xo : (decide (jA < (List.length cJ.Signs : Int))) = true := gq gv iE
  have xi := eV gv iE
  have xp := gu gv iE eO
  simp only [xk, hs, reduceCtorEq] at h
  simp only [vz, tyf, eO, jb, bA, bK, bW, j7, j8, xo, (aF xi), xp, nm, seval]
  refine uX (fun tm => tm 2 = .ptr 0 0 ∧ tm 3 = .ptr 1 0 ∧ tm 5 = .lit (.int .i64 jA) ∧ True) (by refine ⟨bA, bK, bW, trivial⟩ <;> first | (simp only [ua, jb, bA, bK, bW, j7, j8, xo, xp, nm, seval] <;> rfl) | rfl) ?_
  rintro tm ⟨cA, cZ, de, _⟩
  obtain ⟨DF, Io, h⟩ := optI h qM
  try simp only [hs] at h
  simp only [vz, tyf, eO, jb, j7, j8, xo, (aF xi), xp, cA, cZ, de, nm, seval]
  refine dktA (Ip _ _ _ Io) ?_
  refine bQ (fun tm => tm 2 = .ptr 0 0 ∧ tm 3 = .ptr 1 0 ∧ tm 5 = .lit (.int .i64 jA) ∧ tm 20 = .lit (.bool DF) ∧ True) (by refine ⟨cA, cZ, de, ?_, trivial⟩ <;> first | (simp only [ua, jb, j7, j8, xo, xp, cA, cZ, de, nm, seval] <;> rfl) | rfl) ?_
  rintro tm ⟨jT, mn, dJ, eR, _⟩
  cases rV : (DF)
  ·simp only [rV, hs] at h
   have vg := qZk eO (qZk jb (qZk j7 (qZk j8 (qZk xo (qZk xp rV)))))
   try simp only [vz, tyf, vg, (aF xi), jT, mn, dJ, eR, nm, seval]
   replace h := uC _ h
   try dsimp only at h
   obtain rfl := kF _ h
   exact bR results74 rfl
  simp only [rV, hs] at h
  have ng := qZk eO (qZk jb (qZk j7 (qZk j8 (qZk xo (qZk xp rV)))))
  simp only [vz, tyf, ng, (aF xi), jT, mn, dJ, eR, nm, seval]
  exact ⟨List.length p9, qZc _, by rw [ml]; refine ⟨p9, jA + 1, rfl, qZm gv (qZl (qZg _)), cb gv iE, rfl, (show 4 ≤ iw + 16 by omega), ?_, ?_, jT, mn, ?_, (by first | exact h | (simp only [ng]; exact h))⟩ <;> first | (simp only [ua, ng, jT, mn, dJ, eR, nm, seval] <;> rfl) | rfl⟩
def vh (ae : GSpan) (fP : Int) : Option (Bool) := Option.bind (mr ae.Low 0 fP) (fun r1 => cond (r1) (Option.bind (mr ae.High ae.Low fP) (fun r2 => some r2)) (some false))
theorem Iw (ae : GSpan) (fP : Int) (R : Bool) (h : vh ae fP = some R) : ah prog G0 76 [.agg (cGSpan ae), .lit (.int .i64 fP)] (.tree (.lit (.bool R))) := by
 refine ah.runR mixed call76 func76 rfl (by simp [ntmps76]; kernel_rfl) ?_
 obtain ⟨KF, h, kF, kN⟩ := eN h
 simp only [vh] at h
 obtain ⟨r3, o4, h⟩ := optI h kN
 try simp only [hs] at h
 simp only [vz, tyf, nm, seval]
 refine ktA (pJ _ _ _ _ o4) ?_
 refine bQ (fun tm => tm 1 = .lit (.int .i64 fP) ∧ tm 2 = .ptr 0 0 ∧ tm 8 = .lit (.bool r3) ∧ True) (by refine ⟨?_, ?_, ?_, trivial⟩ <;> first | (simp only [ua, nm, seval] <;> rfl) | rfl) ?_
 rintro tm ⟨e5, e6, e7, _⟩
 cases d8 : (r3)
 ·simp only [d8, hs] at h
  try simp only [vz, tyf, e5, e6, e7, d8, nm, seval]
  obtain rfl := kF _ h
  exact bR results76 rfl
 simp only [d8, hs] at h
 obtain ⟨r9, Im, h⟩ := optI h kN
 try simp only [hs] at h
 simp only [vz, tyf, e5, e6, e7, d8, nm, seval]
 refine ktA (pJ _ _ _ _ Im) ?_
 refine bQ (fun tm => tm 9 = .lit (.bool true) ∧ tm 15 = .lit (.bool r9) ∧ True) (by refine ⟨?_, ?_, trivial⟩ <;> first | (simp only [ua, e5, e6, e7, d8, nm, seval] <;> rfl) | rfl) ?_
 rintro tm ⟨br, cj, _⟩
 try simp only [vz, tyf, d8, br, cj, nm, seval]
 obtain rfl := kF _ h
 exact bR results76 rfl
theorem ah.runRQ {P : Program} {G : Gb} (hm : P.follows .mixedOrders = true) {f : FuncId} {fn : Func} {code : Code} {args : List VV} {r : PRes} (hc : Callable P f) (hf : P.funcs[f]? = some fn) (hb : fn.body = some code)
  (hst : (decide (args.length ≤ fn.ntmps) && codeQ fn.ntmps code) = true) (h : CWp P (G.at (some none)) fn.ntmps code (OpenPostD P G fn (RR r) (RPn r)) { tm := bc args, H := fun _ => none, nx := 0, df := [] }) : ah P G f args r := by
 rw [Bool.and_eq_true] at hst
 exact ah.runR hm hc hf hb (by rw [Bool.and_eq_true]; exact ⟨hst.1, pL hst.2⟩) h
def qY (ae : GLs) : List GLp → Int → Option (LOut (Bool) (Unit))
 | [], db => some (.go ())
 | e0 :: p0, db => Option.bind (vf ae e0.Left) (fun r1 => cond (r1) (Option.bind (vf ae e0.Right) (fun r2 => cond (r2) (Option.bind (vh e0.Space 9) (fun r3 => cond (r3) (cond (decide (db > 0)) (Option.bind (getI ae.Pairs (i64.wrap (db - 1))) (fun x4 => cond (decide (x4.Left > e0.Left)) (some (.ret false)) (cond (x4.Left == e0.Left) (cond (decide (x4.Right ≥ e0.Right)) (some (.ret false)) (qY ae p0 (db + 1))) (qY ae p0 (db + 1))))) (qY ae p0 (db + 1))) (some (.ret false)))) (some (.ret false)))) (some (.ret false)))
def Aa (ae : GLs) : Option (Bool) := cond (lenOk ae.Pairs) (lbind (qY ae ae.Pairs 0) (fun r6 => some r6) (fun c5 => some (decide ((List.length ae.Pairs : Int) ≤ 6))) (fun _ _ => none)) none
theorem XW (ae : GLs) (R : Bool) (h : Aa ae = some R) : ah prog G0 75 [.agg (cGLs ae)] (.tree (.lit (.bool R))) := by
 refine ah.runRQ mixed call75 func75 rfl (by simp [ntmps75]; kernel_rfl) ?_
 obtain ⟨KF, h, kF, kN⟩ := eN h
 simp only [Aa] at h
 cases g8 : (lenOk ae.Pairs)
 ·simp only [g8, hs] at h
  exact absurd h kN
 simp only [g8, hs] at h
 simp only [vz, tyf, g8, nm, seval]
 obtain ⟨K7, h, Ab, XX, kB7, DG⟩ := hX h kN
 obtain ⟨f7, XY, h⟩ := call2 h
 obtain ⟨I7, Ac⟩ : ∃ I : Nat → St → Prop, I = (fun m st => ∃ (p7 : List GLp) (gF : Int), m = List.length p7 ∧ 0 ≤ gF ∧ List.drop (Int.toNat gF) ae.Pairs = p7 ∧ st.df = [] ∧ 3 ≤ st.nx ∧ st.H 0 = some (.cells (some 28) (cGLs ae)) ∧ st.tm 1 = .ptr 0 0 ∧ st.tm 3 = .lit (.int .i64 gF) ∧ K7 (f7 p7 gF)) := ⟨_, rfl⟩
 refine loopK mixed (pL (by kernel_rfl)) I7 (List.length ae.Pairs) (by rw [Ac]; refine ⟨ae.Pairs, 0, rfl, qZg _, rfl, rfl, (show 3 ≤ 3 by omega), ?_, ?_, ?_, h⟩ <;> first | (simp only [ua, nm, seval] <;> rfl) | rfl) ?_
 rintro m ⟨tm, H, sZ, df⟩ aL
 rw [Ac] at aL
 obtain ⟨p7, gF, rfl, qZ, vi, hdf, XZ, H9, bx, br, h⟩ := aL
 simp only at hdf XZ H9 bx br
 have ll := gQ (m := 3) (b := sZ) (by omega)
 subst hdf XY
 cases p7 with
 | nil =>
  have cy : (decide (gF < (List.length ae.Pairs : Int))) = false := gB qZ vi
  simp only [qY, hs, reduceCtorEq] at h
  replace h := XX _ h
  try dsimp only at h
  try simp only [hs] at h
  try simp only [vz, tyf, g8, ll, bx, br, H9, cy, nm, seval]
  obtain rfl := kF _ h
  exact bR results75 rfl
 | cons e7 p7 =>
  have bX : (decide (gF < (List.length ae.Pairs : Int))) = true := gq qZ vi
  have lS := eV qZ vi
  have vj := gu qZ vi g8
  simp only [qY, hs, reduceCtorEq] at h
  obtain ⟨TD, rW, h⟩ := optI h DG
  try simp only [hs] at h
  simp only [vz, tyf, g8, ll, bx, br, H9, bX, (ct lS), vj, nm, seval]
  refine ktA (Ip _ _ _ rW) ?_
  refine bQ (fun tm => tm 1 = .ptr 0 0 ∧ tm 3 = .lit (.int .i64 gF) ∧ tm 4 = .ptr (sZ + 10) 0 ∧ tm 20 = .lit (.bool TD) ∧ True) (by refine ⟨bx, br, ?_, ?_, trivial⟩ <;> first | (simp only [ua, ll, bx, br, H9, bX, vj, nm, seval] <;> rfl) | rfl) ?_
  rintro tm ⟨fR, gR, bZ, cW, _⟩
  cases mm : (TD)
  ·simp only [mm, hs] at h
   try simp only [vz, tyf, g8, ll, H9, bX, (ct lS), vj, fR, gR, bZ, cW, mm, nm, seval]
   replace h := Ab _ h
   try dsimp only at h
   obtain rfl := kF _ h
   exact bR results75 rfl
  simp only [mm, hs] at h
  obtain ⟨zT, xf, h⟩ := optI h DG
  try simp only [hs] at h
  simp only [vz, tyf, g8, ll, H9, bX, (ct lS), vj, fR, gR, bZ, cW, mm, nm, seval]
  refine ktA (Ip _ _ _ xf) ?_
  refine bQ (fun tm => tm 1 = .ptr 0 0 ∧ tm 3 = .lit (.int .i64 gF) ∧ tm 4 = .ptr (sZ + 10) 0 ∧ tm 22 = .lit (.bool false) ∧ tm 26 = .lit (.bool zT) ∧ True) (by refine ⟨fR, gR, bZ, ?_, ?_, trivial⟩ <;> first | (simp only [ua, ll, H9, bX, vj, fR, gR, bZ, cW, mm, nm, seval] <;> rfl) | rfl) ?_
  rintro tm ⟨dG, fj, fS, gE, dk, _⟩
  cases cT : (zT)
  ·simp only [cT, hs] at h
   have Ya := qZk g8 (qZk ll (qZk H9 (qZk bX (qZk vj (qZk mm cT)))))
   try simp only [vz, tyf, Ya, (ct lS), dG, fj, fS, gE, dk, nm, seval]
   replace h := Ab _ h
   try dsimp only at h
   obtain rfl := kF _ h
   exact bR results75 rfl
  simp only [cT, hs] at h
  have lY := qZk g8 (qZk ll (qZk H9 (qZk bX (qZk vj (qZk mm cT)))))
  obtain ⟨vd, qP, h⟩ := optI h DG
  try simp only [hs] at h
  simp only [vz, tyf, lY, (ct lS), dG, fj, fS, gE, dk, nm, seval]
  refine ktA (Iw _ _ _ qP) ?_
  refine bQ (fun tm => tm 1 = .ptr 0 0 ∧ tm 3 = .lit (.int .i64 gF) ∧ tm 4 = .ptr (sZ + 10) 0 ∧ tm 29 = .lit (.bool false) ∧ tm 32 = .lit (.bool vd) ∧ True) (by refine ⟨dG, fj, fS, ?_, ?_, trivial⟩ <;> first | (simp only [ua, lY, dG, fj, fS, gE, dk, nm, seval] <;> rfl) | rfl) ?_
  rintro tm ⟨cg, bT, bG, bJ, bS, _⟩
  cases dO : (vd)
  ·simp only [dO, hs] at h
   try simp only [vz, tyf, lY, (ct lS), cg, bT, bG, bJ, bS, dO, nm, seval]
   replace h := Ab _ h
   try dsimp only at h
   obtain rfl := kF _ h
   exact bR results75 rfl
  simp only [dO, hs] at h
  simp only [vz, tyf, lY, (ct lS), cg, bT, bG, bJ, bS, dO, nm, seval]
  refine uX (fun tm => tm 1 = .ptr 0 0 ∧ tm 3 = .lit (.int .i64 gF) ∧ tm 4 = .ptr (sZ + 10) 0 ∧ True) (by refine ⟨cg, bT, bG, trivial⟩ <;> first | (simp only [ua, lY, cg, bT, bG, bJ, bS, dO, nm, seval] <;> rfl) | rfl) ?_
  rintro tm ⟨ck, cC, bL, _⟩
  cases jV : (decide (gF > 0))
  ·simp only [jV, hs] at h
   simp only [vz, tyf, lY, (ct lS), dO, ck, cC, bL, jV, nm, seval]
   exact ⟨List.length p7, qZc _, by rw [Ac]; refine ⟨p7, gF + 1, rfl, qZm qZ (qZl (qZg _)), cb qZ vi, rfl, (show 3 ≤ sZ + 71 by omega), ?_, ck, ?_, (by first | exact h | (simp only [lY, dO, jV]; exact h))⟩ <;> first | (simp only [ua, lY, dO, ck, cC, bL, jV, nm, seval] <;> rfl) | rfl⟩
  simp only [jV, hs] at h
  obtain ⟨Ix, wZ, h⟩ := optI h DG
  try simp only [hs] at h
  cases lp : (decide (Ix.Left > e7.Left))
  ·simp only [lp, hs] at h
   cases jU : (Ix.Left == e7.Left)
   ·simp only [jU, hs] at h
    simp only [vz, tyf, lY, (ct lS), dO, ck, cC, bL, jV, (ct wZ), lp, jU, nm, seval]
    exact ⟨List.length p7, qZc _, by rw [Ac]; refine ⟨p7, gF + 1, rfl, qZm qZ (qZl (qZg _)), cb qZ vi, rfl, (show 3 ≤ sZ + 71 by omega), ?_, ck, ?_, (by first | exact h | (simp only [lY, dO, jV, lp, jU]; exact h))⟩ <;> first | (simp only [ua, lY, dO, ck, cC, bL, jV, lp, jU, nm, seval] <;> rfl) | rfl⟩
   simp only [jU, hs] at h
   cases pM : (decide (Ix.Right ≥ e7.Right))
   ·simp only [pM, hs] at h
    simp only [vz, tyf, lY, (ct lS), dO, ck, cC, bL, jV, (ct wZ), lp, jU, pM, nm, seval]
    exact ⟨List.length p7, qZc _, by rw [Ac]; refine ⟨p7, gF + 1, rfl, qZm qZ (qZl (qZg _)), cb qZ vi, rfl, (show 3 ≤ sZ + 71 by omega), ?_, ck, ?_, (by first | exact h | (simp only [lY, dO, jV, lp, jU, pM]; exact h))⟩ <;> first | (simp only [ua, lY, dO, ck, cC, bL, jV, lp, jU, pM, nm, seval] <;> rfl) | rfl⟩
   simp only [pM, hs] at h
   try simp only [vz, tyf, lY, (ct lS), dO, ck, cC, bL, jV, (ct wZ), lp, jU, pM, nm, seval]
   replace h := Ab _ h
   try dsimp only at h
   obtain rfl := kF _ h
   exact bR results75 rfl
  simp only [lp, hs] at h
  try simp only [vz, tyf, lY, (ct lS), dO, ck, cC, bL, jV, (ct wZ), lp, nm, seval]
  replace h := Ab _ h
  try dsimp only at h
  obtain rfl := kF _ h
  exact bR results75 rfl
def Ad (jc : Int) : Option (Bool) := Option.bind (mr jc 1 400) (fun r1 => some r1)
theorem Yb (jc : Int) (R : Bool) (h : Ad jc = some R) : ah prog G0 57 [.lit (.int .i64 jc)] (.tree (.lit (.bool R))) := by
 refine ah.runR mixed call57 func57 rfl (by simp [ntmps57]; kernel_rfl) ?_
 obtain ⟨KF, h, kF, kN⟩ := eN h
 simp only [Ad] at h
 obtain ⟨r2, o3, h⟩ := optI h kN
 try simp only [hs] at h
 simp only [vz, tyf, nm, seval]
 refine ktA (pJ _ _ _ _ o3) ?_
 refine bQ (fun tm => tm 4 = .lit (.bool r2) ∧ True) (by refine ⟨?_, trivial⟩ <;> first | (simp only [ua, nm, seval] <;> rfl) | rfl) ?_
 rintro tm ⟨e4, _⟩
 try simp only [vz, tyf, e4, nm, seval]
 obtain rfl := kF _ h
 exact bR results57 rfl
def xq (ae : GLs) : List GLw → Int → Option (LOut (Bool) (Unit))
 | [], Ae => some (.go ())
 | e1 :: p1, Ae => Option.bind (zW ae e1) (fun r3 => cond (r3) (xq ae p1 (Ae + 1)) (some (.ret false)))
def xr  : List Int → Int → Option (LOut (Bool) (Unit))
 | [], db => some (.go ())
 | e0 :: p0, db => Option.bind (mr e0 1 20) (fun r1 => cond (r1) (xr p0 (db + 1)) (some (.ret false)))
def Af (ae : GLs) : Option (Bool) := cond (lenOk ae.Widths) (lbind (xr ae.Widths 0) (fun xe => some xe) (fun c2 => cond (lenOk ae.Words) (lbind (xq ae ae.Words 0) (fun xt => some xt) (fun c4 => Option.bind (mr (List.length ae.Widths : Int) 1 6) (fun r5 => cond (r5) (Option.bind (Aa ae) (fun r6 => cond (r6) (Option.bind (vh ae.Other 9) (fun r7 => cond (r7) (Option.bind (vh ae.Gap 20) (fun r8 => cond (r8) (Option.bind (mr ae.Hyphen 1 20) (fun r9 => cond (r9) (Option.bind (mr (List.length ae.Words : Int) 1 4) (fun xu => cond (xu) (Option.bind (Ad ae.Wide) (fun u5 => cond (u5) (Option.bind (mr ae.Rows 1 3) (fun nd => some nd)) (some false))) (some false))) (some false))) (some false))) (some false))) (some false))) (some false))) (fun _ _ => none)) none) (fun _ _ => none)) none
theorem Yc (ae : GLs) (R : Bool) (h : Af ae = some R) : ah prog G0 22 [.agg (cGLs ae)] (.tree (.lit (.bool R))) := by
 refine ah.runR mixed call22 func22 rfl (by simp [ntmps22]; kernel_rfl) ?_
 obtain ⟨KF, h, kF, kN⟩ := eN h
 simp only [Af] at h
 cases oY : (lenOk ae.Widths)
 ·simp only [oY, hs] at h
  exact absurd h kN
 simp only [oY, hs] at h
 simp only [vz, tyf, oY, nm, seval]
 obtain ⟨Yd, h, Iy, Iz, Ye, I0⟩ := hX h kN
 obtain ⟨Yf, I1, h⟩ := call2 h
 obtain ⟨Yg, vk⟩ : ∃ I : Nat → St → Prop, I = (fun m st => ∃ (ta : List Int) (gU : Int), m = List.length ta ∧ 0 ≤ gU ∧ List.drop (Int.toNat gU) ae.Widths = ta ∧ st.df = [] ∧ 3 ≤ st.nx ∧ st.H 0 = some (.cells (some 28) (cGLs ae)) ∧ st.tm 1 = .ptr 0 0 ∧ st.tm 3 = .lit (.int .i64 gU) ∧ Yd (Yf ta gU)) := ⟨_, rfl⟩
 refine loopK mixed (by kernel_rfl) Yg (List.length ae.Widths) (by rw [vk]; refine ⟨ae.Widths, 0, rfl, qZg _, rfl, rfl, (show 3 ≤ 3 by omega), ?_, ?_, ?_, h⟩ <;> first | (simp only [ua, nm, seval] <;> rfl) | rfl) ?_
 rintro m ⟨tm, H, mu, df⟩ aL
 rw [vk] at aL
 obtain ⟨ta, gU, rfl, nT, pN, hdf, I2, kP, cq, fR, h⟩ := aL
 simp only at hdf I2 kP cq fR
 have nU := gQ (m := 3) (b := mu) (by omega)
 subst hdf I1
 cases ta with
 | nil =>
  have lX : (decide (gU < (List.length ae.Widths : Int))) = false := gB nT pN
  simp only [xr, hs, reduceCtorEq] at h
  replace h := Iz _ h
  try dsimp only at h
  try simp only [hs] at h
  cases tc : (lenOk ae.Words)
  ·simp only [tc, hs] at h
   exact absurd h kN
  simp only [tc, hs] at h
  simp only [vz, tyf, oY, nU, cq, fR, kP, lX, tc, nm, seval]
  obtain ⟨Yh, h, I8, IA, Yi, IB⟩ := hX h kN
  obtain ⟨Yj, IC, h⟩ := call2 h
  obtain ⟨Yk, vl⟩ : ∃ I : Nat → St → Prop, I = (fun m st => ∃ (td : List GLw) (gw : Int), m = List.length td ∧ 0 ≤ gw ∧ List.drop (Int.toNat gw) ae.Words = td ∧ st.df = [] ∧ mu + 6 ≤ st.nx ∧ st.H 0 = some (.cells (some 28) (cGLs ae)) ∧ st.tm 1 = .ptr 0 0 ∧ st.tm 4 = .lit (.int .i64 gw) ∧ Yh (Yj td gw)) := ⟨_, rfl⟩
  refine loopK mixed (by kernel_rfl) Yk (List.length ae.Words) (by rw [vl]; refine ⟨ae.Words, 0, rfl, qZg _, rfl, rfl, (show mu + 6 ≤ mu + 6 by omega), ?_, cq, ?_, h⟩ <;> first | (simp only [ua, nU, cq, fR, kP, lX, nm, seval] <;> rfl) | rfl) ?_
  rintro m ⟨tm, H, vm, df⟩ aL
  rw [vl] at aL
  obtain ⟨td, gw, rfl, nV, pO, hdf, ID, vn, cG, dG, h⟩ := aL
  simp only at hdf ID vn cG dG
  have xv := gQ (m := 3) (b := vm) (by omega)
  have jW := sY (a := mu) (m := 6) (b := vm) (by omega)
  subst hdf IC
  cases td with
  | nil =>
   have mw : (decide (gw < (List.length ae.Words : Int))) = false := gB nV pO
   simp only [xq, hs, reduceCtorEq] at h
   replace h := IA _ h
   try dsimp only at h
   try simp only [hs] at h
   obtain ⟨TE, Yl, h⟩ := optI h kN
   try simp only [hs] at h
   simp only [vz, tyf, oY, nU, lX, tc, xv, jW, cG, dG, vn, mw, nm, seval]
   refine ktA (pJ _ _ _ _ Yl) ?_
   refine bQ (fun tm => tm 1 = .ptr 0 0 ∧ tm 37 = .lit (.bool TE) ∧ True) (by refine ⟨cG, ?_, trivial⟩ <;> first | (simp only [ua, nU, lX, xv, jW, cG, dG, vn, mw, nm, seval] <;> rfl) | rfl) ?_
   rintro tm ⟨gD, fx, _⟩
   have lq := qZk oY (qZk nU (qZk lX (qZk tc (qZk xv (qZk jW (qZk vn mw))))))
   cases iN : (TE)
   ·simp only [iN, hs] at h
    try simp only [vz, tyf, lq, gD, fx, iN, nm, seval]
    obtain rfl := kF _ h
    exact bR results22 rfl
   simp only [iN, hs] at h
   obtain ⟨zZ, Iv, h⟩ := optI h kN
   try simp only [hs] at h
   simp only [vz, tyf, lq, gD, fx, iN, nm, seval]
   refine ktA (XW _ _ Iv) ?_
   refine bQ (fun tm => tm 1 = .ptr 0 0 ∧ tm 38 = .lit (.bool true) ∧ tm 40 = .lit (.bool zZ) ∧ True) (by refine ⟨gD, ?_, ?_, trivial⟩ <;> first | (simp only [ua, lq, gD, fx, iN, nm, seval] <;> rfl) | rfl) ?_
   rintro tm ⟨bG, bJ, bS, _⟩
   cases dO : (zZ)
   ·simp only [dO, hs] at h
    try simp only [vz, tyf, lq, iN, bG, bJ, bS, dO, nm, seval]
    obtain rfl := kF _ h
    exact bR results22 rfl
   simp only [dO, hs] at h
   obtain ⟨iO, IE, h⟩ := optI h kN
   try simp only [hs] at h
   simp only [vz, tyf, lq, iN, bG, bJ, bS, dO, nm, seval]
   refine ktA (Iw _ _ _ IE) ?_
   refine bQ (fun tm => tm 1 = .ptr 0 0 ∧ tm 42 = .lit (.bool true) ∧ tm 45 = .lit (.bool iO) ∧ True) (by refine ⟨bG, ?_, ?_, trivial⟩ <;> first | (simp only [ua, lq, iN, bG, bJ, bS, dO, nm, seval] <;> rfl) | rfl) ?_
   rintro tm ⟨bL, eE, eP, _⟩
   cases iH : (iO)
   ·simp only [iH, hs] at h
    try simp only [vz, tyf, lq, iN, dO, bL, eE, eP, iH, nm, seval]
    obtain rfl := kF _ h
    exact bR results22 rfl
   simp only [iH, hs] at h
   obtain ⟨TF, Ym, h⟩ := optI h kN
   try simp only [hs] at h
   simp only [vz, tyf, lq, iN, dO, bL, eE, eP, iH, nm, seval]
   refine ktA (Iw _ _ _ Ym) ?_
   refine bQ (fun tm => tm 1 = .ptr 0 0 ∧ tm 47 = .lit (.bool true) ∧ tm 50 = .lit (.bool TF) ∧ True) (by refine ⟨bL, ?_, ?_, trivial⟩ <;> first | (simp only [ua, lq, iN, dO, bL, eE, eP, iH, nm, seval] <;> rfl) | rfl) ?_
   rintro tm ⟨cZ, de, dF, _⟩
   cases lr : (TF)
   ·simp only [lr, hs] at h
    try simp only [vz, tyf, lq, iN, dO, iH, cZ, de, dF, lr, nm, seval]
    obtain rfl := kF _ h
    exact bR results22 rfl
   simp only [lr, hs] at h
   obtain ⟨TG, Yn, h⟩ := optI h kN
   try simp only [hs] at h
   simp only [vz, tyf, lq, iN, dO, iH, cZ, de, dF, lr, nm, seval]
   refine ktA (pJ _ _ _ _ Yn) ?_
   refine bQ (fun tm => tm 1 = .ptr 0 0 ∧ tm 52 = .lit (.bool true) ∧ tm 55 = .lit (.bool TG) ∧ True) (by refine ⟨cZ, ?_, ?_, trivial⟩ <;> first | (simp only [ua, lq, iN, dO, iH, cZ, de, dF, lr, nm, seval] <;> rfl) | rfl) ?_
   rintro tm ⟨dJ, eR, dR, _⟩
   cases nh : (TG)
   ·simp only [nh, hs] at h
    try simp only [vz, tyf, lq, iN, dO, iH, lr, dJ, eR, dR, nh, nm, seval]
    obtain rfl := kF _ h
    exact bR results22 rfl
   simp only [nh, hs] at h
   obtain ⟨TH, Yo, h⟩ := optI h kN
   try simp only [hs] at h
   simp only [vz, tyf, lq, iN, dO, iH, lr, dJ, eR, dR, nh, nm, seval]
   refine ktA (pJ _ _ _ _ Yo) ?_
   refine bQ (fun tm => tm 1 = .ptr 0 0 ∧ tm 57 = .lit (.bool true) ∧ tm 61 = .lit (.bool TH) ∧ True) (by refine ⟨dJ, ?_, ?_, trivial⟩ <;> first | (simp only [ua, lq, iN, dO, iH, lr, dJ, eR, dR, nh, nm, seval] <;> rfl) | rfl) ?_
   rintro tm ⟨dN, eD, mo, _⟩
   cases lW : (TH)
   ·simp only [lW, hs] at h
    have Yp := qZk lq (qZk iN (qZk dO (qZk iH (qZk lr (qZk nh lW)))))
    try simp only [vz, tyf, Yp, dN, eD, mo, nm, seval]
    obtain rfl := kF _ h
    exact bR results22 rfl
   simp only [lW, hs] at h
   have xw := qZk lq (qZk iN (qZk dO (qZk iH (qZk lr (qZk nh lW)))))
   obtain ⟨zO, Ib, h⟩ := optI h kN
   try simp only [hs] at h
   simp only [vz, tyf, xw, dN, eD, mo, nm, seval]
   refine ktA (Yb _ _ Ib) ?_
   refine bQ (fun tm => tm 1 = .ptr 0 0 ∧ tm 63 = .lit (.bool true) ∧ tm 66 = .lit (.bool zO) ∧ True) (by refine ⟨dN, ?_, ?_, trivial⟩ <;> first | (simp only [ua, xw, dN, eD, mo, nm, seval] <;> rfl) | rfl) ?_
   rintro tm ⟨gT, sS, sT, _⟩
   cases xx : (zO)
   ·simp only [xx, hs] at h
    try simp only [vz, tyf, xw, gT, sS, sT, xx, nm, seval]
    obtain rfl := kF _ h
    exact bR results22 rfl
   simp only [xx, hs] at h
   obtain ⟨Yq, Yr, h⟩ := optI h kN
   try simp only [hs] at h
   simp only [vz, tyf, xw, gT, sS, sT, xx, nm, seval]
   refine ktA (pJ _ _ _ _ Yr) ?_
   refine bQ (fun tm => tm 68 = .lit (.bool true) ∧ tm 71 = .lit (.bool Yq) ∧ True) (by refine ⟨?_, ?_, trivial⟩ <;> first | (simp only [ua, xw, gT, sS, sT, xx, nm, seval] <;> rfl) | rfl) ?_
   rintro tm ⟨zP, hZ, _⟩
   try simp only [vz, tyf, xw, xx, zP, hZ, nm, seval]
   obtain rfl := kF _ h
   exact bR results22 rfl
  | cons cW td =>
   have IF : (decide (gw < (List.length ae.Words : Int))) = true := gq nV pO
   have DH := eV nV pO
   have IG := gu nV pO tc
   simp only [xq, hs, reduceCtorEq] at h
   simp only [vz, tyf, oY, nU, lX, tc, xv, jW, cG, dG, vn, IF, (av DH), IG, nm, seval]
   refine uX (fun tm => tm 1 = .ptr 0 0 ∧ tm 4 = .lit (.int .i64 gw) ∧ True) (by refine ⟨cG, dG, trivial⟩ <;> first | (simp only [ua, nU, lX, xv, jW, cG, dG, vn, IF, IG, nm, seval] <;> rfl) | rfl) ?_
   rintro tm ⟨gV, f8, _⟩
   have xy := qZk oY (qZk nU (qZk lX (qZk tc (qZk xv (qZk jW (qZk vn (qZk IF IG)))))))
   obtain ⟨TI, Ys, h⟩ := optI h IB
   try simp only [hs] at h
   simp only [vz, tyf, xy, (av DH), gV, f8, nm, seval]
   refine dktA (XQ _ _ _ Ys) ?_
   refine bQ (fun tm => tm 1 = .ptr 0 0 ∧ tm 4 = .lit (.int .i64 gw) ∧ tm 32 = .lit (.bool TI) ∧ True) (by refine ⟨gV, f8, ?_, trivial⟩ <;> first | (simp only [ua, xy, gV, f8, nm, seval] <;> rfl) | rfl) ?_
   rintro tm ⟨fp, fC, fT, _⟩
   cases xz : (TI)
   ·simp only [xz, hs] at h
    try simp only [vz, tyf, xy, (av DH), fp, fC, fT, xz, nm, seval]
    replace h := I8 _ h
    try dsimp only at h
    obtain rfl := kF _ h
    exact bR results22 rfl
   simp only [xz, hs] at h
   simp only [vz, tyf, xy, (av DH), fp, fC, fT, xz, nm, seval]
   exact ⟨List.length td, qZc _, by rw [vl]; refine ⟨td, gw + 1, rfl, qZm nV (qZl (qZg _)), cb nV pO, rfl, (show mu + 6 ≤ vm + 16 by omega), ?_, fp, ?_, (by first | exact h | (simp only [xy, xz]; exact h))⟩ <;> first | (simp only [ua, xy, fp, fC, fT, xz, nm, seval] <;> rfl) | rfl⟩
 | cons bW ta =>
  have x9 : (decide (gU < (List.length ae.Widths : Int))) = true := gq nT pN
  have IH := eV nT pN
  have Ag := gu nT pN oY
  simp only [xr, hs, reduceCtorEq] at h
  obtain ⟨TJ, Yt, h⟩ := optI h I0
  try simp only [hs] at h
  simp only [vz, tyf, oY, nU, cq, fR, kP, x9, (aF IH), Ag, nm, seval]
  refine ktA (pJ _ _ _ _ Yt) ?_
  refine bQ (fun tm => tm 1 = .ptr 0 0 ∧ tm 3 = .lit (.int .i64 gU) ∧ tm 17 = .lit (.bool TJ) ∧ True) (by refine ⟨cq, fR, ?_, trivial⟩ <;> first | (simp only [ua, nU, cq, fR, kP, x9, Ag, nm, seval] <;> rfl) | rfl) ?_
  rintro tm ⟨DI, II, IJ, _⟩
  cases xA : (TJ)
  ·simp only [xA, hs] at h
   try simp only [vz, tyf, oY, nU, kP, x9, (aF IH), Ag, DI, II, IJ, xA, nm, seval]
   replace h := Iy _ h
   try dsimp only at h
   obtain rfl := kF _ h
   exact bR results22 rfl
  simp only [xA, hs] at h
  simp only [vz, tyf, oY, nU, kP, x9, (aF IH), Ag, DI, II, IJ, xA, nm, seval]
  exact ⟨List.length ta, qZc _, by rw [vk]; refine ⟨ta, gU + 1, rfl, qZm nT (qZl (qZg _)), cb nT pN, rfl, (show 3 ≤ mu + 15 by omega), ?_, DI, ?_, (by first | exact h | (simp only [x9, xA]; exact h))⟩ <;> first | (simp only [ua, nU, kP, x9, Ag, DI, II, IJ, xA, nm, seval] <;> rfl) | rfl⟩
def wO  : List GLw → Int → Option (LOut (Bool) (Unit))
 | [], db => some (.go ())
 | e0 :: p0, db => cond (decide (db < 6)) (cond (decide ((List.length e0.Signs : Int) > 8)) (some (.ret false)) (cond (decide ((List.length e0.Cuts : Int) > 8)) (some (.ret false)) (wO p0 (db + 1)))) (some (.go ()))
def yS (ae : GLs) : Option (Bool) := cond (lenOk ae.Words) (lbind (wO ae.Words 0) (fun r2 => some r2) (fun c1 => cond (decide ((List.length ae.Widths : Int) ≤ 8)) (cond (decide ((List.length ae.Pairs : Int) ≤ 8)) (some (decide ((List.length ae.Words : Int) ≤ 6))) (some false)) (some false)) (fun _ _ => none)) none
theorem Yu (ae : GLs) (R : Bool) (h : yS ae = some R) : ah prog G0 17 [.agg (cGLs ae)] (.tree (.lit (.bool R))) := by
 refine ah.runR mixed call17 func17 rfl (by simp [ntmps17]; kernel_rfl) ?_
 obtain ⟨KF, h, kF, kN⟩ := eN h
 simp only [yS] at h
 cases g4 : (lenOk ae.Words)
 ·simp only [g4, hs] at h
  exact absurd h kN
 simp only [g4, hs] at h
 simp only [vz, tyf, g4, nm, seval]
 obtain ⟨K3, h, rF, oV, zh, zi⟩ := hX h kN
 obtain ⟨f3, pv, h⟩ := call2 h
 obtain ⟨I3, iY⟩ : ∃ I : Nat → St → Prop, I = (fun m st => ∃ (p3 : List GLw) (cQ : Int), m = List.length p3 ∧ 0 ≤ cQ ∧ List.drop (Int.toNat cQ) ae.Words = p3 ∧ st.df = [] ∧ 3 ≤ st.nx ∧ st.H 0 = some (.cells (some 28) (cGLs ae)) ∧ st.tm 1 = .ptr 0 0 ∧ st.tm 3 = .lit (.int .i64 cQ) ∧ K3 (f3 p3 cQ)) := ⟨_, rfl⟩
 refine loopK mixed (by kernel_rfl) I3 (List.length ae.Words) (by rw [iY]; refine ⟨ae.Words, 0, rfl, qZg _, rfl, rfl, (show 3 ≤ 3 by omega), ?_, ?_, ?_, h⟩ <;> first | (simp only [ua, nm, seval] <;> rfl) | rfl) ?_
 rintro m ⟨tm, H, ld, df⟩ aL
 rw [iY] at aL
 obtain ⟨p3, cQ, rfl, eu, fG, hdf, lf, H5, e6, e7, h⟩ := aL
 simp only at hdf lf H5 e6 e7
 have n8 := gQ (m := 3) (b := ld) (by omega)
 subst hdf pv
 cases p3 with
 | nil =>
  have d9 : (decide (cQ < (List.length ae.Words : Int))) = false := gB eu fG
  simp only [wO, hs, reduceCtorEq] at h
  replace h := oV _ h
  try dsimp only at h
  try simp only [hs] at h
  cases cR : (decide ((List.length ae.Widths : Int) ≤ 8))
  ·simp only [cR, hs] at h
   try simp only [vz, tyf, g4, n8, e6, e7, H5, d9, cR, nm, seval]
   obtain rfl := kF _ h
   exact bR results17 rfl
  simp only [cR, hs] at h
  cases dt : (decide ((List.length ae.Pairs : Int) ≤ 8))
  ·simp only [dt, hs] at h
   try simp only [vz, tyf, g4, n8, e6, e7, H5, d9, cR, dt, nm, seval]
   obtain rfl := kF _ h
   exact bR results17 rfl
  simp only [dt, hs] at h
  try simp only [vz, tyf, g4, n8, e6, e7, H5, d9, cR, dt, nm, seval]
  obtain rfl := kF _ h
  exact bR results17 rfl
 | cons e3 p3 =>
  have dK : (decide (cQ < (List.length ae.Words : Int))) = true := gq eu fG
  have te := eV eu fG
  have DJ := gu eu fG g4
  simp only [wO, hs, reduceCtorEq] at h
  cases dm : (decide (cQ < 6))
  ·simp only [dm, hs] at h
   replace h := oV _ h
   try dsimp only at h
   try simp only [hs] at h
   cases fq : (decide ((List.length ae.Widths : Int) ≤ 8))
   ·simp only [fq, hs] at h
    have Yv := qZk g4 (qZk n8 (qZk H5 (qZk dK (qZk DJ (qZk dm fq)))))
    try simp only [vz, tyf, Yv, e6, e7, (av te), nm, seval]
    obtain rfl := kF _ h
    exact bR results17 rfl
   simp only [fq, hs] at h
   have TK := qZk g4 (qZk n8 (qZk H5 (qZk dK (qZk DJ (qZk dm fq)))))
   cases dL : (decide ((List.length ae.Pairs : Int) ≤ 8))
   ·simp only [dL, hs] at h
    try simp only [vz, tyf, TK, e6, e7, (av te), dL, nm, seval]
    obtain rfl := kF _ h
    exact bR results17 rfl
   simp only [dL, hs] at h
   try simp only [vz, tyf, TK, e6, e7, (av te), dL, nm, seval]
   obtain rfl := kF _ h
   exact bR results17 rfl
  simp only [dm, hs] at h
  cases cH : (decide ((List.length e3.Signs : Int) > 8))
  ·simp only [cH, hs] at h
   have DK := qZk g4 (qZk n8 (qZk H5 (qZk dK (qZk DJ (qZk dm cH)))))
   cases xB : (decide ((List.length e3.Cuts : Int) > 8))
   ·simp only [xB, hs] at h
    simp only [vz, tyf, DK, e6, e7, (av te), xB, nm, seval]
    exact ⟨List.length p3, qZc _, by rw [iY]; refine ⟨p3, cQ + 1, rfl, qZm eu (qZl (qZg _)), cb eu fG, rfl, (show 3 ≤ ld + 30 by omega), ?_, e6, ?_, (by first | exact h | (simp only [DK, xB]; exact h))⟩ <;> first | (simp only [ua, DK, e6, e7, xB, nm, seval] <;> rfl) | rfl⟩
   simp only [xB, hs] at h
   try simp only [vz, tyf, DK, e6, e7, (av te), xB, nm, seval]
   replace h := rF _ h
   try dsimp only at h
   obtain rfl := kF _ h
   exact bR results17 rfl
  simp only [cH, hs] at h
  have Yw := qZk g4 (qZk n8 (qZk H5 (qZk dK (qZk DJ (qZk dm cH)))))
  try simp only [vz, tyf, Yw, e6, e7, (av te), nm, seval]
  replace h := rF _ h
  try dsimp only at h
  obtain rfl := kF _ h
  exact bR results17 rfl







theorem vo (a n b : Int) : nO a n b = some (inB a b n) := by
 unfold nO inB
 cases decide (a ≤ n) <;> rfl
theorem in_eq (n a b : Int) : mr n a b = some (inB a b n) := by
 unfold mr inB
 show cond (decide (a ≤ n)) _ _ = _
 cases decide (a ≤ n) <;> rfl
def spanB (m : Int) (x : GSpan) : Bool := decide (0 ≤ x.Low) && (decide (x.Low ≤ x.High) && decide (x.High ≤ m))
theorem IK (x : GSpan) (m : Int) : uU 0 x m = some (spanB m x) := by
 unfold uU spanB
 cases decide (0 ≤ x.Low) <;> cases decide (x.Low ≤ x.High) <;> rfl
theorem vp (x : GSpan) (m : Int) : vh x m = some (spanB m x) := by
 unfold vh
 simp only [in_eq, Option.bind_some]
 by_cases h1 : 0 ≤ x.Low <;> by_cases h2 : x.Low ≤ x.High <;> by_cases h3 : x.High ≤ m <;> by_cases h4 : x.Low ≤ m <;> simp [inB, spanB, h1, h2, h3, h4] <;> omega
theorem TL (a b : Int) : ∀ (p : List Int) (i : Int), xC a b p i = goB (p.all (inB a b))
 | [], _ => rfl
 | e :: p, i => by
  simp only [xC, ni, cnot, cand, vo, Option.bind_some, TL a b p, List.all_cons]
theorem IL (a b : Int) (xs : List Int) (h : lenOk xs = true) : uY a xs b = some (xs.all (inB a b)) := by
 simp only [uY, h, cond_true, TL]
 cases xs.all (inB a b) <;> rfl
def incr : Int → List Int → Bool
 | _, [] => true
 | q, e :: p => !decide (e ≤ q) && incr e p
def incrL : List Int → Bool
 | [] => true
 | e :: p => incr e p
variable {i : Int}
theorem DL {α : Type} {xs p : List α} {q : α} (h0 : 1 ≤ i) (hi : i < 9223372036854775808) (h : xs.drop (i - 1).toNat = q :: p) : getI xs (i64.wrap (i - 1)) = some q := by
 rw [jS (by omega) (by omega)]
 exact eV (by omega) h
theorem rX {α : Type} {xs p : List α} {n : Nat} (h : xs.drop n = p) : n + p.length ≤ xs.length ∨ p = [] := by
 subst h
 by_cases hn : n ≤ xs.length
 ·left; simp; omega
 ·right; exact List.drop_eq_nil_of_le (by omega)
theorem TM (xs : List Int) (hl : lenOk xs = true) : ∀ (p : List Int) (q i : Int), 1 ≤ i → xs.drop (i - 1).toNat = q :: p → xb xs p i = goB (incr q p)
 | [], _, _, _, _ => rfl
 | e :: p, q, i, h0, h => by
  have hb := DM hl
  have hle := rX h
  simp only [List.length_cons] at hle
  have hi : i < 9223372036854775808 := by
   rcases hle with hle | hle
   ·omega
   ·cases hle
  have hn : xs.drop (i + 1 - 1).toNat = e :: p := by
   have := cb (i := i - 1) (by omega) h
   rwa [show i - 1 + 1 = i + 1 - 1 by omega] at this
  simp only [xb, ni, cnot, cand, DL h0 hi h, Option.bind_some, TM xs hl p e (i + 1) (by omega) hn, incr]
theorem TN (a b : Int) (xs : List Int) (h : lenOk xs = true) : xc a xs b = some (incrL xs && xs.all (inB a b)) := by
 have h1 : leB 0 1 = true := rfl
 simp only [xc, h, h1, cond_true, IL a b xs h]
 cases xs with
 | nil => rfl
 | cons e p =>
  have := TM (e :: p) h p e 1 (by omega) (by rfl)
  rw [show List.drop (Int.toNat 1) (e :: p) = p from rfl, this]
  simp only [incrL]
  cases incr e p <;> rfl
def cutsB (hi : Int) : Option Int → List Int → Bool
 | _, [] => true
 | none, e :: p => inB 1 hi e && cutsB hi (some e) p
 | some q, e :: p => inB 1 hi e && (!decide (e ≤ q) && cutsB hi (some e) p)
theorem TO (hi : Int) : ∀ (p : List Int) (q : Int), cutsB hi (some q) p = (incr q p && p.all (inB 1 hi))
 | [], _ => rfl
 | e :: p, q => by
  simp only [cutsB, TO hi p e, incr, List.all_cons]
  cases h1 : inB 1 hi e <;> cases h2 : decide (e ≤ q) <;> cases h3 : incr e p <;> simp [h1, h2, h3]
theorem IM (hi : Int) : ∀ (p : List Int), cutsB hi none p = (incrL p && p.all (inB 1 hi))
 | [] => rfl
 | e :: p => by
  simp only [cutsB, TO, incrL, List.all_cons]
  cases h1 : inB 1 hi e <;> cases h2 : incr e p <;> simp [h1, h2]
theorem TP (w : GLw) (hl : lenOk w.Cuts = true) : ∀ (p : List Int) (q : Int) (i : Int), 1 ≤ i → w.Cuts.drop (i - 1).toNat = q :: p →
  rR w p i = goB (cutsB (i64.wrap ((w.Signs.length : Int) - 1)) (some q) p)
 | [], _, _, _, _ => rfl
 | e :: p, q, i, h0, h => by
  have hb := DM hl
  have hle := rX h
  simp only [List.length_cons] at hle
  have hi : i < 9223372036854775808 := by
   rcases hle with hle | hle
   ·omega
   ·cases hle
  have hn : w.Cuts.drop (i + 1 - 1).toNat = e :: p := by
   have := cb (i := i - 1) (by omega) h
   rwa [show i - 1 + 1 = i + 1 - 1 by omega] at this
  have hp : decide (i > 0) = true := by simp; omega
  simp only [rR, ni, cnot, cand, in_eq, DL h0 hi h, hp, Option.bind_some, TP w hl p e (i + 1) (by omega) hn, cutsB, cond_true]
theorem IN (w : GLw) (hl : lenOk w.Cuts = true) : rR w w.Cuts 0 = goB (cutsB (i64.wrap ((w.Signs.length : Int) - 1)) none w.Cuts) := by
 generalize hc : w.Cuts = cs
 cases cs with
 | nil => rfl
 | cons e p =>
  have := TP w hl p e (0 + 1) (by omega) (by rw [hc]; rfl)
  simp only [rR, ni, cnot, cand, in_eq, Option.bind_some, this, cutsB, show decide ((0 : Int) > 0) = false from rfl, cond_false]
theorem vq (s : GLs) (n : Int) : vf s n = some (inB 0 (i64.wrap ((s.Widths.length : Int) - 1)) n) := by
 simp only [vf, in_eq, Option.bind_some]
theorem TQ (s : GLs) : ∀ (p : List Int) (i : Int), xk s p i = goB (p.all (inB 0 (i64.wrap ((s.Widths.length : Int) - 1))))
 | [], _ => rfl
 | e :: p, i => by
  simp only [xk, ni, cnot, cand, vq, Option.bind_some, TQ s p, List.all_cons]
def wordB (n : Int) (w : GLw) : Bool := inB 1 6 w.Signs.length && (w.Signs.all (inB 0 n) && (incrL w.Cuts && w.Cuts.all (inB 1 (i64.wrap ((w.Signs.length : Int) - 1)))))
theorem IP (s : GLs) (w : GLw) (h1 : lenOk w.Signs = true) (h2 : lenOk w.Cuts = true) : zW s w = some (wordB (i64.wrap ((s.Widths.length : Int) - 1)) w) := by
 simp only [zW, h1, h2, cond_true, TQ, IN w h2, in_eq, Option.bind_some, IM, wordB]
 cases w.Signs.all _ <;> cases (incrL w.Cuts && w.Cuts.all _) <;> cases inB 1 6 _ <;> rfl
def Fine (w : GLw) : Prop := lenOk w.Signs = true ∧ lenOk w.Cuts = true
theorem TR (s : GLs) : ∀ (p : List GLw) (i : Int), (∀ w ∈ p, Fine w) → xq s p i = goB (p.all (wordB (i64.wrap ((s.Widths.length : Int) - 1))))
 | [], _, _ => rfl
 | e :: p, i, h => by
  have he := h e (qZb ..)
  simp only [xq, ni, cnot, cand, IP s e he.1 he.2, Option.bind_some, TR s p (i + 1) (fun w hw => h w (qZa _ hw)), List.all_cons]
theorem TS (n : Int) : ∀ (p : List GLw) (i : Int), (∀ w ∈ p, Fine w) → xh n p i = goB (p.all (wordB (i64.wrap (n - 1))))
 | [], _, _ => rfl
 | e :: p, i, h => by
  have he := h e (qZb ..)
  simp only [xh, ni, cnot, cand, vo, IL _ _ _ he.1, TN _ _ _ he.2, Option.bind_some, TS n p (i + 1) (fun w hw => h w (qZa _ hw)), List.all_cons, wordB]
theorem TT : ∀ (p : List Int) (i : Int), xr p i = goB (p.all (inB 1 20))
 | [], _ => rfl
 | e :: p, i => by
  simp only [xr, ni, cnot, cand, in_eq, Option.bind_some, TT p, List.all_cons]
def sgn (a b : Int) : Int := if a < b then -1 else if a > b then 1 else 0
theorem SX (a b : Int) : sN a b = some (sgn a b) := by
 unfold sN Ah sgn
 by_cases h1 : a < b <;> by_cases h2 : a > b <;> simp [h1, h2]
def pairGe (a b : GLp) : Bool := cond (decide (a.Left > b.Left)) true (cond (a.Left == b.Left) (decide (a.Right ≥ b.Right)) false)
theorem or_eq (a b : Int) : wP [a, b] = some (if a = 0 then b else a) := by
 have e : (fun x : Int => x != 0) a = !decide (a = 0) := by by_cases h : a = 0 <;> simp [h]
 have e' : (b != 0) = !decide (b = 0) := by by_cases h : b = 0 <;> simp [h]
 simp only [] at e
 by_cases h : a = 0 <;> by_cases h' : b = 0 <;> simp [wP, Ai, lenOk, lbind, e, e', h, h']
theorem Yx (a b : GLp) : ∃ r, zL a b = some r ∧ decide (r ≥ 0) = pairGe a b := by
 refine ⟨_, by simp only [zL, SX, or_eq, Option.bind_some]; rfl, ?_⟩
 unfold sgn pairGe
 by_cases h1 : a.Left < b.Left
 ·have : ¬ a.Left > b.Left := by omega
  have h3 : ¬ a.Left = b.Left := by omega
  simp [h1, this, h3]
 ·by_cases h2 : a.Left > b.Left
  ·simp [h1, h2]
  ·have h3 : a.Left = b.Left := by omega
   by_cases h4 : a.Right < b.Right
   ·have : ¬ a.Right ≥ b.Right := by omega
    simp [h3, h4]
   ·by_cases h5 : a.Right > b.Right
    ·simp [h3, h4, h5]; omega
    ·simp [h3, h4, h5]; omega
def pairB (m : Int) (e : GLp) : Bool := inB 0 m e.Left && (inB 0 m e.Right && spanB 9 e.Space)
def pairsG (m : Int) : Option GLp → List GLp → Bool
 | _, [] => true
 | none, e :: p => pairB m e && pairsG m (some e) p
 | some q, e :: p => pairB m e && (!pairGe q e && pairsG m (some e) p)
theorem TU (s : GLs) (hl : lenOk s.Pairs = true) : ∀ (p : List GLp) (q : GLp) (i : Int), 1 ≤ i → s.Pairs.drop (i - 1).toNat = q :: p →
  qY s p i = goB (pairsG (i64.wrap ((s.Widths.length : Int) - 1)) (some q) p)
 | [], _, _, _, _ => rfl
 | e :: p, q, i, h0, h => by
  have hb := DM hl
  have hle := rX h
  simp only [List.length_cons] at hle
  have hi : i < 9223372036854775808 := by
   rcases hle with hle | hle
   ·omega
   ·cases hle
  have hn : s.Pairs.drop (i + 1 - 1).toNat = e :: p := by
   have := cb (i := i - 1) (by omega) h
   rwa [show i - 1 + 1 = i + 1 - 1 by omega] at this
  have hp : decide (i > 0) = true := by simp; omega
  simp only [qY, ni, cnot, vq, vp, DL h0 hi h, hp, Option.bind_some, TU s hl p e (i + 1) (by omega) hn, pairsG, pairB, cand, cond_true, pairGe]
  cases decide (q.Left > e.Left) <;> cases (q.Left == e.Left) <;> rfl
theorem Yy (s : GLs) (hl : lenOk s.Pairs = true) : qY s s.Pairs 0 = goB (pairsG (i64.wrap ((s.Widths.length : Int) - 1)) none s.Pairs) := by
 generalize hc : s.Pairs = cs
 cases cs with
 | nil => rfl
 | cons e p =>
  have := TU s hl p e (0 + 1) (by omega) (by rw [hc]; rfl)
  simp only [qY, ni, cnot, cand, vq, vp, Option.bind_some, this, pairsG, pairB, show decide ((0 : Int) > 0) = false from rfl, cond_false]
theorem TV (xs : List GLp) (n : Int) (hl : lenOk xs = true) : ∀ (p : List GLp) (q : GLp) (i : Int), 1 ≤ i → xs.drop (i - 1).toNat = q :: p →
  rN xs n p i = goB (pairsG (i64.wrap (n - 1)) (some q) p)
 | [], _, _, _, _ => rfl
 | e :: p, q, i, h0, h => by
  have hb := DM hl
  have hle := rX h
  simp only [List.length_cons] at hle
  have hi : i < 9223372036854775808 := by
   rcases hle with hle | hle
   ·omega
   ·cases hle
  have hn : xs.drop (i + 1 - 1).toNat = e :: p := by
   have := cb (i := i - 1) (by omega) h
   rwa [show i - 1 + 1 = i + 1 - 1 by omega] at this
  have hp : decide (i > 0) = true := by simp; omega
  obtain ⟨r, hr, hr'⟩ := Yx q e
  simp only [rN, ni, cnot, vo, IK, DL h0 hi h, hp, hr, hr', Option.bind_some, TV xs n hl p e (i + 1) (by omega) hn, pairsG, pairB, cand, cond_true]
theorem Yz (xs : List GLp) (n : Int) (hl : lenOk xs = true) : rN xs n xs 0 = goB (pairsG (i64.wrap (n - 1)) none xs) := by
 cases xs with
 | nil => rfl
 | cons e p =>
  have := TV (e :: p) n hl p e (0 + 1) (by omega) rfl
  simp only [rN, ni, cnot, cand, vo, IK, Option.bind_some, this, pairsG, pairB, show decide ((0 : Int) > 0) = false from rfl, cond_false]
def FineS (s : GLs) : Prop := lenOk s.Widths = true ∧ lenOk s.Pairs = true ∧ lenOk s.Words = true ∧ ∀ w ∈ s.Words, Fine w
def sheetB (s : GLs) : Bool :=
 inB 1 6 s.Widths.length && s.Widths.all (inB 1 20) &&
 (decide ((s.Pairs.length : Int) ≤ 6) && pairsG (i64.wrap ((s.Widths.length : Int) - 1)) none s.Pairs) &&
 spanB 9 s.Other && spanB 20 s.Gap && inB 1 20 s.Hyphen &&
 (inB 1 4 s.Words.length && s.Words.all (wordB (i64.wrap ((s.Widths.length : Int) - 1)))) &&
 inB 1 400 s.Wide && inB 1 3 s.Rows
theorem IQ (n : Int) : Ad n = some (inB 1 400 n) := by
 simp only [Ad, in_eq, Option.bind_some]
theorem IS (s : GLs) (h : lenOk s.Pairs = true) : Aa s = some (decide ((s.Pairs.length : Int) ≤ 6) && pairsG (i64.wrap ((s.Widths.length : Int) - 1)) none s.Pairs) := by
 simp only [Aa, h, cond_true, Yy s h, xD, csome]
 rw [Bool.and_comm]
theorem IT (xs : List GLp) (n : Int) (h : lenOk xs = true) : zM xs n = some (decide ((xs.length : Int) ≤ 6) && pairsG (i64.wrap (n - 1)) none xs) := by
 simp only [zM, h, cond_true, Yz xs n h, xD]
 by_cases hn : (xs.length : Int) ≤ 6
 ·have : ¬ (xs.length : Int) > 6 := by omega
  simp only [hn, this, decide_true, decide_false, cond_false, Bool.true_and]
  cases pairsG _ _ xs <;> rfl
 ·have : (xs.length : Int) > 6 := by omega
  simp only [hn, this, decide_true, decide_false, cond_true, Bool.false_and]
theorem IU (s : GLs) (h : FineS s) : Af s = some (sheetB s) := by
 obtain ⟨h1, h2, h3, h4⟩ := h
 simp only [Af, h1, h3, cond_true, TT, TR s _ _ h4, xD, in_eq, vp, IQ, IS s h2, Option.bind_some, csome, sheetB, ← Bool.and_assoc]
 congr 1
 simp only [Bool.and_assoc]
 cases s.Widths.all _ <;> cases s.Words.all _ <;> simp [Bool.and_comm, Bool.and_left_comm]
theorem Y0 (xs : List Int) (h : lenOk xs = true) : zU xs = some (inB 1 6 xs.length && xs.all (inB 1 20)) := by
 simp only [zU, vo, IL _ _ _ h, Option.bind_some, csome]
theorem IV (xs : List GLw) (n : Int) (h : lenOk xs = true) (hw : ∀ w ∈ xs, Fine w) : zS xs n = some (inB 1 4 xs.length && xs.all (wordB (i64.wrap (n - 1)))) := by
 simp only [zS, vo, Option.bind_some, h, cond_true, TS n xs 0 hw, xD, csome, Bool.and_true]
theorem GY (s : GLs) (h : FineS s) : u7 s = some (sheetB s) := by
 obtain ⟨h1, h2, h3, h4⟩ := h
 simp only [u7, Y0 _ h1, IT _ _ h2, IV _ _ h3 h4, vo, IK, Option.bind_some, csome, sheetB, Bool.and_assoc]
def DN (ae : GLs) : List Int → Int → Option (LOut (Bool) (Unit))
 | [], lu => some (.go ())
 | e0 :: p0, lu => Option.bind (getI ae.Words e0) (fun x2 => cond (x2.Free) (DN ae p0 (lu + 1)) (some (.ret false)))
def IW (ae : GLs) (bH : List Int) : Option (Bool) := cond (decide ((List.length bH : Int) ≥ (List.length ae.Words : Int))) (some false) (Option.bind (xc 0 bH (i64.wrap ((List.length ae.Words : Int) - 1))) (fun r1 => cond (r1) (cond (lenOk bH) (lbind (DN ae bH 0) (fun r4 => some r4) (fun c3 => some true) (fun _ _ => none)) none) (some false)))
def xE (eF : Int) : List Int → Int → Option (LOut (Int) (Unit))
 | [], ik => some (.go ())
 | e0 :: p0, ik => cond (eF == e0) (some (.ret ik)) (xE eF p0 (ik + 1))
def DO (ae : List Int) (eF : Int) : Option (Int) := cond (lenOk ae) (lbind (xE eF ae 0) (fun r2 => some r2) (fun c1 => some (-1)) (fun _ _ => none)) none
theorem Y1 (ae : List Int) (eF : Int) (R : Int) (h : DO ae eF = some R) : ah prog G0 151 [.sl (ad eI ae) (List.length ae) false, .lit (.int .i64 eF)] (.tree (.lit (.int .i64 R))) := by
 refine ah.runR mixed call151 func151 rfl (by simp [ntmps151]; kernel_rfl) ?_
 obtain ⟨KF, h, kF, kN⟩ := eN h
 simp only [DO] at h
 cases g4 : (lenOk ae)
 ·simp only [g4, hs] at h
  exact absurd h kN
 simp only [g4, hs] at h
 simp only [vz, tyf, g4, nm, seval]
 obtain ⟨K3, h, rF, oV, zh, zi⟩ := hX h kN
 obtain ⟨f3, pv, h⟩ := call2 h
 obtain ⟨I3, iY⟩ : ∃ I : Nat → St → Prop, I = (fun m st => ∃ (p3 : List Int) (cS : Int), m = List.length p3 ∧ 0 ≤ cS ∧ List.drop (Int.toNat cS) ae = p3 ∧ st.df = [] ∧ 4 ≤ st.nx ∧ st.tm 0 = .sl (ad eI ae) (List.length ae) false ∧ st.tm 1 = .lit (.int .i64 eF) ∧ st.tm 7 = .lit (.int .i64 (List.length ae : Int)) ∧ st.tm 8 = .lit (.int .i64 cS) ∧ K3 (f3 p3 cS)) := ⟨_, rfl⟩
 refine loopK mixed (by kernel_rfl) I3 (List.length ae) (by rw [iY]; refine ⟨ae, 0, rfl, qZg _, rfl, rfl, (show 4 ≤ 4 by omega), ?_, ?_, ?_, ?_, h⟩ <;> first | (simp only [ua, nm, seval] <;> rfl) | rfl) ?_
 rintro m ⟨tm, H, ld, df⟩ aL
 rw [iY] at aL
 obtain ⟨p3, cS, rfl, eu, fG, hdf, lf, e5, e6, e7, e8, h⟩ := aL
 simp only at hdf lf e5 e6 e7 e8
 have n9 := gQ (m := 4) (b := ld) (by omega)
 subst hdf pv
 cases p3 with
 | nil =>
  have cR : (decide (cS < (List.length ae : Int))) = false := gB eu fG
  simp only [xE, hs, reduceCtorEq] at h
  replace h := oV _ h
  try dsimp only at h
  try simp only [hs] at h
  try simp only [vz, tyf, g4, n9, e5, e6, e7, e8, cR, nm, seval]
  refine cB (x := (.lit (.int .i64 (-1)))) (by first | (simp only [results151, resV, resL, aE, cM, cN, uw, cr, tyf, g4, n9, cR, nm, seval] <;> rfl) | rfl) ?_
  obtain rfl := kF _ h
  refine cO ?_ ?_
  ·simp only [tre, au, Bool.and_self]
  ·first | (simp only [outV, uw, dx, cr, tyf, nrm, ar, g4, n9, e5, e6, e7, e8, cR, nm, seval] <;> rfl) | rfl
 | cons e3 p3 =>
  have dt : (decide (cS < (List.length ae : Int))) = true := gq eu fG
  have lg := eV eu fG
  have jO := gu eu fG g4
  simp only [xE, hs, reduceCtorEq] at h
  cases bX : (eF == e3)
  ·simp only [bX, hs] at h
   simp only [vz, tyf, g4, n9, e5, e6, e7, e8, dt, (aF lg), jO, bX, nm, seval]
   exact ⟨List.length p3, qZc _, by rw [iY]; refine ⟨p3, cS + 1, rfl, qZm eu (qZl (qZg _)), cb eu fG, rfl, (show 4 ≤ ld + 11 by omega), e5, e6, e7, ?_, (by first | exact h | (simp only [dt, bX]; exact h))⟩ <;> first | (simp only [ua, n9, e5, e6, e7, e8, dt, jO, bX, nm, seval] <;> rfl) | rfl⟩
  simp only [bX, hs] at h
  try simp only [vz, tyf, g4, n9, e5, e6, e7, e8, dt, (aF lg), jO, bX, nm, seval]
  refine cB (x := (.lit (.int .i64 cS))) (by first | (simp only [results151, resV, resL, aE, cM, cN, uw, cr, tyf, g4, n9, dt, (aF lg), jO, bX, nm, seval] <;> rfl) | rfl) ?_
  replace h := rF _ h
  try dsimp only at h
  obtain rfl := kF _ h
  refine cO ?_ ?_
  ·simp only [tre, au, Bool.and_self]
  ·first | (simp only [outV, uw, dx, cr, tyf, nrm, ar, g4, n9, e5, e6, e7, e8, dt, (aF lg), jO, bX, nm, seval] <;> rfl) | rfl
def xF (ae : List Int) (eF : Int) : Option (Bool) := Option.bind (DO ae eF) (fun r1 => some (decide (r1 ≥ 0)))
theorem TW (ae : List Int) (eF : Int) (R : Bool) (h : xF ae eF = some R) : ah prog G0 117 [.sl (ad eI ae) (List.length ae) false, .lit (.int .i64 eF)] (.tree (.lit (.bool R))) := by
 refine ah.runR mixed call117 func117 rfl (by simp [ntmps117]; kernel_rfl) ?_
 obtain ⟨KF, h, kF, kN⟩ := eN h
 simp only [xF] at h
 obtain ⟨r2, o3, h⟩ := optI h kN
 try simp only [hs] at h
 simp only [vz, tyf, nm, seval]
 refine ktA (Y1 _ _ _ o3) ?_
 refine bQ (fun tm => tm 7 = .lit (.int .i64 r2) ∧ True) (by refine ⟨?_, trivial⟩ <;> first | (simp only [ua, nm, seval] <;> rfl) | rfl) ?_
 rintro tm ⟨e4, _⟩
 try simp only [vz, tyf, e4, nm, seval]
 obtain rfl := kF _ h
 exact bR results117 rfl
def vr (cV : Int) : List Int → Int → (List GLe) → Option (LOut (List GLe) ((List GLe)))
 | [], tf, rY => some (.go rY)
 | e1 :: p1, tf, rY => cond (an 16 (List.length (rY ++ [(GLe.mk cV e1)]))) (vr cV p1 (tf + 1) (rY ++ [(GLe.mk cV e1)])) none
def tg (bH : List Int) : List GLw → Int → (List GLe) → Option (LOut (List GLe) ((List GLe)))
 | [], cV, dc => some (.go dc)
 | e0 :: p0, cV, dc => Option.bind (xF bH cV) (fun r1 => cond (r1) (tg bH p0 (cV + 1) dc) (cond (lenOk e0.Cuts) (lbind (vr cV e0.Cuts 0 dc) (fun r3 => some (.ret r3)) (fun c2 => cond (an 16 (List.length (c2 ++ [(GLe.mk cV (List.length e0.Signs : Int))]))) (tg bH p0 (cV + 1) (c2 ++ [(GLe.mk cV (List.length e0.Signs : Int))])) none) (fun _ _ => none)) none))
def uf (ae : GLs) (bH : List Int) : Option (List GLe) := cond (lenOk ae.Words) (lbind (tg bH ae.Words 0 ([] : List GLe)) (fun r5 => some r5) (fun c4 => some c4) (fun _ _ => none)) none
theorem WJ (ae : GLs) (bH : List Int) (R : List GLe) (h : uf ae bH = some R) : ah prog G0 116 [.agg (cGLs ae), .sl (ad eI bH) (List.length bH) false] (.tree (.sl (ad cGLe R) (List.length R) false)) := by
 refine ah.runR mixed call116 func116 rfl (by simp [ntmps116]; kernel_rfl) ?_
 obtain ⟨KF, h, kF, kN⟩ := eN h
 simp only [uf] at h
 cases g7 : (lenOk ae.Words)
 ·simp only [g7, hs] at h
  exact absurd h kN
 simp only [g7, hs] at h
 simp only [vz, tyf, g7, nm, seval]
 obtain ⟨K6, h, IX, Aj, TX, nj⟩ := hX h kN
 obtain ⟨f6, Ak, h⟩ := call3 h
 obtain ⟨I6, kz⟩ : ∃ I : Nat → St → Prop, I = (fun m st => ∃ (p6 : List GLw) (bB : Int) (bY : List GLe) (il : VV), m = List.length p6 ∧ 0 ≤ bB ∧ List.drop (Int.toNat bB) ae.Words = p6 ∧ st.df = [] ∧ 7 ≤ st.nx ∧ st.H 0 = some (.cells (some 28) (cGLs ae)) ∧ st.tm 1 = .sl (ad eI bH) (List.length bH) false ∧ st.tm 2 = .ptr 0 0 ∧ st.tm 11 = .lit (.int .i64 (List.length ae.Words : Int)) ∧ st.tm 5 = il ∧ st.tm 12 = .lit (.int .i64 bB) ∧ ((∃ (β : Nat) (el : Option TypeId), il = .ref β 0 (List.length bY) 2 (List.length bY) ∧ β < st.nx ∧ β ≠ 0 ∧ st.H β = some (.cells el (ad cGLe bY))) ∨ (il = .lit (.slice none 0 0) ∧ bY = [])) ∧ K6 (f6 p6 bB bY)) := ⟨_, rfl⟩
 refine loopK mixed (by kernel_rfl) I6 (List.length ae.Words) (by rw [kz]; refine ⟨ae.Words, 0, ([] : List GLe), .lit (.slice none 0 0), rfl, qZg _, rfl, rfl, (show 7 ≤ 7 by omega), ?_, ?_, ?_, ?_, ?_, ?_, Or.inr ⟨rfl, rfl⟩, h⟩ <;> first | (simp only [ua, nm, seval] <;> rfl) | rfl) ?_
 rintro m ⟨tm, H, gN, df⟩ aL
 rw [kz] at aL
 obtain ⟨p6, bB, bY, il, rfl, fD, iI, hdf, qI, H8, e9, bx, br, cj, bA, gW, h⟩ := aL
 simp only at hdf qI H8 e9 bx br cj bA gW
 have cK := gQ (m := 7) (b := gN) (by omega)
 subst hdf Ak
 cases p6 with
 | nil =>
  have dm : (decide (bB < (List.length ae.Words : Int))) = false := gB fD iI
  simp only [tg, hs, reduceCtorEq] at h
  replace h := Aj _ h
  try dsimp only at h
  try simp only [hs] at h
  rcases gW with ⟨Al, IY, rfl, IZ, vt, kP⟩ | ⟨rfl, rfl⟩
  ·have Ja := jx IZ
   have rZ := ne_f vt
   try simp only [vz, tyf, g7, cK, e9, bx, br, cj, bA, H8, dm, Ja, kP, rZ, nm, seval]
   refine cB (x := (.ref Al 0 (List.length bY) 2 (List.length bY))) (by first | (simp only [results116, resV, resL, aE, cM, cN, uw, cr, tyf, g7, cK, H8, dm, Ja, kP, rZ, nm, seval] <;> rfl) | rfl) ?_
   obtain rfl := kF _ h
   refine cO ?_ ?_
   ·simp only [tre, au, Bool.and_self]
   ·first | (simp only [outV, uw, dx, cr, tyf, nrm, ar, g7, cK, e9, bx, br, cj, bA, H8, dm, Ja, kP, rZ, nm, seval] <;> rfl) | rfl
  ·try simp only [vz, tyf, g7, cK, e9, bx, br, cj, bA, H8, dm, nm, seval]
   refine cB (x := (.lit (.slice none 0 0))) (by first | (simp only [results116, resV, resL, aE, cM, cN, uw, cr, tyf, g7, cK, H8, dm, nm, seval] <;> rfl) | rfl) ?_
   obtain rfl := kF _ h
   refine cO ?_ ?_
   ·simp only [tre, au, Bool.and_self]
   ·first | (simp only [outV, uw, dx, cr, tyf, nrm, ar, g7, cK, e9, bx, br, cj, bA, H8, dm, nm, seval] <;> rfl) | rfl
 | cons e6 p6 =>
  have cH : (decide (bB < (List.length ae.Words : Int))) = true := gq fD iI
  have iG := eV fD iI
  have iz := gu fD iI g7
  simp only [tg, hs, reduceCtorEq] at h
  obtain ⟨TY, Y2, h⟩ := optI h nj
  try simp only [hs] at h
  simp only [vz, tyf, g7, cK, e9, bx, br, cj, bA, H8, cH, (av iG), iz, nm, seval]
  refine ktA (TW _ _ _ Y2) ?_
  refine bQ (fun tm => tm 1 = .sl (ad eI bH) (List.length bH) false ∧ tm 2 = .ptr 0 0 ∧ tm 5 = il ∧ tm 6 = .lit (.int .i64 bB) ∧ tm 11 = .lit (.int .i64 (List.length ae.Words : Int)) ∧ tm 12 = .lit (.int .i64 bB) ∧ tm 17 = .lit (.bool TY) ∧ True) (by refine ⟨e9, bx, cj, ?_, br, bA, ?_, trivial⟩ <;> first | (simp only [ua, cK, e9, bx, br, cj, bA, H8, cH, iz, nm, seval] <;> rfl) | rfl) ?_
  rintro tm ⟨cG, dG, fj, fS, gE, dk, gM, _⟩
  cases eY : (TY)
  ·simp only [eY, hs] at h
   cases kQ : (lenOk e6.Cuts)
   ·simp only [kQ, hs] at h
    exact absurd h nj
   simp only [kQ, hs] at h
   simp only [vz, tyf, g7, cK, H8, cH, (av iG), iz, cG, dG, fj, fS, gE, dk, gM, eY, kQ, nm, seval]
   obtain ⟨Y3, h, Y4, Jb, Y5, Am⟩ := hX h nj
   obtain ⟨Y6, Jc, h⟩ := call3 h
   obtain ⟨Y7, sa⟩ : ∃ I : Nat → St → Prop, I = (fun m st => ∃ (ra : List Int) (fb : Int) (dp : List GLe) (nk : VV), m = List.length ra ∧ 0 ≤ fb ∧ List.drop (Int.toNat fb) e6.Cuts = ra ∧ st.df = [] ∧ gN + 14 ≤ st.nx ∧ st.H 0 = some (.cells (some 28) (cGLs ae)) ∧ st.tm 1 = .sl (ad eI bH) (List.length bH) false ∧ st.tm 2 = .ptr 0 0 ∧ st.tm 6 = .lit (.int .i64 bB) ∧ st.tm 11 = .lit (.int .i64 (List.length ae.Words : Int)) ∧ st.tm 12 = .lit (.int .i64 bB) ∧ st.tm 23 = .sl (ad eI e6.Cuts) (List.length e6.Cuts) false ∧ st.tm 24 = .lit (.int .i64 (List.length e6.Cuts : Int)) ∧ st.tm 5 = nk ∧ st.tm 25 = .lit (.int .i64 fb) ∧ ((∃ (β : Nat) (el : Option TypeId), nk = .ref β 0 (List.length dp) 2 (List.length dp) ∧ β < st.nx ∧ β ≠ 0 ∧ st.H β = some (.cells el (ad cGLe dp))) ∨ (nk = .lit (.slice none 0 0) ∧ dp = [])) ∧ Y3 (Y6 ra fb dp)) := ⟨_, rfl⟩
   refine loopK mixed (by kernel_rfl) Y7 (List.length e6.Cuts) (by rw [sa]; refine ⟨e6.Cuts, 0, bY, il, rfl, qZg _, rfl, rfl, (show gN + 14 ≤ gN + 14 by omega), ?_, cG, dG, fS, gE, dk, ?_, ?_, ?_, ?_, (match gW with | Or.inl ⟨β0, mR, nF, hT, pE, lj⟩ => Or.inl ⟨β0, mR, nF, (by first | assumption | omega | (simp only [nm, seval]; done) | (simp only [nm, seval]; omega)), (by first | assumption | omega | (simp only [nm, seval]; done) | (simp only [nm, seval]; omega)), (by first | exact lj | (simp only [bk, bF, jx hT, ne_f pE, nm, seval]; exact lj))⟩ | Or.inr mi => Or.inr mi), h⟩ <;> first | (simp only [ua, cK, H8, cH, iz, cG, dG, fj, fS, gE, dk, gM, eY, nm, seval] <;> rfl) | rfl) ?_
   rintro m ⟨tm, H, gX, df⟩ aL
   rw [sa] at aL
   obtain ⟨ra, fb, dp, nk, rfl, lv, nW, hdf, Jd, fE, cg, bT, bG, bJ, bS, cU, ck, cC, bL, my, h⟩ := aL
   simp only at hdf Jd fE cg bT bG bJ bS cU ck cC bL my
   have fu := gQ (m := 7) (b := gX) (by omega)
   have ia := sY (a := gN) (m := 14) (b := gX) (by omega)
   subst hdf Jc
   cases ra with
   | nil =>
    have iH : (decide (fb < (List.length e6.Cuts : Int))) = false := gB lv nW
    simp only [vr, hs, reduceCtorEq] at h
    replace h := Jb _ h
    try dsimp only at h
    try simp only [hs] at h
    rcases my with ⟨TZ, pP, rfl, vu, vv, vw⟩ | ⟨rfl, rfl⟩
    ·have oZ := jx vu
     have pb := ne_f vv
     cases vy : (an 16 (List.length (dp ++ [(GLe.mk bB (List.length e6.Signs : Int))])))
     ·simp only [vy, hs] at h
      exact absurd h nj
     simp only [vy, hs] at h
     simp only [vz, tyf, g7, cK, cH, (av iG), iz, eY, kQ, fu, ia, cg, bT, bG, bJ, bS, cU, ck, cC, bL, fE, iH, oZ, vw, pb, vy, nm, seval]
     refine k_app (w := 2) (enc := cGLe) (xs := dp) (ys := ([(GLe.mk bB (List.length e6.Signs : Int))])) (el := pP) (ff := (some 100)) (fun _ => rfl) jf jg underlying29 (by first | rfl | assumption | (simp only [bk, bF, mz, cK, fu, ia, fE, oZ, vw, pb, nm, seval] <;> rfl) | (simp only [bk, bF, fg, eU, eW, eX, tyf, g7, cK, cH, (av iG), iz, eY, kQ, fu, ia, cg, bT, bG, bJ, bS, cU, ck, cC, bL, fE, iH, oZ, vw, pb, vy, nm, seval]; done)) (by first | rfl | assumption | (simp only [bk, bF, mz, cK, fu, ia, fE, oZ, vw, pb, nm, seval] <;> rfl) | (simp only [bk, bF, fg, eU, eW, eX, tyf, g7, cK, cH, (av iG), iz, eY, kQ, fu, ia, cg, bT, bG, bJ, bS, cU, ck, cC, bL, fE, iH, oZ, vw, pb, vy, nm, seval]; done)) (qZn _) vy ?_
     simp only [vz, tyf, g7, cK, cH, (av iG), iz, eY, kQ, fu, ia, cg, bT, bG, bJ, bS, cU, ck, cC, bL, fE, iH, oZ, vw, pb, vy, nm, seval]
     exact ⟨List.length p6, qZc _, by rw [kz]; refine ⟨p6, bB + 1, (dp ++ [(GLe.mk bB (List.length e6.Signs : Int))]), .ref (gX + 12) 0 (List.length (dp ++ [(GLe.mk bB (List.length e6.Signs : Int))])) 2 (List.length (dp ++ [(GLe.mk bB (List.length e6.Signs : Int))])), rfl, qZm fD (qZl (qZg _)), cb fD iI, rfl, (show 7 ≤ gX + 16 by omega), ?_, cg, bT, bJ, ?_, ?_, Or.inl ⟨gX + 12, (sameEl pP 100), rfl, (by first | omega | (simp only [nm, seval]; done) | (simp only [nm, seval]; omega)), (by first | omega | (intro hh; simp only [cK, fu, ia, oZ, pb, reduceCtorEq] at hh)), ?_⟩, (by first | exact h | (simp only [cH, eY, iH]; exact h))⟩ <;> first | (simp only [ua, cK, cH, iz, eY, fu, ia, cg, bT, bG, bJ, bS, cU, ck, cC, bL, fE, iH, oZ, vw, pb, nm, seval] <;> rfl) | rfl⟩
    ·cases xG : (an 16 (List.length (([] : List GLe) ++ [(GLe.mk bB (List.length e6.Signs : Int))])))
     ·simp only [xG, hs] at h
      exact absurd h nj
     simp only [xG, hs] at h
     simp only [vz, tyf, g7, cK, cH, (av iG), iz, eY, kQ, fu, ia, cg, bT, bG, bJ, bS, cU, ck, cC, bL, fE, iH, xG, nm, seval]
     refine mX (w := 2) (enc := cGLe) (ys := ([(GLe.mk bB (List.length e6.Signs : Int))])) (ff := (some 100)) (fun _ => rfl) jf jg underlying29 (by first | rfl | assumption | (simp only [bk, bF, mz, cK, fu, ia, fE, nm, seval] <;> rfl) | (simp only [bk, bF, fg, eU, eW, eX, tyf, g7, cK, cH, (av iG), iz, eY, kQ, fu, ia, cg, bT, bG, bJ, bS, cU, ck, cC, bL, fE, iH, xG, nm, seval]; done)) (qZn _) xG ?_
     simp only [vz, tyf, g7, cK, cH, (av iG), iz, eY, kQ, fu, ia, cg, bT, bG, bJ, bS, cU, ck, cC, bL, fE, iH, xG, nm, seval]
     exact ⟨List.length p6, qZc _, by rw [kz]; refine ⟨p6, bB + 1, (([] : List GLe) ++ [(GLe.mk bB (List.length e6.Signs : Int))]), .ref (gX + 12) 0 (List.length (([] : List GLe) ++ [(GLe.mk bB (List.length e6.Signs : Int))])) 2 (List.length (([] : List GLe) ++ [(GLe.mk bB (List.length e6.Signs : Int))])), rfl, qZm fD (qZl (qZg _)), cb fD iI, rfl, (show 7 ≤ gX + 16 by omega), ?_, cg, bT, bJ, ?_, ?_, Or.inl ⟨gX + 12, (some 100), rfl, (by first | omega | (simp only [nm, seval]; done) | (simp only [nm, seval]; omega)), (by first | omega | (intro hh; simp only [cK, fu, ia, reduceCtorEq] at hh)), ?_⟩, (by first | exact h | (simp only [cH, eY, iH]; exact h))⟩ <;> first | (simp only [ua, cK, cH, iz, eY, fu, ia, cg, bT, bG, bJ, bS, cU, ck, cC, bL, fE, iH, nm, seval] <;> rfl) | rfl⟩
   | cons fx ra =>
    have m0 : (decide (fb < (List.length e6.Cuts : Int))) = true := gq lv nW
    have i0 := eV lv nW
    have nX := gu lv nW kQ
    simp only [vr, hs, reduceCtorEq] at h
    rcases my with ⟨Ua, pQ, rfl, Je, Jf, v3⟩ | ⟨rfl, rfl⟩
    ·have th := jx Je
     have tk := ne_f Jf
     cases m3 : (an 16 (List.length (dp ++ [(GLe.mk bB fx)])))
     ·simp only [m3, hs] at h
      exact absurd h Am
     simp only [m3, hs] at h
     simp only [vz, tyf, g7, cK, cH, (av iG), iz, eY, kQ, fu, ia, cg, bT, bG, bJ, bS, cU, ck, cC, bL, fE, m0, (aF i0), nX, th, v3, tk, m3, nm, seval]
     refine k_app (w := 2) (enc := cGLe) (xs := dp) (ys := ([(GLe.mk bB fx)])) (el := pQ) (ff := (some 100)) (fun _ => rfl) jf jg underlying29 (by first | rfl | assumption | (simp only [bk, bF, mz, cK, fu, ia, fE, th, v3, tk, nm, seval] <;> rfl) | (simp only [bk, bF, fg, eU, eW, eX, tyf, g7, cK, cH, (av iG), iz, eY, kQ, fu, ia, cg, bT, bG, bJ, bS, cU, ck, cC, bL, fE, m0, (aF i0), nX, th, v3, tk, m3, nm, seval]; done)) (by first | rfl | assumption | (simp only [bk, bF, mz, cK, fu, ia, fE, th, v3, tk, nm, seval] <;> rfl) | (simp only [bk, bF, fg, eU, eW, eX, tyf, g7, cK, cH, (av iG), iz, eY, kQ, fu, ia, cg, bT, bG, bJ, bS, cU, ck, cC, bL, fE, m0, (aF i0), nX, th, v3, tk, m3, nm, seval]; done)) (qZn _) m3 ?_
     simp only [vz, tyf, g7, cK, cH, (av iG), iz, eY, kQ, fu, ia, cg, bT, bG, bJ, bS, cU, ck, cC, bL, fE, m0, (aF i0), nX, th, v3, tk, m3, nm, seval]
     exact ⟨List.length ra, qZc _, by rw [sa]; refine ⟨ra, fb + 1, (dp ++ [(GLe.mk bB fx)]), .ref (gX + 9) 0 (List.length (dp ++ [(GLe.mk bB fx)])) 2 (List.length (dp ++ [(GLe.mk bB fx)])), rfl, qZm lv (qZl (qZg _)), cb lv nW, rfl, (show gN + 14 ≤ gX + 13 by omega), ?_, cg, bT, bG, bJ, bS, cU, ck, ?_, ?_, Or.inl ⟨gX + 9, (sameEl pQ 100), rfl, (by first | omega | (simp only [nm, seval]; done) | (simp only [nm, seval]; omega)), (by first | omega | (intro hh; simp only [cK, fu, ia, th, tk, reduceCtorEq] at hh)), ?_⟩, (by first | exact h | (simp only [cH, eY, m0]; exact h))⟩ <;> first | (simp only [ua, cK, cH, iz, eY, fu, ia, cg, bT, bG, bJ, bS, cU, ck, cC, bL, fE, m0, nX, th, v3, tk, nm, seval] <;> rfl) | rfl⟩
    ·cases m4 : (an 16 (List.length (([] : List GLe) ++ [(GLe.mk bB fx)])))
     ·simp only [m4, hs] at h
      exact absurd h Am
     simp only [m4, hs] at h
     simp only [vz, tyf, g7, cK, cH, (av iG), iz, eY, kQ, fu, ia, cg, bT, bG, bJ, bS, cU, ck, cC, bL, fE, m0, (aF i0), nX, m4, nm, seval]
     refine mX (w := 2) (enc := cGLe) (ys := ([(GLe.mk bB fx)])) (ff := (some 100)) (fun _ => rfl) jf jg underlying29 (by first | rfl | assumption | (simp only [bk, bF, mz, cK, fu, ia, fE, nm, seval] <;> rfl) | (simp only [bk, bF, fg, eU, eW, eX, tyf, g7, cK, cH, (av iG), iz, eY, kQ, fu, ia, cg, bT, bG, bJ, bS, cU, ck, cC, bL, fE, m0, (aF i0), nX, m4, nm, seval]; done)) (qZn _) m4 ?_
     simp only [vz, tyf, g7, cK, cH, (av iG), iz, eY, kQ, fu, ia, cg, bT, bG, bJ, bS, cU, ck, cC, bL, fE, m0, (aF i0), nX, m4, nm, seval]
     exact ⟨List.length ra, qZc _, by rw [sa]; refine ⟨ra, fb + 1, (([] : List GLe) ++ [(GLe.mk bB fx)]), .ref (gX + 9) 0 (List.length (([] : List GLe) ++ [(GLe.mk bB fx)])) 2 (List.length (([] : List GLe) ++ [(GLe.mk bB fx)])), rfl, qZm lv (qZl (qZg _)), cb lv nW, rfl, (show gN + 14 ≤ gX + 13 by omega), ?_, cg, bT, bG, bJ, bS, cU, ck, ?_, ?_, Or.inl ⟨gX + 9, (some 100), rfl, (by first | omega | (simp only [nm, seval]; done) | (simp only [nm, seval]; omega)), (by first | omega | (intro hh; simp only [cK, fu, ia, reduceCtorEq] at hh)), ?_⟩, (by first | exact h | (simp only [cH, eY, m0]; exact h))⟩ <;> first | (simp only [ua, cK, cH, iz, eY, fu, ia, cg, bT, bG, bJ, bS, cU, ck, cC, bL, fE, m0, nX, nm, seval] <;> rfl) | rfl⟩
  simp only [eY, hs] at h
  rcases gW with ⟨tn, v5, rfl, Jg, Jh, Ub⟩ | ⟨rfl, rfl⟩
  ·have Ji := jx Jg
   have Jj := ne_f Jh
   simp only [vz, tyf, g7, cK, H8, cH, (av iG), iz, cG, dG, fj, fS, gE, dk, gM, eY, Ji, Ub, Jj, nm, seval]
   exact ⟨List.length p6, qZc _, by rw [kz]; refine ⟨p6, bB + 1, bY, .ref tn 0 (List.length bY) 2 (List.length bY), rfl, qZm fD (qZl (qZg _)), cb fD iI, rfl, (show 7 ≤ gN + 8 by omega), ?_, cG, dG, gE, ?_, ?_, Or.inl ⟨tn, v5, rfl, (by first | omega | (simp only [nm, seval]; done) | (simp only [nm, seval]; omega)), (by first | omega | (intro hh; simp only [cK, Ji, Jj, reduceCtorEq] at hh)), ?_⟩, (by first | exact h | (simp only [cH, eY]; exact h))⟩ <;> first | (simp only [ua, cK, H8, cH, iz, cG, dG, fj, fS, gE, dk, gM, eY, Ji, Ub, Jj, nm, seval] <;> rfl) | rfl⟩
  ·simp only [vz, tyf, g7, cK, H8, cH, (av iG), iz, cG, dG, fj, fS, gE, dk, gM, eY, nm, seval]
   exact ⟨List.length p6, qZc _, by rw [kz]; refine ⟨p6, bB + 1, ([] : List GLe), .lit (.slice none 0 0), rfl, qZm fD (qZl (qZg _)), cb fD iI, rfl, (show 7 ≤ gN + 8 by omega), ?_, cG, dG, gE, ?_, ?_, Or.inr ⟨rfl, rfl⟩, (by first | exact h | (simp only [cH, eY]; exact h))⟩ <;> first | (simp only [ua, cK, H8, cH, iz, cG, dG, fj, fS, gE, dk, gM, eY, nm, seval] <;> rfl) | rfl⟩
def v7 (eF : GLe) : List GLe → Int → Option (LOut (Int) (Unit))
 | [], ik => some (.go ())
 | e0 :: p0, ik => cond (eF.Word == e0.Word && (eF.Letters == e0.Letters)) (some (.ret ik)) (v7 eF p0 (ik + 1))
def Uc (ae : List GLe) (eF : GLe) : Option (Int) := cond (lenOk ae) (lbind (v7 eF ae 0) (fun r2 => some r2) (fun c1 => some (-1)) (fun _ _ => none)) none
def An  : List GLe → Int → (List GLe) → Option (LOut (Bool) ((List GLe)))
 | [], tq, pR => some (.go pR)
 | e0 :: p0, tq, pR => Option.bind (Uc pR e0) (fun r1 => cond (decide (r1 < 0)) (some (.ret false)) (Option.bind (sliceO pR (i64.wrap (r1 + 1)) (List.length pR : Int)) (fun s2 => An p0 (tq + 1) s2)))
def Jk (nn : List GLe) (ly : List GLe) : Option (Bool) := cond (lenOk nn) (lbind (An nn 0 ly) (fun r4 => some r4) (fun c3 => some ((List.length c3 : Int) == 0)) (fun _ _ => none)) none
def GF (ae : GLs) (dv : GLx) : Option (Bool) := Option.bind (IW ae dv.Out) (fun r1 => cond (r1) (Option.bind (uf ae dv.Out) (fun r2 => Option.bind (Jk dv.Ends r2) (fun r3 => some r3))) (some false))
theorem Ao (n : Int) : ∀ (p : List Int) (i : Int), 0 ≤ i → ∃ r, xE n p i = some r ∧ ((p.contains n = true ∧ ∃ j, r = .ret j ∧ 0 ≤ j) ∨ (p.contains n = false ∧ r = .go ()))
 | [], _, _ => ⟨_, rfl, .inr ⟨rfl, rfl⟩⟩
 | e :: p, i, hi => by
  simp only [xE, List.contains_cons]
  cases h : (n == e) with
  | true => exact ⟨_, rfl, .inl ⟨by simp, i, rfl, hi⟩⟩
  | false =>
   obtain ⟨r, h1, h2⟩ := Ao n p (i + 1) (by omega)
   exact ⟨r, h1, by simpa using h2⟩
theorem Ud (l : List Int) (n : Int) (h : lenOk l = true) : xF l n = some (l.contains n) := by
 obtain ⟨r, h1, h2⟩ := Ao n l 0 (by omega)
 simp only [xF, DO, h, cond_true, h1]
 rcases h2 with ⟨h2, j, rfl, hj⟩ | ⟨h2, rfl⟩
 ·simp only [Jl, Option.bind_some, h2]
  rw [decide_eq_true (show j ≥ 0 from hj)]
 ·simp only [lR, Option.bind_some, h2]
  rfl
def freeB (s : GLs) (i : Int) : Bool := match getI s.Words i with | some w => w.Free | none => false
def outB (s : GLs) (out : List Int) : Bool := decide ((out.length : Int) < s.Words.length) && ((incrL out && out.all (inB 0 ((s.Words.length : Int) - 1))) && out.all (freeB s))
variable {s : GLs}
theorem Jm (h : inB 0 ((s.Words.length : Int) - 1) i = true) : ∃ w, getI s.Words i = some w ∧ w ∈ s.Words := by
 rw [rb] at h
 exact Ue h.1 (by omega)
theorem Ap (s : GLs) : ∀ (p : List Int) (i : Int), p.all (inB 0 ((s.Words.length : Int) - 1)) = true → DN s p i = goB (p.all (freeB s))
 | [], _, _ => rfl
 | e :: p, i, h => by
  simp only [List.all_cons, Bool.and_eq_true] at h
  obtain ⟨w, hw, _⟩ := Jm h.1
  have hf : freeB s e = w.Free := by simp [freeB, hw]
  simp only [DN, hw, Option.bind_some, Ap s p (i + 1) h.2, List.all_cons, hf, ni]
theorem Jn (s : GLs) (out : List Int) (hl : lenOk out = true) (hw : (s.Words.length : Int) < 1000) : IW s out = some (outB s out) := by
 unfold IW outB
 by_cases h : (out.length : Int) < s.Words.length
 ·rw [decide_eq_false (show ¬ ((out.length : Int) ≥ s.Words.length) by omega), decide_eq_true h, cond_false, jS (by omega) (by omega), TN _ _ _ hl, Option.bind_some]
  cases hb : (incrL out && out.all (inB 0 ((s.Words.length : Int) - 1))) with
  | false => rfl
  | true =>
   have h2 := (Bool.and_eq_true _ _ ▸ hb).2
   simp only [cond_true, hl, Ap s out 0 h2, xD, Bool.true_and]
   cases out.all (freeB s) <;> rfl
 ·rw [decide_eq_true (show ((out.length : Int) ≥ s.Words.length) by omega), decide_eq_false h]
  rfl
structure Sh (s : GLs) : Prop where
 nwid : 1 ≤ s.Widths.length ∧ s.Widths.length ≤ 6
 wid : ∀ x ∈ s.Widths, 1 ≤ x ∧ x ≤ 20
 npair : s.Pairs.length ≤ 6
 pair : ∀ p ∈ s.Pairs, 0 ≤ p.Left ∧ 0 ≤ p.Right ∧ 0 ≤ p.Space.Low ∧ p.Space.Low ≤ p.Space.High ∧ p.Space.High ≤ 9
 other : 0 ≤ s.Other.Low ∧ s.Other.Low ≤ s.Other.High ∧ s.Other.High ≤ 9
 gap : 0 ≤ s.Gap.Low ∧ s.Gap.Low ≤ s.Gap.High ∧ s.Gap.High ≤ 20
 hyp : 1 ≤ s.Hyphen ∧ s.Hyphen ≤ 20
 nw : 1 ≤ s.Words.length ∧ s.Words.length ≤ 4
 wlen : ∀ w ∈ s.Words, 1 ≤ w.Signs.length ∧ w.Signs.length ≤ 6
 wsign : ∀ w ∈ s.Words, ∀ c ∈ w.Signs, 0 ≤ c ∧ c < s.Widths.length
 wcut : ∀ w ∈ s.Words, incrL w.Cuts = true ∧ (∀ c ∈ w.Cuts, 1 ≤ c ∧ c < w.Signs.length) ∧ w.Cuts.length ≤ 5
 wide : 1 ≤ s.Wide ∧ s.Wide ≤ 400
 rows : 1 ≤ s.Rows ∧ s.Rows ≤ 3
theorem Aq {hi : Int} : ∀ (p : List Int) (q : Int), incr q p = true → p.all (inB 1 hi) = true → q ≤ hi → q + p.length ≤ hi
 | [], q, _, _, h => by simpa using h
 | e :: p, q, h1, h2, h3 => by
  simp only [incr, Bool.and_eq_true, Bool.not_eq_true', decide_eq_false_iff_not] at h1
  simp only [List.all_cons, Bool.and_eq_true, rb] at h2
  have := Aq p e h1.2 h2.2 h2.1.2
  simp only [List.length_cons]
  omega
theorem Jo {m : Int} : ∀ (p : List GLp) (q : Option GLp), pairsG m q p = true → ∀ x ∈ p, pairB m x = true
 | [], _, _, x, hx => by cases hx
 | e :: p, none, h, x, hx => by
  simp only [pairsG, Bool.and_eq_true] at h
  rcases List.mem_cons.1 hx with rfl | hx
  ·exact h.1
  ·exact Jo p _ h.2 x hx
 | e :: p, some q, h, x, hx => by
  simp only [pairsG, Bool.and_eq_true] at h
  rcases List.mem_cons.1 hx with rfl | hx
  ·exact h.1
  ·exact Jo p _ h.2.2 x hx
theorem sh_of (h : sheetB s = true) : Sh s := by
 unfold sheetB at h
 simp only [Bool.and_eq_true, rb, List.all_eq_true, decide_eq_true_eq] at h
 obtain ⟨⟨⟨⟨⟨⟨⟨⟨⟨h1, h1'⟩, h2⟩, h3, h3'⟩, h4⟩, h5⟩, h6⟩, h7, h7'⟩, h8⟩, h9⟩ := h
 have hw : i64.wrap ((s.Widths.length : Int) - 1) = (s.Widths.length : Int) - 1 := jS (by omega) (by omega)
 rw [hw] at h3' h7'
 have hsp : ∀ {m : Int} {x : GSpan}, spanB m x = true → 0 ≤ x.Low ∧ x.Low ≤ x.High ∧ x.High ≤ m := by
  intro m x h
  simpa [spanB] using h
 have hwd : ∀ w ∈ s.Words, (1 ≤ w.Signs.length ∧ w.Signs.length ≤ 6) ∧ (∀ c ∈ w.Signs, 0 ≤ c ∧ c < s.Widths.length) ∧ incrL w.Cuts = true ∧ (w.Cuts.all (inB 1 ((w.Signs.length : Int) - 1)) = true) := by
  intro w hw
  have := h7' w hw
  simp only [wordB, Bool.and_eq_true, rb] at this
  obtain ⟨a, b, c, d⟩ := this
  rw [jS (by omega) (by omega)] at d
  refine ⟨by omega, fun x hx => ?_, c, d⟩
  have := List.all_eq_true.1 b x hx
  rw [rb] at this
  omega
 refine ⟨by omega, h2, by omega, fun p hp => ?_, hsp h4, hsp h5, h6, by omega, fun w hw => (hwd w hw).1, fun w hw => (hwd w hw).2.1, fun w hw => ?_, h8, h9⟩
 ·have := Jo _ _ h3' p hp
  simp only [pairB, Bool.and_eq_true, rb] at this
  have h := hsp this.2.2
  omega
 ·obtain ⟨⟨a, a'⟩, b, c, d⟩ := hwd w hw
  have d' : ∀ x ∈ w.Cuts, 1 ≤ x ∧ x < w.Signs.length := by
   intro x hx
   have := List.all_eq_true.1 d x hx
   rw [rb] at this
   omega
  refine ⟨c, d', ?_⟩
  cases hc : w.Cuts with
  | nil => simp
  | cons e p =>
   rw [hc] at c d d'
   have h1 := d' e (qZb ..)
   simp only [List.all_cons, Bool.and_eq_true] at d
   have := Aq p e c d.2 (by omega)
   simp only [List.length_cons]
   omega
def befE (a b : GLe) : Prop := a.Word < b.Word ∨ a.Word = b.Word ∧ a.Letters < b.Letters
theorem jw {a : GLe} : ¬ befE a a := by unfold befE; omega
theorem yW {a b c : GLe} (h : befE a b) (k : befE b c) : befE a c := by unfold befE at *; omega
def posW (i : Int) (w : GLw) : List GLe := w.Cuts.map (GLe.mk i) ++ [GLe.mk i (w.Signs.length : Int)]
def possL (out : List Int) : List GLw → Int → List GLe
 | [], _ => []
 | w :: ws, i => cond (out.contains i) (possL out ws (i + 1)) (posW i w ++ possL out ws (i + 1))
theorem roomOk16 {n : Nat} (h : n ≤ 1000) : an 16 n = true := by simp [an]; omega
theorem Ar (i : Int) : ∀ (p : List Int) (c : Int) (acc : List GLe), acc.length + p.length ≤ 1000 → vr i p c acc = some (.go (acc ++ p.map (GLe.mk i)))
 | [], _, acc, _ => by simp [vr]
 | e :: p, c, acc, h => by
  simp only [List.length_cons] at h
  simp only [vr]
  rw [roomOk16 (by simp; omega), cond_true, Ar i p (c + 1) _ (by simp; omega)]
  simp
theorem Uf (out : List Int) : ∀ (ws : List GLw) (i : Int), (∀ w ∈ ws, w.Cuts.length ≤ 5) → (possL out ws i).length ≤ 6 * ws.length
 | [], _, _ => by simp [possL]
 | w :: ws, i, h => by
  have h1 := Uf out ws (i + 1) fun x hx => h x (qZa _ hx)
  have h2 := h w (qZb ..)
  unfold possL
  cases out.contains i <;> simp [posW] <;> omega
theorem v8 (out : List Int) (hl : lenOk out = true) : ∀ (ws : List GLw) (i : Int) (acc : List GLe), (∀ w ∈ ws, w.Cuts.length ≤ 5) → acc.length + 6 * ws.length ≤ 1000 → tg out ws i acc = some (.go (acc ++ possL out ws i))
 | [], _, acc, _, _ => by simp [tg, possL]
 | w :: ws, i, acc, h, hn => by
  have h1 : ∀ x ∈ ws, x.Cuts.length ≤ 5 := fun x hx => h x (qZa _ hx)
  have h2 := h w (qZb ..)
  simp only [List.length_cons] at hn
  simp only [tg, Ud _ _ hl, Option.bind_some, possL]
  cases out.contains i with
  | true => simp only [cond_true]; exact v8 out hl ws (i + 1) acc h1 (by omega)
  | false =>
   simp only [cond_false]
   rw [km (by omega), cond_true, Ar i w.Cuts 0 acc (by omega), lR, roomOk16 (by simp; omega), cond_true, v8 out hl ws (i + 1) _ h1 (by simp; omega)]
   simp [posW]
theorem yY (h : Sh s) (out : List Int) (hl : lenOk out = true) : uf s out = some (possL out s.Words 0) := by
 simp only [uf]
 have := h.nw
 rw [km (by omega), cond_true, v8 out hl s.Words 0 [] (fun w hw => (h.wcut w hw).2.2) (by simp; omega), List.nil_append]
 rfl
theorem D9 : ∀ (p : List Int) (q : Int), incr q p = true → (q :: p).Pairwise (· < ·)
 | [], q, _ => List.pairwise_singleton _ _
 | e :: p, q, h => by
  simp only [incr, Bool.and_eq_true, Bool.not_eq_true', decide_eq_false_iff_not] at h
  have ih := D9 p e h.2
  rw [List.pairwise_cons]
  refine ⟨fun x hx => ?_, ih⟩
  rcases List.mem_cons.1 hx with rfl | hx
  ·omega
  ·have := (List.pairwise_cons.1 ih).1 x hx
   omega
theorem Jp : ∀ (p : List Int), incrL p = true → p.Pairwise (· < ·)
 | [], _ => List.Pairwise.nil
 | e :: p, h => D9 p e h
theorem DP {w : GLw} {e : GLe} : e ∈ posW i w ↔ e.Word = i ∧ (e.Letters ∈ w.Cuts ∨ e.Letters = w.Signs.length) := by
 obtain ⟨a, b⟩ := e
 simp only [posW, List.mem_append, List.mem_map, List.mem_singleton, GLe.mk.injEq]
 constructor
 ·rintro (⟨c, hc, rfl, rfl⟩ | ⟨rfl, rfl⟩)
  ·exact ⟨rfl, .inl hc⟩
  ·exact ⟨rfl, .inr rfl⟩
 ·rintro ⟨rfl, h | rfl⟩
  ·exact .inl ⟨b, h, rfl, rfl⟩
  ·exact .inr ⟨rfl, rfl⟩
theorem Jq (out : List Int) : ∀ (ws : List GLw) (i : Int) (e : GLe), e ∈ possL out ws i ↔ ∃ k : Nat, ∃ w, ws[k]? = some w ∧ out.contains (i + k) = false ∧ e ∈ posW (i + k) w
 | [], i, e => by simp [possL]
 | w :: ws, i, e => by
  have ih := Jq out ws (i + 1) e
  have hsh : (∃ k : Nat, ∃ x, (w :: ws)[k]? = some x ∧ out.contains (i + k) = false ∧ e ∈ posW (i + k) x) ↔ (out.contains i = false ∧ e ∈ posW i w) ∨ ∃ k : Nat, ∃ x, ws[k]? = some x ∧ out.contains (i + 1 + k) = false ∧ e ∈ posW (i + 1 + k) x := by
   constructor
   ·rintro ⟨k, x, h1, h2, h3⟩
    cases k with
    | zero =>
     simp only [List.getElem?_cons_zero, Option.some.injEq] at h1
     subst h1
     simp only [Int.natCast_zero, Int.add_zero] at h2 h3
     exact .inl ⟨h2, h3⟩
    | succ k =>
     have e1 : i + ((k + 1 : Nat) : Int) = i + 1 + k := by omega
     rw [e1] at h2 h3
     exact .inr ⟨k, x, by simpa using h1, h2, h3⟩
   ·rintro (⟨h2, h3⟩ | ⟨k, x, h1, h2, h3⟩)
    ·exact ⟨0, w, rfl, by simpa using h2, by simpa using h3⟩
    ·have e1 : i + ((k + 1 : Nat) : Int) = i + 1 + k := by omega
     exact ⟨k + 1, x, by simpa using h1, by rw [e1]; exact h2, by rw [e1]; exact h3⟩
  rw [hsh]
  unfold possL
  cases hc : out.contains i with
  | true => simp only [cond_true]; rw [ih]; simp
  | false => simp only [cond_false, List.mem_append, ih]; simp
theorem Jr {w : GLw} (h : incrL w.Cuts = true) (h2 : ∀ c ∈ w.Cuts, 1 ≤ c ∧ c < (w.Signs.length : Int)) : (posW i w).Pairwise befE := by
 unfold posW
 rw [List.pairwise_append]
 refine ⟨?_, List.pairwise_singleton _ _, ?_⟩
 ·rw [List.pairwise_map]
  exact (Jp _ h).imp fun h => .inr ⟨rfl, h⟩
 ·intro a ha b hb
  obtain ⟨c, hc, rfl⟩ := List.mem_map.1 ha
  rw [List.mem_singleton.1 hb]
  exact .inr ⟨rfl, (h2 c hc).2⟩
theorem As (out : List Int) : ∀ (ws : List GLw) (i : Int), (∀ w ∈ ws, incrL w.Cuts = true ∧ ∀ c ∈ w.Cuts, 1 ≤ c ∧ c < (w.Signs.length : Int)) → (possL out ws i).Pairwise befE
 | [], _, _ => List.Pairwise.nil
 | w :: ws, i, h => by
  have ih := As out ws (i + 1) fun x hx => h x (qZa _ hx)
  have hw := h w (qZb ..)
  unfold possL
  cases out.contains i with
  | true => exact ih
  | false =>
   simp only [cond_false]
   rw [List.pairwise_append]
   refine ⟨Jr hw.1 hw.2, ih, fun a ha b hb => ?_⟩
   obtain ⟨ha, _⟩ := DP.1 ha
   obtain ⟨k, x, _, _, hb⟩ := (Jq out ws (i + 1) b).1 hb
   obtain ⟨hb, _⟩ := DP.1 hb
   left
   omega
def dropTo (e : GLe) : List GLe → Option (List GLe)
 | [] => none
 | f :: r => if e = f then some r else dropTo e r
def areE : List GLe → List GLe → Bool
 | [], r => r.isEmpty
 | e :: p, r => match dropTo e r with
  | none => false
  | some r' => areE p r'
theorem sb (a b : GLe) : (a.Word == b.Word && (a.Letters == b.Letters)) = decide (a = b) := by
 obtain ⟨a1, a2⟩ := a
 obtain ⟨b1, b2⟩ := b
 simp only [GLe.mk.injEq]
 by_cases h1 : a1 = b1 <;> by_cases h2 : a2 = b2 <;> simp [h1, h2]
theorem Ug (e : GLe) : ∀ (p : List GLe) (i : Int), match dropTo e p with
  | none => v7 e p i = some (.go ())
  | some r => ∃ k : Nat, v7 e p i = some (.ret (i + k)) ∧ k < p.length ∧ r = p.drop (k + 1)
 | [], i => rfl
 | f :: p, i => by
  unfold dropTo
  by_cases h : e = f
  ·simp only [h, if_true]
   exact ⟨0, by simp [v7, sb], by simp, by simp⟩
  ·rw [if_neg h]
   have ih := Ug e p (i + 1)
   cases hd : dropTo e p with
   | none =>
    rw [hd] at ih
    simp only at ih ⊢
    simp only [v7, sb, decide_eq_false h, cond_false, ih]
   | some r =>
    rw [hd] at ih
    simp only at ih ⊢
    obtain ⟨k, h1, h2, h3⟩ := ih
    refine ⟨k + 1, ?_, by simpa using h2, by simpa using h3⟩
    simp only [v7, sb, decide_eq_false h, cond_false, h1]
    congr 2
    omega
theorem Uh : ∀ (p : List GLe) (i : Int) (r : List GLe), r.length ≤ 1000 → (An p i r = some (.ret false) ∧ areE p r = false) ∨ ∃ r', An p i r = some (.go r') ∧ areE p r = r'.isEmpty
 | [], i, r, _ => .inr ⟨r, rfl, rfl⟩
 | e :: p, i, r, h => by
  have hx := Ug e r 0
  have hl := km (xs := r) (by omega)
  unfold areE
  simp only [An, Uc, hl, cond_true]
  cases hd : dropTo e r with
  | none =>
   rw [hd] at hx
   simp only at hx ⊢
   left
   rw [hx]
   simp [lbind]
  | some r' =>
   rw [hd] at hx
   simp only at hx ⊢
   obtain ⟨k, h1, h2, h3⟩ := hx
   rw [h1, Jl, Option.bind_some, decide_eq_false (show ¬ ((0 : Int) + k < 0) by omega), cond_false, jS (by omega) (by omega)]
   have hs : sliceO r (0 + (k : Int) + 1) (r.length : Int) = some r' := by
    unfold sliceO
    rw [if_pos (by omega)]
    congr 1
    rw [show ((0 : Int) + k + 1).toNat = k + 1 by omega, h3]
    exact List.take_of_length_le (by simp; omega)
   rw [hs, Option.bind_some]
   exact Uh p (i + 1) r' (by rw [h3]; simp; omega)
theorem Js (ends r : List GLe) (hl : lenOk ends = true) (hr : r.length ≤ 1000) : Jk ends r = some (areE ends r) := by
 simp only [Jk, hl, cond_true]
 rcases Uh ends 0 r hr with ⟨h1, h2⟩ | ⟨r', h1, h2⟩
 ·rw [h1, h2]; rfl
 ·rw [h1, h2, lR]
  cases r' with
  | nil => rfl
  | cons a l => simp; omega
def IsS (poss ends : List GLe) : Prop := ends.Pairwise befE ∧ (∀ e ∈ ends, e ∈ poss) ∧ ends.getLast? = poss.getLast?
theorem Jt {e : GLe} : ∀ {r r' : List GLe}, dropTo e r = some r' → ∃ a, r = a ++ e :: r'
 | [], _, h => by cases h
 | f :: r, r', h => by
  unfold dropTo at h
  split at h
  ·rename_i hf
   simp only [Option.some.injEq] at h
   subst h hf
   exact ⟨[], rfl⟩
  ·obtain ⟨a, ha⟩ := Jt h
   exact ⟨f :: a, by rw [ha]; rfl⟩
theorem Ui {e : GLe} : ∀ {r : List GLe}, e ∈ r → ∃ r', dropTo e r = some r'
 | [], h => by cases h
 | f :: r, h => by
  unfold dropTo
  split
  ·exact ⟨r, rfl⟩
  ·rename_i hf
   rcases List.mem_cons.1 h with h | h
   ·exact absurd h hf
   ·exact Ui h
theorem GG : ∀ (p r : List GLe), r.Pairwise befE → (areE p r = true ↔ IsS r p)
 | [], r, _ => by
  unfold areE IsS
  cases r with
  | nil => simp
  | cons a l =>
   simp only [List.isEmpty_cons, Bool.false_eq_true, false_iff]
   rintro ⟨_, _, h⟩
   simp [List.getLast?_cons] at h
 | e :: p, r, hr => by
  unfold areE
  constructor
  ·intro h
   cases hd : dropTo e r with
   | none => rw [hd] at h; cases h
   | some r' =>
    rw [hd] at h
    obtain ⟨a, rfl⟩ := Jt hd
    rw [List.pairwise_append] at hr
    obtain ⟨_, mj, _⟩ := hr
    rw [List.pairwise_cons] at mj
    obtain ⟨h1, h2, h3⟩ := (GG p r' mj.2).1 h
    refine ⟨List.pairwise_cons.2 ⟨fun x hx => mj.1 x (h2 x hx), h1⟩, fun x hx => ?_, ?_⟩
    ·rcases List.mem_cons.1 hx with rfl | hx
     ·simp
     ·have := h2 x hx
      simp [this]
    ·rw [List.getLast?_append, List.getLast?_cons, List.getLast?_cons, h3]
     simp
  ·rintro ⟨h1, h2, h3⟩
   obtain ⟨r', hd⟩ := Ui (h2 e (qZb ..))
   rw [hd]
   obtain ⟨a, rfl⟩ := Jt hd
   rw [List.pairwise_append] at hr
   obtain ⟨hra, mj, Ju⟩ := hr
   rw [List.pairwise_cons] at mj h1
   refine (GG p r' mj.2).2 ⟨h1.2, fun x hx => ?_, ?_⟩
   ·have hb := h1.1 x hx
    rcases List.mem_append.1 (h2 x (qZa _ hx)) with hx' | hx'
    ·exact absurd (yW hb (Ju x hx' e (qZb ..))) jw
    ·rcases List.mem_cons.1 hx' with rfl | hx'
     ·exact absurd hb jw
     ·exact hx'
   ·rw [List.getLast?_append, List.getLast?_cons, List.getLast?_cons] at h3
    simp only [Option.some_or, Option.some.injEq] at h3
    cases hp : p.getLast? with
    | none =>
     rw [hp] at h3
     cases hr' : r'.getLast? with
     | none => rfl
     | some y =>
      rw [hr'] at h3
      simp only [Option.getD_none, Option.getD_some] at h3
      subst h3
      exact absurd (mj.1 _ (List.mem_of_getLast? hr')) jw
    | some z =>
     rw [hp] at h3
     cases hr' : r'.getLast? with
     | none =>
      rw [hr'] at h3
      simp only [Option.getD_none, Option.getD_some] at h3
      subst h3
      exact absurd (h1.1 _ (List.mem_of_getLast? hp)) jw
     | some y =>
      rw [hr'] at h3
      simp only [Option.getD_some] at h3
      rw [h3]
abbrev poss (s : GLs) (out : List Int) : List GLe := possL out s.Words 0
theorem uq (h : Sh s) (out : List Int) : (poss s out).Pairwise befE := As out _ _ fun w hw => ⟨(h.wcut w hw).1, (h.wcut w hw).2.1⟩
theorem yX (h : Sh s) (out : List Int) : (possL out s.Words 0).length ≤ 24 := by
 have := Uf out s.Words 0 fun w hw => (h.wcut w hw).2.2
 have := h.nw
 omega
theorem WK (h : Sh s) (x : GLx) (hl : lenOk x.Out = true) (he : lenOk x.Ends = true) : GF s x = some (outB s x.Out && areE x.Ends (poss s x.Out)) := by
 have := h.nw
 have hn := yX h x.Out
 simp only [GF, Jn s _ hl (by omega), yY h _ hl, Option.bind_some]
 rw [Js _ _ he (by omega), Option.bind_some, csome]
instance {a b : GLe} : Decidable (befE a b) := inferInstanceAs (Decidable (_ ∨ _))
theorem At {hi : Int} : ∀ (p : List Int) (q : Int), incr q p = true → (p.length : Int) < hi - q → ∃ j, q < j ∧ j ≤ hi ∧ j ∉ p
 | [], q, _, h => ⟨q + 1, by omega, by simp at h; omega, by simp⟩
 | e :: p, q, h1, h2 => by
  simp only [incr, Bool.and_eq_true, Bool.not_eq_true', decide_eq_false_iff_not] at h1
  simp only [List.length_cons] at h2
  by_cases he : e = q + 1
  ·obtain ⟨j, a, b, c⟩ := At (hi := hi) p e h1.2 (by omega)
   refine ⟨j, by omega, b, fun hm => ?_⟩
   rcases List.mem_cons.1 hm with hm | hm
   ·omega
   ·exact c hm
  ·refine ⟨q + 1, by omega, by omega, fun hm => ?_⟩
   have hpw := D9 p e h1.2
   rcases List.mem_cons.1 hm with hm | hm
   ·omega
   ·have := (List.pairwise_cons.1 hpw).1 _ hm
    omega
variable {out : List Int}
theorem Jv (h : outB s out = true) : ∃ j : Nat, j < s.Words.length ∧ out.contains (j : Int) = false := by
 simp only [outB, Bool.and_eq_true, decide_eq_true_eq] at h
 obtain ⟨h1, ⟨h2, h2'⟩, _⟩ := h
 have : ∃ j, (-1 : Int) < j ∧ j ≤ (s.Words.length : Int) - 1 ∧ j ∉ out := by
  cases out with
  | nil => exact ⟨0, by omega, by simp at h1; omega, by simp⟩
  | cons e p =>
   simp only [List.length_cons] at h1
   refine At (e :: p) (-1) ?_ (by simp only [List.length_cons]; omega)
   simp only [List.all_cons, Bool.and_eq_true, rb] at h2'
   simp only [incrL] at h2
   simp only [incr, h2, Bool.and_true, Bool.not_eq_true', decide_eq_false_iff_not]
   omega
 obtain ⟨j, a, b, c⟩ := this
 exact ⟨j.toNat, by omega, by rw [show ((j.toNat : Nat) : Int) = j by omega]; simpa using c⟩
theorem GI (h : outB s out = true) : possL out s.Words 0 ≠ [] := by
 obtain ⟨j, h1, h2⟩ := Jv h
 intro hn
 have : GLe.mk (j : Int) (s.Words[j].Signs.length : Int) ∈ possL out s.Words 0 := by
  rw [Jq]
  exact ⟨j, s.Words[j], qZj h1, by rw [Int.zero_add]; exact h2, DP.2 ⟨by simp, .inr rfl⟩⟩
 rw [hn] at this
 cases this
end Go.V
end
section
namespace Go.V
open Go Go.Proofs IntKind Tryz
section
variable {P : Program} {K V : Type} {q : K → K → Bool} {kv : K → Value} {ew : V → VV} {t kt et : TypeId} {H : Nat → Option Vo}
theorem Y8 {fs : Array Field} {z : V} (hm : P.underlying t = some (.map kt et)) (hu : P.underlying kt = some (.struct fs)) (he : ∀ a b, aA P (Op.equal kt (kv a) (kv b)) = some (q a b)) (hc : ∀ b k, aA P (Instr.checkKey b 10000 kt (kv k)) = some ())
  (hz : ((P.info? et).bind (·.zero)).map ofVal2 = some (ew z)) {l : List (K × V)} {kx : VV} {k : K} (hk : kx.val? = some (kv k)) :
  vlookup P H t (.mt (mtK kv l) (mtV ew l)) kx true = some (.tup [ew (mapGet q z l k), .lit (.bool (mapHas q l k))]) := by
 have := Y9 (H := fun _ => some (.map (encM kv ew l))) (β := 0) hm hu he hc hz hk rfl
 unfold vlookup at this ⊢
 rw [Au]
 exact this
end
end Go.V
end
section
namespace Go.V
open Go Go.Proofs IntKind Tryz
def d6 (a b : Glp) : Bool := ((a.left == b.left) && ((a.right == b.right) && true))
theorem pS (a b : Glp) : aA prog (Op.equal 142 (cX a) (cX b)) = some (d6 a b) := by
 unfold Op.equal
 exact Jw 5 142 _ _ _ (by kernel_rfl) 9995
theorem pT (b : Bool) (k : Glp) : aA prog (Instr.checkKey b 10000 142 (cX k)) = some () := by
 cases b <;> kernel_rfl
theorem tt (a b : Glp) (h : d6 a b = true) : a = b := by
 obtain ⟨aleft, aright⟩ := a
 obtain ⟨bleft, bright⟩ := b
 simp only [d6, Bool.and_true, Bool.and_eq_true, beq_iff_eq] at h
 simp only [h]
theorem v9 (a : Glp) : d6 a a = true := by simp [d6]
theorem Av (a : Glp) : Instr.sameBits 10000 (cX a) (cX a) = true := by
 simp [cX, Instr.sameBits]
theorem Aw : ((prog.info? 25).bind (·.zero)).map ofVal2 = some (fI (GSpan.mk 0 0)) := by kernel_rfl
theorem Ax (k : Glp) : VV.val? (.agg [.lit (.int .i64 k.left), .lit (.int .i64 k.right)]) = some (cX k) := rfl
theorem Jx {β : Nat} (l : List (Glp × GSpan)) (k : Glp) (n : GSpan) (H : Nat → Option Vo) (hb : H β = some (.map (encM cX fI l))) : vmapUpdate prog H 90 (.mp β) (.agg [.lit (.int .i64 k.left), .lit (.int .i64 k.right)]) (.agg [.lit (.int .i64 n.Low), .lit (.int .i64 n.High)]) = some (.upd β (.map (encM cX fI (mapSet d6 l k n)))) :=
 Jy underlying90 underlying142 pS pT tt Av (Ax k) hb
theorem Jz {c : VV} {cs : List VV} : aN prog 90 (c :: cs) = some c := by
 have h1 : aggT prog 90 = some false := by kernel_rfl
 simp [aN, vpart, h1]
theorem J0 : szT prog 90 = some 1 := by kernel_rfl
theorem Ay : vzl prog 90 = some [.lit (.map none)] := by kernel_rfl
variable {l : List (Glp × GSpan)} {a_left a_right : Int} {H : Nat → Option Vo}
theorem Az : vlookup prog H 90 (.mt (mtK cX l) (mtV fI l)) (.agg [.lit (.int .i64 a_left), .lit (.int .i64 a_right)]) false = some (.agg (cGSpan (mapGet d6 (GSpan.mk 0 0) l (Glp.mk a_left a_right)))) :=
 J1 underlying90 underlying142 pS pT Aw (k := (Glp.mk a_left a_right)) rfl
theorem lkto90 : vlookup prog H 90 (.mt (mtK cX l) (mtV fI l)) (.agg [.lit (.int .i64 a_left), .lit (.int .i64 a_right)]) true = some (.tup [.agg (cGSpan (mapGet d6 (GSpan.mk 0 0) l (Glp.mk a_left a_right))), .lit (.bool (mapHas d6 l (Glp.mk a_left a_right)))]) :=
 Y8 underlying90 underlying142 pS pT Aw (k := (Glp.mk a_left a_right)) rfl
theorem J2 (H : Nat → Option Vo) (d : Nat) (n : GSpan) : showV H d (fI n) = fI n := by cases d <;> simp [fI, showV, ar, nrm]
theorem J3 {kv : Glp → Value} {d : Nat} : ((encM kv fI l).map (·.2)).map (showV H d) = mtV fI l := J4 J2
def mqr := (qZk (qZk @DQ @AA) (qZk @pU True.intro))
def mqt := (qZk (qZk (qZk @Jz @J0) (qZk @Ay @Az)) (qZk (qZk @lkto90 @DQ) (qZk @AA (qZk @lZ @J3))))
end Go.V
end
