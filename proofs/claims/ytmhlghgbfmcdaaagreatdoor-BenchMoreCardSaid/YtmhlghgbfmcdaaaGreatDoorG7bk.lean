/- Part of a proof. -/
import Derived.Test.YtmhlghgbfmcdaaaGreatDoorG7bj
set_option linter.all false
set_option maxRecDepth 4000
set_option maxHeartbeats 40000000
section
namespace Go.V
open Go Go.Proofs IntKind
def qX (ar : List Int) : List Int → Int → Option (LOut (Bool) (Unit))
 | [], ck => some (.go ())
 | e0 :: p0, ck => Option.bind (getI ar (i64.wrap (ck - 1))) (fun x1 => cond (decide (e0 ≤ x1)) (some (.ret false)) (qX ar p0 (ck + 1)))
def tn (aJ : Int) (ar : List Int) (aV : Int) : Option (Bool) := cond (aM ar) (cond (leB 0 1) (lbind (qX ar (List.drop (Int.toNat 1) ar) 1) (fun r4 => some r4) (fun c2 => Option.bind (oZ aJ ar aV) (fun r3 => some r3)) (fun _ _ => none)) none) none
theorem O3 (aJ : Int) (ar : List Int) (aV : Int) (R : Bool) (h : tn aJ ar aV = some R) : aj Tryz.prog G0 134 [.lit (.int .i64 aJ), .sl (ae eI ar) (List.length ar) false, .lit (.int .i64 aV)] (.tree (.lit (.bool R))) := by
 refine aj.runR mixed Tryz.call134 Tryz.func134 rfl (by simp [Tryz.ntmps134]; kernel_rfl) ?_
 obtain ⟨KF, h, kF, kN⟩ := cJ h
 simp only [tn] at h
 cases g6 : (aM ar)
 ·simp only [g6, hs] at h
  exact absurd h kN
 simp only [g6, hs] at h
 cases g7 : (leB 0 1)
 ·simp only [g7, hs] at h
  exact absurd h kN
 simp only [g7, hs] at h
 simp only [vz, tyf, g6, g7, nm, seval]
 obtain ⟨K5, h, JM, w7, NU, qM⟩ := hC h kN
 obtain ⟨f5, AX, h⟩ := call2 h
 obtain ⟨I5, ni⟩ : ∃ I : Nat → St → Prop, I = (fun m st => ∃ (p5 : List Int) (bB : Int), m = List.length p5 ∧ 0 ≤ bB ∧ List.drop (Int.toNat bB) ar = p5 ∧ st.df = [] ∧ 2 ≤ st.nx ∧ st.tm 0 = .lit (.int .i64 aJ) ∧ st.tm 1 = .sl (ae eI ar) (List.length ar) false ∧ st.tm 2 = .lit (.int .i64 aV) ∧ st.tm 7 = .lit (.int .i64 bB) ∧ K5 (f5 p5 bB)) := ⟨_, rfl⟩
 refine loopK mixed (by kernel_rfl) I5 (List.length (List.drop (Int.toNat 1) ar)) (by rw [ni]; refine ⟨List.drop (Int.toNat 1) ar, 1, rfl, of_decide_eq_true g7, rfl, rfl, (show 2 ≤ 2 by omega), ?_, ?_, ?_, ?_, h⟩ <;> first | (simp only [ua, nm, seval] <;> rfl) | rfl) ?_
 rintro m ⟨tm, H, km, df⟩ hinv
 rw [ni] at hinv
 obtain ⟨p5, bB, rfl, fE, hO, hdf, AY, e8, e9, bc, b4, h⟩ := hinv
 simp only at hdf AY e8 e9 bc b4
 have hU := je (m := 2) (b := km) (by omega)
 subst hdf AX
 cases p5 with
 | nil =>
  have jV : (decide (bB < (List.length ar : Int))) = false := gC fE hO
  simp only [qX, hs, reduceCtorEq] at h
  replace h := w7 _ h
  try dsimp only at h
  try simp only [hs] at h
  obtain ⟨jr, pa, h⟩ := optI h kN
  try simp only [hs] at h
  simp only [vz, tyf, g6, g7, hU, e8, e9, bc, b4, jV, nm, seval]
  refine ktA (Bv _ _ _ _ pa) ?_
  refine bL (fun tm => tm 27 = .lit (.bool jr) ∧ True) (by refine ⟨?_, trivial⟩ <;> first | (simp only [ua, hU, e8, e9, bc, b4, jV, nm, seval] <;> rfl) | rfl) ?_
  rintro tm ⟨bC, _⟩
  try simp only [vz, tyf, g6, g7, hU, jV, bC, nm, seval]
  obtain rfl := kF _ h
  exact bd Tryz.results134 rfl
 | cons e5 p5 =>
  have mw : (decide (bB < (List.length ar : Int))) = true := gq fE hO
  have BM := dG fE hO
  have tq := gu fE hO g6
  simp only [qX, hs, reduceCtorEq] at h
  simp only [vz, tyf, g6, g7, hU, e8, e9, bc, b4, mw, (aW BM), tq, nm, seval]
  refine s8 (fun tm => tm 0 = .lit (.int .i64 aJ) ∧ tm 1 = .sl (ae eI ar) (List.length ar) false ∧ tm 2 = .lit (.int .i64 aV) ∧ tm 7 = .lit (.int .i64 bB) ∧ True) (by refine ⟨e8, e9, bc, b4, trivial⟩ <;> first | (simp only [ua, hU, e8, e9, bc, b4, mw, tq, nm, seval] <;> rfl) | rfl) ?_
  rintro tm ⟨fG, jo, dm, cu, _⟩
  obtain ⟨O4, qY, h⟩ := optI h qM
  try simp only [hs] at h
  cases dC : (decide (e5 ≤ O4))
  ·simp only [dC, hs] at h
   simp only [vz, tyf, g6, g7, hU, mw, (aW BM), tq, fG, jo, dm, cu, (aW qY), dC, nm, seval]
   exact ⟨List.length p5, Nat.lt_succ_self _, by rw [ni]; refine ⟨p5, bB + 1, rfl, Int.le_trans fE (Int.le_add_one (Int.le_refl _)), dj fE hO, rfl, (show 2 ≤ km + 17 by omega), fG, jo, dm, ?_, (by first | exact h | (simp only [mw, dC]; exact h))⟩ <;> first | (simp only [ua, hU, mw, tq, fG, jo, dm, cu, dC, nm, seval] <;> rfl) | rfl⟩
  simp only [dC, hs] at h
  try simp only [vz, tyf, g6, g7, hU, mw, (aW BM), tq, fG, jo, dm, cu, (aW qY), dC, nm, seval]
  replace h := JM _ h
  try dsimp only at h
  obtain rfl := kF _ h
  exact bd Tryz.results134 rfl
def qZ (ak : GBk) : List GBs → Int → Option (LOut (Bool) (Unit))
 | [], b5 => some (.go ())
 | e0 :: p0, b5 => Option.bind (wD ak e0.Board) (fun r2 => cond (r2) (Option.bind (td 1 e0.Hours 6) (fun r3 => cond (r3) (Option.bind (tn 0 e0.Needs (i64.wrap (b5 - 1))) (fun r4 => cond (r4) (qZ ak p0 (b5 + 1)) (some (.ret false)))) (some (.ret false)))) (some (.ret false)))
def wH (ak : GBk) : Option (Bool) := Option.bind (nv 1 (List.length ak.Strokes : Int) 6) (fun r1 => cond (r1) (cond (aM ak.Strokes) (lbind (qZ ak ak.Strokes 0) (fun r6 => some r6) (fun c5 => some true) (fun _ _ => none)) none) (some false))
theorem O5 (ak : GBk) (R : Bool) (h : wH ak = some R) : aj Tryz.prog G0 102 [.agg (cGBk ak)] (.tree (.lit (.bool R))) := by
 refine aj.runR mixed Tryz.call102 Tryz.func102 rfl (by simp [Tryz.ntmps102]; kernel_rfl) ?_
 obtain ⟨KF, h, kF, kN⟩ := cJ h
 simp only [wH] at h
 obtain ⟨r7, o8, h⟩ := optI h kN
 try simp only [hs] at h
 simp only [vz, tyf, nm, seval]
 refine ktA (sZ _ _ _ _ o8) ?_
 refine bL (fun tm => tm 1 = .ptr 0 0 ∧ tm 8 = .lit (.bool r7) ∧ True) (by refine ⟨?_, ?_, trivial⟩ <;> first | (simp only [ua, nm, seval] <;> rfl) | rfl) ?_
 rintro tm ⟨e9, bc, _⟩
 cases fD : (r7)
 ·simp only [fD, hs] at h
  try simp only [vz, tyf, e9, bc, fD, nm, seval]
  obtain rfl := kF _ h
  exact bd Tryz.results102 rfl
 simp only [fD, hs] at h
 cases ny : (aM ak.Strokes)
 ·simp only [ny, hs] at h
  exact absurd h kN
 simp only [ny, hs] at h
 simp only [vz, tyf, e9, bc, fD, ny, nm, seval]
 obtain ⟨O6, h, pb, BN, O7, pc⟩ := hC h kN
 obtain ⟨O8, BO, h⟩ := call2 h
 obtain ⟨O9, pd⟩ : ∃ I : Nat → St → Prop, I = (fun m st => ∃ (nz : List GBs) (b8 : Int), m = List.length nz ∧ 0 ≤ b8 ∧ List.drop (Int.toNat b8) ak.Strokes = nz ∧ st.df = [] ∧ 11 ≤ st.nx ∧ st.H 0 = some (.cells (some 25) (cGBk ak)) ∧ st.tm 1 = .ptr 0 0 ∧ st.tm 11 = .sl (ae cGBs ak.Strokes) (List.length ak.Strokes) false ∧ st.tm 12 = .lit (.int .i64 (List.length ak.Strokes : Int)) ∧ st.tm 13 = .lit (.int .i64 b8) ∧ O6 (O8 nz b8)) := ⟨_, rfl⟩
 refine loopK mixed (by kernel_rfl) O9 (List.length ak.Strokes) (by rw [pd]; refine ⟨ak.Strokes, 0, rfl, Int.le_refl _, rfl, rfl, (show 11 ≤ 11 by omega), ?_, e9, ?_, ?_, ?_, h⟩ <;> first | (simp only [ua, e9, bc, fD, nm, seval] <;> rfl) | rfl) ?_
 rintro m ⟨tm, H, my, df⟩ hinv
 rw [pd] at hinv
 obtain ⟨nz, b8, rfl, js, ku, hdf, BP, ra, fI, bC, b6, bV, h⟩ := hinv
 simp only at hdf BP ra fI bC b6 bV
 have tt := je (m := 11) (b := my) (by omega)
 subst hdf BO
 cases nz with
 | nil =>
  have fJ : (decide (b8 < (List.length ak.Strokes : Int))) = false := gC js ku
  simp only [qZ, hs, reduceCtorEq] at h
  replace h := BN _ h
  try dsimp only at h
  try simp only [hs] at h
  try simp only [vz, tyf, fD, ny, tt, fI, bC, b6, bV, ra, fJ, nm, seval]
  obtain rfl := kF _ h
  exact bd Tryz.results102 rfl
 | cons cn nz =>
  have mo : (decide (b8 < (List.length ak.Strokes : Int))) = true := gq js ku
  have iW := dG js ku
  have wI := gu js ku ny
  simp only [qZ, hs, reduceCtorEq] at h
  obtain ⟨tu, qY, h⟩ := optI h pc
  try simp only [hs] at h
  simp only [vz, tyf, fD, ny, tt, fI, bC, b6, bV, ra, mo, (aL iW), wI, nm, seval]
  refine ktA (Oj _ _ _ qY) ?_
  refine bL (fun tm => tm 1 = .ptr 0 0 ∧ tm 3 = .lit (.int .i64 b8) ∧ tm 4 = .ptr (my + 4) 0 ∧ tm 11 = .sl (ae cGBs ak.Strokes) (List.length ak.Strokes) false ∧ tm 12 = .lit (.int .i64 (List.length ak.Strokes : Int)) ∧ tm 13 = .lit (.int .i64 b8) ∧ tm 21 = .lit (.bool tu) ∧ True) (by refine ⟨fI, ?_, ?_, bC, b6, bV, ?_, trivial⟩ <;> first | (simp only [ua, fD, tt, fI, bC, b6, bV, ra, mo, wI, nm, seval] <;> rfl) | rfl) ?_
  rintro tm ⟨cC, bm, cQ, cK, dV, dk, jl, _⟩
  cases eL : (tu)
  ·simp only [eL, hs] at h
   have jP := And.intro fD (And.intro ny (And.intro tt (And.intro ra (And.intro mo (And.intro wI eL)))))
   try simp only [vz, tyf, jP, (aL iW), cC, bm, cQ, cK, dV, dk, jl, nm, seval]
   replace h := pb _ h
   try dsimp only at h
   obtain rfl := kF _ h
   exact bd Tryz.results102 rfl
  simp only [eL, hs] at h
  have mz := And.intro fD (And.intro ny (And.intro tt (And.intro ra (And.intro mo (And.intro wI eL)))))
  obtain ⟨Kh, OA, h⟩ := optI h pc
  try simp only [hs] at h
  simp only [vz, tyf, mz, (aL iW), cC, bm, cQ, cK, dV, dk, jl, nm, seval]
  refine ktA (Ok _ _ _ _ OA) ?_
  refine bL (fun tm => tm 1 = .ptr 0 0 ∧ tm 3 = .lit (.int .i64 b8) ∧ tm 4 = .ptr (my + 4) 0 ∧ tm 11 = .sl (ae cGBs ak.Strokes) (List.length ak.Strokes) false ∧ tm 12 = .lit (.int .i64 (List.length ak.Strokes : Int)) ∧ tm 13 = .lit (.int .i64 b8) ∧ tm 23 = .lit (.bool false) ∧ tm 26 = .lit (.bool Kh) ∧ True) (by refine ⟨cC, bm, cQ, cK, dV, dk, ?_, ?_, trivial⟩ <;> first | (simp only [ua, mz, cC, bm, cQ, cK, dV, dk, jl, nm, seval] <;> rfl) | rfl) ?_
  rintro tm ⟨iA, iB, lK, lL, fu, dB, fF, iw, _⟩
  cases jt : (Kh)
  ·simp only [jt, hs] at h
   try simp only [vz, tyf, mz, (aL iW), iA, iB, lK, lL, fu, dB, fF, iw, jt, nm, seval]
   replace h := pb _ h
   try dsimp only at h
   obtain rfl := kF _ h
   exact bd Tryz.results102 rfl
  simp only [jt, hs] at h
  obtain ⟨Ki, OB, h⟩ := optI h pc
  try simp only [hs] at h
  simp only [vz, tyf, mz, (aL iW), iA, iB, lK, lL, fu, dB, fF, iw, jt, nm, seval]
  refine ktA (O3 _ _ _ _ OB) ?_
  refine bL (fun tm => tm 1 = .ptr 0 0 ∧ tm 11 = .sl (ae cGBs ak.Strokes) (List.length ak.Strokes) false ∧ tm 12 = .lit (.int .i64 (List.length ak.Strokes : Int)) ∧ tm 13 = .lit (.int .i64 b8) ∧ tm 29 = .lit (.bool false) ∧ tm 34 = .lit (.bool Ki) ∧ True) (by refine ⟨iA, lL, fu, dB, ?_, ?_, trivial⟩ <;> first | (simp only [ua, mz, iA, iB, lK, lL, fu, dB, fF, iw, jt, nm, seval] <;> rfl) | rfl) ?_
  rintro tm ⟨eM, ky, kz, m0, dX, eN, _⟩
  cases re : (Ki)
  ·simp only [re, hs] at h
   try simp only [vz, tyf, mz, (aL iW), jt, eM, ky, kz, m0, dX, eN, re, nm, seval]
   replace h := pb _ h
   try dsimp only at h
   obtain rfl := kF _ h
   exact bd Tryz.results102 rfl
  simp only [re, hs] at h
  simp only [vz, tyf, mz, (aL iW), jt, eM, ky, kz, m0, dX, eN, re, nm, seval]
  exact ⟨List.length nz, Nat.lt_succ_self _, by rw [pd]; refine ⟨nz, b8 + 1, rfl, Int.le_trans js (Int.le_add_one (Int.le_refl _)), dj js ku, rfl, (show 11 ≤ my + 28 by omega), ?_, eM, ky, kz, ?_, (by first | exact h | (simp only [mz, jt, re]; exact h))⟩ <;> first | (simp only [ua, mz, jt, eM, ky, kz, m0, dX, eN, re, nm, seval] <;> rfl) | rfl⟩
def pf (ak : GBk) : Option (Bool) := Option.bind (nv 0 ak.Apprentices 3) (fun r1 => cond (r1) (Option.bind (wC ak.Boards) (fun r2 => cond (r2) (Option.bind (wH ak) (fun r3 => some r3)) (some false))) (some false))
theorem Kj (ak : GBk) (R : Bool) (h : pf ak = some R) : aj Tryz.prog G0 67 [.agg (cGBk ak)] (.tree (.lit (.bool R))) := by
 refine aj.runR mixed Tryz.call67 Tryz.func67 rfl (by simp [Tryz.ntmps67]; kernel_rfl) ?_
 obtain ⟨KF, h, kF, kN⟩ := cJ h
 simp only [pf] at h
 obtain ⟨r4, o5, h⟩ := optI h kN
 try simp only [hs] at h
 simp only [vz, tyf, nm, seval]
 refine ktA (sZ _ _ _ _ o5) ?_
 refine bL (fun tm => tm 1 = .ptr 0 0 ∧ tm 5 = .lit (.bool r4) ∧ True) (by refine ⟨?_, ?_, trivial⟩ <;> first | (simp only [ua, nm, seval] <;> rfl) | rfl) ?_
 rintro tm ⟨e6, e7, _⟩
 cases d8 : (r4)
 ·simp only [d8, hs] at h
  try simp only [vz, tyf, e6, e7, d8, nm, seval]
  obtain rfl := kF _ h
  exact bd Tryz.results67 rfl
 simp only [d8, hs] at h
 obtain ⟨r9, gw, h⟩ := optI h kN
 try simp only [hs] at h
 simp only [vz, tyf, e6, e7, d8, nm, seval]
 refine ktA (Oi _ _ gw) ?_
 refine bL (fun tm => tm 1 = .ptr 0 0 ∧ tm 6 = .lit (.bool true) ∧ tm 9 = .lit (.bool r9) ∧ True) (by refine ⟨e6, ?_, ?_, trivial⟩ <;> first | (simp only [ua, e6, e7, d8, nm, seval] <;> rfl) | rfl) ?_
 rintro tm ⟨b4, cn, bN, _⟩
 cases bX : (r9)
 ·simp only [bX, hs] at h
  try simp only [vz, tyf, d8, b4, cn, bN, bX, nm, seval]
  obtain rfl := kF _ h
  exact bd Tryz.results67 rfl
 simp only [bX, hs] at h
 obtain ⟨k6, gG, h⟩ := optI h kN
 try simp only [hs] at h
 simp only [vz, tyf, d8, b4, cn, bN, bX, nm, seval]
 refine ktA (O5 _ _ gG) ?_
 refine bL (fun tm => tm 11 = .lit (.bool true) ∧ tm 13 = .lit (.bool k6) ∧ True) (by refine ⟨?_, ?_, trivial⟩ <;> first | (simp only [ua, d8, b4, cn, bN, bX, nm, seval] <;> rfl) | rfl) ?_
 rintro tm ⟨b6, bV, _⟩
 try simp only [vz, tyf, d8, bX, b6, bV, nm, seval]
 obtain rfl := kF _ h
 exact bd Tryz.results67 rfl
def rh (ak : GBk) : List Int → Int → Option (LOut (Bool) (Unit))
 | [], k7 => some (.go ())
 | e0 :: p0, k7 => Option.bind (ri ak k7 e0) (fun r2 => cond (r2) (rh ak p0 (k7 + 1)) (some (.ret false)))
def tv (ak : GBk) (av : List Int) : Option (Bool) := cond ((List.length av : Int) != (List.length ak.Strokes : Int)) (some false) (Option.bind (oZ 0 av ak.Apprentices) (fun r1 => cond (r1) (cond (aM av) (lbind (rh ak av 0) (fun r4 => some r4) (fun c3 => some true) (fun _ _ => none)) none) (some false)))
theorem OC (ak : GBk) (av : List Int) (R : Bool) (h : tv ak av = some R) : aj Tryz.prog G0 68 [.agg (cGBk ak), .sl (ae eI av) (List.length av) false] (.tree (.lit (.bool R))) := by
 refine aj.runR mixed Tryz.call68 Tryz.func68 rfl (by simp [Tryz.ntmps68]; kernel_rfl) ?_
 obtain ⟨KF, h, kF, kN⟩ := cJ h
 simp only [tv] at h
 cases d5 : ((List.length av : Int) != (List.length ak.Strokes : Int))
 ·simp only [d5, hs] at h
  obtain ⟨r6, o7, h⟩ := optI h kN
  try simp only [hs] at h
  simp only [vz, tyf, d5, nm, seval]
  refine ktA (Bv _ _ _ _ o7) ?_
  refine bL (fun tm => tm 1 = .sl (ae eI av) (List.length av) false ∧ tm 2 = .ptr 0 0 ∧ tm 13 = .lit (.bool false) ∧ tm 17 = .lit (.bool r6) ∧ True) (by refine ⟨?_, ?_, ?_, ?_, trivial⟩ <;> first | (simp only [ua, d5, nm, seval] <;> rfl) | rfl) ?_
  rintro tm ⟨e8, e9, bc, b4, _⟩
  cases bU : (r6)
  ·simp only [bU, hs] at h
   try simp only [vz, tyf, d5, e8, e9, bc, b4, bU, nm, seval]
   obtain rfl := kF _ h
   exact bd Tryz.results68 rfl
  simp only [bU, hs] at h
  cases pg : (aM av)
  ·simp only [pg, hs] at h
   exact absurd h kN
  simp only [pg, hs] at h
  simp only [vz, tyf, d5, e8, e9, bc, b4, bU, pg, nm, seval]
  obtain ⟨OD, h, BQ, BR, OE, BS⟩ := hC h kN
  obtain ⟨OF, BT, h⟩ := call2 h
  obtain ⟨OG, ph⟩ : ∃ I : Nat → St → Prop, I = (fun m st => ∃ (n5 : List Int) (cl : Int), m = List.length n5 ∧ 0 ≤ cl ∧ List.drop (Int.toNat cl) av = n5 ∧ st.df = [] ∧ 18 ≤ st.nx ∧ st.H 0 = some (.cells (some 25) (cGBk ak)) ∧ st.tm 2 = .ptr 0 0 ∧ st.tm 20 = .sl (ae eI av) (List.length av) false ∧ st.tm 21 = .lit (.int .i64 (List.length av : Int)) ∧ st.tm 22 = .lit (.int .i64 cl) ∧ OD (OF n5 cl)) := ⟨_, rfl⟩
  refine loopK mixed (by kernel_rfl) OG (List.length av) (by rw [ph]; refine ⟨av, 0, rfl, Int.le_refl _, rfl, rfl, (show 18 ≤ 18 by omega), ?_, e9, ?_, ?_, ?_, h⟩ <;> first | (simp only [ua, d5, e8, e9, bc, b4, bU, nm, seval] <;> rfl) | rfl) ?_
  rintro m ⟨tm, H, tw, df⟩ hinv
  rw [ph] at hinv
  obtain ⟨n5, cl, rfl, ju, k8, hdf, BU, tz, bC, b6, bV, ct, h⟩ := hinv
  simp only at hdf BU tz bC b6 bV ct
  have wJ := je (m := 18) (b := tw) (by omega)
  subst hdf BT
  cases n5 with
  | nil =>
   have mo : (decide (cl < (List.length av : Int))) = false := gC ju k8
   simp only [rh, hs, reduceCtorEq] at h
   replace h := BR _ h
   try dsimp only at h
   try simp only [hs] at h
   try simp only [vz, tyf, d5, bU, pg, wJ, bC, b6, bV, ct, tz, mo, nm, seval]
   obtain rfl := kF _ h
   exact bd Tryz.results68 rfl
  | cons bN n5 =>
   have oI : (decide (cl < (List.length av : Int))) = true := gq ju k8
   have mr := dG ju k8
   have oJ := gu ju k8 pg
   simp only [rh, hs, reduceCtorEq] at h
   obtain ⟨gF, oL, h⟩ := optI h BS
   try simp only [hs] at h
   simp only [vz, tyf, d5, bU, pg, wJ, bC, b6, bV, ct, tz, oI, (aW mr), oJ, nm, seval]
   refine ktA (Kk _ _ _ _ oL) ?_
   refine bL (fun tm => tm 2 = .ptr 0 0 ∧ tm 20 = .sl (ae eI av) (List.length av) false ∧ tm 21 = .lit (.int .i64 (List.length av : Int)) ∧ tm 22 = .lit (.int .i64 cl) ∧ tm 30 = .lit (.bool gF) ∧ True) (by refine ⟨bC, b6, bV, ct, ?_, trivial⟩ <;> first | (simp only [ua, d5, bU, wJ, bC, b6, bV, ct, tz, oI, oJ, nm, seval] <;> rfl) | rfl) ?_
   rintro tm ⟨bm, cQ, cK, dV, dk, _⟩
   have wK := And.intro d5 (And.intro bU (And.intro pg (And.intro wJ (And.intro tz (And.intro oI oJ)))))
   cases eL : (gF)
   ·simp only [eL, hs] at h
    try simp only [vz, tyf, wK, (aW mr), bm, cQ, cK, dV, dk, eL, nm, seval]
    replace h := BQ _ h
    try dsimp only at h
    obtain rfl := kF _ h
    exact bd Tryz.results68 rfl
   simp only [eL, hs] at h
   simp only [vz, tyf, wK, (aW mr), bm, cQ, cK, dV, dk, eL, nm, seval]
   exact ⟨List.length n5, Nat.lt_succ_self _, by rw [ph]; refine ⟨n5, cl + 1, rfl, Int.le_trans ju (Int.le_add_one (Int.le_refl _)), dj ju k8, rfl, (show 18 ≤ tw + 13 by omega), ?_, bm, cQ, cK, ?_, (by first | exact h | (simp only [wK, eL]; exact h))⟩ <;> first | (simp only [ua, wK, bm, cQ, cK, dV, dk, eL, nm, seval] <;> rfl) | rfl⟩
 simp only [d5, hs] at h
 try simp only [vz, tyf, d5, nm, seval]
 obtain rfl := kF _ h
 exact bd Tryz.results68 rfl

def pj  : List GBs → Int → Option (LOut (Bool) (Unit))
 | [], cL => some (.go ())
 | e0 :: p0, cL => cond (decide (cL < 9)) (cond (decide ((List.length e0.Needs : Int) > 8)) (some (.ret false)) (pj p0 (cL + 1))) (some (.go ()))
def wL (ak : GBk) : Option (Bool) := cond (aM ak.Strokes) (lbind (pj ak.Strokes 0) (fun r2 => some r2) (fun c1 => cond (decide ((List.length ak.Boards : Int) ≤ 5)) (some (decide ((List.length ak.Strokes : Int) ≤ 8))) (some false)) (fun _ _ => none)) none
theorem OH (ak : GBk) (R : Bool) (h : wL ak = some R) : aj Tryz.prog G0 18 [.agg (cGBk ak)] (.tree (.lit (.bool R))) := by
 refine aj.runR mixed Tryz.call18 Tryz.func18 rfl (by simp [Tryz.ntmps18]; kernel_rfl) ?_
 obtain ⟨KF, h, kF, kN⟩ := cJ h
 simp only [wL] at h
 cases g4 : (aM ak.Strokes)
 ·simp only [g4, hs] at h
  exact absurd h kN
 simp only [g4, hs] at h
 simp only [vz, tyf, g4, nm, seval]
 obtain ⟨K3, h, JK, w6, NS, NT⟩ := hC h kN
 obtain ⟨f3, AV, h⟩ := call2 h
 obtain ⟨I3, oG⟩ : ∃ I : Nat → St → Prop, I = (fun m st => ∃ (p3 : List GBs) (cD : Int), m = List.length p3 ∧ 0 ≤ cD ∧ List.drop (Int.toNat cD) ak.Strokes = p3 ∧ st.df = [] ∧ 3 ≤ st.nx ∧ st.H 0 = some (.cells (some 25) (cGBk ak)) ∧ st.tm 1 = .ptr 0 0 ∧ st.tm 3 = .lit (.int .i64 cD) ∧ K3 (f3 p3 cD)) := ⟨_, rfl⟩
 refine loopK mixed (by kernel_rfl) I3 (List.length ak.Strokes) (by rw [oG]; refine ⟨ak.Strokes, 0, rfl, Int.le_refl _, rfl, rfl, (show 3 ≤ 3 by omega), ?_, ?_, ?_, h⟩ <;> first | (simp only [ua, nm, seval] <;> rfl) | rfl) ?_
 rintro m ⟨tm, H, sE, df⟩ hinv
 rw [oG] at hinv
 obtain ⟨p3, cD, rfl, jk, kj, hdf, AW, H5, e6, e7, h⟩ := hinv
 simp only at hdf AW H5 e6 e7
 have n8 := je (m := 3) (b := sE) (by omega)
 subst hdf AV
 cases p3 with
 | nil =>
  have d9 : (decide (cD < (List.length ak.Strokes : Int))) = false := gC jk kj
  simp only [pj, hs, reduceCtorEq] at h
  replace h := w6 _ h
  try dsimp only at h
  try simp only [hs] at h
  cases lH : (decide ((List.length ak.Boards : Int) ≤ 5))
  ·simp only [lH, hs] at h
   try simp only [vz, tyf, g4, n8, e6, e7, H5, d9, lH, nm, seval]
   obtain rfl := kF _ h
   exact bd Tryz.results18 rfl
  simp only [lH, hs] at h
  try simp only [vz, tyf, g4, n8, e6, e7, H5, d9, lH, nm, seval]
  obtain rfl := kF _ h
  exact bd Tryz.results18 rfl
 | cons e3 p3 =>
  have fD : (decide (cD < (List.length ak.Strokes : Int))) = true := gq jk kj
  have qK := dG jk kj
  have oH := gu jk kj g4
  simp only [pj, hs, reduceCtorEq] at h
  cases bX : (decide (cD < 9))
  ·simp only [bX, hs] at h
   replace h := w6 _ h
   try dsimp only at h
   try simp only [hs] at h
   cases jj : (decide ((List.length ak.Boards : Int) ≤ 5))
   ·simp only [jj, hs] at h
    have OI := And.intro g4 (And.intro n8 (And.intro H5 (And.intro fD (And.intro oH (And.intro bX jj)))))
    try simp only [vz, tyf, OI, e6, e7, (aL qK), nm, seval]
    obtain rfl := kF _ h
    exact bd Tryz.results18 rfl
   simp only [jj, hs] at h
   have OJ := And.intro g4 (And.intro n8 (And.intro H5 (And.intro fD (And.intro oH (And.intro bX jj)))))
   try simp only [vz, tyf, OJ, e6, e7, (aL qK), nm, seval]
   obtain rfl := kF _ h
   exact bd Tryz.results18 rfl
  simp only [bX, hs] at h
  cases nt : (decide ((List.length e3.Needs : Int) > 8))
  ·simp only [nt, hs] at h
   have BV := And.intro g4 (And.intro n8 (And.intro H5 (And.intro fD (And.intro oH (And.intro bX nt)))))
   simp only [vz, tyf, BV, e6, e7, (aL qK), nm, seval]
   exact ⟨List.length p3, Nat.lt_succ_self _, by rw [oG]; refine ⟨p3, cD + 1, rfl, Int.le_trans jk (Int.le_add_one (Int.le_refl _)), dj jk kj, rfl, (show 3 ≤ sE + 20 by omega), ?_, e6, ?_, (by first | exact h | (simp only [BV]; exact h))⟩ <;> first | (simp only [ua, BV, e6, e7, nm, seval] <;> rfl) | rfl⟩
  simp only [nt, hs] at h
  have OK := And.intro g4 (And.intro n8 (And.intro H5 (And.intro fD (And.intro oH (And.intro bX nt)))))
  try simp only [vz, tyf, OK, e6, e7, (aL qK), nm, seval]
  replace h := JK _ h
  try dsimp only at h
  obtain rfl := kF _ h
  exact bd Tryz.results18 rfl
def jv (jw : Int) (dY : Int) (dR : Int) : Option (Bool) := cond (decide (jw ≥ dY)) (some (decide (jw ≤ dR))) (some false)
theorem lM (jw : Int) (dY : Int) (dR : Int) (R : Bool) (h : jv jw dY dR = some R) : aj Tryz.prog G0 73 [.lit (.int .i64 jw), .lit (.int .i64 dY), .lit (.int .i64 dR)] (.tree (.lit (.bool R))) := by
 refine aj.runR mixed Tryz.call73 Tryz.func73 rfl (by simp [Tryz.ntmps73]; kernel_rfl) ?_
 obtain ⟨KF, h, kF, kN⟩ := cJ h
 simp only [jv] at h
 cases d1 : (decide (jw ≥ dY))
 ·simp only [d1, hs] at h
  try simp only [vz, tyf, d1, nm, seval]
  obtain rfl := kF _ h
  exact bd Tryz.results73 rfl
 simp only [d1, hs] at h
 try simp only [vz, tyf, d1, nm, seval]
 obtain rfl := kF _ h
 exact bd Tryz.results73 rfl
def pk (aA : Int) (x1 : GBs) : List Int → Int → Option (LOut (Bool) (Unit))
 | [], k9 => some (.go ())
 | e0 :: p0, k9 => Option.bind (jv e0 0 (i64.wrap (aA - 1))) (fun r5 => cond (r5) (cond (decide (k9 > 0)) (Option.bind (getI x1.Needs (i64.wrap (k9 - 1))) (fun x6 => cond (decide (e0 ≤ x6)) (some (.ret false)) (pk aA x1 p0 (k9 + 1)))) (pk aA x1 p0 (k9 + 1))) (some (.ret false)))
def t0 (ak : GBk) (aA : Int) : Option (Bool) := Option.bind (getI ak.Strokes aA) (fun x1 => Option.bind (jv x1.Board 0 (i64.wrap ((List.length ak.Boards : Int) - 1))) (fun r2 => cond (r2) (Option.bind (jv x1.Hours.Low 1 6) (fun r3 => cond (r3) (Option.bind (jv x1.Hours.High x1.Hours.Low 6) (fun r4 => cond (r4) (cond (aM x1.Needs) (lbind (pk aA x1 x1.Needs 0) (fun r8 => some r8) (fun c7 => some true) (fun _ _ => none)) none) (some false))) (some false))) (some false)))
theorem OL (ak : GBk) (aA : Int) (R : Bool) (h : t0 ak aA = some R) : aj Tryz.prog G0 74 [.agg (cGBk ak), .lit (.int .i64 aA)] (.tree (.lit (.bool R))) := by
 refine aj.runR mixed Tryz.call74 Tryz.func74 rfl (by simp [Tryz.ntmps74]; kernel_rfl) ?_
 obtain ⟨KF, h, kF, kN⟩ := cJ h
 simp only [t0] at h
 obtain ⟨x9, gw, h⟩ := optI h kN
 try simp only [hs] at h
 obtain ⟨rj, OM, h⟩ := optI h kN
 try simp only [hs] at h
 simp only [vz, tyf, (aL gw), nm, seval]
 refine ktA (lM _ _ _ _ OM) ?_
 refine bL (fun tm => tm 1 = .lit (.int .i64 aA) ∧ tm 5 = .ptr 7 0 ∧ tm 18 = .lit (.bool rj) ∧ True) (by refine ⟨?_, ?_, ?_, trivial⟩ <;> first | (simp only [ua, nm, seval] <;> rfl) | rfl) ?_
 rintro tm ⟨bN, cB, fI, _⟩
 cases iC : (rj)
 ·simp only [iC, hs] at h
  try simp only [vz, tyf, (aL gw), bN, cB, fI, iC, nm, seval]
  obtain rfl := kF _ h
  exact bd Tryz.results74 rfl
 simp only [iC, hs] at h
 obtain ⟨mu, Bi, h⟩ := optI h kN
 try simp only [hs] at h
 simp only [vz, tyf, (aL gw), bN, cB, fI, iC, nm, seval]
 refine ktA (lM _ _ _ _ Bi) ?_
 refine bL (fun tm => tm 1 = .lit (.int .i64 aA) ∧ tm 5 = .ptr 7 0 ∧ tm 20 = .lit (.bool false) ∧ tm 24 = .lit (.bool mu) ∧ True) (by refine ⟨bN, cB, ?_, ?_, trivial⟩ <;> first | (simp only [ua, bN, cB, fI, iC, nm, seval] <;> rfl) | rfl) ?_
 rintro tm ⟨ct, fG, jo, dm, _⟩
 cases jX : (mu)
 ·simp only [jX, hs] at h
  try simp only [vz, tyf, (aL gw), iC, ct, fG, jo, dm, jX, nm, seval]
  obtain rfl := kF _ h
  exact bd Tryz.results74 rfl
 simp only [jX, hs] at h
 obtain ⟨tu, qY, h⟩ := optI h kN
 try simp only [hs] at h
 simp only [vz, tyf, (aL gw), iC, ct, fG, jo, dm, jX, nm, seval]
 refine ktA (lM _ _ _ _ qY) ?_
 refine bL (fun tm => tm 1 = .lit (.int .i64 aA) ∧ tm 5 = .ptr 7 0 ∧ tm 27 = .lit (.bool false) ∧ tm 34 = .lit (.bool tu) ∧ True) (by refine ⟨ct, fG, ?_, ?_, trivial⟩ <;> first | (simp only [ua, iC, ct, fG, jo, dm, jX, nm, seval] <;> rfl) | rfl) ?_
 rintro tm ⟨cC, bm, cQ, cK, _⟩
 cases cF : (tu)
 ·simp only [cF, hs] at h
  try simp only [vz, tyf, (aL gw), iC, jX, cC, bm, cQ, cK, cF, nm, seval]
  obtain rfl := kF _ h
  exact bd Tryz.results74 rfl
 simp only [cF, hs] at h
 cases pn : (aM x9.Needs)
 ·simp only [pn, hs] at h
  exact absurd h kN
 simp only [pn, hs] at h
 simp only [vz, tyf, (aL gw), iC, jX, cC, bm, cQ, cK, cF, pn, nm, seval]
 obtain ⟨ON, h, t4, BW, OO, t5⟩ := hC h kN
 obtain ⟨OP, BX, h⟩ := call2 h
 obtain ⟨OQ, m2⟩ : ∃ I : Nat → St → Prop, I = (fun m st => ∃ (lN : List Int) (cq : Int), m = List.length lN ∧ 0 ≤ cq ∧ List.drop (Int.toNat cq) x9.Needs = lN ∧ st.df = [] ∧ 35 ≤ st.nx ∧ st.H 7 = some (.cells (some 49) (cGBs x9)) ∧ st.tm 1 = .lit (.int .i64 aA) ∧ st.tm 5 = .ptr 7 0 ∧ st.tm 6 = .lit (.int .i64 cq) ∧ ON (OP lN cq)) := ⟨_, rfl⟩
 refine loopK mixed (by kernel_rfl) OQ (List.length x9.Needs) (by rw [m2]; refine ⟨x9.Needs, 0, rfl, Int.le_refl _, rfl, rfl, (show 35 ≤ 35 by omega), ?_, cC, bm, ?_, h⟩ <;> first | (simp only [ua, iC, jX, cC, bm, cQ, cK, cF, nm, seval] <;> rfl) | rfl) ?_
 rintro m ⟨tm, H, po, df⟩ hinv
 rw [m2] at hinv
 obtain ⟨lN, cq, rfl, gL, jx, hdf, BY, t6, iz, kA, kC, h⟩ := hinv
 simp only at hdf BY t6 iz kA kC
 have wM := je (m := 35) (b := po) (by omega)
 subst hdf BX
 cases lN with
 | nil =>
  have OR : (decide (cq < (List.length x9.Needs : Int))) = false := gC gL jx
  simp only [pk, hs, reduceCtorEq] at h
  replace h := BW _ h
  try dsimp only at h
  try simp only [hs] at h
  try simp only [vz, tyf, (aL gw), iC, jX, cF, pn, wM, iz, kA, kC, t6, OR, nm, seval]
  obtain rfl := kF _ h
  exact bd Tryz.results74 rfl
 | cons dk lN =>
  have BZ : (decide (cq < (List.length x9.Needs : Int))) = true := gq gL jx
  have np := dG gL jx
  have Ca := gu gL jx pn
  simp only [pk, hs, reduceCtorEq] at h
  simp only [vz, tyf, (aL gw), iC, jX, cF, pn, wM, iz, kA, kC, t6, BZ, (aW np), Ca, nm, seval]
  refine s8 (fun tm => tm 1 = .lit (.int .i64 aA) ∧ tm 5 = .ptr 7 0 ∧ tm 6 = .lit (.int .i64 cq) ∧ True) (by refine ⟨iz, kA, kC, trivial⟩ <;> first | (simp only [ua, iC, jX, cF, wM, iz, kA, kC, t6, BZ, Ca, nm, seval] <;> rfl) | rfl) ?_
  rintro tm ⟨fu, dB, fF, _⟩
  have lO := And.intro iC (And.intro jX (And.intro cF (And.intro pn (And.intro wM (And.intro t6 (And.intro BZ Ca))))))
  obtain ⟨Kl, OS, h⟩ := optI h t5
  try simp only [hs] at h
  simp only [vz, tyf, lO, (aL gw), (aW np), fu, dB, fF, nm, seval]
  refine dktA (lM _ _ _ _ OS) ?_
  refine bL (fun tm => tm 1 = .lit (.int .i64 aA) ∧ tm 5 = .ptr 7 0 ∧ tm 6 = .lit (.int .i64 cq) ∧ tm 51 = .lit (.bool Kl) ∧ True) (by refine ⟨fu, dB, fF, ?_, trivial⟩ <;> first | (simp only [ua, lO, fu, dB, fF, nm, seval] <;> rfl) | rfl) ?_
  rintro tm ⟨eK, eM, ky, kz, _⟩
  cases iZ : (Kl)
  ·simp only [iZ, hs] at h
   try simp only [vz, tyf, lO, (aL gw), (aW np), eK, eM, ky, kz, iZ, nm, seval]
   replace h := t4 _ h
   try dsimp only at h
   obtain rfl := kF _ h
   exact bd Tryz.results74 rfl
  simp only [iZ, hs] at h
  cases m3 : (decide (cq > 0))
  ·simp only [m3, hs] at h
   simp only [vz, tyf, lO, (aL gw), (aW np), eK, eM, ky, kz, iZ, m3, nm, seval]
   exact ⟨List.length lN, Nat.lt_succ_self _, by rw [m2]; refine ⟨lN, cq + 1, rfl, Int.le_trans gL (Int.le_add_one (Int.le_refl _)), dj gL jx, rfl, (show 35 ≤ po + 35 by omega), ?_, eK, eM, ?_, (by first | exact h | (simp only [lO, iZ, m3]; exact h))⟩ <;> first | (simp only [ua, lO, eK, eM, ky, kz, iZ, m3, nm, seval] <;> rfl) | rfl⟩
  simp only [m3, hs] at h
  obtain ⟨OT, Km, h⟩ := optI h t5
  try simp only [hs] at h
  cases rk : (decide (dk ≤ OT))
  ·simp only [rk, hs] at h
   simp only [vz, tyf, lO, (aL gw), (aW np), eK, eM, ky, kz, iZ, m3, (aW Km), rk, nm, seval]
   exact ⟨List.length lN, Nat.lt_succ_self _, by rw [m2]; refine ⟨lN, cq + 1, rfl, Int.le_trans gL (Int.le_add_one (Int.le_refl _)), dj gL jx, rfl, (show 35 ≤ po + 35 by omega), ?_, eK, eM, ?_, (by first | exact h | (simp only [lO, iZ, m3, rk]; exact h))⟩ <;> first | (simp only [ua, lO, eK, eM, ky, kz, iZ, m3, rk, nm, seval] <;> rfl) | rfl⟩
  simp only [rk, hs] at h
  try simp only [vz, tyf, lO, (aL gw), (aW np), eK, eM, ky, kz, iZ, m3, (aW Km), rk, nm, seval]
  replace h := t4 _ h
  try dsimp only at h
  obtain rfl := kF _ h
  exact bd Tryz.results74 rfl
def rl (ak : GBk) : List GBs → Int → Option (LOut (Bool) (Unit))
 | [], pq => some (.go ())
 | e1 :: p1, pq => Option.bind (t0 ak pq) (fun r6 => cond (r6) (rl ak p1 (pq + 1)) (some (.ret false)))
def rn  : List Int → Int → Option (LOut (Bool) (Unit))
 | [], cL => some (.go ())
 | e0 :: p0, cL => Option.bind (jv e0 0 60) (fun r4 => cond (r4) (rn p0 (cL + 1)) (some (.ret false)))
def t7 (ak : GBk) : Option (Bool) := Option.bind (jv ak.Apprentices 0 3) (fun r1 => cond (r1) (Option.bind (jv (List.length ak.Boards : Int) 1 3) (fun r2 => cond (r2) (Option.bind (jv (List.length ak.Strokes : Int) 1 6) (fun r3 => cond (r3) (cond (aM ak.Boards) (lbind (rn ak.Boards 0) (fun r9 => some r9) (fun c5 => cond (aM ak.Strokes) (lbind (rl ak ak.Strokes 0) (fun r8 => some r8) (fun c7 => some true) (fun _ _ => none)) none) (fun _ _ => none)) none) (some false))) (some false))) (some false))
theorem OU (ak : GBk) (R : Bool) (h : t7 ak = some R) : aj Tryz.prog G0 24 [.agg (cGBk ak)] (.tree (.lit (.bool R))) := by
 refine aj.runR mixed Tryz.call24 Tryz.func24 rfl (by simp [Tryz.ntmps24]; kernel_rfl) ?_
 obtain ⟨KF, h, kF, kN⟩ := cJ h
 simp only [t7] at h
 obtain ⟨rp, OV, h⟩ := optI h kN
 try simp only [hs] at h
 simp only [vz, tyf, nm, seval]
 refine ktA (lM _ _ _ _ OV) ?_
 refine bL (fun tm => tm 1 = .ptr 0 0 ∧ tm 7 = .lit (.bool rp) ∧ True) (by refine ⟨?_, ?_, trivial⟩ <;> first | (simp only [ua, nm, seval] <;> rfl) | rfl) ?_
 rintro tm ⟨cn, bN, _⟩
 cases bX : (rp)
 ·simp only [bX, hs] at h
  try simp only [vz, tyf, cn, bN, bX, nm, seval]
  obtain rfl := kF _ h
  exact bd Tryz.results24 rfl
 simp only [bX, hs] at h
 obtain ⟨k6, gG, h⟩ := optI h kN
 try simp only [hs] at h
 simp only [vz, tyf, cn, bN, bX, nm, seval]
 refine ktA (lM _ _ _ _ gG) ?_
 refine bL (fun tm => tm 1 = .ptr 0 0 ∧ tm 9 = .lit (.bool false) ∧ tm 13 = .lit (.bool k6) ∧ True) (by refine ⟨cn, ?_, ?_, trivial⟩ <;> first | (simp only [ua, cn, bN, bX, nm, seval] <;> rfl) | rfl) ?_
 rintro tm ⟨b6, bV, ct, _⟩
 cases fJ : (k6)
 ·simp only [fJ, hs] at h
  try simp only [vz, tyf, bX, b6, bV, ct, fJ, nm, seval]
  obtain rfl := kF _ h
  exact bd Tryz.results24 rfl
 simp only [fJ, hs] at h
 obtain ⟨jn, sH, h⟩ := optI h kN
 try simp only [hs] at h
 simp only [vz, tyf, bX, b6, bV, ct, fJ, nm, seval]
 refine ktA (lM _ _ _ _ sH) ?_
 refine bL (fun tm => tm 1 = .ptr 0 0 ∧ tm 16 = .lit (.bool false) ∧ tm 20 = .lit (.bool jn) ∧ True) (by refine ⟨b6, ?_, ?_, trivial⟩ <;> first | (simp only [ua, bX, b6, bV, ct, fJ, nm, seval] <;> rfl) | rfl) ?_
 rintro tm ⟨cu, bR, cg, _⟩
 cases dC : (jn)
 ·simp only [dC, hs] at h
  try simp only [vz, tyf, bX, fJ, cu, bR, cg, dC, nm, seval]
  obtain rfl := kF _ h
  exact bd Tryz.results24 rfl
 simp only [dC, hs] at h
 cases lP : (aM ak.Boards)
 ·simp only [lP, hs] at h
  exact absurd h kN
 simp only [lP, hs] at h
 simp only [vz, tyf, bX, fJ, cu, bR, cg, dC, lP, nm, seval]
 obtain ⟨OW, h, Cb, Cc, OX, Cd⟩ := hC h kN
 obtain ⟨OY, Ce, h⟩ := call2 h
 obtain ⟨OZ, pr⟩ : ∃ I : Nat → St → Prop, I = (fun m st => ∃ (nA : List Int) (cW : Int), m = List.length nA ∧ 0 ≤ cW ∧ List.drop (Int.toNat cW) ak.Boards = nA ∧ st.df = [] ∧ 21 ≤ st.nx ∧ st.H 0 = some (.cells (some 25) (cGBk ak)) ∧ st.tm 1 = .ptr 0 0 ∧ st.tm 3 = .lit (.int .i64 cW) ∧ OW (OY nA cW)) := ⟨_, rfl⟩
 refine loopK mixed (by kernel_rfl) OZ (List.length ak.Boards) (by rw [pr]; refine ⟨ak.Boards, 0, rfl, Int.le_refl _, rfl, rfl, (show 21 ≤ 21 by omega), ?_, cu, ?_, h⟩ <;> first | (simp only [ua, bX, fJ, cu, bR, cg, dC, nm, seval] <;> rfl) | rfl) ?_
 rintro m ⟨tm, H, iD, df⟩ hinv
 rw [pr] at hinv
 obtain ⟨nA, cW, rfl, jy, kD, hdf, Cf, gx, dV, dk, h⟩ := hinv
 simp only at hdf Cf gx dV dk
 have m4 := je (m := 21) (b := iD) (by omega)
 subst hdf Ce
 cases nA with
 | nil =>
  have eL : (decide (cW < (List.length ak.Boards : Int))) = false := gC jy kD
  simp only [rn, hs, reduceCtorEq] at h
  replace h := Cc _ h
  try dsimp only at h
  try simp only [hs] at h
  cases il : (aM ak.Strokes)
  ·simp only [il, hs] at h
   exact absurd h kN
  simp only [il, hs] at h
  simp only [vz, tyf, bX, fJ, dC, lP, m4, dV, dk, gx, eL, il, nm, seval]
  obtain ⟨Pa, h, Cg, Ch, Pb, Ci⟩ := hC h kN
  obtain ⟨Pc, Cj, h⟩ := call2 h
  obtain ⟨Pd, pv⟩ : ∃ I : Nat → St → Prop, I = (fun m st => ∃ (nB : List GBs) (cX : Int), m = List.length nB ∧ 0 ≤ cX ∧ List.drop (Int.toNat cX) ak.Strokes = nB ∧ st.df = [] ∧ iD + 6 ≤ st.nx ∧ st.H 0 = some (.cells (some 25) (cGBk ak)) ∧ st.tm 1 = .ptr 0 0 ∧ st.tm 4 = .lit (.int .i64 cX) ∧ Pa (Pc nB cX)) := ⟨_, rfl⟩
  refine loopK mixed (by kernel_rfl) Pd (List.length ak.Strokes) (by rw [pv]; refine ⟨ak.Strokes, 0, rfl, Int.le_refl _, rfl, rfl, (show iD + 6 ≤ iD + 6 by omega), ?_, dV, ?_, h⟩ <;> first | (simp only [ua, bX, fJ, dC, m4, dV, dk, gx, eL, nm, seval] <;> rfl) | rfl) ?_
  rintro m ⟨tm, H, pw, df⟩ hinv
  rw [pv] at hinv
  obtain ⟨nB, cX, rfl, jz, kE, hdf, Ck, t8, kG, iA, h⟩ := hinv
  simp only at hdf Ck t8 kG iA
  have wN := je (m := 21) (b := pw) (by omega)
  have wO := mT (a := iD) (m := 6) (b := pw) (by omega)
  subst hdf Cj
  cases nB with
  | nil =>
   have Pe : (decide (cX < (List.length ak.Strokes : Int))) = false := gC jz kE
   simp only [rl, hs, reduceCtorEq] at h
   replace h := Ch _ h
   try dsimp only at h
   try simp only [hs] at h
   try simp only [vz, tyf, bX, fJ, dC, lP, m4, eL, il, wN, wO, kG, iA, t8, Pe, nm, seval]
   obtain rfl := kF _ h
   exact bd Tryz.results24 rfl
  | cons iz nB =>
   have Cl : (decide (cX < (List.length ak.Strokes : Int))) = true := gq jz kE
   have Cm := dG jz kE
   have Cn := gu jz kE il
   simp only [rl, hs, reduceCtorEq] at h
   obtain ⟨Kn, Pf, h⟩ := optI h Ci
   try simp only [hs] at h
   simp only [vz, tyf, bX, fJ, dC, lP, m4, eL, il, wN, wO, kG, iA, t8, Cl, (aL Cm), Cn, nm, seval]
   refine ktA (OL _ _ _ Pf) ?_
   refine bL (fun tm => tm 1 = .ptr 0 0 ∧ tm 4 = .lit (.int .i64 cX) ∧ tm 46 = .lit (.bool Kn) ∧ True) (by refine ⟨kG, iA, ?_, trivial⟩ <;> first | (simp only [ua, bX, fJ, dC, m4, eL, wN, wO, kG, iA, t8, Cl, Cn, nm, seval] <;> rfl) | rfl) ?_
   rintro tm ⟨ix, eK, eM, _⟩
   have wP := And.intro bX (And.intro fJ (And.intro dC (And.intro lP (And.intro m4 (And.intro eL (And.intro il (And.intro wN (And.intro wO (And.intro t8 (And.intro Cl Cn))))))))))
   cases rq : (Kn)
   ·simp only [rq, hs] at h
    try simp only [vz, tyf, wP, (aL Cm), ix, eK, eM, rq, nm, seval]
    replace h := Cg _ h
    try dsimp only at h
    obtain rfl := kF _ h
    exact bd Tryz.results24 rfl
   simp only [rq, hs] at h
   simp only [vz, tyf, wP, (aL Cm), ix, eK, eM, rq, nm, seval]
   exact ⟨List.length nB, Nat.lt_succ_self _, by rw [pv]; refine ⟨nB, cX + 1, rfl, Int.le_trans jz (Int.le_add_one (Int.le_refl _)), dj jz kE, rfl, (show iD + 6 ≤ pw + 12 by omega), ?_, ix, ?_, (by first | exact h | (simp only [wP, rq]; exact h))⟩ <;> first | (simp only [ua, wP, ix, eK, eM, rq, nm, seval] <;> rfl) | rfl⟩
 | cons bm nA =>
  have iZ : (decide (cW < (List.length ak.Boards : Int))) = true := gq jy kD
  have Co := dG jy kD
  have Cp := gu jy kD lP
  simp only [rn, hs, reduceCtorEq] at h
  obtain ⟨Ko, Pg, h⟩ := optI h Cd
  try simp only [hs] at h
  simp only [vz, tyf, bX, fJ, dC, lP, m4, dV, dk, gx, iZ, (aW Co), Cp, nm, seval]
  refine ktA (lM _ _ _ _ Pg) ?_
  refine bL (fun tm => tm 1 = .ptr 0 0 ∧ tm 3 = .lit (.int .i64 cW) ∧ tm 35 = .lit (.bool Ko) ∧ True) (by refine ⟨dV, dk, ?_, trivial⟩ <;> first | (simp only [ua, bX, fJ, dC, m4, dV, dk, gx, iZ, Cp, nm, seval] <;> rfl) | rfl) ?_
  rintro tm ⟨gy, hZ, ia, _⟩
  have wQ := And.intro bX (And.intro fJ (And.intro dC (And.intro lP (And.intro m4 (And.intro gx (And.intro iZ Cp))))))
  cases iE : (Ko)
  ·simp only [iE, hs] at h
   try simp only [vz, tyf, wQ, (aW Co), gy, hZ, ia, iE, nm, seval]
   replace h := Cb _ h
   try dsimp only at h
   obtain rfl := kF _ h
   exact bd Tryz.results24 rfl
  simp only [iE, hs] at h
  simp only [vz, tyf, wQ, (aW Co), gy, hZ, ia, iE, nm, seval]
  exact ⟨List.length nA, Nat.lt_succ_self _, by rw [pr]; refine ⟨nA, cW + 1, rfl, Int.le_trans jy (Int.le_add_one (Int.le_refl _)), dj jy kD, rfl, (show 21 ≤ iD + 15 by omega), ?_, gy, ?_, (by first | exact h | (simp only [wQ, iE]; exact h))⟩ <;> first | (simp only [ua, wQ, gy, hZ, ia, iE, nm, seval] <;> rfl) | rfl⟩
def ru (ak : GBk) : Option (Bool) := Option.bind (wL ak) (fun r1 => cond (r1) (Option.bind (t7 ak) (fun r2 => some r2)) (some false))
theorem Ph (ak : GBk) (R : Bool) (h : ru ak = some R) : aj Tryz.prog G0 30 [.agg (cGBk ak)] (.tree (.lit (.bool R))) := by
 refine aj.runR mixed Tryz.call30 Tryz.func30 rfl (by simp [Tryz.ntmps30]; kernel_rfl) ?_
 obtain ⟨KF, h, kF, kN⟩ := cJ h
 simp only [ru] at h
 obtain ⟨r3, o4, h⟩ := optI h kN
 try simp only [hs] at h
 simp only [vz, tyf, nm, seval]
 refine ktA (OH _ _ o4) ?_
 refine bL (fun tm => tm 1 = .ptr 0 0 ∧ tm 4 = .lit (.bool r3) ∧ True) (by refine ⟨?_, ?_, trivial⟩ <;> first | (simp only [ua, nm, seval] <;> rfl) | rfl) ?_
 rintro tm ⟨e5, e6, _⟩
 cases d7 : (r3)
 ·simp only [d7, hs] at h
  try simp only [vz, tyf, e5, e6, d7, nm, seval]
  obtain rfl := kF _ h
  exact bd Tryz.results30 rfl
 simp only [d7, hs] at h
 obtain ⟨r8, o9, h⟩ := optI h kN
 try simp only [hs] at h
 simp only [vz, tyf, e5, e6, d7, nm, seval]
 refine ktA (OU _ _ o9) ?_
 refine bL (fun tm => tm 5 = .lit (.bool true) ∧ tm 7 = .lit (.bool r8) ∧ True) (by refine ⟨?_, ?_, trivial⟩ <;> first | (simp only [ua, e5, e6, d7, nm, seval] <;> rfl) | rfl) ?_
 rintro tm ⟨bc, b4, _⟩
 try simp only [vz, tyf, d7, bc, b4, nm, seval]
 obtain rfl := kF _ h
 exact bd Tryz.results30 rfl
def wR (kH : List Int) : Option (Bool) := some (decide ((List.length kH : Int) ≤ 9))
theorem Pj (kH : List Int) (R : Bool) (h : wR kH = some R) : aj Tryz.prog G0 19 [.sl (ae eI kH) (List.length kH) false] (.tree (.lit (.bool R))) := by
 refine aj.runR mixed Tryz.call19 Tryz.func19 rfl (by simp [Tryz.ntmps19]; kernel_rfl) ?_
 obtain ⟨KF, h, kF, kN⟩ := cJ h
 simp only [wR] at h
 try simp only [vz, tyf, nm, seval]
 obtain rfl := kF _ h
 exact bd Tryz.results19 rfl
def px (ak : GBk) : List Int → Int → Option (LOut (Bool) (Unit))
 | [], m5 => some (.go ())
 | e0 :: p0, m5 => Option.bind (jv e0 0 ak.Apprentices) (fun r1 => cond (r1) (Option.bind (getI ak.Strokes m5) (fun x2 => cond (x2.Round) (cond (e0 != 0) (some (.ret false)) (px ak p0 (m5 + 1))) (px ak p0 (m5 + 1)))) (some (.ret false)))
def t9 (ak : GBk) (bY : List Int) : Option (Bool) := cond ((List.length bY : Int) != (List.length ak.Strokes : Int)) (some false) (cond (aM bY) (lbind (px ak bY 0) (fun r4 => some r4) (fun c3 => some true) (fun _ _ => none)) none)
theorem Pk (ak : GBk) (bY : List Int) (R : Bool) (h : t9 ak bY = some R) : aj Tryz.prog G0 25 [.agg (cGBk ak), .sl (ae eI bY) (List.length bY) false] (.tree (.lit (.bool R))) := by
 refine aj.runR mixed Tryz.call25 Tryz.func25 rfl (by simp [Tryz.ntmps25]; kernel_rfl) ?_
 obtain ⟨KF, h, kF, kN⟩ := cJ h
 simp only [t9] at h
 cases d5 : ((List.length bY : Int) != (List.length ak.Strokes : Int))
 ·simp only [d5, hs] at h
  cases g7 : (aM bY)
  ·simp only [g7, hs] at h
   exact absurd h kN
  simp only [g7, hs] at h
  simp only [vz, tyf, d5, g7, nm, seval]
  obtain ⟨K6, h, w5, AQ, NO, oC⟩ := hC h kN
  obtain ⟨f6, AR, h⟩ := call2 h
  obtain ⟨I6, ng⟩ : ∃ I : Nat → St → Prop, I = (fun m st => ∃ (p6 : List Int) (dZ : Int), m = List.length p6 ∧ 0 ≤ dZ ∧ List.drop (Int.toNat dZ) bY = p6 ∧ st.df = [] ∧ 9 ≤ st.nx ∧ st.H 0 = some (.cells (some 25) (cGBk ak)) ∧ st.tm 1 = .sl (ae eI bY) (List.length bY) false ∧ st.tm 2 = .ptr 0 0 ∧ st.tm 5 = .lit (.int .i64 dZ) ∧ K6 (f6 p6 dZ)) := ⟨_, rfl⟩
  refine loopK mixed (by kernel_rfl) I6 (List.length bY) (by rw [ng]; refine ⟨bY, 0, rfl, Int.le_refl _, rfl, rfl, (show 9 ≤ 9 by omega), ?_, ?_, ?_, ?_, h⟩ <;> first | (simp only [ua, d5, nm, seval] <;> rfl) | rfl) ?_
  rintro m ⟨tm, H, oD, df⟩ hinv
  rw [ng] at hinv
  obtain ⟨p6, dZ, rfl, nC, rv, hdf, AS, H8, e9, bc, b4, h⟩ := hinv
  simp only at hdf AS H8 e9 bc b4
  have hU := je (m := 9) (b := oD) (by omega)
  subst hdf AR
  cases p6 with
  | nil =>
   have jV : (decide (dZ < (List.length bY : Int))) = false := gC nC rv
   simp only [px, hs, reduceCtorEq] at h
   replace h := AQ _ h
   try dsimp only at h
   try simp only [hs] at h
   try simp only [vz, tyf, d5, g7, hU, e9, bc, b4, H8, jV, nm, seval]
   obtain rfl := kF _ h
   exact bd Tryz.results25 rfl
  | cons e6 p6 =>
   have bX : (decide (dZ < (List.length bY : Int))) = true := gq nC rv
   have gG := dG nC rv
   have ry := gu nC rv g7
   simp only [px, hs, reduceCtorEq] at h
   simp only [vz, tyf, d5, g7, hU, e9, bc, b4, H8, bX, (aW gG), ry, nm, seval]
   refine s8 (fun tm => tm 1 = .sl (ae eI bY) (List.length bY) false ∧ tm 2 = .ptr 0 0 ∧ tm 5 = .lit (.int .i64 dZ) ∧ True) (by refine ⟨e9, bc, b4, trivial⟩ <;> first | (simp only [ua, d5, hU, e9, bc, b4, H8, bX, ry, nm, seval] <;> rfl) | rfl) ?_
   rintro tm ⟨b6, bV, ct, _⟩
   obtain ⟨j0, nh, h⟩ := optI h oC
   try simp only [hs] at h
   simp only [vz, tyf, d5, g7, hU, H8, bX, (aW gG), ry, b6, bV, ct, nm, seval]
   refine dktA (lM _ _ _ _ nh) ?_
   refine bL (fun tm => tm 1 = .sl (ae eI bY) (List.length bY) false ∧ tm 2 = .ptr 0 0 ∧ tm 5 = .lit (.int .i64 dZ) ∧ tm 24 = .lit (.bool j0) ∧ True) (by refine ⟨b6, bV, ct, ?_, trivial⟩ <;> first | (simp only [ua, d5, hU, H8, bX, ry, b6, bV, ct, nm, seval] <;> rfl) | rfl) ?_
   rintro tm ⟨dm, cu, bR, cg, _⟩
   cases dC : (j0)
   ·simp only [dC, hs] at h
    have Pl := And.intro d5 (And.intro g7 (And.intro hU (And.intro H8 (And.intro bX (And.intro ry dC)))))
    try simp only [vz, tyf, Pl, (aW gG), dm, cu, bR, cg, nm, seval]
    replace h := w5 _ h
    try dsimp only at h
    obtain rfl := kF _ h
    exact bd Tryz.results25 rfl
   simp only [dC, hs] at h
   have gH := And.intro d5 (And.intro g7 (And.intro hU (And.intro H8 (And.intro bX (And.intro ry dC)))))
   obtain ⟨Pm, sR, h⟩ := optI h oC
   try simp only [hs] at h
   cases kI : (Pm.Round)
   ·simp only [kI, hs] at h
    simp only [vz, tyf, gH, (aW gG), dm, cu, bR, cg, (aL sR), kI, nm, seval]
    exact ⟨List.length p6, Nat.lt_succ_self _, by rw [ng]; refine ⟨p6, dZ + 1, rfl, Int.le_trans nC (Int.le_add_one (Int.le_refl _)), dj nC rv, rfl, (show 9 ≤ oD + 30 by omega), ?_, dm, cu, ?_, (by first | exact h | (simp only [gH, kI]; exact h))⟩ <;> first | (simp only [ua, gH, dm, cu, bR, cg, kI, nm, seval] <;> rfl) | rfl | (simp only [ua, tyf, gH, dm, cu, bR, cg, kI, nm, seval] <;> rfl)⟩
   simp only [kI, hs] at h
   cases py : (e6 != 0)
   ·simp only [py, hs] at h
    simp only [vz, tyf, gH, (aW gG), dm, cu, bR, cg, (aL sR), kI, py, nm, seval]
    exact ⟨List.length p6, Nat.lt_succ_self _, by rw [ng]; refine ⟨p6, dZ + 1, rfl, Int.le_trans nC (Int.le_add_one (Int.le_refl _)), dj nC rv, rfl, (show 9 ≤ oD + 30 by omega), ?_, dm, cu, ?_, (by first | exact h | (simp only [gH, kI, py]; exact h))⟩ <;> first | (simp only [ua, gH, dm, cu, bR, cg, kI, py, nm, seval] <;> rfl) | rfl | (simp only [ua, tyf, gH, dm, cu, bR, cg, kI, py, nm, seval] <;> rfl)⟩
   simp only [py, hs] at h
   try simp only [vz, tyf, gH, (aW gG), dm, cu, bR, cg, (aL sR), kI, py, nm, seval]
   replace h := w5 _ h
   try dsimp only at h
   obtain rfl := kF _ h
   exact bd Tryz.results25 rfl
 simp only [d5, hs] at h
 try simp only [vz, tyf, d5, nm, seval]
 obtain rfl := kF _ h
 exact bd Tryz.results25 rfl

def tA (ak : GBk) (dW : Int) : Option (Bool) := Option.bind (jv dW 0 (i64.wrap ((List.length ak.Strokes : Int) - 1))) (fun r1 => some r1)
theorem Pn (ak : GBk) (dW : Int) (R : Bool) (h : tA ak dW = some R) : aj Tryz.prog G0 45 [.agg (cGBk ak), .lit (.int .i64 dW)] (.tree (.lit (.bool R))) := by
 refine aj.runR mixed Tryz.call45 Tryz.func45 rfl (by simp [Tryz.ntmps45]; kernel_rfl) ?_
 obtain ⟨KF, h, kF, kN⟩ := cJ h
 simp only [tA] at h
 obtain ⟨r2, o3, h⟩ := optI h kN
 try simp only [hs] at h
 simp only [vz, tyf, nm, seval]
 refine ktA (lM _ _ _ _ o3) ?_
 refine bL (fun tm => tm 10 = .lit (.bool r2) ∧ True) (by refine ⟨?_, trivial⟩ <;> first | (simp only [ua, nm, seval] <;> rfl) | rfl) ?_
 rintro tm ⟨e4, _⟩
 try simp only [vz, tyf, e4, nm, seval]
 obtain rfl := kF _ h
 exact bd Tryz.results45 rfl
theorem Cq (a n b : Int) : nv a n b = some (inB a b n) := csome _ _
theorem rz (n a b : Int) : jv n a b = some (inB a b n) := csome _ _
theorem Kp (a b : Int) : ∀ (p : List Int) (c : Int), qQ a b p c = goB (p.all (inB a b))
 | [], _ => rfl
 | e :: p, c => by simp only [qQ, Cq, Option.bind_some, Kp a b p, List.all_cons, oR]
theorem Cr {l : List Int} (hl : l.length < 9223372036854775808) (a b : Int) : oZ a l b = some (l.all (inB a b)) := by
 unfold oZ
 rw [gI hl, cond_true, Kp, nu]
 exact csome _ _ ▸ by cases l.all (inB a b) <;> rfl
def adjB : List Int → Bool
 | a :: b :: l => decide (a < b) && adjB (b :: l)
 | _ => true
theorem Kq {ns : List Int} (hn : ns.length < 9223372036854775808) : ∀ (p : List Int) (c a : Int), 1 ≤ c → ns.drop (c - 1).toNat = a :: p → qX ns p c = goB (adjB (a :: p))
 | [], _, _, _, _ => rfl
 | e :: p, c, a, hc, hd => by
  have h1 := dG (by omega) hd
  have hb := (oS h1).2
  have h2 := dj (by omega) hd
  simp only [qX]
  rw [hS (by omega) (by omega), h1, Option.bind_some, Kq hn p (c + 1) e (by omega) (by rw [← h2]; congr 1; omega)]
  have ea : adjB (a :: e :: p) = (decide (a < e) && adjB (e :: p)) := rfl
  rw [ea, oR]
  by_cases h : e ≤ a
  ·rw [decide_eq_true h, decide_eq_false (Int.not_lt.2 h)]; rfl
  ·rw [decide_eq_false h, decide_eq_true (Int.not_le.1 h)]; rfl
theorem Cs {l : List Int} (hl : l.length < 9223372036854775808) (a b : Int) : tn a l b = some (adjB l && l.all (inB a b)) := by
 unfold tn
 have hle : leB 0 1 = true := by decide
 rw [gI hl, cond_true, hle, cond_true, Cr hl]
 cases l with
 | nil => rfl
 | cons x p =>
  have := Kq hl p 1 x (Int.le_refl _) rfl
  simp only [Int.reduceToNat, List.drop_succ_cons, List.drop_zero]
  rw [this, nu, Option.bind_some]
  cases adjB (x :: p) <;> rfl
def strokeB (nb : Nat) (n : Int) (s : GBs) : Bool := inB 0 ((nb : Int) - 1) s.Board && ((inB 1 6 s.Hours.Low && inB s.Hours.Low 6 s.Hours.High) && (s.Needs.all (inB 0 (n - 1)) && adjB s.Needs))
def strokesB (nb : Nat) : Int → List GBs → Bool
 | _, [] => true
 | c, s :: l => strokeB nb c s && strokesB nb (c + 1) l
def benchB (b : GBk) : Bool := inB 0 3 b.Apprentices && ((inB 1 3 b.Boards.length && b.Boards.all (inB 0 60)) && (inB 1 6 b.Strokes.length && strokesB b.Boards.length 0 b.Strokes))
structure Len (b : GBk) : Prop where
 bo : b.Boards.length < 9223372036854775808
 st : b.Strokes.length < 9223372036854775808
 nd : ∀ s ∈ b.Strokes, s.Needs.length < 9223372036854775808
theorem Ct (a b : Int) (x : GSpan) : td a x b = some (inB a b x.Low && inB x.Low b x.High) := by
 unfold td inB
 by_cases h1 : a ≤ x.Low <;> by_cases h2 : x.Low ≤ x.High <;> by_cases h3 : x.High ≤ b <;> by_cases h4 : x.Low ≤ b <;> simp [h1, h2, h3, h4] <;> omega
theorem Ks {b : GBk} (hb : b.Boards.length < 9223372036854775808) : ∀ (p : List GBs) (c : Int), 0 ≤ c → c + p.length < 9223372036854775808 → (∀ s ∈ p, s.Needs.length < 9223372036854775808) → qZ b p c = goB (strokesB b.Boards.length c p)
 | [], _, _, _, _ => rfl
 | s :: p, c, h0, h1, h2 => by
  simp only [List.length_cons] at h1
  have hs := h2 s (List.mem_cons_self ..)
  simp only [qZ, wD, Cq, Option.bind_some, Ct]
  rw [hS (by omega) (by omega), hS (by omega) (by omega), Cs hs, Ks hb p (c + 1) (by omega) (by omega) (fun s hs => h2 s (List.mem_cons_of_mem _ hs))]
  simp only [strokesB, strokeB, oR, Option.bind_some]
  cases inB 0 ((b.Boards.length : Int) - 1) s.Board <;> cases inB 1 6 s.Hours.Low <;> cases inB s.Hours.Low 6 s.Hours.High <;> cases s.Needs.all (inB 0 (c - 1)) <;> cases adjB s.Needs <;> rfl
theorem Kt {b : GBk} (h : Len b) : pf b = some (benchB b) := by
 unfold pf benchB wC wH
 simp only [Cq, Option.bind_some, Cr h.bo]
 rw [gI h.st, cond_true, Ks h.bo b.Strokes 0 (Int.le_refl _) (by have := h.st; omega) h.nd, nu]
 cases inB 0 3 b.Apprentices <;> cases inB 1 3 (b.Boards.length : Int) <;> cases b.Boards.all (inB 0 60) <;> cases inB 1 6 (b.Strokes.length : Int) <;> cases strokesB b.Boards.length 0 b.Strokes <;> rfl
def adjF (a : Option Int) : List Int → Bool
 | [] => true
 | e :: l => (match a with | some x => decide (x < e) | none => true) && adjF (some e) l
theorem Ku : ∀ (l : List Int) (a : Int), adjF (some a) l = adjB (a :: l)
 | [], _ => rfl
 | e :: l, a => by unfold adjF adjB; rw [Ku l e]
theorem Cu (l : List Int) : adjF none l = adjB l := by
 cases l with
 | nil => rfl
 | cons e l => unfold adjF; rw [Ku l e]; rfl
theorem Kv {n : Int} (hn : -9223372036854775807 ≤ n) (B3 : n < 9223372036854775808) {s : GBs} (hl : s.Needs.length < 9223372036854775808) : ∀ (p : List Int) (c : Int) (a : Option Int), 0 ≤ c → s.Needs.drop c.toNat = p → (c = 0 ∧ a = none ∨ 0 < c ∧ getI s.Needs (c - 1) = a ∧ a ≠ none) →
  pk n s p c = goB (p.all (inB 0 (n - 1)) && adjF a p)
 | [], _, _, _, _, _ => rfl
 | e :: p, c, a, h0, hd, ha => by
  have h1 := dG h0 hd
  have hb := (oS h1).2
  simp only [pk, rz, Option.bind_some]
  rw [hS (by omega) (by omega), Kv hn B3 hl p (c + 1) (some e) (by omega) (dj h0 hd) (.inr ⟨by omega, by rw [show c + 1 - 1 = c by omega]; exact h1, by simp⟩)]
  simp only [List.all_cons, adjF]
  rcases ha with ⟨rfl, rfl⟩ | ⟨hc, ha, hne⟩
  ·cases inB 0 (n - 1) e <;> cases p.all (inB 0 (n - 1)) <;> cases adjF (some e) p <;> rfl
  ·rw [hS (by omega) (by omega), ha, decide_eq_true (show c > 0 from hc)]
   cases a with
   | none => exact absurd rfl hne
   | some x =>
    simp only [cond_true, Option.bind_some]
    by_cases h : e ≤ x
    ·rw [decide_eq_true h, decide_eq_false (Int.not_lt.2 h)]
     cases inB 0 (n - 1) e <;> simp [goB]
    ·rw [decide_eq_false h, decide_eq_true (Int.not_le.1 h)]
     cases inB 0 (n - 1) e <;> cases p.all (inB 0 (n - 1)) <;> cases adjF (some e) p <;> rfl
theorem Po {b : GBk} (h : Len b) {n : Int} {s : GBs} (hs : getI b.Strokes n = some s) : t0 b n = some (strokeB b.Boards.length n s) := by
 have hb := oS hs
 have hst := h.st
 have hl := h.nd s (Bp hs)
 have hbo := h.bo
 unfold t0 strokeB
 simp only [hs, Option.bind_some, rz]
 rw [hS (by omega) (by omega), gI hl, cond_true, Kv (by omega) (by omega) hl s.Needs 0 none (Int.le_refl _) rfl (.inl ⟨rfl, rfl⟩), nu, Cu]
 cases inB 0 ((b.Boards.length : Int) - 1) s.Board <;> cases inB 1 6 s.Hours.Low <;> cases inB s.Hours.Low 6 s.Hours.High <;> cases s.Needs.all (inB 0 (n - 1)) <;> cases adjB s.Needs <;> rfl
theorem Kw : ∀ (p : List Int) (c : Int), rn p c = goB (p.all (inB 0 60))
 | [], _ => rfl
 | e :: p, c => by simp only [rn, rz, Option.bind_some, Kw p, List.all_cons, oR]
theorem Ky {b : GBk} (h : Len b) : ∀ (p : List GBs) (c : Int), 0 ≤ c → b.Strokes.drop c.toNat = p → rl b p c = goB (strokesB b.Boards.length c p)
 | [], _, _, _ => rfl
 | s :: p, c, h0, hd => by
  simp only [rl, Po h (dG h0 hd), Option.bind_some, Ky h p (c + 1) (by omega) (dj h0 hd), strokesB, oR]
theorem Cv {b : GBk} (h : Len b) : t7 b = some (benchB b) := by
 unfold t7 benchB
 simp only [rz, Option.bind_some]
 rw [gI h.bo, gI h.st, Kw, Ky h b.Strokes 0 (Int.le_refl _) rfl, nu, nu]
 cases inB 0 3 b.Apprentices <;> cases inB 1 3 (b.Boards.length : Int) <;> cases b.Boards.all (inB 0 60) <;> cases inB 1 6 (b.Strokes.length : Int) <;> cases strokesB b.Boards.length 0 b.Strokes <;> rfl
def planL (a : Int) : List GBs → List Int → Bool
 | s :: ss, h :: hs => (inB 0 a h && (h == 0 || !s.Round)) && planL a ss hs
 | _, _ => true
def planB (b : GBk) (pl : List Int) : Bool := decide (pl.length = b.Strokes.length) && planL b.Apprentices b.Strokes pl
def mayL : List GBs → List Int → Bool
 | s :: ss, h :: hs => (h == 0 || !s.Round) && mayL ss hs
 | _, _ => true
theorem tB {a : Int} : ∀ (ss : List GBs) (hs : List Int), hs.length = ss.length → planL a ss hs = (hs.all (inB 0 a) && mayL ss hs)
 | [], [], _ => rfl
 | s :: ss, h :: hs, e => by
  simp only [planL, mayL, List.all_cons, tB ss hs (by simpa using e)]
  cases inB 0 a h <;> cases hs.all (inB 0 a) <;> cases (h == 0 || !s.Round) <;> simp
theorem Kz {b : GBk} {n h : Int} {s : GBs} (hs : getI b.Strokes n = some s) : ri b n h = some (h == 0 || !s.Round) := by
 unfold ri
 cases h == 0 <;> simp [hs]
theorem K2 {b : GBk} : ∀ (p : List Int) (c : Int) (ss : List GBs), 0 ≤ c → b.Strokes.drop c.toNat = ss → p.length = ss.length → rh b p c = goB (mayL ss p)
 | [], _, [], _, _, _ => rfl
 | h :: p, c, s :: ss, h0, hd, hl => by
  simp only [rh, Kz (dG h0 hd), Option.bind_some, K2 p (c + 1) ss (by omega) (dj h0 hd) (by simpa using hl), mayL, oR]
theorem Cw {b : GBk} (h : Len b) (pl : List Int) : tv b pl = some (planB b pl) := by
 have hst := h.st
 unfold tv planB
 by_cases e : pl.length = b.Strokes.length
 ·have e1 : ((pl.length : Int) != (b.Strokes.length : Int)) = false := by simp [e]
  rw [e1, cond_false, Cr (by omega), decide_eq_true e, tB _ _ e, Option.bind_some, gI (by omega), cond_true, K2 pl 0 b.Strokes (Int.le_refl _) rfl e, nu]
  cases pl.all (inB 0 b.Apprentices) <;> cases mayL b.Strokes pl <;> rfl
 ·have e1 : ((pl.length : Int) != (b.Strokes.length : Int)) = true := by simp; omega
  rw [e1, cond_true, decide_eq_false e]; rfl
theorem tC {b : GBk} : ∀ (p : List Int) (c : Int) (ss : List GBs), 0 ≤ c → b.Strokes.drop c.toNat = ss → p.length = ss.length → px b p c = goB (planL b.Apprentices ss p)
 | [], _, [], _, _, _ => rfl
 | h :: p, c, s :: ss, h0, hd, hl => by
  simp only [px, rz, dG h0 hd, Option.bind_some, tC p (c + 1) ss (by omega) (dj h0 hd) (by simpa using hl), planL, oR]
  have e : (h != 0) = !(h == 0) := rfl
  rw [e]
  cases inB 0 b.Apprentices h <;> cases s.Round <;> cases h == 0 <;> rfl
theorem Cx {b : GBk} (h : Len b) (pl : List Int) : t9 b pl = some (planB b pl) := by
 have hst := h.st
 unfold t9 planB
 by_cases e : pl.length = b.Strokes.length
 ·have e1 : ((pl.length : Int) != (b.Strokes.length : Int)) = false := by simp [e]
  rw [e1, cond_false, decide_eq_true e, gI (by omega), cond_true, tC pl 0 b.Strokes (Int.le_refl _) rfl e, nu]
  cases planL b.Apprentices b.Strokes pl <;> rfl
 ·have e1 : ((pl.length : Int) != (b.Strokes.length : Int)) = true := by simp; omega
  rw [e1, cond_true, decide_eq_false e]; rfl
theorem Cy {b : GBk} (h : Len b) (n : Int) : tA b n = some (inB 0 ((b.Strokes.length : Int) - 1) n) := by
 have := h.st
 unfold tA
 rw [rz, Option.bind_some, hS (by omega) (by omega)]
structure BOk (b : GBk) : Prop where
 ap : 0 ≤ b.Apprentices ∧ b.Apprentices ≤ 3
 nb : 1 ≤ b.Boards.length ∧ b.Boards.length ≤ 3
 bo : ∀ x ∈ b.Boards, 0 ≤ x ∧ x ≤ 60
 ns : 1 ≤ b.Strokes.length ∧ b.Strokes.length ≤ 6
 st : ∀ (i : Nat) s, b.Strokes[i]? = some s → strokeB b.Boards.length i s = true
theorem K9 {nb : Nat} : ∀ (p : List GBs) (c : Int), strokesB nb c p = true ↔ ∀ (i : Nat) s, p[i]? = some s → strokeB nb (c + i) s = true
 | [], c => by simp [strokesB]
 | s :: p, c => by
  simp only [strokesB, Bool.and_eq_true, K9 p]
  constructor
  ·rintro ⟨h1, h2⟩ i x hx
   cases i with
   | zero => simp at hx; subst hx; simpa using h1
   | succ i => have := h2 i x (by simpa using hx); rw [show c + (i + 1 : Nat) = c + 1 + i by omega]; exact this
  ·intro h
   refine ⟨by have := h 0 s rfl; simpa using this, fun i x hx => ?_⟩
   have := h (i + 1) x (by simpa using hx)
   rw [show c + (i + 1 : Nat) = c + 1 + i by omega] at this
   exact this
theorem pz {b : GBk} : benchB b = true ↔ BOk b := by
 unfold benchB
 simp only [Bool.and_eq_true, sS, List.all_eq_true, K9]
 constructor
 ·rintro ⟨h1, ⟨h2, h3⟩, h4, h5⟩
  exact ⟨h1, by omega, h3, by omega, fun i s hs => by have := h5 i s hs; simpa using this⟩
 ·rintro ⟨h1, h2, h3, h4, h5⟩
  exact ⟨h1, ⟨by omega, h3⟩, by omega, fun i s hs => by have := h5 i s hs; simpa using this⟩
structure SOk (nb : Nat) (n : Int) (s : GBs) : Prop where
 bo : 0 ≤ s.Board ∧ s.Board < nb
 hr : 1 ≤ s.Hours.Low ∧ s.Hours.Low ≤ s.Hours.High ∧ s.Hours.High ≤ 6
 nd : ∀ k ∈ s.Needs, 0 ≤ k ∧ k < n
 ad : adjB s.Needs = true
theorem KA {nb : Nat} {n : Int} {s : GBs} : strokeB nb n s = true ↔ SOk nb n s := by
 unfold strokeB
 simp only [Bool.and_eq_true, sS, List.all_eq_true]
 constructor
 ·rintro ⟨h1, ⟨h2, h3⟩, h4, h5⟩
  exact ⟨by omega, by omega, fun k hk => by have := h4 k hk; omega, h5⟩
 ·rintro ⟨h1, h2, h3, h4⟩
  exact ⟨by omega, ⟨by omega, by omega⟩, fun k hk => by have := h3 k hk; omega, h4⟩
theorem BOk.s {b : GBk} (h : BOk b) {i : Nat} {s : GBs} (hs : b.Strokes[i]? = some s) : SOk b.Boards.length i s := KA.1 (h.st i s hs)
structure POk (b : GBk) (pl : List Int) : Prop where
 len : pl.length = b.Strokes.length
 may : ∀ (i : Nat) s h, b.Strokes[i]? = some s → pl[i]? = some h → (0 ≤ h ∧ h ≤ b.Apprentices) ∧ (h = 0 ∨ s.Round = false)
theorem Cz {a : Int} : ∀ (ss : List GBs) (hs : List Int), hs.length = ss.length → (planL a ss hs = true ↔ ∀ (i : Nat) s h, ss[i]? = some s → hs[i]? = some h → (0 ≤ h ∧ h ≤ a) ∧ (h = 0 ∨ s.Round = false))
 | [], [], _ => by simp [planL]
 | s :: ss, h :: hs, e => by
  simp only [planL, Bool.and_eq_true, Cz ss hs (by simpa using e), sS, Bool.or_eq_true, beq_iff_eq, Bool.not_eq_true']
  constructor
  ·rintro ⟨h1, h2⟩ i x y hx hy
   cases i with
   | zero => simp at hx hy; subst hx hy; exact h1
   | succ i => exact h2 i x y (by simpa using hx) (by simpa using hy)
  ·intro hh
   exact ⟨hh 0 s h rfl rfl, fun i x y hx hy => hh (i + 1) x y (by simpa using hx) (by simpa using hy)⟩
theorem p8 {b : GBk} {pl : List Int} : planB b pl = true ↔ POk b pl := by
 unfold planB
 simp only [Bool.and_eq_true, decide_eq_true_eq]
 constructor
 ·rintro ⟨h1, h2⟩; exact ⟨h1, (Cz _ _ h1).1 h2⟩
 ·rintro ⟨h1, h2⟩; exact ⟨h1, (Cz _ _ h1).2 h2⟩
end Go.V
end
section
namespace Go.V
open Go Go.Proofs IntKind
def stepsB (m : List Int → Int → Bool) (lim : Nat) : List Int → List Int → Bool
 | _, [] => true
 | p, j :: t => (decide (0 ≤ j) && decide (j < (lim : Int))) && (m p j && stepsB m lim (p ++ [j]) t)
theorem wS {m : List Int → Int → Bool} {lim : Nat} : ∀ (d : Nat) (p q : List Int), q ∈ listsB m lim d p ↔ ∃ t, q = p ++ t ∧ t.length = d ∧ stepsB m lim p t = true
 | 0, p, q => by
  rw [listsB, List.mem_singleton]
  constructor
  ·rintro rfl; exact ⟨[], by simp, rfl, rfl⟩
  ·rintro ⟨t, rfl, ht, _⟩
   rw [List.length_eq_zero_iff.1 ht, List.append_nil]
 | d + 1, p, q => by
  rw [listsB, List.mem_flatMap]
  constructor
  ·rintro ⟨i, hi, h⟩
   have hi' := (List.mem_range'_1.1 hi).2
   split at h
   ·rename_i hm
    obtain ⟨t, rfl, ht, hs⟩ := (wS d _ q).1 h
    exact ⟨(i : Int) :: t, by simp, by simp [ht], by simp only [stepsB, hm, hs, Bool.and_true, Bool.and_eq_true, decide_eq_true_eq]; omega⟩
   ·cases h
  ·rintro ⟨t, rfl, ht, hs⟩
   cases t with
   | nil => simp at ht
   | cons j t =>
    simp only [stepsB, Bool.and_eq_true, decide_eq_true_eq] at hs
    obtain ⟨⟨h0, h1⟩, h2, h3⟩ := hs
    refine ⟨j.toNat, List.mem_range'_1.2 ⟨Nat.zero_le _, by omega⟩, ?_⟩
    rw [show ((j.toNat : Nat) : Int) = j by omega, if_pos h2]
    exact (wS d _ _).2 ⟨t, by simp, by simpa using ht, h3⟩
section
variable {K V : Type} {q : K → K → Bool} {z : V}
def setR (q : K → K → Bool) (k : K) (v : V) : List (K × V) → List (K × V)
 | [] => [(k, v)]
 | e :: l => if q k e.1 then (k, v) :: l else e :: setR q k v l
theorem tD (k : K) : ∀ (es : List K) (i : Nat), kIdx q k es (i + 1) = (kIdx q k es i).map (· + 1)
 | [], _ => rfl
 | e :: es, i => by
  unfold kIdx
  cases q k e with
  | true => rfl
  | false => exact tD k es (i + 1)
theorem KB (k : K) (v : V) : ∀ l : List (K × V), mapSet q l k v = setR q k v l
 | [] => rfl
 | e :: l => by
  have ih := KB k v l
  unfold mapSet at ih ⊢
  rw [List.map_cons]
  unfold kIdx setR
  cases hq : q k e.1 with
  | true => rfl
  | false =>
   simp only [cond_false, Bool.false_eq_true, if_false]
   rw [tD]
   cases h : kIdx q k (l.map (·.1)) 0 with
   | none => rw [h] at ih; simpa using ih
   | some i => rw [h] at ih; simpa using ih
end
end Go.V
end
section
namespace Go.V
open Go Go.Proofs IntKind
def tE (aa : GBk) (ag : List Int) (aq : List Int) (l0 : List (Gbe × Int)) : Option ((GSpan) × List (Gbe × Int)) := Option.bind (wB aa ag aq 0 l0) (fun r1 => Option.bind (mg r1.1) (fun r2 => Option.bind (wB aa ag aq 1 r1.2) (fun r3 => Option.bind (mg r3.1) (fun r4 => some ((GSpan.mk r2 r4), r3.2)))))
theorem KC (aa : GBk) (ag : List Int) (aq : List Int) (l0 : List (Gbe × Int)) (R : (GSpan) × List (Gbe × Int)) (h : tE aa ag aq l0 = some R) : VUpd Tryz.prog G0 70 (fun β => [.agg [.lit (.int .i64 aa.Apprentices), .sl (ae eI aa.Boards) (List.length aa.Boards) false, .sl (ae cGBs aa.Strokes) (List.length aa.Strokes) false, .sl (ae eI ag) (List.length ag) false, .mp β], .sl (ae eI aq) (List.length aq) false]) (encM aN bM l0) (encM aN bM R.2) (fun _ => .agg (cGSpan R.1)) := by
 intro bk nx hlt
 have aX := gZ (β := bk) (nx := nx) hlt
 refine an.run mixed Tryz.call70 Tryz.func70 rfl (by simp [Tryz.ntmps70]; kernel_rfl) ?_
 obtain ⟨KF, h, kF, kN⟩ := cJ h
 simp only [tE] at h
 simp only [vz, mq, mqm, vsi, tyf, mqt, aX, nm, seval]
 refine md (fun tm => tm 1 = .sl (ae eI aq) (List.length aq) false ∧ tm 2 = .ptr nx 0 ∧ tm 4 = .ptr (nx + 1) 0 ∧ True) (by refine ⟨?_, ?_, ?_, trivial⟩ <;> first | (simp only [ua, bO, aX, nm, seval] <;> rfl) | rfl) ?_
 rintro tm ⟨e5, e6, e7, _⟩
 obtain ⟨r8, o9, h⟩ := optI h kN
 try simp only [hs] at h
 simp only [vz, mq, mqm, vsi, tyf, mqt, aX, e5, e6, e7, nm, seval]
 refine dkupd (VUpd.at (β := bk) (y := (fun _ => .sl (ae eI r8.1) (List.length r8.1) false)) (JQ _ _ _ _ _ _ o9) (by omega) (by first | rfl | assumption | (simp only [aU, bg, aX, nm, seval] <;> rfl)) (by first | rfl | (simp only [nrm, tynrm, @cT, @fC] <;> rfl)) (gv (fun _ => rfl) _)) ?_
 refine gD (fun tm => tm 1 = .sl (ae eI aq) (List.length aq) false ∧ tm 2 = .ptr nx 0 ∧ tm 4 = .ptr (nx + 1) 0 ∧ tm 7 = .sl (ae eI r8.1) (List.length r8.1) false ∧ True) (by refine ⟨e5, e6, e7, ?_, trivial⟩ <;> first | (simp only [ua, bO, aX, e5, e6, e7, nm, seval] <;> rfl) | rfl) ?_
 rintro tm ⟨bc, b4, cn, bN, _⟩
 obtain ⟨jr, pa, h⟩ := optI h kN
 try simp only [hs] at h
 simp only [vz, mq, mqm, vsi, tyf, mqt, aX, bc, b4, cn, bN, nm, seval]
 refine dktree (args0 := [.sl (ae eI r8.1) (List.length r8.1) false]) (by first | (simp only [nrm, tynrm, @cT] <;> rfl) | rfl) (by simp only [tre, tytre, mqr, Bool.and_self]) (sD _ _ pa) ?_
 refine bL (fun tm => tm 1 = .sl (ae eI aq) (List.length aq) false ∧ tm 2 = .ptr nx 0 ∧ tm 4 = .ptr (nx + 1) 0 ∧ tm 8 = .lit (.int .i64 jr) ∧ True) (by refine ⟨bc, b4, cn, ?_, trivial⟩ <;> first | (simp only [ua, bO, aX, bc, b4, cn, bN, nm, seval] <;> rfl) | rfl) ?_
 rintro tm ⟨bC, b6, bV, ct, _⟩
 obtain ⟨j0, nh, h⟩ := optI h kN
 try simp only [hs] at h
 simp only [vz, mq, mqm, vsi, tyf, mqt, aX, bC, b6, bV, ct, nm, seval]
 refine dkupd (VUpd.at (β := bk) (y := (fun _ => .sl (ae eI j0.1) (List.length j0.1) false)) (JQ _ _ _ _ _ _ nh) (by omega) (by first | rfl | assumption | (simp only [aU, bg, aX, nm, seval] <;> rfl)) (by first | rfl | (simp only [nrm, tynrm, @cT, @fC] <;> rfl)) (gv (fun _ => rfl) _)) ?_
 refine gD (fun tm => tm 4 = .ptr (nx + 1) 0 ∧ tm 8 = .lit (.int .i64 jr) ∧ tm 11 = .sl (ae eI j0.1) (List.length j0.1) false ∧ True) (by refine ⟨bV, ct, ?_, trivial⟩ <;> first | (simp only [ua, bO, aX, bC, b6, bV, ct, nm, seval] <;> rfl) | rfl) ?_
 rintro tm ⟨dm, cu, bR, _⟩
 obtain ⟨gF, oL, h⟩ := optI h kN
 try simp only [hs] at h
 simp only [vz, mq, mqm, vsi, tyf, mqt, aX, dm, cu, bR, nm, seval]
 refine dktree (args0 := [.sl (ae eI j0.1) (List.length j0.1) false]) (by first | (simp only [nrm, tynrm, @cT] <;> rfl) | rfl) (by simp only [tre, tytre, mqr, Bool.and_self]) (sD _ _ oL) ?_
 refine bL (fun tm => tm 4 = .ptr (nx + 1) 0 ∧ tm 8 = .lit (.int .i64 jr) ∧ tm 12 = .lit (.int .i64 gF) ∧ True) (by refine ⟨dm, cu, ?_, trivial⟩ <;> first | (simp only [ua, bO, aX, dm, cu, bR, nm, seval] <;> rfl) | rfl) ?_
 rintro tm ⟨bm, cQ, cK, _⟩
 simp only [vz, mq, mqm, vsi, tyf, mqt, aX, bm, cQ, cK, nm, seval]
 refine jQ ⟨?_, ?_⟩
 ·simp only [jR, jS, dQ, jT, and_true, true_and]
  repeat' (first | exact trivial | refine And.intro ?_ ?_ | rw [dQ] | rw [jU] | exact Or.inl (by decide +kernel) | exact Or.inl (by dsimp only; decide +kernel) | (refine Or.inr ⟨?_, ?_⟩ <;> simp; done) | (refine Or.inr ⟨?_, ?_⟩ <;> simp <;> omega) | (refine Or.inr ⟨?_, ?_⟩ <;> simp [VEff.wr] <;> omega))
 try simp only [vz, mq, mqm, vsi, tyf, mqt, aX, bm, cQ, cK, nm, seval]
 refine cH (x := (.agg ([.lit (.int .i64 jr)] ++ [.lit (.int .i64 gF)]))) (by first | (simp only [Tryz.results70, resV, resL, resV1, dh, di, uw, cr, tyf, mqt, aX, bm, cQ, cK, nm, seval] <;> rfl) | rfl) ?_
 obtain rfl := kF _ h
 refine ⟨(by first | rfl | assumption | (simp only [aU, bg, aX, nm, seval] <;> rfl)), ?_⟩
 exact sq_of (lG (by first | (simp only [tre, tytre, mqr, Bool.and_self]; done) | rfl) rfl)
theorem But.self (W : World) (b : Nat) : But W W b := ⟨fun _ _ _ => rfl, Nat.le_refl _, rfl, rfl, rfl⟩
theorem kupdF {P : Program} {G : Glob} {H : Nat → Option VObj} {f : FuncId} {args args' cs : List VV} {el : Option TypeId} {y : VV} {d : Option Tmp} {γ β g : Nat} {tm : Nat → VV} {nx : Nat} {df : List VDef} {K : St → Prop} {Qp : VV → St → Prop} {es' : List (Value × VV)} (hγ : H g = some (.cells el cs)) (ha : FrozenL H (without H g) args args')
  (hu : UpdC P G f args' (without H g) nx β es' y) (h : fin d γ tm (without H g) nx df K y (.upd β (.map es'))) : callK P G f args ⟨tm, H, nx, df⟩ d γ K Qp := by
 refine .inr (.inr ?_)
 unfold openK
 refine an.mono (an.freeze1 hγ ha hu.open) ?_ (fun _ _ _ h => h.elim)
 rintro v H2 fv ⟨rfl, rfl, rfl⟩
 rw [← cR (K := K)] at h
 cases d <;> exact h


end Go.V
end
