/- Part of a proof. -/
import Derived.Test.YtmhlghgbfmcdaaaGreatDoorN1bj
set_option linter.all false
set_option maxRecDepth 4000
set_option maxHeartbeats 40000000
section
namespace Go.V
open Go Go.Proofs IntKind
def mA (aE : Int) (aN : Int) : List Int → Int → Option (LOut (Bool) (Unit))
 | [], j8 => some (.go ())
 | e0 :: p0, j8 => Option.bind (i9 aE e0 aN) (fun r1 => cond (r1) (mA aE aN p0 (j8 + 1)) (some (.ret false)))
def mB (aE : Int) (aj : List Int) (aN : Int) : Option (Bool) := cond (lenOk aj) (lbind (mA aE aN aj 0) (fun r3 => some r3) (fun c2 => some true) (fun _ _ => none)) none
theorem GJ (aE : Int) (aj : List Int) (aN : Int) (R : Bool) (h : mB aE aj aN = some R) : ag Tryz.prog G0 103 [.lit (.int .i64 aE), .sl (aa eI aj) (List.length aj) false, .lit (.int .i64 aN)] (.tree (.lit (.bool R))) := by
 refine ag.runR mixed Tryz.call103 Tryz.func103 rfl (by simp [Tryz.ntmps103]; kernel_rfl) ?_
 obtain ⟨KF, h, kF, kN⟩ := cu h
 simp only [mB] at h
 cases g5 : (lenOk aj)
 ·simp only [g5, hs] at h
  exact absurd h kN
 simp only [g5, hs] at h
 simp only [vz, tyf, g5, nm, seval]
 obtain ⟨K4, h, MZ, Na, Ob, Nb⟩ := gB h kN
 obtain ⟨f4, Nc, h⟩ := call2 h
 obtain ⟨I4, CL⟩ : ∃ I : Nat → St → Prop, I = (fun m st => ∃ (p4 : List Int) (cj : Int), m = List.length p4 ∧ 0 ≤ cj ∧ List.drop (Int.toNat cj) aj = p4 ∧ st.df = [] ∧ 4 ≤ st.nx ∧ st.tm 0 = .lit (.int .i64 aE) ∧ st.tm 2 = .lit (.int .i64 aN) ∧ st.tm 9 = .sl (aa eI aj) (List.length aj) false ∧ st.tm 10 = .lit (.int .i64 (List.length aj : Int)) ∧ st.tm 11 = .lit (.int .i64 cj) ∧ K4 (f4 p4 cj)) := ⟨_, rfl⟩
 refine loopK mixed (by kernel_rfl) I4 (List.length aj) (by rw [CL]; refine ⟨aj, 0, rfl, Int.le_refl _, rfl, rfl, (show 4 ≤ 4 by omega), ?_, ?_, ?_, ?_, ?_, h⟩ <;> first | (simp only [ua, nm, seval] <;> rfl) | rfl) ?_
 rintro m ⟨tm, H, GK, df⟩ hinv
 rw [CL] at hinv
 obtain ⟨p4, cj, rfl, kW, qm, hdf, Nd, e6, e7, e8, e9, aY, h⟩ := hinv
 simp only at hdf Nd e6 e7 e8 e9 aY
 have mC := ik (m := 4) (b := GK) (by omega)
 subst hdf Nc
 cases p4 with
 | nil =>
  have Nf : (decide (cj < (List.length aj : Int))) = false := g9 kW qm
  simp only [mA, hs, reduceCtorEq] at h
  replace h := Na _ h
  try dsimp only at h
  try simp only [hs] at h
  try simp only [vz, tyf, g5, mC, e6, e7, e8, e9, aY, Nf, nm, seval]
  obtain rfl := kF _ h
  exact aS Tryz.results103 rfl
 | cons e4 p4 =>
  have iu : (decide (cj < (List.length aj : Int))) = true := g0 kW qm
  have qn := ec kW qm
  have qo := gA kW qm g5
  simp only [mA, hs, reduceCtorEq] at h
  obtain ⟨nM, Ng, h⟩ := optI h Nb
  try simp only [hs] at h
  simp only [vz, tyf, g5, mC, e6, e7, e8, e9, aY, iu, (aT qn), qo, nm, seval]
  refine ktA (lW _ _ _ _ Ng) ?_
  refine aZ (fun tm => tm 0 = .lit (.int .i64 aE) ∧ tm 2 = .lit (.int .i64 aN) ∧ tm 9 = .sl (aa eI aj) (List.length aj) false ∧ tm 10 = .lit (.int .i64 (List.length aj : Int)) ∧ tm 11 = .lit (.int .i64 cj) ∧ tm 18 = .lit (.bool nM) ∧ True) (by refine ⟨e6, e7, e8, e9, aY, ?_, trivial⟩ <;> first | (simp only [ua, mC, e6, e7, e8, e9, aY, iu, qo, nm, seval] <;> rfl) | rfl) ?_
  rintro tm ⟨cG, bw, bR, cw, cK, di, _⟩
  cases bS : (nM)
  ·simp only [bS, hs] at h
   try simp only [vz, tyf, g5, mC, iu, (aT qn), qo, cG, bw, bR, cw, cK, di, bS, nm, seval]
   replace h := MZ _ h
   try dsimp only at h
   obtain rfl := kF _ h
   exact aS Tryz.results103 rfl
  simp only [bS, hs] at h
  simp only [vz, tyf, g5, mC, iu, (aT qn), qo, cG, bw, bR, cw, cK, di, bS, nm, seval]
  exact ⟨List.length p4, Nat.lt_succ_self _, by rw [CL]; refine ⟨p4, cj + 1, rfl, Int.le_trans kW (Int.le_add_one (Int.le_refl _)), eM kW qm, rfl, (show 4 ≤ GK + 11 by omega), cG, bw, bR, cw, ?_, (by first | exact h | (simp only [iu, bS]; exact h))⟩ <;> first | (simp only [ua, mC, iu, qo, cG, bw, bR, cw, cK, di, bS, nm, seval] <;> rfl) | rfl⟩
def sc (aX : List Int) : Option (Bool) := Option.bind (i9 1 (List.length aX : Int) 3) (fun r1 => cond (r1) (Option.bind (mB 0 aX 60) (fun r2 => some r2)) (some false))
theorem Nh (aX : List Int) (R : Bool) (h : sc aX = some R) : ag Tryz.prog G0 101 [.sl (aa eI aX) (List.length aX) false] (.tree (.lit (.bool R))) := by
 refine ag.runR mixed Tryz.call101 Tryz.func101 rfl (by simp [Tryz.ntmps101]; kernel_rfl) ?_
 obtain ⟨KF, h, kF, kN⟩ := cu h
 simp only [sc] at h
 obtain ⟨r3, o4, h⟩ := optI h kN
 try simp only [hs] at h
 simp only [vz, tyf, nm, seval]
 refine ktA (lW _ _ _ _ o4) ?_
 refine aZ (fun tm => tm 0 = .sl (aa eI aX) (List.length aX) false ∧ tm 5 = .lit (.bool r3) ∧ True) (by refine ⟨?_, ?_, trivial⟩ <;> first | (simp only [ua, nm, seval] <;> rfl) | rfl) ?_
 rintro tm ⟨e5, e6, _⟩
 cases d7 : (r3)
 ·simp only [d7, hs] at h
  try simp only [vz, tyf, e5, e6, d7, nm, seval]
  obtain rfl := kF _ h
  exact aS Tryz.results101 rfl
 simp only [d7, hs] at h
 obtain ⟨r8, o9, h⟩ := optI h kN
 try simp only [hs] at h
 simp only [vz, tyf, e5, e6, d7, nm, seval]
 refine ktA (GJ _ _ _ _ o9) ?_
 refine aZ (fun tm => tm 6 = .lit (.bool true) ∧ tm 8 = .lit (.bool r8) ∧ True) (by refine ⟨?_, ?_, trivial⟩ <;> first | (simp only [ua, e5, e6, d7, nm, seval] <;> rfl) | rfl) ?_
 rintro tm ⟨aY, b7, _⟩
 try simp only [vz, tyf, d7, aY, b7, nm, seval]
 obtain rfl := kF _ h
 exact aS Tryz.results101 rfl
def sd (ai : GBk) (ck : Int) : Option (Bool) := Option.bind (i9 0 ck (i64.wrap ((List.length ai.Boards : Int) - 1))) (fun r1 => some r1)
theorem Ni (ai : GBk) (ck : Int) (R : Bool) (h : sd ai ck = some R) : ag Tryz.prog G0 71 [.agg (cGBk ai), .lit (.int .i64 ck)] (.tree (.lit (.bool R))) := by
 refine ag.runR mixed Tryz.call71 Tryz.func71 rfl (by simp [Tryz.ntmps71]; kernel_rfl) ?_
 obtain ⟨KF, h, kF, kN⟩ := cu h
 simp only [sd] at h
 obtain ⟨r2, o3, h⟩ := optI h kN
 try simp only [hs] at h
 simp only [vz, tyf, nm, seval]
 refine ktA (lW _ _ _ _ o3) ?_
 refine aZ (fun tm => tm 10 = .lit (.bool r2) ∧ True) (by refine ⟨?_, trivial⟩ <;> first | (simp only [ua, nm, seval] <;> rfl) | rfl) ?_
 rintro tm ⟨e4, _⟩
 try simp only [vz, tyf, e4, nm, seval]
 obtain rfl := kF _ h
 exact aS Tryz.results71 rfl
def qp (aE : Int) (dk : GSpan) (aN : Int) : Option (Bool) := cond (decide (aE ≤ dk.Low)) (cond (decide (dk.Low ≤ dk.High)) (some (decide (dk.High ≤ aN))) (some false)) (some false)
theorem Nj (aE : Int) (dk : GSpan) (aN : Int) (R : Bool) (h : qp aE dk aN = some R) : ag Tryz.prog G0 133 [.lit (.int .i64 aE), .agg (cGSpan dk), .lit (.int .i64 aN)] (.tree (.lit (.bool R))) := by
 refine ag.runR mixed Tryz.call133 Tryz.func133 rfl (by simp [Tryz.ntmps133]; kernel_rfl) ?_
 obtain ⟨KF, h, kF, kN⟩ := cu h
 simp only [qp] at h
 cases d1 : (decide (aE ≤ dk.Low))
 ·simp only [d1, hs] at h
  try simp only [vz, tyf, d1, nm, seval]
  obtain rfl := kF _ h
  exact aS Tryz.results133 rfl
 simp only [d1, hs] at h
 cases d2 : (decide (dk.Low ≤ dk.High))
 ·simp only [d2, hs] at h
  try simp only [vz, tyf, d1, d2, nm, seval]
  obtain rfl := kF _ h
  exact aS Tryz.results133 rfl
 simp only [d2, hs] at h
 try simp only [vz, tyf, d1, d2, nm, seval]
 obtain rfl := kF _ h
 exact aS Tryz.results133 rfl
def mD (aj : List Int) : List Int → Int → Option (LOut (Bool) (Unit))
 | [], cg => some (.go ())
 | e0 :: p0, cg => Option.bind (getI aj (i64.wrap (cg - 1))) (fun x1 => cond (decide (e0 ≤ x1)) (some (.ret false)) (mD aj p0 (cg + 1)))
def qq (aE : Int) (aj : List Int) (aN : Int) : Option (Bool) := cond (lenOk aj) (cond (leB 0 1) (lbind (mD aj (List.drop (Int.toNat 1) aj) 1) (fun r4 => some r4) (fun c2 => Option.bind (mB aE aj aN) (fun r3 => some r3)) (fun _ _ => none)) none) none
theorem Nk (aE : Int) (aj : List Int) (aN : Int) (R : Bool) (h : qq aE aj aN = some R) : ag Tryz.prog G0 134 [.lit (.int .i64 aE), .sl (aa eI aj) (List.length aj) false, .lit (.int .i64 aN)] (.tree (.lit (.bool R))) := by
 refine ag.runR mixed Tryz.call134 Tryz.func134 rfl (by simp [Tryz.ntmps134]; kernel_rfl) ?_
 obtain ⟨KF, h, kF, kN⟩ := cu h
 simp only [qq] at h
 cases g6 : (lenOk aj)
 ·simp only [g6, hs] at h
  exact absurd h kN
 simp only [g6, hs] at h
 cases g7 : (leB 0 1)
 ·simp only [g7, hs] at h
  exact absurd h kN
 simp only [g7, hs] at h
 simp only [vz, tyf, g6, g7, nm, seval]
 obtain ⟨K5, h, Gp, rY, Mq, m4⟩ := gB h kN
 obtain ⟨f5, BZ, h⟩ := call2 h
 obtain ⟨I5, jz⟩ : ∃ I : Nat → St → Prop, I = (fun m st => ∃ (p5 : List Int) (bd : Int), m = List.length p5 ∧ 0 ≤ bd ∧ List.drop (Int.toNat bd) aj = p5 ∧ st.df = [] ∧ 2 ≤ st.nx ∧ st.tm 0 = .lit (.int .i64 aE) ∧ st.tm 1 = .sl (aa eI aj) (List.length aj) false ∧ st.tm 2 = .lit (.int .i64 aN) ∧ st.tm 7 = .lit (.int .i64 bd) ∧ K5 (f5 p5 bd)) := ⟨_, rfl⟩
 refine loopK mixed (by kernel_rfl) I5 (List.length (List.drop (Int.toNat 1) aj)) (by rw [jz]; refine ⟨List.drop (Int.toNat 1) aj, 1, rfl, of_decide_eq_true g7, rfl, rfl, (show 2 ≤ 2 by omega), ?_, ?_, ?_, ?_, h⟩ <;> first | (simp only [ua, nm, seval] <;> rfl) | rfl) ?_
 rintro m ⟨tm, H, gR, df⟩ hinv
 rw [jz] at hinv
 obtain ⟨p5, bd, rfl, dB, ed, hdf, Ca, e8, e9, aY, b7, h⟩ := hinv
 simp only at hdf Ca e8 e9 aY b7
 have j9 := ik (m := 2) (b := gR) (by omega)
 subst hdf BZ
 cases p5 with
 | nil =>
  have iu : (decide (bd < (List.length aj : Int))) = false := g9 dB ed
  simp only [mD, hs, reduceCtorEq] at h
  replace h := rY _ h
  try dsimp only at h
  try simp only [hs] at h
  obtain ⟨nL, qn, h⟩ := optI h kN
  try simp only [hs] at h
  simp only [vz, tyf, g6, g7, j9, e8, e9, aY, b7, iu, nm, seval]
  refine ktA (GJ _ _ _ _ qn) ?_
  refine aZ (fun tm => tm 27 = .lit (.bool nL) ∧ True) (by refine ⟨?_, trivial⟩ <;> first | (simp only [ua, j9, e8, e9, aY, b7, iu, nm, seval] <;> rfl) | rfl) ?_
  rintro tm ⟨bA, _⟩
  try simp only [vz, tyf, g6, g7, j9, iu, bA, nm, seval]
  obtain rfl := kF _ h
  exact aS Tryz.results134 rfl
 | cons e5 p5 =>
  have iV : (decide (bd < (List.length aj : Int))) = true := g0 dB ed
  have CM := ec dB ed
  have qs := gA dB ed g6
  simp only [mD, hs, reduceCtorEq] at h
  simp only [vz, tyf, g6, g7, j9, e8, e9, aY, b7, iV, (aT CM), qs, nm, seval]
  refine wt (fun tm => tm 0 = .lit (.int .i64 aE) ∧ tm 1 = .sl (aa eI aj) (List.length aj) false ∧ tm 2 = .lit (.int .i64 aN) ∧ tm 7 = .lit (.int .i64 bd) ∧ True) (by refine ⟨e8, e9, aY, b7, trivial⟩ <;> first | (simp only [ua, j9, e8, e9, aY, b7, iV, qs, nm, seval] <;> rfl) | rfl) ?_
  rintro tm ⟨bR, cw, cK, di, _⟩
  obtain ⟨Nl, mG, h⟩ := optI h m4
  try simp only [hs] at h
  cases bD : (decide (e5 ≤ Nl))
  ·simp only [bD, hs] at h
   simp only [vz, tyf, g6, g7, j9, iV, (aT CM), qs, bR, cw, cK, di, (aT mG), bD, nm, seval]
   exact ⟨List.length p5, Nat.lt_succ_self _, by rw [jz]; refine ⟨p5, bd + 1, rfl, Int.le_trans dB (Int.le_add_one (Int.le_refl _)), eM dB ed, rfl, (show 2 ≤ gR + 17 by omega), bR, cw, cK, ?_, (by first | exact h | (simp only [iV, bD]; exact h))⟩ <;> first | (simp only [ua, j9, iV, qs, bR, cw, cK, di, bD, nm, seval] <;> rfl) | rfl⟩
  simp only [bD, hs] at h
  try simp only [vz, tyf, g6, g7, j9, iV, (aT CM), qs, bR, cw, cK, di, (aT mG), bD, nm, seval]
  replace h := Gp _ h
  try dsimp only at h
  obtain rfl := kF _ h
  exact aS Tryz.results134 rfl
def mH (ai : GBk) : List GBs → Int → Option (LOut (Bool) (Unit))
 | [], gV => some (.go ())
 | e0 :: p0, gV => Option.bind (sd ai e0.Board) (fun r2 => cond (r2) (Option.bind (qp 1 e0.Hours 6) (fun r3 => cond (r3) (Option.bind (qq 0 e0.Needs (i64.wrap (gV - 1))) (fun r4 => cond (r4) (mH ai p0 (gV + 1)) (some (.ret false)))) (some (.ret false)))) (some (.ret false)))
def se (ai : GBk) : Option (Bool) := Option.bind (i9 1 (List.length ai.Strokes : Int) 6) (fun r1 => cond (r1) (cond (lenOk ai.Strokes) (lbind (mH ai ai.Strokes 0) (fun r6 => some r6) (fun c5 => some true) (fun _ _ => none)) none) (some false))
theorem Nm (ai : GBk) (R : Bool) (h : se ai = some R) : ag Tryz.prog G0 102 [.agg (cGBk ai)] (.tree (.lit (.bool R))) := by
 refine ag.runR mixed Tryz.call102 Tryz.func102 rfl (by simp [Tryz.ntmps102]; kernel_rfl) ?_
 obtain ⟨KF, h, kF, kN⟩ := cu h
 simp only [se] at h
 obtain ⟨r7, o8, h⟩ := optI h kN
 try simp only [hs] at h
 simp only [vz, tyf, nm, seval]
 refine ktA (lW _ _ _ _ o8) ?_
 refine aZ (fun tm => tm 1 = .ptr 0 0 ∧ tm 8 = .lit (.bool r7) ∧ True) (by refine ⟨?_, ?_, trivial⟩ <;> first | (simp only [ua, nm, seval] <;> rfl) | rfl) ?_
 rintro tm ⟨e9, aY, _⟩
 cases dA : (r7)
 ·simp only [dA, hs] at h
  try simp only [vz, tyf, e9, aY, dA, nm, seval]
  obtain rfl := kF _ h
  exact aS Tryz.results102 rfl
 simp only [dA, hs] at h
 cases jA : (lenOk ai.Strokes)
 ·simp only [jA, hs] at h
  exact absurd h kN
 simp only [jA, hs] at h
 simp only [vz, tyf, e9, aY, dA, jA, nm, seval]
 obtain ⟨Nn, h, lA, CN, No, lB⟩ := gB h kN
 obtain ⟨Np, CP, h⟩ := call2 h
 obtain ⟨Nq, lC⟩ : ∃ I : Nat → St → Prop, I = (fun m st => ∃ (jB : List GBs) (bc : Int), m = List.length jB ∧ 0 ≤ bc ∧ List.drop (Int.toNat bc) ai.Strokes = jB ∧ st.df = [] ∧ 11 ≤ st.nx ∧ st.H 0 = some (.cells (some 25) (cGBk ai)) ∧ st.tm 1 = .ptr 0 0 ∧ st.tm 11 = .sl (aa cGBs ai.Strokes) (List.length ai.Strokes) false ∧ st.tm 12 = .lit (.int .i64 (List.length ai.Strokes : Int)) ∧ st.tm 13 = .lit (.int .i64 bc) ∧ Nn (Np jB bc)) := ⟨_, rfl⟩
 refine loopK mixed (by kernel_rfl) Nq (List.length ai.Strokes) (by rw [lC]; refine ⟨ai.Strokes, 0, rfl, Int.le_refl _, rfl, rfl, (show 11 ≤ 11 by omega), ?_, e9, ?_, ?_, ?_, h⟩ <;> first | (simp only [ua, e9, aY, dA, nm, seval] <;> rfl) | rfl) ?_
 rintro m ⟨tm, H, iY, df⟩ hinv
 rw [lC] at hinv
 obtain ⟨jB, bc, rfl, fS, gW, hdf, CQ, mI, cv, bA, bB, cG, h⟩ := hinv
 simp only at hdf CQ mI cv bA bB cG
 have qt := ik (m := 11) (b := iY) (by omega)
 subst hdf CP
 cases jB with
 | nil =>
  have cq : (decide (bc < (List.length ai.Strokes : Int))) = false := g9 fS gW
  simp only [mH, hs, reduceCtorEq] at h
  replace h := CN _ h
  try dsimp only at h
  try simp only [hs] at h
  try simp only [vz, tyf, dA, jA, qt, cv, bA, bB, cG, mI, cq, nm, seval]
  obtain rfl := kF _ h
  exact aS Tryz.results102 rfl
 | cons b6 jB =>
  have lq : (decide (bc < (List.length ai.Strokes : Int))) = true := g0 fS gW
  have gg := ec fS gW
  have sf := gA fS gW jA
  simp only [mH, hs, reduceCtorEq] at h
  obtain ⟨qu, mG, h⟩ := optI h lB
  try simp only [hs] at h
  simp only [vz, tyf, dA, jA, qt, cv, bA, bB, cG, mI, lq, (aQ gg), sf, nm, seval]
  refine ktA (Ni _ _ _ mG) ?_
  refine aZ (fun tm => tm 1 = .ptr 0 0 ∧ tm 3 = .lit (.int .i64 bc) ∧ tm 4 = .ptr (iY + 4) 0 ∧ tm 11 = .sl (aa cGBs ai.Strokes) (List.length ai.Strokes) false ∧ tm 12 = .lit (.int .i64 (List.length ai.Strokes : Int)) ∧ tm 13 = .lit (.int .i64 bc) ∧ tm 21 = .lit (.bool qu) ∧ True) (by refine ⟨cv, ?_, ?_, bA, bB, cG, ?_, trivial⟩ <;> first | (simp only [ua, dA, qt, cv, bA, bB, cG, mI, lq, sf, nm, seval] <;> rfl) | rfl) ?_
  rintro tm ⟨fh, b8, eP, dV, cU, cy, dP, _⟩
  cases gX : (qu)
  ·simp only [gX, hs] at h
   have gh := And.intro dA (And.intro jA (And.intro qt (And.intro mI (And.intro lq (And.intro sf gX)))))
   try simp only [vz, tyf, gh, (aQ gg), fh, b8, eP, dV, cU, cy, dP, nm, seval]
   replace h := lA _ h
   try dsimp only at h
   obtain rfl := kF _ h
   exact aS Tryz.results102 rfl
  simp only [gX, hs] at h
  have iZ := And.intro dA (And.intro jA (And.intro qt (And.intro mI (And.intro lq (And.intro sf gX)))))
  obtain ⟨GL, Nr, h⟩ := optI h lB
  try simp only [hs] at h
  simp only [vz, tyf, iZ, (aQ gg), fh, b8, eP, dV, cU, cy, dP, nm, seval]
  refine ktA (Nj _ _ _ _ Nr) ?_
  refine aZ (fun tm => tm 1 = .ptr 0 0 ∧ tm 3 = .lit (.int .i64 bc) ∧ tm 4 = .ptr (iY + 4) 0 ∧ tm 11 = .sl (aa cGBs ai.Strokes) (List.length ai.Strokes) false ∧ tm 12 = .lit (.int .i64 (List.length ai.Strokes : Int)) ∧ tm 13 = .lit (.int .i64 bc) ∧ tm 23 = .lit (.bool false) ∧ tm 26 = .lit (.bool GL) ∧ True) (by refine ⟨fh, b8, eP, dV, cU, cy, ?_, ?_, trivial⟩ <;> first | (simp only [ua, iZ, fh, b8, eP, dV, cU, cy, dP, nm, seval] <;> rfl) | rfl) ?_
  rintro tm ⟨eY, kf, kh, ki, ff, fg, b2, b3, _⟩
  cases ja : (GL)
  ·simp only [ja, hs] at h
   try simp only [vz, tyf, iZ, (aQ gg), eY, kf, kh, ki, ff, fg, b2, b3, ja, nm, seval]
   replace h := lA _ h
   try dsimp only at h
   obtain rfl := kF _ h
   exact aS Tryz.results102 rfl
  simp only [ja, hs] at h
  obtain ⟨GM, Ns, h⟩ := optI h lB
  try simp only [hs] at h
  simp only [vz, tyf, iZ, (aQ gg), eY, kf, kh, ki, ff, fg, b2, b3, ja, nm, seval]
  refine ktA (Nk _ _ _ _ Ns) ?_
  refine aZ (fun tm => tm 1 = .ptr 0 0 ∧ tm 11 = .sl (aa cGBs ai.Strokes) (List.length ai.Strokes) false ∧ tm 12 = .lit (.int .i64 (List.length ai.Strokes : Int)) ∧ tm 13 = .lit (.int .i64 bc) ∧ tm 29 = .lit (.bool false) ∧ tm 34 = .lit (.bool GM) ∧ True) (by refine ⟨eY, ki, ff, fg, ?_, ?_, trivial⟩ <;> first | (simp only [ua, iZ, eY, kf, kh, ki, ff, fg, b2, b3, ja, nm, seval] <;> rfl) | rfl) ?_
  rintro tm ⟨br, gY, gZ, CS, CT, CU, _⟩
  cases bI : (GM)
  ·simp only [bI, hs] at h
   try simp only [vz, tyf, iZ, (aQ gg), ja, br, gY, gZ, CS, CT, CU, bI, nm, seval]
   replace h := lA _ h
   try dsimp only at h
   obtain rfl := kF _ h
   exact aS Tryz.results102 rfl
  simp only [bI, hs] at h
  simp only [vz, tyf, iZ, (aQ gg), ja, br, gY, gZ, CS, CT, CU, bI, nm, seval]
  exact ⟨List.length jB, Nat.lt_succ_self _, by rw [lC]; refine ⟨jB, bc + 1, rfl, Int.le_trans fS (Int.le_add_one (Int.le_refl _)), eM fS gW, rfl, (show 11 ≤ iY + 28 by omega), ?_, br, gY, gZ, ?_, (by first | exact h | (simp only [iZ, ja, bI]; exact h))⟩ <;> first | (simp only [ua, iZ, ja, br, gY, gZ, CS, CT, CU, bI, nm, seval] <;> rfl) | rfl⟩
def i7 (ai : GBk) : Option (Bool) := Option.bind (i9 0 ai.Apprentices 3) (fun r1 => cond (r1) (Option.bind (sc ai.Boards) (fun r2 => cond (r2) (Option.bind (se ai) (fun r3 => some r3)) (some false))) (some false))
theorem v8 (ai : GBk) (R : Bool) (h : i7 ai = some R) : ag Tryz.prog G0 67 [.agg (cGBk ai)] (.tree (.lit (.bool R))) := by
 refine ag.runR mixed Tryz.call67 Tryz.func67 rfl (by simp [Tryz.ntmps67]; kernel_rfl) ?_
 obtain ⟨KF, h, kF, kN⟩ := cu h
 simp only [i7] at h
 obtain ⟨r4, o5, h⟩ := optI h kN
 try simp only [hs] at h
 simp only [vz, tyf, nm, seval]
 refine ktA (lW _ _ _ _ o5) ?_
 refine aZ (fun tm => tm 1 = .ptr 0 0 ∧ tm 5 = .lit (.bool r4) ∧ True) (by refine ⟨?_, ?_, trivial⟩ <;> first | (simp only [ua, nm, seval] <;> rfl) | rfl) ?_
 rintro tm ⟨e6, e7, _⟩
 cases d8 : (r4)
 ·simp only [d8, hs] at h
  try simp only [vz, tyf, e6, e7, d8, nm, seval]
  obtain rfl := kF _ h
  exact aS Tryz.results67 rfl
 simp only [d8, hs] at h
 obtain ⟨r9, dG, h⟩ := optI h kN
 try simp only [hs] at h
 simp only [vz, tyf, e6, e7, d8, nm, seval]
 refine ktA (Nh _ _ dG) ?_
 refine aZ (fun tm => tm 1 = .ptr 0 0 ∧ tm 6 = .lit (.bool true) ∧ tm 9 = .lit (.bool r9) ∧ True) (by refine ⟨e6, ?_, ?_, trivial⟩ <;> first | (simp only [ua, e6, e7, d8, nm, seval] <;> rfl) | rfl) ?_
 rintro tm ⟨b7, b6, bg, _⟩
 cases bM : (r9)
 ·simp only [bM, hs] at h
  try simp only [vz, tyf, d8, b7, b6, bg, bM, nm, seval]
  obtain rfl := kF _ h
  exact aS Tryz.results67 rfl
 simp only [bM, hs] at h
 obtain ⟨lZ, im, h⟩ := optI h kN
 try simp only [hs] at h
 simp only [vz, tyf, d8, b7, b6, bg, bM, nm, seval]
 refine ktA (Nm _ _ im) ?_
 refine aZ (fun tm => tm 11 = .lit (.bool true) ∧ tm 13 = .lit (.bool lZ) ∧ True) (by refine ⟨?_, ?_, trivial⟩ <;> first | (simp only [ua, d8, b7, b6, bg, bM, nm, seval] <;> rfl) | rfl) ?_
 rintro tm ⟨bB, cG, _⟩
 try simp only [vz, tyf, d8, bM, bB, cG, nm, seval]
 obtain rfl := kF _ h
 exact aS Tryz.results67 rfl


def lD  : List GBs → Int → Option (LOut (Bool) (Unit))
 | [], bU => some (.go ())
 | e0 :: p0, bU => cond (decide (bU < 9)) (cond (decide ((List.length e0.Needs : Int) > 8)) (some (.ret false)) (lD p0 (bU + 1))) (some (.go ()))
def sg (ai : GBk) : Option (Bool) := cond (lenOk ai.Strokes) (lbind (lD ai.Strokes 0) (fun r2 => some r2) (fun c1 => cond (decide ((List.length ai.Boards : Int) ≤ 5)) (some (decide ((List.length ai.Strokes : Int) ≤ 8))) (some false)) (fun _ _ => none)) none
theorem Nt (ai : GBk) (R : Bool) (h : sg ai = some R) : ag Tryz.prog G0 18 [.agg (cGBk ai)] (.tree (.lit (.bool R))) := by
 refine ag.runR mixed Tryz.call18 Tryz.func18 rfl (by simp [Tryz.ntmps18]; kernel_rfl) ?_
 obtain ⟨KF, h, kF, kN⟩ := cu h
 simp only [sg] at h
 cases g4 : (lenOk ai.Strokes)
 ·simp only [g4, hs] at h
  exact absurd h kN
 simp only [g4, hs] at h
 simp only [vz, tyf, g4, nm, seval]
 obtain ⟨K3, h, Gn, rX, Mn, Mo⟩ := gB h kN
 obtain ⟨f3, BX, h⟩ := call2 h
 obtain ⟨I3, ll⟩ : ∃ I : Nat → St → Prop, I = (fun m st => ∃ (p3 : List GBs) (bP : Int), m = List.length p3 ∧ 0 ≤ bP ∧ List.drop (Int.toNat bP) ai.Strokes = p3 ∧ st.df = [] ∧ 3 ≤ st.nx ∧ st.H 0 = some (.cells (some 25) (cGBk ai)) ∧ st.tm 1 = .ptr 0 0 ∧ st.tm 3 = .lit (.int .i64 bP) ∧ K3 (f3 p3 bP)) := ⟨_, rfl⟩
 refine loopK mixed (by kernel_rfl) I3 (List.length ai.Strokes) (by rw [ll]; refine ⟨ai.Strokes, 0, rfl, Int.le_refl _, rfl, rfl, (show 3 ≤ 3 by omega), ?_, ?_, ?_, h⟩ <;> first | (simp only [ua, nm, seval] <;> rfl) | rfl) ?_
 rintro m ⟨tm, H, pM, df⟩ hinv
 rw [ll] at hinv
 obtain ⟨p3, bP, rfl, fe, gP, hdf, BY, H5, e6, e7, h⟩ := hinv
 simp only at hdf BY H5 e6 e7
 have n8 := ik (m := 3) (b := pM) (by omega)
 subst hdf BX
 cases p3 with
 | nil =>
  have d9 : (decide (bP < (List.length ai.Strokes : Int))) = false := g9 fe gP
  simp only [lD, hs, reduceCtorEq] at h
  replace h := rX _ h
  try dsimp only at h
  try simp only [hs] at h
  cases jx : (decide ((List.length ai.Boards : Int) ≤ 5))
  ·simp only [jx, hs] at h
   try simp only [vz, tyf, g4, n8, e6, e7, H5, d9, jx, nm, seval]
   obtain rfl := kF _ h
   exact aS Tryz.results18 rfl
  simp only [jx, hs] at h
  try simp only [vz, tyf, g4, n8, e6, e7, H5, d9, jx, nm, seval]
  obtain rfl := kF _ h
  exact aS Tryz.results18 rfl
 | cons e3 p3 =>
  have dA : (decide (bP < (List.length ai.Strokes : Int))) = true := g0 fe gP
  have m3 := ec fe gP
  have lp := gA fe gP g4
  simp only [lD, hs, reduceCtorEq] at h
  cases bM : (decide (bP < 9))
  ·simp only [bM, hs] at h
   replace h := rX _ h
   try dsimp only at h
   try simp only [hs] at h
   cases fR : (decide ((List.length ai.Boards : Int) ≤ 5))
   ·simp only [fR, hs] at h
    have Nu := And.intro g4 (And.intro n8 (And.intro H5 (And.intro dA (And.intro lp (And.intro bM fR)))))
    try simp only [vz, tyf, Nu, e6, e7, (aQ m3), nm, seval]
    obtain rfl := kF _ h
    exact aS Tryz.results18 rfl
   simp only [fR, hs] at h
   have Nv := And.intro g4 (And.intro n8 (And.intro H5 (And.intro dA (And.intro lp (And.intro bM fR)))))
   try simp only [vz, tyf, Nv, e6, e7, (aQ m3), nm, seval]
   obtain rfl := kF _ h
   exact aS Tryz.results18 rfl
  simp only [bM, hs] at h
  cases j6 : (decide ((List.length e3.Needs : Int) > 8))
  ·simp only [j6, hs] at h
   have CV := And.intro g4 (And.intro n8 (And.intro H5 (And.intro dA (And.intro lp (And.intro bM j6)))))
   simp only [vz, tyf, CV, e6, e7, (aQ m3), nm, seval]
   exact ⟨List.length p3, Nat.lt_succ_self _, by rw [ll]; refine ⟨p3, bP + 1, rfl, Int.le_trans fe (Int.le_add_one (Int.le_refl _)), eM fe gP, rfl, (show 3 ≤ pM + 20 by omega), ?_, e6, ?_, (by first | exact h | (simp only [CV]; exact h))⟩ <;> first | (simp only [ua, CV, e6, e7, nm, seval] <;> rfl) | rfl⟩
  simp only [j6, hs] at h
  have Nw := And.intro g4 (And.intro n8 (And.intro H5 (And.intro dA (And.intro lp (And.intro bM j6)))))
  try simp only [vz, tyf, Nw, e6, e7, (aQ m3), nm, seval]
  replace h := Gn _ h
  try dsimp only at h
  obtain rfl := kF _ h
  exact aS Tryz.results18 rfl
def h9 (fT : Int) (cX : Int) (cR : Int) : Option (Bool) := cond (decide (fT ≥ cX)) (some (decide (fT ≤ cR))) (some false)
theorem jC (fT : Int) (cX : Int) (cR : Int) (R : Bool) (h : h9 fT cX cR = some R) : ag Tryz.prog G0 73 [.lit (.int .i64 fT), .lit (.int .i64 cX), .lit (.int .i64 cR)] (.tree (.lit (.bool R))) := by
 refine ag.runR mixed Tryz.call73 Tryz.func73 rfl (by simp [Tryz.ntmps73]; kernel_rfl) ?_
 obtain ⟨KF, h, kF, kN⟩ := cu h
 simp only [h9] at h
 cases d1 : (decide (fT ≥ cX))
 ·simp only [d1, hs] at h
  try simp only [vz, tyf, d1, nm, seval]
  obtain rfl := kF _ h
  exact aS Tryz.results73 rfl
 simp only [d1, hs] at h
 try simp only [vz, tyf, d1, nm, seval]
 obtain rfl := kF _ h
 exact aS Tryz.results73 rfl
def lE (bm : Int) (x1 : GBs) : List Int → Int → Option (LOut (Bool) (Unit))
 | [], hC => some (.go ())
 | e0 :: p0, hC => Option.bind (h9 e0 0 (i64.wrap (bm - 1))) (fun r5 => cond (r5) (cond (decide (hC > 0)) (Option.bind (getI x1.Needs (i64.wrap (hC - 1))) (fun x6 => cond (decide (e0 ≤ x6)) (some (.ret false)) (lE bm x1 p0 (hC + 1)))) (lE bm x1 p0 (hC + 1))) (some (.ret false)))
def qv (ai : GBk) (bm : Int) : Option (Bool) := Option.bind (getI ai.Strokes bm) (fun x1 => Option.bind (h9 x1.Board 0 (i64.wrap ((List.length ai.Boards : Int) - 1))) (fun r2 => cond (r2) (Option.bind (h9 x1.Hours.Low 1 6) (fun r3 => cond (r3) (Option.bind (h9 x1.Hours.High x1.Hours.Low 6) (fun r4 => cond (r4) (cond (lenOk x1.Needs) (lbind (lE bm x1 x1.Needs 0) (fun r8 => some r8) (fun c7 => some true) (fun _ _ => none)) none) (some false))) (some false))) (some false)))
theorem Nx (ai : GBk) (bm : Int) (R : Bool) (h : qv ai bm = some R) : ag Tryz.prog G0 74 [.agg (cGBk ai), .lit (.int .i64 bm)] (.tree (.lit (.bool R))) := by
 refine ag.runR mixed Tryz.call74 Tryz.func74 rfl (by simp [Tryz.ntmps74]; kernel_rfl) ?_
 obtain ⟨KF, h, kF, kN⟩ := cu h
 simp only [qv] at h
 obtain ⟨x9, dG, h⟩ := optI h kN
 try simp only [hs] at h
 obtain ⟨lY, Ny, h⟩ := optI h kN
 try simp only [hs] at h
 simp only [vz, tyf, (aQ dG), nm, seval]
 refine ktA (jC _ _ _ _ Ny) ?_
 refine aZ (fun tm => tm 1 = .lit (.int .i64 bm) ∧ tm 5 = .ptr 7 0 ∧ tm 18 = .lit (.bool lY) ∧ True) (by refine ⟨?_, ?_, ?_, trivial⟩ <;> first | (simp only [ua, nm, seval] <;> rfl) | rfl) ?_
 rintro tm ⟨bg, bl, cv, _⟩
 cases bV : (lY)
 ·simp only [bV, hs] at h
  try simp only [vz, tyf, (aQ dG), bg, bl, cv, bV, nm, seval]
  obtain rfl := kF _ h
  exact aS Tryz.results74 rfl
 simp only [bV, hs] at h
 obtain ⟨dN, ke, h⟩ := optI h kN
 try simp only [hs] at h
 simp only [vz, tyf, (aQ dG), bg, bl, cv, bV, nm, seval]
 refine ktA (jC _ _ _ _ ke) ?_
 refine aZ (fun tm => tm 1 = .lit (.int .i64 bm) ∧ tm 5 = .ptr 7 0 ∧ tm 20 = .lit (.bool false) ∧ tm 24 = .lit (.bool dN) ∧ True) (by refine ⟨bg, bl, ?_, ?_, trivial⟩ <;> first | (simp only [ua, bg, bl, cv, bV, nm, seval] <;> rfl) | rfl) ?_
 rintro tm ⟨bw, bR, cw, cK, _⟩
 cases bL : (dN)
 ·simp only [bL, hs] at h
  try simp only [vz, tyf, (aQ dG), bV, bw, bR, cw, cK, bL, nm, seval]
  obtain rfl := kF _ h
  exact aS Tryz.results74 rfl
 simp only [bL, hs] at h
 obtain ⟨qu, mG, h⟩ := optI h kN
 try simp only [hs] at h
 simp only [vz, tyf, (aQ dG), bV, bw, bR, cw, cK, bL, nm, seval]
 refine ktA (jC _ _ _ _ mG) ?_
 refine aZ (fun tm => tm 1 = .lit (.int .i64 bm) ∧ tm 5 = .ptr 7 0 ∧ tm 27 = .lit (.bool false) ∧ tm 34 = .lit (.bool qu) ∧ True) (by refine ⟨bw, bR, ?_, ?_, trivial⟩ <;> first | (simp only [ua, bV, bw, bR, cw, cK, bL, nm, seval] <;> rfl) | rfl) ?_
 rintro tm ⟨fh, b8, eP, dV, _⟩
 cases jb : (qu)
 ·simp only [jb, hs] at h
  try simp only [vz, tyf, (aQ dG), bV, bL, fh, b8, eP, dV, jb, nm, seval]
  obtain rfl := kF _ h
  exact aS Tryz.results74 rfl
 simp only [jb, hs] at h
 cases lF : (lenOk x9.Needs)
 ·simp only [lF, hs] at h
  exact absurd h kN
 simp only [lF, hs] at h
 simp only [vz, tyf, (aQ dG), bV, bL, fh, b8, eP, dV, jb, lF, nm, seval]
 obtain ⟨Nz, h, qw, CW, N0, qx⟩ := gB h kN
 obtain ⟨N1, CX, h⟩ := call2 h
 obtain ⟨N2, jc⟩ : ∃ I : Nat → St → Prop, I = (fun m st => ∃ (iv : List Int) (bC : Int), m = List.length iv ∧ 0 ≤ bC ∧ List.drop (Int.toNat bC) x9.Needs = iv ∧ st.df = [] ∧ 35 ≤ st.nx ∧ st.H 7 = some (.cells (some 49) (cGBs x9)) ∧ st.tm 1 = .lit (.int .i64 bm) ∧ st.tm 5 = .ptr 7 0 ∧ st.tm 6 = .lit (.int .i64 bC) ∧ Nz (N1 iv bC)) := ⟨_, rfl⟩
 refine loopK mixed (by kernel_rfl) N2 (List.length x9.Needs) (by rw [jc]; refine ⟨x9.Needs, 0, rfl, Int.le_refl _, rfl, rfl, (show 35 ≤ 35 by omega), ?_, fh, b8, ?_, h⟩ <;> first | (simp only [ua, bV, bL, fh, b8, eP, dV, jb, nm, seval] <;> rfl) | rfl) ?_
 rintro m ⟨tm, H, lG, df⟩ hinv
 rw [jc] at hinv
 obtain ⟨iv, bC, rfl, dX, fU, hdf, CY, qy, iX, qz, iD, h⟩ := hinv
 simp only at hdf CY qy iX qz iD
 have sh := ik (m := 35) (b := lG) (by omega)
 subst hdf CX
 cases iv with
 | nil =>
  have N3 : (decide (bC < (List.length x9.Needs : Int))) = false := g9 dX fU
  simp only [lE, hs, reduceCtorEq] at h
  replace h := CW _ h
  try dsimp only at h
  try simp only [hs] at h
  try simp only [vz, tyf, (aQ dG), bV, bL, jb, lF, sh, iX, qz, iD, qy, N3, nm, seval]
  obtain rfl := kF _ h
  exact aS Tryz.results74 rfl
 | cons cy iv =>
  have CZ : (decide (bC < (List.length x9.Needs : Int))) = true := g0 dX fU
  have j3 := ec dX fU
  have Da := gA dX fU lF
  simp only [lE, hs, reduceCtorEq] at h
  simp only [vz, tyf, (aQ dG), bV, bL, jb, lF, sh, iX, qz, iD, qy, CZ, (aT j3), Da, nm, seval]
  refine wt (fun tm => tm 1 = .lit (.int .i64 bm) ∧ tm 5 = .ptr 7 0 ∧ tm 6 = .lit (.int .i64 bC) ∧ True) (by refine ⟨iX, qz, iD, trivial⟩ <;> first | (simp only [ua, bV, bL, jb, sh, iX, qz, iD, qy, CZ, Da, nm, seval] <;> rfl) | rfl) ?_
  rintro tm ⟨ff, fg, b2, _⟩
  have iw := And.intro bV (And.intro bL (And.intro jb (And.intro lF (And.intro sh (And.intro qy (And.intro CZ Da))))))
  obtain ⟨GN, N4, h⟩ := optI h qx
  try simp only [hs] at h
  simp only [vz, tyf, iw, (aQ dG), (aT j3), ff, fg, b2, nm, seval]
  refine dktA (jC _ _ _ _ N4) ?_
  refine aZ (fun tm => tm 1 = .lit (.int .i64 bm) ∧ tm 5 = .ptr 7 0 ∧ tm 6 = .lit (.int .i64 bC) ∧ tm 51 = .lit (.bool GN) ∧ True) (by refine ⟨ff, fg, b2, ?_, trivial⟩ <;> first | (simp only [ua, iw, ff, fg, b2, nm, seval] <;> rfl) | rfl) ?_
  rintro tm ⟨bp, br, gY, gZ, _⟩
  cases fj : (GN)
  ·simp only [fj, hs] at h
   try simp only [vz, tyf, iw, (aQ dG), (aT j3), bp, br, gY, gZ, fj, nm, seval]
   replace h := qw _ h
   try dsimp only at h
   obtain rfl := kF _ h
   exact aS Tryz.results74 rfl
  simp only [fj, hs] at h
  cases b4 : (decide (bC > 0))
  ·simp only [b4, hs] at h
   simp only [vz, tyf, iw, (aQ dG), (aT j3), bp, br, gY, gZ, fj, b4, nm, seval]
   exact ⟨List.length iv, Nat.lt_succ_self _, by rw [jc]; refine ⟨iv, bC + 1, rfl, Int.le_trans dX (Int.le_add_one (Int.le_refl _)), eM dX fU, rfl, (show 35 ≤ lG + 35 by omega), ?_, bp, br, ?_, (by first | exact h | (simp only [iw, fj, b4]; exact h))⟩ <;> first | (simp only [ua, iw, bp, br, gY, gZ, fj, b4, nm, seval] <;> rfl) | rfl⟩
  simp only [b4, hs] at h
  obtain ⟨N5, GO, h⟩ := optI h qx
  try simp only [hs] at h
  cases cZ : (decide (cy ≤ N5))
  ·simp only [cZ, hs] at h
   simp only [vz, tyf, iw, (aQ dG), (aT j3), bp, br, gY, gZ, fj, b4, (aT GO), cZ, nm, seval]
   exact ⟨List.length iv, Nat.lt_succ_self _, by rw [jc]; refine ⟨iv, bC + 1, rfl, Int.le_trans dX (Int.le_add_one (Int.le_refl _)), eM dX fU, rfl, (show 35 ≤ lG + 35 by omega), ?_, bp, br, ?_, (by first | exact h | (simp only [iw, fj, b4, cZ]; exact h))⟩ <;> first | (simp only [ua, iw, bp, br, gY, gZ, fj, b4, cZ, nm, seval] <;> rfl) | rfl⟩
  simp only [cZ, hs] at h
  try simp only [vz, tyf, iw, (aQ dG), (aT j3), bp, br, gY, gZ, fj, b4, (aT GO), cZ, nm, seval]
  replace h := qw _ h
  try dsimp only at h
  obtain rfl := kF _ h
  exact aS Tryz.results74 rfl
def mJ (ai : GBk) : List GBs → Int → Option (LOut (Bool) (Unit))
 | [], lH => some (.go ())
 | e1 :: p1, lH => Option.bind (qv ai lH) (fun r6 => cond (r6) (mJ ai p1 (lH + 1)) (some (.ret false)))
def mK  : List Int → Int → Option (LOut (Bool) (Unit))
 | [], bU => some (.go ())
 | e0 :: p0, bU => Option.bind (h9 e0 0 60) (fun r4 => cond (r4) (mK p0 (bU + 1)) (some (.ret false)))
def q9 (ai : GBk) : Option (Bool) := Option.bind (h9 ai.Apprentices 0 3) (fun r1 => cond (r1) (Option.bind (h9 (List.length ai.Boards : Int) 1 3) (fun r2 => cond (r2) (Option.bind (h9 (List.length ai.Strokes : Int) 1 6) (fun r3 => cond (r3) (cond (lenOk ai.Boards) (lbind (mK ai.Boards 0) (fun r9 => some r9) (fun c5 => cond (lenOk ai.Strokes) (lbind (mJ ai ai.Strokes 0) (fun r8 => some r8) (fun c7 => some true) (fun _ _ => none)) none) (fun _ _ => none)) none) (some false))) (some false))) (some false))
theorem N6 (ai : GBk) (R : Bool) (h : q9 ai = some R) : ag Tryz.prog G0 24 [.agg (cGBk ai)] (.tree (.lit (.bool R))) := by
 refine ag.runR mixed Tryz.call24 Tryz.func24 rfl (by simp [Tryz.ntmps24]; kernel_rfl) ?_
 obtain ⟨KF, h, kF, kN⟩ := cu h
 simp only [q9] at h
 obtain ⟨jm, v9, h⟩ := optI h kN
 try simp only [hs] at h
 simp only [vz, tyf, nm, seval]
 refine ktA (jC _ _ _ _ v9) ?_
 refine aZ (fun tm => tm 1 = .ptr 0 0 ∧ tm 7 = .lit (.bool jm) ∧ True) (by refine ⟨?_, ?_, trivial⟩ <;> first | (simp only [ua, nm, seval] <;> rfl) | rfl) ?_
 rintro tm ⟨b6, bg, _⟩
 cases bM : (jm)
 ·simp only [bM, hs] at h
  try simp only [vz, tyf, b6, bg, bM, nm, seval]
  obtain rfl := kF _ h
  exact aS Tryz.results24 rfl
 simp only [bM, hs] at h
 obtain ⟨lZ, im, h⟩ := optI h kN
 try simp only [hs] at h
 simp only [vz, tyf, b6, bg, bM, nm, seval]
 refine ktA (jC _ _ _ _ im) ?_
 refine aZ (fun tm => tm 1 = .ptr 0 0 ∧ tm 9 = .lit (.bool false) ∧ tm 13 = .lit (.bool lZ) ∧ True) (by refine ⟨b6, ?_, ?_, trivial⟩ <;> first | (simp only [ua, b6, bg, bM, nm, seval] <;> rfl) | rfl) ?_
 rintro tm ⟨bB, cG, bw, _⟩
 cases cq : (lZ)
 ·simp only [cq, hs] at h
  try simp only [vz, tyf, bM, bB, cG, bw, cq, nm, seval]
  obtain rfl := kF _ h
  exact aS Tryz.results24 rfl
 simp only [cq, hs] at h
 obtain ⟨gT, pR, h⟩ := optI h kN
 try simp only [hs] at h
 simp only [vz, tyf, bM, bB, cG, bw, cq, nm, seval]
 refine ktA (jC _ _ _ _ pR) ?_
 refine aZ (fun tm => tm 1 = .ptr 0 0 ∧ tm 16 = .lit (.bool false) ∧ tm 20 = .lit (.bool gT) ∧ True) (by refine ⟨bB, ?_, ?_, trivial⟩ <;> first | (simp only [ua, bM, bB, cG, bw, cq, nm, seval] <;> rfl) | rfl) ?_
 rintro tm ⟨di, gi, iW, _⟩
 cases bD : (gT)
 ·simp only [bD, hs] at h
  try simp only [vz, tyf, bM, cq, di, gi, iW, bD, nm, seval]
  obtain rfl := kF _ h
  exact aS Tryz.results24 rfl
 simp only [bD, hs] at h
 cases ix : (lenOk ai.Boards)
 ·simp only [ix, hs] at h
  exact absurd h kN
 simp only [ix, hs] at h
 simp only [vz, tyf, bM, cq, di, gi, iW, bD, ix, nm, seval]
 obtain ⟨N7, h, Db, Dc, N8, Dd⟩ := gB h kN
 obtain ⟨N9, De, h⟩ := call2 h
 obtain ⟨NA, lI⟩ : ∃ I : Nat → St → Prop, I = (fun m st => ∃ (jD : List Int) (cl : Int), m = List.length jD ∧ 0 ≤ cl ∧ List.drop (Int.toNat cl) ai.Boards = jD ∧ st.df = [] ∧ 21 ≤ st.nx ∧ st.H 0 = some (.cells (some 25) (cGBk ai)) ∧ st.tm 1 = .ptr 0 0 ∧ st.tm 3 = .lit (.int .i64 cl) ∧ N7 (N9 jD cl)) := ⟨_, rfl⟩
 refine loopK mixed (by kernel_rfl) NA (List.length ai.Boards) (by rw [lI]; refine ⟨ai.Boards, 0, rfl, Int.le_refl _, rfl, rfl, (show 21 ≤ 21 by omega), ?_, di, ?_, h⟩ <;> first | (simp only [ua, bM, cq, di, gi, iW, bD, nm, seval] <;> rfl) | rfl) ?_
 rintro m ⟨tm, H, eT, df⟩ hinv
 rw [lI] at hinv
 obtain ⟨jD, cl, rfl, fV, hO, hdf, Df, mM, cU, cy, h⟩ := hinv
 simp only at hdf Df mM cU cy
 have jd := ik (m := 21) (b := eT) (by omega)
 subst hdf De
 cases jD with
 | nil =>
  have gX : (decide (cl < (List.length ai.Boards : Int))) = false := g9 fV hO
  simp only [mK, hs, reduceCtorEq] at h
  replace h := Dc _ h
  try dsimp only at h
  try simp only [hs] at h
  cases eQ : (lenOk ai.Strokes)
  ·simp only [eQ, hs] at h
   exact absurd h kN
  simp only [eQ, hs] at h
  simp only [vz, tyf, bM, cq, bD, ix, jd, cU, cy, mM, gX, eQ, nm, seval]
  obtain ⟨NB, h, Dg, Dh, NC, Di⟩ := gB h kN
  obtain ⟨ND, Dj, h⟩ := call2 h
  obtain ⟨NF, lJ⟩ : ∃ I : Nat → St → Prop, I = (fun m st => ∃ (jE : List GBs) (cm : Int), m = List.length jE ∧ 0 ≤ cm ∧ List.drop (Int.toNat cm) ai.Strokes = jE ∧ st.df = [] ∧ eT + 6 ≤ st.nx ∧ st.H 0 = some (.cells (some 25) (cGBk ai)) ∧ st.tm 1 = .ptr 0 0 ∧ st.tm 4 = .lit (.int .i64 cm) ∧ NB (ND jE cm)) := ⟨_, rfl⟩
  refine loopK mixed (by kernel_rfl) NF (List.length ai.Strokes) (by rw [lJ]; refine ⟨ai.Strokes, 0, rfl, Int.le_refl _, rfl, rfl, (show eT + 6 ≤ eT + 6 by omega), ?_, cU, ?_, h⟩ <;> first | (simp only [ua, bM, cq, bD, jd, cU, cy, mM, gX, nm, seval] <;> rfl) | rfl) ?_
  rintro m ⟨tm, H, lK, df⟩ hinv
  rw [lJ] at hinv
  obtain ⟨jE, cm, rfl, fW, hP, hdf, Dk, qA, iE, eY, h⟩ := hinv
  simp only at hdf Dk qA iE eY
  have si := ik (m := 21) (b := lK) (by omega)
  have sj := iK (a := eT) (m := 6) (b := lK) (by omega)
  subst hdf Dj
  cases jE with
  | nil =>
   have NG : (decide (cm < (List.length ai.Strokes : Int))) = false := g9 fW hP
   simp only [mJ, hs, reduceCtorEq] at h
   replace h := Dh _ h
   try dsimp only at h
   try simp only [hs] at h
   try simp only [vz, tyf, bM, cq, bD, ix, jd, gX, eQ, si, sj, iE, eY, qA, NG, nm, seval]
   obtain rfl := kF _ h
   exact aS Tryz.results24 rfl
  | cons iX jE =>
   have Dl : (decide (cm < (List.length ai.Strokes : Int))) = true := g0 fW hP
   have Dm := ec fW hP
   have Dn := gA fW hP eQ
   simp only [mJ, hs, reduceCtorEq] at h
   obtain ⟨GP, NH, h⟩ := optI h Di
   try simp only [hs] at h
   simp only [vz, tyf, bM, cq, bD, ix, jd, gX, eQ, si, sj, iE, eY, qA, Dl, (aQ Dm), Dn, nm, seval]
   refine ktA (Nx _ _ _ NH) ?_
   refine aZ (fun tm => tm 1 = .ptr 0 0 ∧ tm 4 = .lit (.int .i64 cm) ∧ tm 46 = .lit (.bool GP) ∧ True) (by refine ⟨iE, eY, ?_, trivial⟩ <;> first | (simp only [ua, bM, cq, bD, jd, gX, si, sj, iE, eY, qA, Dl, Dn, nm, seval] <;> rfl) | rfl) ?_
   rintro tm ⟨bE, bp, br, _⟩
   have sk := And.intro bM (And.intro cq (And.intro bD (And.intro ix (And.intro jd (And.intro gX (And.intro eQ (And.intro si (And.intro sj (And.intro qA (And.intro Dl Dn))))))))))
   cases gq : (GP)
   ·simp only [gq, hs] at h
    try simp only [vz, tyf, sk, (aQ Dm), bE, bp, br, gq, nm, seval]
    replace h := Dg _ h
    try dsimp only at h
    obtain rfl := kF _ h
    exact aS Tryz.results24 rfl
   simp only [gq, hs] at h
   simp only [vz, tyf, sk, (aQ Dm), bE, bp, br, gq, nm, seval]
   exact ⟨List.length jE, Nat.lt_succ_self _, by rw [lJ]; refine ⟨jE, cm + 1, rfl, Int.le_trans fW (Int.le_add_one (Int.le_refl _)), eM fW hP, rfl, (show eT + 6 ≤ lK + 12 by omega), ?_, bE, ?_, (by first | exact h | (simp only [sk, gq]; exact h))⟩ <;> first | (simp only [ua, sk, bE, bp, br, gq, nm, seval] <;> rfl) | rfl⟩
 | cons b8 jD =>
  have fj : (decide (cl < (List.length ai.Boards : Int))) = true := g0 fV hO
  have Dp := ec fV hO
  have Dq := gA fV hO ix
  simp only [mK, hs, reduceCtorEq] at h
  obtain ⟨GQ, NI, h⟩ := optI h Dd
  try simp only [hs] at h
  simp only [vz, tyf, bM, cq, bD, ix, jd, cU, cy, mM, fj, (aT Dp), Dq, nm, seval]
  refine ktA (jC _ _ _ _ NI) ?_
  refine aZ (fun tm => tm 1 = .ptr 0 0 ∧ tm 3 = .lit (.int .i64 cl) ∧ tm 35 = .lit (.bool GQ) ∧ True) (by refine ⟨cU, cy, ?_, trivial⟩ <;> first | (simp only [ua, bM, cq, bD, jd, cU, cy, mM, fj, Dq, nm, seval] <;> rfl) | rfl) ?_
  rintro tm ⟨sm, kj, kl, _⟩
  have sn := And.intro bM (And.intro cq (And.intro bD (And.intro ix (And.intro jd (And.intro mM (And.intro fj Dq))))))
  cases mN : (GQ)
  ·simp only [mN, hs] at h
   try simp only [vz, tyf, sn, (aT Dp), sm, kj, kl, mN, nm, seval]
   replace h := Db _ h
   try dsimp only at h
   obtain rfl := kF _ h
   exact aS Tryz.results24 rfl
  simp only [mN, hs] at h
  simp only [vz, tyf, sn, (aT Dp), sm, kj, kl, mN, nm, seval]
  exact ⟨List.length jD, Nat.lt_succ_self _, by rw [lI]; refine ⟨jD, cl + 1, rfl, Int.le_trans fV (Int.le_add_one (Int.le_refl _)), eM fV hO, rfl, (show 21 ≤ eT + 15 by omega), ?_, sm, ?_, (by first | exact h | (simp only [sn, mN]; exact h))⟩ <;> first | (simp only [ua, sn, sm, kj, kl, mN, nm, seval] <;> rfl) | rfl⟩
def lX (ai : GBk) : Option (Bool) := Option.bind (sg ai) (fun r1 => cond (r1) (Option.bind (q9 ai) (fun r2 => some r2)) (some false))
theorem Ju (ai : GBk) (R : Bool) (h : lX ai = some R) : ag Tryz.prog G0 30 [.agg (cGBk ai)] (.tree (.lit (.bool R))) := by
 refine ag.runR mixed Tryz.call30 Tryz.func30 rfl (by simp [Tryz.ntmps30]; kernel_rfl) ?_
 obtain ⟨KF, h, kF, kN⟩ := cu h
 simp only [lX] at h
 obtain ⟨r3, o4, h⟩ := optI h kN
 try simp only [hs] at h
 simp only [vz, tyf, nm, seval]
 refine ktA (Nt _ _ o4) ?_
 refine aZ (fun tm => tm 1 = .ptr 0 0 ∧ tm 4 = .lit (.bool r3) ∧ True) (by refine ⟨?_, ?_, trivial⟩ <;> first | (simp only [ua, nm, seval] <;> rfl) | rfl) ?_
 rintro tm ⟨e5, e6, _⟩
 cases d7 : (r3)
 ·simp only [d7, hs] at h
  try simp only [vz, tyf, e5, e6, d7, nm, seval]
  obtain rfl := kF _ h
  exact aS Tryz.results30 rfl
 simp only [d7, hs] at h
 obtain ⟨r8, o9, h⟩ := optI h kN
 try simp only [hs] at h
 simp only [vz, tyf, e5, e6, d7, nm, seval]
 refine ktA (N6 _ _ o9) ?_
 refine aZ (fun tm => tm 5 = .lit (.bool true) ∧ tm 7 = .lit (.bool r8) ∧ True) (by refine ⟨?_, ?_, trivial⟩ <;> first | (simp only [ua, e5, e6, d7, nm, seval] <;> rfl) | rfl) ?_
 rintro tm ⟨aY, b7, _⟩
 try simp only [vz, tyf, d7, aY, b7, nm, seval]
 obtain rfl := kF _ h
 exact aS Tryz.results30 rfl




theorem rz (a n b : Int) : i9 a n b = some (inB a b n) := csome _ _
theorem je (n a b : Int) : h9 n a b = some (inB a b n) := csome _ _
theorem GR (a b : Int) : ∀ (p : List Int) (c : Int), mA a b p c = goB (p.all (inB a b))
 | [], _ => rfl
 | e :: p, c => by simp only [mA, rz, Option.bind_some, GR a b p, List.all_cons, pY]
theorem GS {l : List Int} (hl : l.length < 9223372036854775808) (a b : Int) : mB a l b = some (l.all (inB a b)) := by
 unfold mB
 rw [iq hl, cond_true, GR, m7]
 exact csome _ _ ▸ by cases l.all (inB a b) <;> rfl
def adjB : List Int → Bool
 | a :: b :: l => decide (a < b) && adjB (b :: l)
 | _ => true
theorem GU {ns : List Int} (hn : ns.length < 9223372036854775808) : ∀ (p : List Int) (c a : Int), 1 ≤ c → ns.drop (c - 1).toNat = a :: p → mD ns p c = goB (adjB (a :: p))
 | [], _, _, _, _ => rfl
 | e :: p, c, a, hc, hd => by
  have h1 := ec (by omega) hd
  have hb := (ly h1).2
  have h2 := eM (by omega) hd
  simp only [mD]
  rw [fb (by omega) (by omega), h1, Option.bind_some, GU hn p (c + 1) e (by omega) (by rw [← h2]; congr 1; omega)]
  have ea : adjB (a :: e :: p) = (decide (a < e) && adjB (e :: p)) := rfl
  rw [ea, pY]
  by_cases h : e ≤ a
  ·rw [decide_eq_true h, decide_eq_false (Int.not_lt.2 h)]; rfl
  ·rw [decide_eq_false h, decide_eq_true (Int.not_le.1 h)]; rfl
theorem Dr {l : List Int} (hl : l.length < 9223372036854775808) (a b : Int) : qq a l b = some (adjB l && l.all (inB a b)) := by
 unfold qq
 have hle : leB 0 1 = true := by decide
 rw [iq hl, cond_true, hle, cond_true, GS hl]
 cases l with
 | nil => rfl
 | cons x p =>
  have := GU hl p 1 x (Int.le_refl _) rfl
  simp only [Int.reduceToNat, List.drop_succ_cons, List.drop_zero]
  rw [this, m7, Option.bind_some]
  cases adjB (x :: p) <;> rfl
def strokeB (nb : Nat) (n : Int) (s : GBs) : Bool := inB 0 ((nb : Int) - 1) s.Board && ((inB 1 6 s.Hours.Low && inB s.Hours.Low 6 s.Hours.High) && (s.Needs.all (inB 0 (n - 1)) && adjB s.Needs))
def strokesB (nb : Nat) : Int → List GBs → Bool
 | _, [] => true
 | c, s :: l => strokeB nb c s && strokesB nb (c + 1) l
def benchB (b : GBk) : Bool := inB 0 3 b.Apprentices && ((inB 1 3 b.Boards.length && b.Boards.all (inB 0 60)) && (inB 1 6 b.Strokes.length && strokesB b.Boards.length 0 b.Strokes))
structure Len (b : GBk) : Prop where
 bo : b.Boards.length < 9223372036854775808
 st : b.Strokes.length < 9223372036854775808
 nd : ∀ s ∈ b.Strokes, s.Needs.length < 9223372036854775808
theorem Ds (a b : Int) (x : GSpan) : qp a x b = some (inB a b x.Low && inB x.Low b x.High) := by
 unfold qp inB
 by_cases h1 : a ≤ x.Low <;> by_cases h2 : x.Low ≤ x.High <;> by_cases h3 : x.High ≤ b <;> by_cases h4 : x.Low ≤ b <;> simp [h1, h2, h3, h4] <;> omega
theorem GV {b : GBk} (hb : b.Boards.length < 9223372036854775808) : ∀ (p : List GBs) (c : Int), 0 ≤ c → c + p.length < 9223372036854775808 → (∀ s ∈ p, s.Needs.length < 9223372036854775808) → mH b p c = goB (strokesB b.Boards.length c p)
 | [], _, _, _, _ => rfl
 | s :: p, c, h0, h1, h2 => by
  simp only [List.length_cons] at h1
  have hs := h2 s (List.mem_cons_self ..)
  simp only [mH, sd, rz, Option.bind_some, Ds]
  rw [fb (by omega) (by omega), fb (by omega) (by omega), Dr hs, GV hb p (c + 1) (by omega) (by omega) (fun s hs => h2 s (List.mem_cons_of_mem _ hs))]
  simp only [strokesB, strokeB, pY, Option.bind_some]
  cases inB 0 ((b.Boards.length : Int) - 1) s.Board <;> cases inB 1 6 s.Hours.Low <;> cases inB s.Hours.Low 6 s.Hours.High <;> cases s.Needs.all (inB 0 (c - 1)) <;> cases adjB s.Needs <;> rfl
theorem vT {b : GBk} (h : Len b) : i7 b = some (benchB b) := by
 unfold i7 benchB sc se
 simp only [rz, Option.bind_some, GS h.bo]
 rw [iq h.st, cond_true, GV h.bo b.Strokes 0 (Int.le_refl _) (by have := h.st; omega) h.nd, m7]
 cases inB 0 3 b.Apprentices <;> cases inB 1 3 (b.Boards.length : Int) <;> cases b.Boards.all (inB 0 60) <;> cases inB 1 6 (b.Strokes.length : Int) <;> cases strokesB b.Boards.length 0 b.Strokes <;> rfl
def adjF (a : Option Int) : List Int → Bool
 | [] => true
 | e :: l => (match a with | some x => decide (x < e) | none => true) && adjF (some e) l
theorem GW : ∀ (l : List Int) (a : Int), adjF (some a) l = adjB (a :: l)
 | [], _ => rfl
 | e :: l, a => by unfold adjF adjB; rw [GW l e]
theorem Dt (l : List Int) : adjF none l = adjB l := by
 cases l with
 | nil => rfl
 | cons e l => unfold adjF; rw [GW l e]; rfl
theorem GX {n : Int} (hn : -9223372036854775807 ≤ n) (sM : n < 9223372036854775808) {s : GBs} (hl : s.Needs.length < 9223372036854775808) : ∀ (p : List Int) (c : Int) (a : Option Int), 0 ≤ c → s.Needs.drop c.toNat = p → (c = 0 ∧ a = none ∨ 0 < c ∧ getI s.Needs (c - 1) = a ∧ a ≠ none) →
  lE n s p c = goB (p.all (inB 0 (n - 1)) && adjF a p)
 | [], _, _, _, _, _ => rfl
 | e :: p, c, a, h0, hd, ha => by
  have h1 := ec h0 hd
  have hb := (ly h1).2
  simp only [lE, je, Option.bind_some]
  rw [fb (by omega) (by omega), GX hn sM hl p (c + 1) (some e) (by omega) (eM h0 hd) (.inr ⟨by omega, by rw [show c + 1 - 1 = c by omega]; exact h1, by simp⟩)]
  simp only [List.all_cons, adjF]
  rcases ha with ⟨rfl, rfl⟩ | ⟨hc, ha, hne⟩
  ·cases inB 0 (n - 1) e <;> cases p.all (inB 0 (n - 1)) <;> cases adjF (some e) p <;> rfl
  ·rw [fb (by omega) (by omega), ha, decide_eq_true (show c > 0 from hc)]
   cases a with
   | none => exact absurd rfl hne
   | some x =>
    simp only [cond_true, Option.bind_some]
    by_cases h : e ≤ x
    ·rw [decide_eq_true h, decide_eq_false (Int.not_lt.2 h)]
     cases inB 0 (n - 1) e <;> simp [goB]
    ·rw [decide_eq_false h, decide_eq_true (Int.not_le.1 h)]
     cases inB 0 (n - 1) e <;> cases p.all (inB 0 (n - 1)) <;> cases adjF (some e) p <;> rfl
theorem Du {b : GBk} (h : Len b) {n : Int} {s : GBs} (hs : getI b.Strokes n = some s) : qv b n = some (strokeB b.Boards.length n s) := by
 have hb := ly hs
 have hst := h.st
 have hl := h.nd s (Co hs)
 have hbo := h.bo
 unfold qv strokeB
 simp only [hs, Option.bind_some, je]
 rw [fb (by omega) (by omega), iq hl, cond_true, GX (by omega) (by omega) hl s.Needs 0 none (Int.le_refl _) rfl (.inl ⟨rfl, rfl⟩), m7, Dt]
 cases inB 0 ((b.Boards.length : Int) - 1) s.Board <;> cases inB 1 6 s.Hours.Low <;> cases inB s.Hours.Low 6 s.Hours.High <;> cases s.Needs.all (inB 0 (n - 1)) <;> cases adjB s.Needs <;> rfl
theorem GY : ∀ (p : List Int) (c : Int), mK p c = goB (p.all (inB 0 60))
 | [], _ => rfl
 | e :: p, c => by simp only [mK, je, Option.bind_some, GY p, List.all_cons, pY]
theorem GZ {b : GBk} (h : Len b) : ∀ (p : List GBs) (c : Int), 0 ≤ c → b.Strokes.drop c.toNat = p → mJ b p c = goB (strokesB b.Boards.length c p)
 | [], _, _, _ => rfl
 | s :: p, c, h0, hd => by
  simp only [mJ, Du h (ec h0 hd), Option.bind_some, GZ h p (c + 1) (by omega) (eM h0 hd), strokesB, pY]
theorem Dv {b : GBk} (h : Len b) : q9 b = some (benchB b) := by
 unfold q9 benchB
 simp only [je, Option.bind_some]
 rw [iq h.bo, iq h.st, GY, GZ h b.Strokes 0 (Int.le_refl _) rfl, m7, m7]
 cases inB 0 3 b.Apprentices <;> cases inB 1 3 (b.Boards.length : Int) <;> cases b.Boards.all (inB 0 60) <;> cases inB 1 6 (b.Strokes.length : Int) <;> cases strokesB b.Boards.length 0 b.Strokes <;> rfl
theorem zr {b : GBk} {n h : Int} {s : GBs} (hs : getI b.Strokes n = some s) : po b n h = some (h == 0 || !s.Round) := by
 unfold po
 cases h == 0 <;> simp [hs]
structure BOk (b : GBk) : Prop where
 ap : 0 ≤ b.Apprentices ∧ b.Apprentices ≤ 3
 nb : 1 ≤ b.Boards.length ∧ b.Boards.length ≤ 3
 bo : ∀ x ∈ b.Boards, 0 ≤ x ∧ x ≤ 60
 ns : 1 ≤ b.Strokes.length ∧ b.Strokes.length ≤ 6
 st : ∀ (i : Nat) s, b.Strokes[i]? = some s → strokeB b.Boards.length i s = true
theorem He {nb : Nat} : ∀ (p : List GBs) (c : Int), strokesB nb c p = true ↔ ∀ (i : Nat) s, p[i]? = some s → strokeB nb (c + i) s = true
 | [], c => by simp [strokesB]
 | s :: p, c => by
  simp only [strokesB, Bool.and_eq_true, He p]
  constructor
  ·rintro ⟨h1, h2⟩ i x hx
   cases i with
   | zero => simp at hx; subst hx; simpa using h1
   | succ i => have := h2 i x (by simpa using hx); rw [show c + (i + 1 : Nat) = c + 1 + i by omega]; exact this
  ·intro h
   refine ⟨by have := h 0 s rfl; simpa using this, fun i x hx => ?_⟩
   have := h (i + 1) x (by simpa using hx)
   rw [show c + (i + 1 : Nat) = c + 1 + i by omega] at this
   exact this
theorem kJ {b : GBk} : benchB b = true ↔ BOk b := by
 unfold benchB
 simp only [Bool.and_eq_true, vU, List.all_eq_true, He]
 constructor
 ·rintro ⟨h1, ⟨h2, h3⟩, h4, h5⟩
  exact ⟨h1, by omega, h3, by omega, fun i s hs => by have := h5 i s hs; simpa using this⟩
 ·rintro ⟨h1, h2, h3, h4, h5⟩
  exact ⟨h1, ⟨by omega, h3⟩, by omega, fun i s hs => by have := h5 i s hs; simpa using this⟩
structure SOk (nb : Nat) (n : Int) (s : GBs) : Prop where
 bo : 0 ≤ s.Board ∧ s.Board < nb
 hr : 1 ≤ s.Hours.Low ∧ s.Hours.Low ≤ s.Hours.High ∧ s.Hours.High ≤ 6
 nd : ∀ k ∈ s.Needs, 0 ≤ k ∧ k < n
 ad : adjB s.Needs = true
theorem NJ {nb : Nat} {n : Int} {s : GBs} : strokeB nb n s = true ↔ SOk nb n s := by
 unfold strokeB
 simp only [Bool.and_eq_true, vU, List.all_eq_true]
 constructor
 ·rintro ⟨h1, ⟨h2, h3⟩, h4, h5⟩
  exact ⟨by omega, by omega, fun k hk => by have := h4 k hk; omega, h5⟩
 ·rintro ⟨h1, h2, h3, h4⟩
  exact ⟨by omega, ⟨by omega, by omega⟩, fun k hk => by have := h3 k hk; omega, h4⟩
theorem BOk.s {b : GBk} (h : BOk b) {i : Nat} {s : GBs} (hs : b.Strokes[i]? = some s) : SOk b.Boards.length i s := NJ.1 (h.st i s hs)
structure POk (b : GBk) (pl : List Int) : Prop where
 len : pl.length = b.Strokes.length
 may : ∀ (i : Nat) s h, b.Strokes[i]? = some s → pl[i]? = some h → (0 ≤ h ∧ h ≤ b.Apprentices) ∧ (h = 0 ∨ s.Round = false)
end Go.V
end
section
namespace Go.V
open Go Go.Proofs IntKind
def stepsB (m : List Int → Int → Bool) (lim : Nat) : List Int → List Int → Bool
 | _, [] => true
 | p, j :: t => (decide (0 ≤ j) && decide (j < (lim : Int))) && (m p j && stepsB m lim (p ++ [j]) t)
theorem rM {m : List Int → Int → Bool} {lim : Nat} : ∀ (d : Nat) (p q : List Int), q ∈ listsB m lim d p ↔ ∃ t, q = p ++ t ∧ t.length = d ∧ stepsB m lim p t = true
 | 0, p, q => by
  rw [listsB, List.mem_singleton]
  constructor
  ·rintro rfl; exact ⟨[], by simp, rfl, rfl⟩
  ·rintro ⟨t, rfl, ht, _⟩
   rw [List.length_eq_zero_iff.1 ht, List.append_nil]
 | d + 1, p, q => by
  rw [listsB, List.mem_flatMap]
  constructor
  ·rintro ⟨i, hi, h⟩
   have hi' := (List.mem_range'_1.1 hi).2
   split at h
   ·rename_i hm
    obtain ⟨t, rfl, ht, hs⟩ := (rM d _ q).1 h
    exact ⟨(i : Int) :: t, by simp, by simp [ht], by simp only [stepsB, hm, hs, Bool.and_true, Bool.and_eq_true, decide_eq_true_eq]; omega⟩
   ·cases h
  ·rintro ⟨t, rfl, ht, hs⟩
   cases t with
   | nil => simp at ht
   | cons j t =>
    simp only [stepsB, Bool.and_eq_true, decide_eq_true_eq] at hs
    obtain ⟨⟨h0, h1⟩, h2, h3⟩ := hs
    refine ⟨j.toNat, List.mem_range'_1.2 ⟨Nat.zero_le _, by omega⟩, ?_⟩
    rw [show ((j.toNat : Nat) : Int) = j by omega, if_pos h2]
    exact (rM d _ _).2 ⟨t, by simp, by simpa using ht, h3⟩
section
variable {K V : Type} {q : K → K → Bool} {z : V}
def setR (q : K → K → Bool) (k : K) (v : V) : List (K × V) → List (K × V)
 | [] => [(k, v)]
 | e :: l => if q k e.1 then (k, v) :: l else e :: setR q k v l
theorem qB (k : K) : ∀ (es : List K) (i : Nat), kIdx q k es (i + 1) = (kIdx q k es i).map (· + 1)
 | [], _ => rfl
 | e :: es, i => by
  unfold kIdx
  cases q k e with
  | true => rfl
  | false => exact qB k es (i + 1)
theorem Hf (k : K) (v : V) : ∀ l : List (K × V), mapSet q l k v = setR q k v l
 | [] => rfl
 | e :: l => by
  have ih := Hf k v l
  unfold mapSet at ih ⊢
  rw [List.map_cons]
  unfold kIdx setR
  cases hq : q k e.1 with
  | true => rfl
  | false =>
   simp only [cond_false, Bool.false_eq_true, if_false]
   rw [qB]
   cases h : kIdx q k (l.map (·.1)) 0 with
   | none => rw [h] at ih; simpa using ih
   | some i => rw [h] at ih; simpa using ih
end
end Go.V
end
section
namespace Go.V
open Go Go.Proofs IntKind





end Go.V
end
section
namespace Go.V
open Go Go.Proofs IntKind
theorem Len.of {b : GBk} (h : lenOk b.Boards = true ∧ lenOk b.Strokes = true ∧ ∀ y ∈ b.Strokes, lenOk y.Needs = true) : Len b := ⟨Cn h.1, Cn h.2.1, fun s hs => Cn (h.2.2 s hs)⟩
theorem qC : ∀ (p : List GBs) (c : Int), lD p c = some (.go ()) ∨ lD p c = some (.ret false)
 | [], c => .inl rfl
 | s :: p, c => by
  simp only [lD]
  cases decide (c < 9) with
  | false => exact .inl rfl
  | true =>
   cases decide ((s.Needs.length : Int) > 8) with
   | true => exact .inr rfl
   | false => exact qC p (c + 1)
theorem J5 {b : GBk} (h : Len b) : lX b = some false ∨ (lX b = some true ∧ BOk b) := by
 unfold lX sg
 rw [iq h.st, cond_true, Dv h]
 rcases qC b.Strokes 0 with e | e
 ·rw [e]
  simp only [lbind]
  cases h1 : (decide ((b.Boards.length : Int) ≤ 5)) with
  | false => exact .inl rfl
  | true =>
   cases h2 : (decide ((b.Strokes.length : Int) ≤ 8)) with
   | false => exact .inl rfl
   | true =>
    cases h3 : benchB b with
    | false => exact .inl rfl
    | true => exact .inr ⟨rfl, kJ.1 h3⟩
 ·rw [e]; exact .inl rfl
theorem BOk.len {b : GBk} (h : BOk b) (hl : ∀ s ∈ b.Strokes, s.Needs.length < 9223372036854775808) : Len b := ⟨by have := h.nb; omega, by have := h.ns; omega, hl⟩
structure HOk (n : Int) (s : GBs) : Prop where
 nd : ∀ k ∈ s.Needs, 0 ≤ k ∧ k < n
 ad : adjB s.Needs = true
 hr : 0 ≤ s.Hours.Low ∧ s.Hours.Low ≤ 15 ∧ 0 ≤ s.Hours.High ∧ s.Hours.High ≤ 15
structure BH (b : GBk) : Prop where
 ns : 1 ≤ b.Strokes.length ∧ b.Strokes.length ≤ 6
 s : ∀ {i : Nat} {s : GBs}, b.Strokes[i]? = some s → HOk i s
theorem BOk.h {b : GBk} (h : BOk b) : BH b := ⟨h.ns, fun hs => by have := h.s hs; have h2 := this.hr; exact ⟨this.nd, this.ad, by omega⟩⟩
def nF (b : GBk) (s : Nat) : List Int := match b.Strokes[s]? with | some x => x.Needs | none => []
def dF (b : GBk) (h : Int) (s : Nat) : Int := match b.Strokes[s]? with | some x => if h = 0 then x.Hours.Low else x.Hours.High | none => 0
def hF (pl : List Int) (s : Nat) : Int := (pl[s]?).getD 0
def EE (b : GBk) (pl : List Int) (h : Int) (s : Nat) : Int := Ed (hF pl) (nF b) (dF b h) s
def BB (b : GBk) (pl : List Int) (h : Int) (s : Nat) : Int := Bg (hF pl) (nF b) (dF b h) s
def FF (b : GBk) (pl : List Int) (h : Int) (s : Nat) : Int := frF (hF pl) (EE b pl h) (hF pl s) s
theorem BH.nd {b : GBk} (h : BH b) : NdOk (nF b) := by
 intro s k hk
 unfold nF at hk
 split at hk
 ·rename_i x hx
  have := (h.s hx).nd k hk
  omega
 ·cases hk
theorem BH.d {b : GBk} (h : BH b) (hr : Int) (s : Nat) : 0 ≤ dF b hr s ∧ dF b hr s ≤ 15 := by
 unfold dF
 split
 ·rename_i x hx
  have := (h.s hx).hr
  split <;> omega
 ·omega
theorem EE_b {b : GBk} (h : BH b) (pl : List Int) (hr : Int) {s : Nat} (hs : s < b.Strokes.length) : 0 ≤ EE b pl hr s ∧ EE b pl hr s ≤ 90 := by
 have h1 := Ed_nn (hd := hF pl) h.nd (fun k => (h.d hr k).1) s
 have h2 := Cs (hd := hF pl) h.nd (h.d hr) s
 have := h.ns
 unfold EE
 omega
theorem EE_eq {b : GBk} (h : BH b) (pl : List Int) (hr : Int) (s : Nat) : EE b pl hr s = BB b pl hr s + dF b hr s := Ed_eq h.nd s
theorem BB_b {b : GBk} (h : BH b) (pl : List Int) (hr : Int) {s : Nat} (hs : s < b.Strokes.length) : 0 ≤ BB b pl hr s ∧ BB b pl hr s ≤ 90 := by
 have h1 := EE_b h pl hr hs
 have h2 := h.d hr s
 have h3 := Bg_nn (hd := hF pl) (nd := nF b) (d := dF b hr) s
 rw [EE_eq h] at h1
 have h3 : 0 ≤ BB b pl hr s := h3
 omega
theorem Dw {b : GBk} (pl : List Int) (hr : Int) (s : Nat) : BB b pl hr s = max (max 0 (FF b pl hr s)) (mxL ((nF b s).map fun k => EE b pl hr k.toNat)) := rfl
def InvE (b : GBk) (pl : List Int) (l : List (GBe × Int)) : Prop := ∀ p ∈ l, p.2 = EE b pl p.1.hours p.1.stroke.toNat
theorem InvE.nil {b : GBk} {pl : List Int} : InvE b pl [] := fun _ h => by cases h
theorem InvE.has {b : GBk} {pl : List Int} {l : List (GBe × Int)} (h : InvE b pl l) {k : GBe} (hk : mapHas bK l k = true) : mapGet bK 0 l k = EE b pl k.hours k.stroke.toNat := by
 unfold mapHas at hk
 unfold mapGet
 cases hi : kIdx bK k (l.map (·.1)) 0 with
 | none => rw [hi] at hk; cases hk
 | some i =>
  obtain ⟨_, e, he, hq⟩ := qU _ _ _ hi
  rw [Nat.sub_zero, List.getElem?_map] at he
  cases hg : l[i]? with
  | none => rw [hg] at he; cases he
  | some p =>
   rw [hg] at he
   simp only [Option.map_some, Option.some.injEq] at he
   have hpe := gN _ _ hq
   have hv := h p (List.mem_of_getElem? hg)
   rw [he, ← hpe] at hv
   simp only [hg, hv]
theorem Hg {K V : Type} {q : K → K → Bool} {k : K} {v : V} : ∀ {l : List (K × V)} {p : K × V}, p ∈ setR q k v l → p ∈ l ∨ p.2 = v ∧ (p.1 = k ∨ q k p.1 = true)
 | [], p, h => by
  simp only [setR, List.mem_singleton] at h
  exact .inr ⟨by rw [h], .inl (by rw [h])⟩
 | a :: l, p, h => by
  unfold setR at h
  split at h
  ·rename_i hq
   rcases List.mem_cons.1 h with rfl | h
   ·exact .inr ⟨rfl, .inl rfl⟩
   ·exact .inl (List.mem_cons_of_mem _ h)
  ·rcases List.mem_cons.1 h with rfl | h
   ·exact .inl (List.mem_cons_self ..)
   ·exact (Hg h).imp (List.mem_cons_of_mem _) id
theorem InvE.set {b : GBk} {pl : List Int} {l : List (GBe × Int)} (h : InvE b pl l) (s hr : Int) : InvE b pl (mapSet bK l ⟨s, hr⟩ (EE b pl hr s.toNat)) := by
 intro p hp
 rw [Hf] at hp
 rcases Hg hp with hp | ⟨h1, h2⟩
 ·exact h p hp
 ·have e : p.1 = ⟨s, hr⟩ := by
   rcases h2 with h2 | h2
   ·exact h2
   ·exact (gN _ _ h2).symm
  rw [h1, e]
abbrev RC := GBk → List Int → Int → Int → List (GBe × Int) → Option (Int × List (GBe × Int))
def RcOk (rc : RC) (b : GBk) (pl : List Int) (h : Int) (n : Nat) : Prop := ∀ (k : Int) l, 0 ≤ k → k.toNat < n → InvE b pl l → ∃ l', rc b pl k h l = some (EE b pl h k.toNat, l') ∧ InvE b pl l'
theorem room8 {n : Nat} (h : n ≤ 1000) : roomOk 8 n = true := by simp [roomOk]; omega
theorem Hh : ∀ (p : List Int) (i c : Int), m2 p i c = some (.go (p.foldl max c))
 | [], _, _ => rfl
 | e :: p, i, c => by
  simp only [m2, Hh p, List.foldl_cons]
  have : (if c < e then e else c) = max c e := by split <;> omega
  rw [this]
theorem Dx {l : List Int} (h : l.length < 9223372036854775808) : lk l = some (mxL l) := by
 unfold lk
 rw [iq h, cond_true, Hh]
 rfl
theorem getP {pl : List Int} {n : Nat} {s : Int} (hl : pl.length = n) (h0 : 0 ≤ s) (h1 : s.toNat < n) : getI pl s = some (hF pl s.toNat) := by
 unfold getI hF
 rw [if_pos h0, List.getElem?_eq_getElem (by omega)]
 rfl
theorem qD {rc : RC} {b : GBk} {pl : List Int} {h : Int} {s : Int} {N : Nat} (hp : pl.length = N) (dJ : 0 ≤ s) (hs : s.toNat < N) (hN : N ≤ 6) (hrc : RcOk rc b pl h s.toNat) {l : List (GBe × Int)} (hl : InvE b pl l) :
  ∀ (k0 k : Nat), k < k0 → k ≤ s.toNat → ∃ l', lbind (lg rc b pl s h l k0 ((k : Int) - 1)) (fun r => some r) (fun _ => some (0, l)) (fun _ _ => none) = some (frF (hF pl) (EE b pl h) (hF pl s.toNat) k, l') ∧ InvE b pl l'
 | 0, _, hk, _ => absurd hk (Nat.not_lt_zero _)
 | k0 + 1, 0, _, _ => by
  simp only [lg]
  rw [decide_eq_false (by omega), cond_false]
  exact ⟨l, rfl, hl⟩
 | k0 + 1, k + 1, hk, hks => by
  simp only [lg]
  rw [decide_eq_true (by omega), cond_true, getP hp (by omega) (by omega), getP hp dJ hs]
  have e : (((k + 1 : Nat) : Int) - 1).toNat = k := by omega
  simp only [Option.bind_some, e]
  unfold frF
  by_cases hh : hF pl k = hF pl s.toNat
  ·obtain ⟨l', e1, hl'⟩ := hrc (((k + 1 : Nat) : Int) - 1) l (by omega) (by omega) hl
   rw [show (hF pl k == hF pl s.toNat) = true by simpa using hh, cond_true, e1, if_pos hh, e]
   exact ⟨l', rfl, hl'⟩
  ·rw [show (hF pl k == hF pl s.toNat) = false by simpa using hh, cond_false, if_neg hh, fb (by omega) (by omega), show ((k + 1 : Nat) : Int) - 1 - 1 = (k : Int) - 1 by omega]
   exact qD hp dJ hs hN hrc hl k0 k (by omega) (by omega)
theorem Dy {rc : RC} {b : GBk} {pl : List Int} {h : Int} {s : Int} {N : Nat} (hp : pl.length = N) (dJ : 0 ≤ s) (hs : s.toNat < N) (hN : N ≤ 6) (hrc : RcOk rc b pl h s.toNat) {l : List (GBe × Int)} (hl : InvE b pl l) :
  ∃ l', pK rc b pl s h l = some (FF b pl h s.toNat, l') ∧ InvE b pl l' := by
 unfold pK FF
 have := qD hp dJ hs hN hrc hl 1000000 s.toNat (by omega) (Nat.le_refl _)
 rw [fb (by omega) (by omega)]
 rw [show ((s.toNat : Nat) : Int) - 1 = s - 1 by omega] at this
 exact this
theorem Hi {rc : RC} {b : GBk} {pl : List Int} {h : Int} {n : Nat} (hrc : RcOk rc b pl h n) : ∀ (p : List Int) (i : Int) (acc : List Int) (l : List (GBe × Int)), (∀ k ∈ p, 0 ≤ k ∧ k.toNat < n) → acc.length + p.length ≤ 1000 → InvE b pl l →
  ∃ l', iP rc b pl h p i acc l = some (.go (acc ++ p.map (fun k => EE b pl h k.toNat), l')) ∧ InvE b pl l'
 | [], i, acc, l, _, _, hl => ⟨l, by simp [iP], hl⟩
 | k :: p, i, acc, l, hk, hn, hl => by
  have h1 := hk k (List.mem_cons_self ..)
  obtain ⟨l1, e1, cJ⟩ := hrc k l h1.1 h1.2 hl
  simp only [iP, e1, Option.bind_some]
  rw [room8 (by simp at hn ⊢; omega), cond_true]
  obtain ⟨l2, e2, cY⟩ := Hi hrc p (i + 1) (acc ++ [EE b pl h k.toNat]) l1 (fun k hk' => hk k (List.mem_cons_of_mem _ hk')) (by simp at hn ⊢; omega) cJ
  exact ⟨l2, by rw [e2]; simp, cY⟩
theorem Dz {rc : RC} {b : GBk} {pl : List Int} {h : Int} {n : Nat} (hrc : RcOk rc b pl h n) {p : List Int} (hk : ∀ k ∈ p, 0 ≤ k ∧ k.toNat < n) (hn : p.length ≤ 1000) {l : List (GBe × Int)} (hl : InvE b pl l) :
  ∃ l', pN rc b pl p h l = some (p.map (fun k => EE b pl h k.toNat), l') ∧ InvE b pl l' := by
 obtain ⟨l', e, hl'⟩ := Hi hrc p 0 [] l hk (by simpa using hn) hl
 unfold pN
 rw [iq (by omega), cond_true, e]
 exact ⟨l', rfl, hl'⟩
theorem qE : ∀ (l : List Int) (a : Int), adjB (a :: l) = true → ∀ m : Int, (∀ k ∈ a :: l, k < m) → (l.length : Int) < m - a
 | [], a, _, m, h => by have := h a (by simp); simp; omega
 | e :: l, a, h, m, hm => by
  have h' : (decide (a < e) && adjB (e :: l)) = true := h
  simp only [Bool.and_eq_true, decide_eq_true_eq] at h'
  have := qE l e h'.2 m (fun k hk => hm k (List.mem_cons_of_mem _ hk))
  simp only [List.length_cons]
  omega
theorem HOk.few {n : Int} {s : GBs} (h : HOk n s) (hn : n ≤ 6) : s.Needs.length ≤ 6 := by
 cases e : s.Needs with
 | nil => simp
 | cons a l =>
  have h1 := h.ad
  rw [e] at h1
  have := qE l a h1 n (fun k hk => (h.nd k (by rw [e]; exact hk)).2)
  have h2 := h.nd a (by rw [e]; simp)
  simp only [List.length_cons]
  omega
theorem getS {b : GBk} {s : Int} (h0 : 0 ≤ s) (h1 : s.toNat < b.Strokes.length) : ∃ x, getI b.Strokes s = some x ∧ b.Strokes[s.toNat]? = some x := by
 refine ⟨b.Strokes[s.toNat], ?_, List.getElem?_eq_getElem h1⟩
 unfold getI
 rw [if_pos h0, List.getElem?_eq_getElem h1]
theorem D0 {rc : RC} {b : GBk} (hb : BH b) {pl : List Int} (hp : pl.length = b.Strokes.length) {h : Int} {s : Int} (dJ : 0 ≤ s) (hs : s.toNat < b.Strokes.length) (hrc : RcOk rc b pl h s.toNat) {l : List (GBe × Int)} (hl : InvE b pl l) :
  ∃ l', pQ rc b pl s h l = some (BB b pl h s.toNat, l') ∧ InvE b pl l' := by
 have hns := hb.ns
 obtain ⟨x, e1, e2⟩ := getS dJ hs
 have hx := hb.s e2
 have hfew := hx.few (by omega)
 obtain ⟨l1, f1, cJ⟩ := Dy hp dJ hs (by omega) hrc hl
 obtain ⟨l2, f2, cY⟩ := Dz hrc (p := x.Needs) (fun k hk => by have := hx.nd k hk; omega) (by omega) cJ
 unfold pQ
 simp only [f1, e1, f2, Option.bind_some]
 rw [Dx (by simp; omega)]
 simp only [Option.bind_some]
 rw [Dx (by simp)]
 refine ⟨l2, ?_, cY⟩
 simp only [Option.bind_some, Dw, nF, e2]
 rfl
theorem D1 {b : GBk} {pl : List Int} {s : Int} (h0 : 0 ≤ s) (h1 : s.toNat < b.Strokes.length) : pS b pl s = some (dF b 0 s.toNat) := by
 obtain ⟨x, e1, e2⟩ := getS h0 h1
 simp [pS, e1, dF, e2]
theorem NK {b : GBk} {pl : List Int} {s : Int} (h0 : 0 ≤ s) (h1 : s.toNat < b.Strokes.length) : pT b pl s = some (dF b 1 s.toNat) := by
 obtain ⟨x, e1, e2⟩ := getS h0 h1
 simp [pT, e1, dF, e2]
theorem D2 {rc : RC} {b : GBk} (hb : BH b) {pl : List Int} (hp : pl.length = b.Strokes.length) {h : Int} (hh : h = 0 ∨ h = 1) {s : Int} (dJ : 0 ≤ s) (hs : s.toNat < b.Strokes.length) (hrc : RcOk rc b pl h s.toNat) {l : List (GBe × Int)} (hl : InvE b pl l) :
  ∃ l', pU rc b pl s h l = some (EE b pl h s.toNat, l') ∧ InvE b pl l' := by
 unfold pU
 cases hm : mapHas bK l ⟨s, h⟩ with
 | true =>
  rw [cond_true, hl.has hm]
  exact ⟨l, rfl, hl⟩
 | false =>
  obtain ⟨l1, e1, cJ⟩ := D0 hb hp dJ hs hrc hl
  have h1 := BB_b hb pl h hs
  have h2 := hb.d h s.toNat
  rw [cond_false, e1, Option.bind_some]
  rcases hh with rfl | rfl
  ·rw [D1 dJ hs]
   simp only [Option.bind_some, beq_self_eq_true, cond_true]
   rw [fb (by omega) (by omega), ← EE_eq hb]
   exact ⟨_, rfl, cJ.set s 0⟩
  ·rw [NK dJ hs]
   simp only [Option.bind_some, beq_self_eq_true, cond_true, show ((1 : Int) == 0) = false from rfl, cond_false]
   rw [fb (by omega) (by omega), ← EE_eq hb]
   exact ⟨_, rfl, cJ.set s 1⟩
theorem qF {b : GBk} (hb : BH b) {pl : List Int} (hp : pl.length = b.Strokes.length) {h : Int} (hh : h = 0 ∨ h = 1) : ∀ (f n : Nat), n ≤ f → n ≤ b.Strokes.length → RcOk (gEnd f) b pl h n
 | 0, n, hn, _ => fun k l h0 h1 hl => absurd h1 (by omega)
 | f + 1, n, hn, hnl => fun k l h0 h1 hl => D2 hb hp hh h0 (by omega) (qF hb hp hh f k.toNat (by omega) (by omega)) hl
section
variable {b : GBk} (hb : BH b) {pl : List Int} (hp : pl.length = b.Strokes.length) {h : Int} (hh : h = 0 ∨ h = 1) {l : List (GBe × Int)} (hl : InvE b pl l)
include hb hp hh hl
theorem D3 {s : Int} (h0 : 0 ≤ s) (h1 : s.toNat < b.Strokes.length) : ∃ l', Cj b pl s h l = some (EE b pl h s.toNat, l') ∧ InvE b pl l' :=
 qF hb hp hh 8 b.Strokes.length (by have := hb.ns; omega) (Nat.le_refl _) s l h0 h1 hl
end
section
variable {b : GBk} (hb : BH b) {pl : List Int} (hp : pl.length = b.Strokes.length) {l : List (GBe × Int)} (hl : InvE b pl l)
include hb hp hl
end
theorem Hj {b : GBk} (hb : BH b) {pl : List Int} (hp : pl.length = b.Strokes.length) : ∀ (p : List GBs) (i : Nat) (l : List (GBe × Int)), i + p.length = b.Strokes.length → InvE b pl l →
  ∃ l', lu b pl p i (tkF (EE b pl 1) i) l = some (.go (tkF (EE b pl 1) b.Strokes.length, l')) ∧ InvE b pl l'
 | [], i, l, hi, hl => ⟨l, by simp at hi; subst hi; rfl, hl⟩
 | s :: p, i, l, hi, hl => by
  simp only [List.length_cons] at hi
  obtain ⟨l1, e1, cJ⟩ := D3 hb hp (.inr rfl) hl (s := i) (by omega) (by omega)
  simp only [lu, e1, Option.bind_some]
  rw [Dx (by simp)]
  obtain ⟨l2, e2, cY⟩ := Hj hb hp p (i + 1) l1 (by omega) cJ
  refine ⟨l2, ?_, cY⟩
  rw [← e2]
  simp only [Option.bind_some, mxL, List.foldl_cons, List.foldl_nil, Int.toNat_natCast]
  have h1 := qc (EE b pl 1) i
  congr 1
  show max (max 0 (tkF (EE b pl 1) i)) (EE b pl 1 i) = max (tkF (EE b pl 1) i) (EE b pl 1 i)
  rw [Int.max_eq_right h1]
def TK (b : GBk) (pl : List Int) : Int := tkF (EE b pl 1) b.Strokes.length
theorem zm {b : GBk} (hb : BH b) {pl : List Int} (hp : pl.length = b.Strokes.length) {l : List (GBe × Int)} (hl : InvE b pl l) : ∃ l', kU b pl l = some (TK b pl, l') ∧ InvE b pl l' := by
 obtain ⟨l', e, hl'⟩ := Hj hb hp b.Strokes 0 l (by simp) hl
 unfold kU
 rw [iq (by have := hb.ns; omega), cond_true]
 have e' : lu b pl b.Strokes 0 0 l = _ := e
 rw [e']
 exact ⟨l', rfl, hl'⟩
end Go.V
end
