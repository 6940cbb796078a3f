/- Part of a proof. -/
import Derived.Test.YtmhlghgbfmcdaaaGreatDoorL1bi
set_option linter.all false
set_option maxRecDepth 4000
set_option maxHeartbeats 40000000
section
namespace Go.V
open Go Go.Proofs IntKind
def sD (ag : GBk) : Option (Bool) := Option.bind (og 0 ag.Apprentices 3) (fun r1 => cond (r1) (Option.bind (xi ag.Boards) (fun r2 => cond (r2) (Option.bind (xl ag) (fun r3 => some r3)) (some false))) (some false))
theorem L8 (ag : GBk) (R : Bool) (h : sD ag = some R) : ai Tryz.prog G0 67 [.agg (cGBk ag)] (.tree (.lit (.bool R))) := by
 refine ai.runR mixed Tryz.call67 Tryz.func67 rfl (by simp [Tryz.ntmps67]; kernel_rfl) ?_
 obtain ⟨KF, h, kF, kN⟩ := cO h
 simp only [sD] at h
 obtain ⟨r4, o5, h⟩ := optI h kN
 try simp only [hs] at h
 simp only [vz, tyf, nm, seval]
 refine ktA (tU _ _ _ _ o5) ?_
 refine bZ (fun tm => tm 1 = .ptr 0 0 ∧ tm 5 = .lit (.bool r4) ∧ True) (by refine ⟨?_, ?_, trivial⟩ <;> first | (simp only [ua, nm, seval] <;> rfl) | rfl) ?_
 rintro tm ⟨e6, e7, _⟩
 cases d8 : (r4)
 ·simp only [d8, hs] at h
  try simp only [vz, tyf, e6, e7, d8, nm, seval]
  obtain rfl := kF _ h
  exact bw Tryz.results67 rfl
 simp only [d8, hs] at h
 obtain ⟨r9, iB, h⟩ := optI h kN
 try simp only [hs] at h
 simp only [vz, tyf, e6, e7, d8, nm, seval]
 refine ktA (Nz _ _ iB) ?_
 refine bZ (fun tm => tm 1 = .ptr 0 0 ∧ tm 6 = .lit (.bool true) ∧ tm 9 = .lit (.bool r9) ∧ True) (by refine ⟨e6, ?_, ?_, trivial⟩ <;> first | (simp only [ua, e6, e7, d8, nm, seval] <;> rfl) | rfl) ?_
 rintro tm ⟨aZ, bh, aW, _⟩
 cases bY : (r9)
 ·simp only [bY, hs] at h
  try simp only [vz, tyf, d8, aZ, bh, aW, bY, nm, seval]
  obtain rfl := kF _ h
  exact bw Tryz.results67 rfl
 simp only [bY, hs] at h
 obtain ⟨ym, hT, h⟩ := optI h kN
 try simp only [hs] at h
 simp only [vz, tyf, d8, aZ, bh, aW, bY, nm, seval]
 refine ktA (N4 _ _ hT) ?_
 refine bZ (fun tm => tm 11 = .lit (.bool true) ∧ tm 13 = .lit (.bool ym) ∧ True) (by refine ⟨?_, ?_, trivial⟩ <;> first | (simp only [ua, d8, aZ, bh, aW, bY, nm, seval] <;> rfl) | rfl) ?_
 rintro tm ⟨bR, bN, _⟩
 try simp only [vz, tyf, d8, bY, bR, bN, nm, seval]
 obtain rfl := kF _ h
 exact bw Tryz.results67 rfl
def w7 (ag : GBk) (xs : Int) (fa : Int) : Option (Bool) := cond (fa == 0) (some true) (Option.bind (getI ag.Strokes xs) (fun x1 => some (!x1.Round)))
theorem R0 (ag : GBk) (xs : Int) (fa : Int) (R : Bool) (h : w7 ag xs fa = some R) : ai Tryz.prog G0 104 [.agg (cGBk ag), .lit (.int .i64 xs), .lit (.int .i64 fa)] (.tree (.lit (.bool R))) := by
 refine ai.runR mixed Tryz.call104 Tryz.func104 rfl (by simp [Tryz.ntmps104]; kernel_rfl) ?_
 obtain ⟨KF, h, kF, kN⟩ := cO h
 simp only [w7] at h
 cases d2 : (fa == 0)
 ·simp only [d2, hs] at h
  obtain ⟨x3, o4, h⟩ := optI h kN
  try simp only [hs] at h
  try simp only [vz, tyf, d2, (aJ o4), nm, seval]
  obtain rfl := kF _ h
  exact bw Tryz.results104 rfl
 simp only [d2, hs] at h
 try simp only [vz, tyf, d2, nm, seval]
 obtain rfl := kF _ h
 exact bw Tryz.results104 rfl
def sP (ag : GBk) : List Int → Int → Option (LOut (Bool) (Unit))
 | [], md => some (.go ())
 | e0 :: p0, md => Option.bind (w7 ag md e0) (fun r2 => cond (r2) (sP ag p0 (md + 1)) (some (.ret false)))
def sE (ag : GBk) (ae : List Int) : Option (Bool) := cond ((List.length ae : Int) != (List.length ag.Strokes : Int)) (some false) (Option.bind (pL 0 ae ag.Apprentices) (fun r1 => cond (r1) (cond (au ae) (lbind (sP ag ae 0) (fun r4 => some r4) (fun c3 => some true) (fun _ _ => none)) none) (some false)))
theorem L9 (ag : GBk) (ae : List Int) (R : Bool) (h : sE ag ae = some R) : ai Tryz.prog G0 68 [.agg (cGBk ag), .sl (aa eI ae) (List.length ae) false] (.tree (.lit (.bool R))) := by
 refine ai.runR mixed Tryz.call68 Tryz.func68 rfl (by simp [Tryz.ntmps68]; kernel_rfl) ?_
 obtain ⟨KF, h, kF, kN⟩ := cO h
 simp only [sE] at h
 cases d5 : ((List.length ae : Int) != (List.length ag.Strokes : Int))
 ·simp only [d5, hs] at h
  obtain ⟨r6, o7, h⟩ := optI h kN
  try simp only [hs] at h
  simp only [vz, tyf, d5, nm, seval]
  refine ktA (BY _ _ _ _ o7) ?_
  refine bZ (fun tm => tm 1 = .sl (aa eI ae) (List.length ae) false ∧ tm 2 = .ptr 0 0 ∧ tm 13 = .lit (.bool false) ∧ tm 17 = .lit (.bool r6) ∧ True) (by refine ⟨?_, ?_, ?_, ?_, trivial⟩ <;> first | (simp only [ua, d5, nm, seval] <;> rfl) | rfl) ?_
  rintro tm ⟨e8, e9, aV, aZ, _⟩
  cases bk : (r6)
  ·simp only [bk, hs] at h
   try simp only [vz, tyf, d5, e8, e9, aV, aZ, bk, nm, seval]
   obtain rfl := kF _ h
   exact bw Tryz.results68 rfl
  simp only [bk, hs] at h
  cases rG : (au ae)
  ·simp only [rG, hs] at h
   exact absurd h kN
  simp only [rG, hs] at h
  simp only [vz, tyf, d5, e8, e9, aV, aZ, bk, rG, nm, seval]
  obtain ⟨R1, h, Hi, Hj, R2, Hk⟩ := eN h kN
  obtain ⟨R3, Hl, h⟩ := call2 h
  obtain ⟨R4, rH⟩ : ∃ I : Nat → St → Prop, I = (fun m st => ∃ (pq : List Int) (dg : Int), m = List.length pq ∧ 0 ≤ dg ∧ List.drop (Int.toNat dg) ae = pq ∧ st.df = [] ∧ 18 ≤ st.nx ∧ st.H 0 = some (.cells (some 25) (cGBk ag)) ∧ st.tm 2 = .ptr 0 0 ∧ st.tm 20 = .sl (aa eI ae) (List.length ae) false ∧ st.tm 21 = .lit (.int .i64 (List.length ae : Int)) ∧ st.tm 22 = .lit (.int .i64 dg) ∧ R1 (R3 pq dg)) := ⟨_, rfl⟩
  refine loopK mixed (by kernel_rfl) R4 (List.length ae) (by rw [rH]; refine ⟨ae, 0, rfl, Int.le_refl _, rfl, rfl, (show 18 ≤ 18 by omega), ?_, e9, ?_, ?_, ?_, h⟩ <;> first | (simp only [ua, d5, e8, e9, aV, aZ, bk, nm, seval] <;> rfl) | rfl) ?_
  rintro m ⟨tm, H, w8, df⟩ hinv
  rw [rH] at hinv
  obtain ⟨pq, dg, rfl, kD, me, hdf, Hm, wC, bX, bR, bN, cq, h⟩ := hinv
  simp only at hdf Hm wC bX bR bN cq
  have yn := fg (m := 18) (b := w8) (by omega)
  subst hdf Hl
  cases pq with
  | nil =>
   have ke : (decide (dg < (List.length ae : Int))) = false := dR kD me
   simp only [sP, hs, reduceCtorEq] at h
   replace h := Hj _ h
   try dsimp only at h
   try simp only [hs] at h
   try simp only [vz, tyf, d5, bk, rG, yn, bX, bR, bN, cq, wC, ke, nm, seval]
   obtain rfl := kF _ h
   exact bw Tryz.results68 rfl
  | cons aW pq =>
   have ra : (decide (dg < (List.length ae : Int))) = true := dQ kD me
   have nM := cA kD me
   have lC := dN kD me rG
   simp only [sP, hs, reduceCtorEq] at h
   obtain ⟨iV, jO, h⟩ := optI h Hk
   try simp only [hs] at h
   simp only [vz, tyf, d5, bk, rG, yn, bX, bR, bN, cq, wC, ra, (aj nM), lC, nm, seval]
   refine ktA (R0 _ _ _ _ jO) ?_
   refine bZ (fun tm => tm 2 = .ptr 0 0 ∧ tm 20 = .sl (aa eI ae) (List.length ae) false ∧ tm 21 = .lit (.int .i64 (List.length ae : Int)) ∧ tm 22 = .lit (.int .i64 dg) ∧ tm 30 = .lit (.bool iV) ∧ True) (by refine ⟨bX, bR, bN, cq, ?_, trivial⟩ <;> first | (simp only [ua, d5, bk, yn, bX, bR, bN, cq, wC, ra, lC, nm, seval] <;> rfl) | rfl) ?_
   rintro tm ⟨bp, dx, dE, cQ, cG, _⟩
   have dz := And.intro d5 (And.intro bk (And.intro rG (And.intro yn (And.intro wC (And.intro ra lC)))))
   cases fD : (iV)
   ·simp only [fD, hs] at h
    try simp only [vz, tyf, dz, (aj nM), bp, dx, dE, cQ, cG, fD, nm, seval]
    replace h := Hi _ h
    try dsimp only at h
    obtain rfl := kF _ h
    exact bw Tryz.results68 rfl
   simp only [fD, hs] at h
   simp only [vz, tyf, dz, (aj nM), bp, dx, dE, cQ, cG, fD, nm, seval]
   exact ⟨List.length pq, Nat.lt_succ_self _, by rw [rH]; refine ⟨pq, dg + 1, rfl, Int.le_trans kD (Int.le_add_one (Int.le_refl _)), bJ kD me, rfl, (show 18 ≤ w8 + 13 by omega), ?_, bp, dx, dE, ?_, (by first | exact h | (simp only [dz, fD]; exact h))⟩ <;> first | (simp only [ua, dz, bp, dx, dE, cQ, cG, fD, nm, seval] <;> rfl) | rfl⟩
 simp only [d5, hs] at h
 try simp only [vz, tyf, d5, nm, seval]
 obtain rfl := kF _ h
 exact bw Tryz.results68 rfl

def qB  : List GBs → Int → Option (LOut (Bool) (Unit))
 | [], gq => some (.go ())
 | e0 :: p0, gq => cond (decide (gq < 9)) (cond (decide ((List.length e0.Needs : Int) > 8)) (some (.ret false)) (qB p0 (gq + 1))) (some (.go ()))
def s5 (ag : GBk) : Option (Bool) := cond (au ag.Strokes) (lbind (qB ag.Strokes 0) (fun r2 => some r2) (fun c1 => cond (decide ((List.length ag.Boards : Int) ≤ 5)) (some (decide ((List.length ag.Strokes : Int) ≤ 8))) (some false)) (fun _ _ => none)) none
theorem Pk (ag : GBk) (R : Bool) (h : s5 ag = some R) : ai Tryz.prog G0 18 [.agg (cGBk ag)] (.tree (.lit (.bool R))) := by
 refine ai.runR mixed Tryz.call18 Tryz.func18 rfl (by simp [Tryz.ntmps18]; kernel_rfl) ?_
 obtain ⟨KF, h, kF, kN⟩ := cO h
 simp only [s5] at h
 cases g4 : (au ag.Strokes)
 ·simp only [g4, hs] at h
  exact absurd h kN
 simp only [g4, hs] at h
 simp only [vz, tyf, g4, nm, seval]
 obtain ⟨K3, h, uz, n0, C9, qk⟩ := eN h kN
 obtain ⟨f3, ql, h⟩ := call2 h
 obtain ⟨I3, i9⟩ : ∃ I : Nat → St → Prop, I = (fun m st => ∃ (p3 : List GBs) (dW : Int), m = List.length p3 ∧ 0 ≤ dW ∧ List.drop (Int.toNat dW) ag.Strokes = p3 ∧ st.df = [] ∧ 3 ≤ st.nx ∧ st.H 0 = some (.cells (some 25) (cGBk ag)) ∧ st.tm 1 = .ptr 0 0 ∧ st.tm 3 = .lit (.int .i64 dW) ∧ K3 (f3 p3 dW)) := ⟨_, rfl⟩
 refine loopK mixed (by kernel_rfl) I3 (List.length ag.Strokes) (by rw [i9]; refine ⟨ag.Strokes, 0, rfl, Int.le_refl _, rfl, rfl, (show 3 ≤ 3 by omega), ?_, ?_, ?_, h⟩ <;> first | (simp only [ua, nm, seval] <;> rfl) | rfl) ?_
 rintro m ⟨tm, H, gy, df⟩ hinv
 rw [i9] at hinv
 obtain ⟨p3, dW, rfl, dt, eK, hdf, qm, H5, e6, e7, h⟩ := hinv
 simp only at hdf qm H5 e6 e7
 have n8 := fg (m := 3) (b := gy) (by omega)
 subst hdf ql
 cases p3 with
 | nil =>
  have d9 : (decide (dW < (List.length ag.Strokes : Int))) = false := dR dt eK
  simp only [qB, hs, reduceCtorEq] at h
  replace h := n0 _ h
  try dsimp only at h
  try simp only [hs] at h
  cases k7 : (decide ((List.length ag.Boards : Int) ≤ 5))
  ·simp only [k7, hs] at h
   try simp only [vz, tyf, g4, n8, e6, e7, H5, d9, k7, nm, seval]
   obtain rfl := kF _ h
   exact bw Tryz.results18 rfl
  simp only [k7, hs] at h
  try simp only [vz, tyf, g4, n8, e6, e7, H5, d9, k7, nm, seval]
  obtain rfl := kF _ h
  exact bw Tryz.results18 rfl
 | cons e3 p3 =>
  have gb : (decide (dW < (List.length ag.Strokes : Int))) = true := dQ dt eK
  have mK := cA dt eK
  have rI := dN dt eK g4
  simp only [qB, hs, reduceCtorEq] at h
  cases bY : (decide (dW < 9))
  ·simp only [bY, hs] at h
   replace h := n0 _ h
   try dsimp only at h
   try simp only [hs] at h
   cases fj : (decide ((List.length ag.Boards : Int) ≤ 5))
   ·simp only [fj, hs] at h
    have R5 := And.intro g4 (And.intro n8 (And.intro H5 (And.intro gb (And.intro rI (And.intro bY fj)))))
    try simp only [vz, tyf, R5, e6, e7, (aJ mK), nm, seval]
    obtain rfl := kF _ h
    exact bw Tryz.results18 rfl
   simp only [fj, hs] at h
   have R6 := And.intro g4 (And.intro n8 (And.intro H5 (And.intro gb (And.intro rI (And.intro bY fj)))))
   try simp only [vz, tyf, R6, e6, e7, (aJ mK), nm, seval]
   obtain rfl := kF _ h
   exact bw Tryz.results18 rfl
  simp only [bY, hs] at h
  cases kS : (decide ((List.length e3.Needs : Int) > 8))
  ·simp only [kS, hs] at h
   have kl := And.intro g4 (And.intro n8 (And.intro H5 (And.intro gb (And.intro rI (And.intro bY kS)))))
   simp only [vz, tyf, kl, e6, e7, (aJ mK), nm, seval]
   exact ⟨List.length p3, Nat.lt_succ_self _, by rw [i9]; refine ⟨p3, dW + 1, rfl, Int.le_trans dt (Int.le_add_one (Int.le_refl _)), bJ dt eK, rfl, (show 3 ≤ gy + 20 by omega), ?_, e6, ?_, (by first | exact h | (simp only [kl]; exact h))⟩ <;> first | (simp only [ua, kl, e6, e7, nm, seval] <;> rfl) | rfl⟩
  simp only [kS, hs] at h
  have R7 := And.intro g4 (And.intro n8 (And.intro H5 (And.intro gb (And.intro rI (And.intro bY kS)))))
  try simp only [vz, tyf, R7, e6, e7, (aJ mK), nm, seval]
  replace h := uz _ h
  try dsimp only at h
  obtain rfl := kF _ h
  exact bw Tryz.results18 rfl
def lk (kE : Int) (gu : Int) (fZ : Int) : Option (Bool) := cond (decide (kE ≥ gu)) (some (decide (kE ≤ fZ))) (some false)
theorem nX (kE : Int) (gu : Int) (fZ : Int) (R : Bool) (h : lk kE gu fZ = some R) : ai Tryz.prog G0 73 [.lit (.int .i64 kE), .lit (.int .i64 gu), .lit (.int .i64 fZ)] (.tree (.lit (.bool R))) := by
 refine ai.runR mixed Tryz.call73 Tryz.func73 rfl (by simp [Tryz.ntmps73]; kernel_rfl) ?_
 obtain ⟨KF, h, kF, kN⟩ := cO h
 simp only [lk] at h
 cases d1 : (decide (kE ≥ gu))
 ·simp only [d1, hs] at h
  try simp only [vz, tyf, d1, nm, seval]
  obtain rfl := kF _ h
  exact bw Tryz.results73 rfl
 simp only [d1, hs] at h
 try simp only [vz, tyf, d1, nm, seval]
 obtain rfl := kF _ h
 exact bw Tryz.results73 rfl
def rJ (bC : Int) (x1 : GBs) : List Int → Int → Option (LOut (Bool) (Unit))
 | [], dr => some (.go ())
 | e0 :: p0, dr => Option.bind (lk e0 0 (i64.wrap (bC - 1))) (fun r5 => cond (r5) (cond (decide (dr > 0)) (Option.bind (getI x1.Needs (i64.wrap (dr - 1))) (fun x6 => cond (decide (e0 ≤ x6)) (some (.ret false)) (rJ bC x1 p0 (dr + 1)))) (rJ bC x1 p0 (dr + 1))) (some (.ret false)))
def wD (ag : GBk) (bC : Int) : Option (Bool) := Option.bind (getI ag.Strokes bC) (fun x1 => Option.bind (lk x1.Board 0 (i64.wrap ((List.length ag.Boards : Int) - 1))) (fun r2 => cond (r2) (Option.bind (lk x1.Hours.Low 1 6) (fun r3 => cond (r3) (Option.bind (lk x1.Hours.High x1.Hours.Low 6) (fun r4 => cond (r4) (cond (au x1.Needs) (lbind (rJ bC x1 x1.Needs 0) (fun r8 => some r8) (fun c7 => some true) (fun _ _ => none)) none) (some false))) (some false))) (some false)))
theorem R8 (ag : GBk) (bC : Int) (R : Bool) (h : wD ag bC = some R) : ai Tryz.prog G0 74 [.agg (cGBk ag), .lit (.int .i64 bC)] (.tree (.lit (.bool R))) := by
 refine ai.runR mixed Tryz.call74 Tryz.func74 rfl (by simp [Tryz.ntmps74]; kernel_rfl) ?_
 obtain ⟨KF, h, kF, kN⟩ := cO h
 simp only [wD] at h
 obtain ⟨x9, iB, h⟩ := optI h kN
 try simp only [hs] at h
 obtain ⟨fX, oM, h⟩ := optI h kN
 try simp only [hs] at h
 simp only [vz, tyf, (aJ iB), nm, seval]
 refine ktA (nX _ _ _ _ oM) ?_
 refine bZ (fun tm => tm 1 = .lit (.int .i64 bC) ∧ tm 5 = .ptr 7 0 ∧ tm 18 = .lit (.bool fX) ∧ True) (by refine ⟨?_, ?_, ?_, trivial⟩ <;> first | (simp only [ua, nm, seval] <;> rfl) | rfl) ?_
 rintro tm ⟨aW, bu, bn, _⟩
 cases cm : (fX)
 ·simp only [cm, hs] at h
  try simp only [vz, tyf, (aJ iB), aW, bu, bn, cm, nm, seval]
  obtain rfl := kF _ h
  exact bw Tryz.results74 rfl
 simp only [cm, hs] at h
 obtain ⟨dJ, n4, h⟩ := optI h kN
 try simp only [hs] at h
 simp only [vz, tyf, (aJ iB), aW, bu, bn, cm, nm, seval]
 refine ktA (nX _ _ _ _ n4) ?_
 refine bZ (fun tm => tm 1 = .lit (.int .i64 bC) ∧ tm 5 = .ptr 7 0 ∧ tm 20 = .lit (.bool false) ∧ tm 24 = .lit (.bool dJ) ∧ True) (by refine ⟨aW, bu, ?_, ?_, trivial⟩ <;> first | (simp only [ua, aW, bu, bn, cm, nm, seval] <;> rfl) | rfl) ?_
 rintro tm ⟨cq, dY, dw, cC, _⟩
 cases bM : (dJ)
 ·simp only [bM, hs] at h
  try simp only [vz, tyf, (aJ iB), cm, cq, dY, dw, cC, bM, nm, seval]
  obtain rfl := kF _ h
  exact bw Tryz.results74 rfl
 simp only [bM, hs] at h
 obtain ⟨dD, kO, h⟩ := optI h kN
 try simp only [hs] at h
 simp only [vz, tyf, (aJ iB), cm, cq, dY, dw, cC, bM, nm, seval]
 refine ktA (nX _ _ _ _ kO) ?_
 refine bZ (fun tm => tm 1 = .lit (.int .i64 bC) ∧ tm 5 = .ptr 7 0 ∧ tm 27 = .lit (.bool false) ∧ tm 34 = .lit (.bool dD) ∧ True) (by refine ⟨cq, dY, ?_, ?_, trivial⟩ <;> first | (simp only [ua, cm, cq, dY, dw, cC, bM, nm, seval] <;> rfl) | rfl) ?_
 rintro tm ⟨cn, bp, dx, dE, _⟩
 cases k9 : (dD)
 ·simp only [k9, hs] at h
  try simp only [vz, tyf, (aJ iB), cm, bM, cn, bp, dx, dE, k9, nm, seval]
  obtain rfl := kF _ h
  exact bw Tryz.results74 rfl
 simp only [k9, hs] at h
 cases rK : (au x9.Needs)
 ·simp only [rK, hs] at h
  exact absurd h kN
 simp only [rK, hs] at h
 simp only [vz, tyf, (aJ iB), cm, bM, cn, bp, dx, dE, k9, rK, nm, seval]
 obtain ⟨R9, h, wE, Ho, RA, wF⟩ := eN h kN
 obtain ⟨RB, Hp, h⟩ := call2 h
 obtain ⟨RE, nY⟩ : ∃ I : Nat → St → Prop, I = (fun m st => ∃ (mV : List Int) (dk : Int), m = List.length mV ∧ 0 ≤ dk ∧ List.drop (Int.toNat dk) x9.Needs = mV ∧ st.df = [] ∧ 35 ≤ st.nx ∧ st.H 7 = some (.cells (some 49) (cGBs x9)) ∧ st.tm 1 = .lit (.int .i64 bC) ∧ st.tm 5 = .ptr 7 0 ∧ st.tm 6 = .lit (.int .i64 dk) ∧ R9 (RB mV dk)) := ⟨_, rfl⟩
 refine loopK mixed (by kernel_rfl) RE (List.length x9.Needs) (by rw [nY]; refine ⟨x9.Needs, 0, rfl, Int.le_refl _, rfl, rfl, (show 35 ≤ 35 by omega), ?_, cn, bp, ?_, h⟩ <;> first | (simp only [ua, cm, bM, cn, bp, dx, dE, k9, nm, seval] <;> rfl) | rfl) ?_
 rintro m ⟨tm, H, rL, df⟩ hinv
 rw [nY] at hinv
 obtain ⟨mV, dk, rfl, jc, kG, hdf, Hq, wG, di, dH, fF, h⟩ := hinv
 simp only at hdf Hq wG di dH fF
 have yo := fg (m := 35) (b := rL) (by omega)
 subst hdf Hp
 cases mV with
 | nil =>
  have RF : (decide (dk < (List.length x9.Needs : Int))) = false := dR jc kG
  simp only [rJ, hs, reduceCtorEq] at h
  replace h := Ho _ h
  try dsimp only at h
  try simp only [hs] at h
  try simp only [vz, tyf, (aJ iB), cm, bM, k9, rK, yo, di, dH, fF, wG, RF, nm, seval]
  obtain rfl := kF _ h
  exact bw Tryz.results74 rfl
 | cons cG mV =>
  have fI : (decide (dk < (List.length x9.Needs : Int))) = true := dQ jc kG
  have oV := cA jc kG
  have Hr := dN jc kG rK
  simp only [rJ, hs, reduceCtorEq] at h
  simp only [vz, tyf, (aJ iB), cm, bM, k9, rK, yo, di, dH, fF, wG, fI, (aj oV), Hr, nm, seval]
  refine iD (fun tm => tm 1 = .lit (.int .i64 bC) ∧ tm 5 = .ptr 7 0 ∧ tm 6 = .lit (.int .i64 dk) ∧ True) (by refine ⟨di, dH, fF, trivial⟩ <;> first | (simp only [ua, cm, bM, k9, yo, di, dH, fF, wG, fI, Hr, nm, seval] <;> rfl) | rfl) ?_
  rintro tm ⟨bz, b4, bG, _⟩
  have mW := And.intro cm (And.intro bM (And.intro k9 (And.intro rK (And.intro yo (And.intro wG (And.intro fI Hr))))))
  obtain ⟨M3, RG, h⟩ := optI h wF
  try simp only [hs] at h
  simp only [vz, tyf, mW, (aJ iB), (aj oV), bz, b4, bG, nm, seval]
  refine dktA (nX _ _ _ _ RG) ?_
  refine bZ (fun tm => tm 1 = .lit (.int .i64 bC) ∧ tm 5 = .ptr 7 0 ∧ tm 6 = .lit (.int .i64 dk) ∧ tm 51 = .lit (.bool M3) ∧ True) (by refine ⟨bz, b4, bG, ?_, trivial⟩ <;> first | (simp only [ua, mW, bz, b4, bG, nm, seval] <;> rfl) | rfl) ?_
  rintro tm ⟨dq, iJ, lz, l3, _⟩
  cases fL : (M3)
  ·simp only [fL, hs] at h
   try simp only [vz, tyf, mW, (aJ iB), (aj oV), dq, iJ, lz, l3, fL, nm, seval]
   replace h := wE _ h
   try dsimp only at h
   obtain rfl := kF _ h
   exact bw Tryz.results74 rfl
  simp only [fL, hs] at h
  cases iA : (decide (dk > 0))
  ·simp only [iA, hs] at h
   simp only [vz, tyf, mW, (aJ iB), (aj oV), dq, iJ, lz, l3, fL, iA, nm, seval]
   exact ⟨List.length mV, Nat.lt_succ_self _, by rw [nY]; refine ⟨mV, dk + 1, rfl, Int.le_trans jc (Int.le_add_one (Int.le_refl _)), bJ jc kG, rfl, (show 35 ≤ rL + 35 by omega), ?_, dq, iJ, ?_, (by first | exact h | (simp only [mW, fL, iA]; exact h))⟩ <;> first | (simp only [ua, mW, dq, iJ, lz, l3, fL, iA, nm, seval] <;> rfl) | rfl⟩
  simp only [iA, hs] at h
  obtain ⟨RH, m8, h⟩ := optI h wF
  try simp only [hs] at h
  cases sQ : (decide (cG ≤ RH))
  ·simp only [sQ, hs] at h
   simp only [vz, tyf, mW, (aJ iB), (aj oV), dq, iJ, lz, l3, fL, iA, (aj m8), sQ, nm, seval]
   exact ⟨List.length mV, Nat.lt_succ_self _, by rw [nY]; refine ⟨mV, dk + 1, rfl, Int.le_trans jc (Int.le_add_one (Int.le_refl _)), bJ jc kG, rfl, (show 35 ≤ rL + 35 by omega), ?_, dq, iJ, ?_, (by first | exact h | (simp only [mW, fL, iA, sQ]; exact h))⟩ <;> first | (simp only [ua, mW, dq, iJ, lz, l3, fL, iA, sQ, nm, seval] <;> rfl) | rfl⟩
  simp only [sQ, hs] at h
  try simp only [vz, tyf, mW, (aJ iB), (aj oV), dq, iJ, lz, l3, fL, iA, (aj m8), sQ, nm, seval]
  replace h := wE _ h
  try dsimp only at h
  obtain rfl := kF _ h
  exact bw Tryz.results74 rfl
def sR (ag : GBk) : List GBs → Int → Option (LOut (Bool) (Unit))
 | [], rM => some (.go ())
 | e1 :: p1, rM => Option.bind (wD ag rM) (fun r6 => cond (r6) (sR ag p1 (rM + 1)) (some (.ret false)))
def sS  : List Int → Int → Option (LOut (Bool) (Unit))
 | [], gq => some (.go ())
 | e0 :: p0, gq => Option.bind (lk e0 0 60) (fun r4 => cond (r4) (sS p0 (gq + 1)) (some (.ret false)))
def vo (ag : GBk) : Option (Bool) := Option.bind (lk ag.Apprentices 0 3) (fun r1 => cond (r1) (Option.bind (lk (List.length ag.Boards : Int) 1 3) (fun r2 => cond (r2) (Option.bind (lk (List.length ag.Strokes : Int) 1 6) (fun r3 => cond (r3) (cond (au ag.Boards) (lbind (sS ag.Boards 0) (fun r9 => some r9) (fun c5 => cond (au ag.Strokes) (lbind (sR ag ag.Strokes 0) (fun r8 => some r8) (fun c7 => some true) (fun _ _ => none)) none) (fun _ _ => none)) none) (some false))) (some false))) (some false))
theorem Po (ag : GBk) (R : Bool) (h : vo ag = some R) : ai Tryz.prog G0 24 [.agg (cGBk ag)] (.tree (.lit (.bool R))) := by
 refine ai.runR mixed Tryz.call24 Tryz.func24 rfl (by simp [Tryz.ntmps24]; kernel_rfl) ?_
 obtain ⟨KF, h, kF, kN⟩ := cO h
 simp only [vo] at h
 obtain ⟨km, iP, h⟩ := optI h kN
 try simp only [hs] at h
 simp only [vz, tyf, nm, seval]
 refine ktA (nX _ _ _ _ iP) ?_
 refine bZ (fun tm => tm 1 = .ptr 0 0 ∧ tm 7 = .lit (.bool km) ∧ True) (by refine ⟨?_, ?_, trivial⟩ <;> first | (simp only [ua, nm, seval] <;> rfl) | rfl) ?_
 rintro tm ⟨bh, aW, _⟩
 cases bY : (km)
 ·simp only [bY, hs] at h
  try simp only [vz, tyf, bh, aW, bY, nm, seval]
  obtain rfl := kF _ h
  exact bw Tryz.results24 rfl
 simp only [bY, hs] at h
 obtain ⟨ym, hT, h⟩ := optI h kN
 try simp only [hs] at h
 simp only [vz, tyf, bh, aW, bY, nm, seval]
 refine ktA (nX _ _ _ _ hT) ?_
 refine bZ (fun tm => tm 1 = .ptr 0 0 ∧ tm 9 = .lit (.bool false) ∧ tm 13 = .lit (.bool ym) ∧ True) (by refine ⟨bh, ?_, ?_, trivial⟩ <;> first | (simp only [ua, bh, aW, bY, nm, seval] <;> rfl) | rfl) ?_
 rintro tm ⟨bR, bN, cq, _⟩
 cases dm : (ym)
 ·simp only [dm, hs] at h
  try simp only [vz, tyf, bY, bR, bN, cq, dm, nm, seval]
  obtain rfl := kF _ h
  exact bw Tryz.results24 rfl
 simp only [dm, hs] at h
 obtain ⟨vZ, lB, h⟩ := optI h kN
 try simp only [hs] at h
 simp only [vz, tyf, bY, bR, bN, cq, dm, nm, seval]
 refine ktA (nX _ _ _ _ lB) ?_
 refine bZ (fun tm => tm 1 = .ptr 0 0 ∧ tm 16 = .lit (.bool false) ∧ tm 20 = .lit (.bool vZ) ∧ True) (by refine ⟨bR, ?_, ?_, trivial⟩ <;> first | (simp only [ua, bY, bR, bN, cq, dm, nm, seval] <;> rfl) | rfl) ?_
 rintro tm ⟨cM, bK, cg, _⟩
 cases fC : (vZ)
 ·simp only [fC, hs] at h
  try simp only [vz, tyf, bY, dm, cM, bK, cg, fC, nm, seval]
  obtain rfl := kF _ h
  exact bw Tryz.results24 rfl
 simp only [fC, hs] at h
 cases iO : (au ag.Boards)
 ·simp only [iO, hs] at h
  exact absurd h kN
 simp only [iO, hs] at h
 simp only [vz, tyf, bY, dm, cM, bK, cg, fC, iO, nm, seval]
 obtain ⟨Cr, h, um, pX, Cs, l8⟩ := eN h kN
 obtain ⟨Ct, pY, h⟩ := call2 h
 obtain ⟨Cu, jz⟩ : ∃ I : Nat → St → Prop, I = (fun m st => ∃ (jh : List Int) (fb : Int), m = List.length jh ∧ 0 ≤ fb ∧ List.drop (Int.toNat fb) ag.Boards = jh ∧ st.df = [] ∧ 21 ≤ st.nx ∧ st.H 0 = some (.cells (some 25) (cGBk ag)) ∧ st.tm 1 = .ptr 0 0 ∧ st.tm 3 = .lit (.int .i64 fb) ∧ Cr (Ct jh fb)) := ⟨_, rfl⟩
 refine loopK mixed (by kernel_rfl) Cu (List.length ag.Boards) (by rw [jz]; refine ⟨ag.Boards, 0, rfl, Int.le_refl _, rfl, rfl, (show 21 ≤ 21 by omega), ?_, cM, ?_, h⟩ <;> first | (simp only [ua, bY, dm, cM, bK, cg, fC, nm, seval] <;> rfl) | rfl) ?_
 rintro m ⟨tm, H, dp, df⟩ hinv
 rw [jz] at hinv
 obtain ⟨jh, fb, rfl, kH, mf, hdf, pZ, fh, cQ, cG, h⟩ := hinv
 simp only at hdf pZ fh cQ cG
 have nZ := fg (m := 21) (b := dp) (by omega)
 subst hdf pY
 cases jh with
 | nil =>
  have fD : (decide (fb < (List.length ag.Boards : Int))) = false := dR kH mf
  simp only [sS, hs, reduceCtorEq] at h
  replace h := pX _ h
  try dsimp only at h
  try simp only [hs] at h
  cases dP : (au ag.Strokes)
  ·simp only [dP, hs] at h
   exact absurd h kN
  simp only [dP, hs] at h
  simp only [vz, tyf, bY, dm, fC, iO, nZ, cQ, cG, fh, fD, dP, nm, seval]
  obtain ⟨GR, h, wy, rq, GS, lU⟩ := eN h kN
  obtain ⟨GU, ru, h⟩ := call2 h
  obtain ⟨GV, iZ⟩ : ∃ I : Nat → St → Prop, I = (fun m st => ∃ (iu : List GBs) (fc : Int), m = List.length iu ∧ 0 ≤ fc ∧ List.drop (Int.toNat fc) ag.Strokes = iu ∧ st.df = [] ∧ dp + 6 ≤ st.nx ∧ st.H 0 = some (.cells (some 25) (cGBk ag)) ∧ st.tm 1 = .ptr 0 0 ∧ st.tm 4 = .lit (.int .i64 fc) ∧ GR (GU iu fc)) := ⟨_, rfl⟩
  refine loopK mixed (by kernel_rfl) GV (List.length ag.Strokes) (by rw [iZ]; refine ⟨ag.Strokes, 0, rfl, Int.le_refl _, rfl, rfl, (show dp + 6 ≤ dp + 6 by omega), ?_, cQ, ?_, h⟩ <;> first | (simp only [ua, bY, dm, fC, nZ, cQ, cG, fh, fD, nm, seval] <;> rfl) | rfl) ?_
  rintro m ⟨tm, H, fP, df⟩ hinv
  rw [iZ] at hinv
  obtain ⟨iu, fc, rfl, gT, gp, hdf, rv, ja, fG, cR, h⟩ := hinv
  simp only at hdf rv ja fG cR
  have yp := fg (m := 21) (b := fP) (by omega)
  have yq := nq (a := dp) (m := 6) (b := fP) (by omega)
  subst hdf ru
  cases iu with
  | nil =>
   have u7 : (decide (fc < (List.length ag.Strokes : Int))) = false := dR gT gp
   simp only [sR, hs, reduceCtorEq] at h
   replace h := rq _ h
   try dsimp only at h
   try simp only [hs] at h
   try simp only [vz, tyf, bY, dm, fC, iO, nZ, fD, dP, yp, yq, fG, cR, ja, u7, nm, seval]
   obtain rfl := kF _ h
   exact bw Tryz.results24 rfl
  | cons di iu =>
   have jk : (decide (fc < (List.length ag.Strokes : Int))) = true := dQ gT gp
   have j6 := cA gT gp
   have j7 := dN gT gp dP
   simp only [sR, hs, reduceCtorEq] at h
   obtain ⟨M4, RI, h⟩ := optI h lU
   try simp only [hs] at h
   simp only [vz, tyf, bY, dm, fC, iO, nZ, fD, dP, yp, yq, fG, cR, ja, jk, (aJ j6), j7, nm, seval]
   refine ktA (R8 _ _ _ RI) ?_
   refine bZ (fun tm => tm 1 = .ptr 0 0 ∧ tm 4 = .lit (.int .i64 fc) ∧ tm 46 = .lit (.bool M4) ∧ True) (by refine ⟨fG, cR, ?_, trivial⟩ <;> first | (simp only [ua, bY, dm, fC, nZ, fD, yp, yq, fG, cR, ja, jk, j7, nm, seval] <;> rfl) | rfl) ?_
   rintro tm ⟨dT, dq, iJ, _⟩
   have s6 := And.intro bY (And.intro dm (And.intro fC (And.intro iO (And.intro nZ (And.intro fD (And.intro dP (And.intro yp (And.intro yq (And.intro ja (And.intro jk j7))))))))))
   cases fV : (M4)
   ·simp only [fV, hs] at h
    try simp only [vz, tyf, s6, (aJ j6), dT, dq, iJ, fV, nm, seval]
    replace h := wy _ h
    try dsimp only at h
    obtain rfl := kF _ h
    exact bw Tryz.results24 rfl
   simp only [fV, hs] at h
   simp only [vz, tyf, s6, (aJ j6), dT, dq, iJ, fV, nm, seval]
   exact ⟨List.length iu, Nat.lt_succ_self _, by rw [iZ]; refine ⟨iu, fc + 1, rfl, Int.le_trans gT (Int.le_add_one (Int.le_refl _)), bJ gT gp, rfl, (show dp + 6 ≤ fP + 12 by omega), ?_, dT, ?_, (by first | exact h | (simp only [s6, fV]; exact h))⟩ <;> first | (simp only [ua, s6, dT, dq, iJ, fV, nm, seval] <;> rfl) | rfl⟩
 | cons bp jh =>
  have fL : (decide (fb < (List.length ag.Boards : Int))) = true := dQ kH mf
  have i0 := cA kH mf
  have mr := dN kH mf iO
  simp only [sS, hs, reduceCtorEq] at h
  obtain ⟨M5, i5, h⟩ := optI h l8
  try simp only [hs] at h
  simp only [vz, tyf, bY, dm, fC, iO, nZ, cQ, cG, fh, fL, (aj i0), mr, nm, seval]
  refine ktA (nX _ _ _ _ i5) ?_
  refine bZ (fun tm => tm 1 = .ptr 0 0 ∧ tm 3 = .lit (.int .i64 fb) ∧ tm 35 = .lit (.bool M5) ∧ True) (by refine ⟨cQ, cG, ?_, trivial⟩ <;> first | (simp only [ua, bY, dm, fC, nZ, cQ, cG, fh, fL, mr, nm, seval] <;> rfl) | rfl) ?_
  rintro tm ⟨dZ, eA, eL, _⟩
  have yr := And.intro bY (And.intro dm (And.intro fC (And.intro iO (And.intro nZ (And.intro fh (And.intro fL mr))))))
  cases sU : (M5)
  ·simp only [sU, hs] at h
   try simp only [vz, tyf, yr, (aj i0), dZ, eA, eL, sU, nm, seval]
   replace h := um _ h
   try dsimp only at h
   obtain rfl := kF _ h
   exact bw Tryz.results24 rfl
  simp only [sU, hs] at h
  simp only [vz, tyf, yr, (aj i0), dZ, eA, eL, sU, nm, seval]
  exact ⟨List.length jh, Nat.lt_succ_self _, by rw [jz]; refine ⟨jh, fb + 1, rfl, Int.le_trans kH (Int.le_add_one (Int.le_refl _)), bJ kH mf, rfl, (show 21 ≤ dp + 15 by omega), ?_, dZ, ?_, (by first | exact h | (simp only [yr, sU]; exact h))⟩ <;> first | (simp only [ua, yr, dZ, eA, eL, sU, nm, seval] <;> rfl) | rfl⟩

def xH (cV : List Int) : Option (Bool) := some (decide ((List.length cV : Int) ≤ 9))
theorem Pl (cV : List Int) (R : Bool) (h : xH cV = some R) : ai Tryz.prog G0 19 [.sl (aa eI cV) (List.length cV) false] (.tree (.lit (.bool R))) := by
 refine ai.runR mixed Tryz.call19 Tryz.func19 rfl (by simp [Tryz.ntmps19]; kernel_rfl) ?_
 obtain ⟨KF, h, kF, kN⟩ := cO h
 simp only [xH] at h
 try simp only [vz, tyf, nm, seval]
 obtain rfl := kF _ h
 exact bw Tryz.results19 rfl
def rN (ag : GBk) : List Int → Int → Option (LOut (Bool) (Unit))
 | [], bL => some (.go ())
 | e0 :: p0, bL => Option.bind (lk e0 0 ag.Apprentices) (fun r1 => cond (r1) (Option.bind (getI ag.Strokes bL) (fun x2 => cond (x2.Round) (cond (e0 != 0) (some (.ret false)) (rN ag p0 (bL + 1))) (rN ag p0 (bL + 1)))) (some (.ret false)))
def vp (ag : GBk) (cX : List Int) : Option (Bool) := cond ((List.length cX : Int) != (List.length ag.Strokes : Int)) (some false) (cond (au cX) (lbind (rN ag cX 0) (fun r4 => some r4) (fun c3 => some true) (fun _ _ => none)) none)
theorem Pp (ag : GBk) (cX : List Int) (R : Bool) (h : vp ag cX = some R) : ai Tryz.prog G0 25 [.agg (cGBk ag), .sl (aa eI cX) (List.length cX) false] (.tree (.lit (.bool R))) := by
 refine ai.runR mixed Tryz.call25 Tryz.func25 rfl (by simp [Tryz.ntmps25]; kernel_rfl) ?_
 obtain ⟨KF, h, kF, kN⟩ := cO h
 simp only [vp] at h
 cases d5 : ((List.length cX : Int) != (List.length ag.Strokes : Int))
 ·simp only [d5, hs] at h
  cases g7 : (au cX)
  ·simp only [g7, hs] at h
   exact absurd h kN
  simp only [g7, hs] at h
  simp only [vz, tyf, d5, g7, nm, seval]
  obtain ⟨K6, h, yu, Hs, RJ, rO⟩ := eN h kN
  obtain ⟨f6, Ht, h⟩ := call2 h
  obtain ⟨I6, pr⟩ : ∃ I : Nat → St → Prop, I = (fun m st => ∃ (p6 : List Int) (gv : Int), m = List.length p6 ∧ 0 ≤ gv ∧ List.drop (Int.toNat gv) cX = p6 ∧ st.df = [] ∧ 9 ≤ st.nx ∧ st.H 0 = some (.cells (some 25) (cGBk ag)) ∧ st.tm 1 = .sl (aa eI cX) (List.length cX) false ∧ st.tm 2 = .ptr 0 0 ∧ st.tm 5 = .lit (.int .i64 gv) ∧ K6 (f6 p6 gv)) := ⟨_, rfl⟩
  refine loopK mixed (by kernel_rfl) I6 (List.length cX) (by rw [pr]; refine ⟨cX, 0, rfl, Int.le_refl _, rfl, rfl, (show 9 ≤ 9 by omega), ?_, ?_, ?_, ?_, h⟩ <;> first | (simp only [ua, d5, nm, seval] <;> rfl) | rfl) ?_
  rintro m ⟨tm, H, rP, df⟩ hinv
  rw [pr] at hinv
  obtain ⟨p6, gv, rfl, pv, sV, hdf, Hu, H8, e9, aV, aZ, h⟩ := hinv
  simp only at hdf Hu H8 e9 aV aZ
  have jg := fg (m := 9) (b := rP) (by omega)
  subst hdf Ht
  cases p6 with
  | nil =>
   have fB : (decide (gv < (List.length cX : Int))) = false := dR pv sV
   simp only [rN, hs, reduceCtorEq] at h
   replace h := Hs _ h
   try dsimp only at h
   try simp only [hs] at h
   try simp only [vz, tyf, d5, g7, jg, e9, aV, aZ, H8, fB, nm, seval]
   obtain rfl := kF _ h
   exact bw Tryz.results25 rfl
  | cons e6 p6 =>
   have bY : (decide (gv < (List.length cX : Int))) = true := dQ pv sV
   have hT := cA pv sV
   have sW := dN pv sV g7
   simp only [rN, hs, reduceCtorEq] at h
   simp only [vz, tyf, d5, g7, jg, e9, aV, aZ, H8, bY, (aj hT), sW, nm, seval]
   refine iD (fun tm => tm 1 = .sl (aa eI cX) (List.length cX) false ∧ tm 2 = .ptr 0 0 ∧ tm 5 = .lit (.int .i64 gv) ∧ True) (by refine ⟨e9, aV, aZ, trivial⟩ <;> first | (simp only [ua, d5, jg, e9, aV, aZ, H8, bY, sW, nm, seval] <;> rfl) | rfl) ?_
   rintro tm ⟨bR, bN, cq, _⟩
   obtain ⟨l7, oX, h⟩ := optI h rO
   try simp only [hs] at h
   simp only [vz, tyf, d5, g7, jg, H8, bY, (aj hT), sW, bR, bN, cq, nm, seval]
   refine dktA (nX _ _ _ _ oX) ?_
   refine bZ (fun tm => tm 1 = .sl (aa eI cX) (List.length cX) false ∧ tm 2 = .ptr 0 0 ∧ tm 5 = .lit (.int .i64 gv) ∧ tm 24 = .lit (.bool l7) ∧ True) (by refine ⟨bR, bN, cq, ?_, trivial⟩ <;> first | (simp only [ua, d5, jg, H8, bY, sW, bR, bN, cq, nm, seval] <;> rfl) | rfl) ?_
   rintro tm ⟨cC, cM, bK, cg, _⟩
   cases fC : (l7)
   ·simp only [fC, hs] at h
    have RK := And.intro d5 (And.intro g7 (And.intro jg (And.intro H8 (And.intro bY (And.intro sW fC)))))
    try simp only [vz, tyf, RK, (aj hT), cC, cM, bK, cg, nm, seval]
    replace h := yu _ h
    try dsimp only at h
    obtain rfl := kF _ h
    exact bw Tryz.results25 rfl
   simp only [fC, hs] at h
   have k8 := And.intro d5 (And.intro g7 (And.intro jg (And.intro H8 (And.intro bY (And.intro sW fC)))))
   obtain ⟨RL, vq, h⟩ := optI h rO
   try simp only [hs] at h
   cases gn : (RL.Round)
   ·simp only [gn, hs] at h
    simp only [vz, tyf, k8, (aj hT), cC, cM, bK, cg, (aJ vq), gn, nm, seval]
    exact ⟨List.length p6, Nat.lt_succ_self _, by rw [pr]; refine ⟨p6, gv + 1, rfl, Int.le_trans pv (Int.le_add_one (Int.le_refl _)), bJ pv sV, rfl, (show 9 ≤ rP + 30 by omega), ?_, cC, cM, ?_, (by first | exact h | (simp only [k8, gn]; exact h))⟩ <;> first | (simp only [ua, k8, cC, cM, bK, cg, gn, nm, seval] <;> rfl) | rfl | (simp only [ua, tyf, k8, cC, cM, bK, cg, gn, nm, seval] <;> rfl)⟩
   simp only [gn, hs] at h
   cases lg : (e6 != 0)
   ·simp only [lg, hs] at h
    simp only [vz, tyf, k8, (aj hT), cC, cM, bK, cg, (aJ vq), gn, lg, nm, seval]
    exact ⟨List.length p6, Nat.lt_succ_self _, by rw [pr]; refine ⟨p6, gv + 1, rfl, Int.le_trans pv (Int.le_add_one (Int.le_refl _)), bJ pv sV, rfl, (show 9 ≤ rP + 30 by omega), ?_, cC, cM, ?_, (by first | exact h | (simp only [k8, gn, lg]; exact h))⟩ <;> first | (simp only [ua, k8, cC, cM, bK, cg, gn, lg, nm, seval] <;> rfl) | rfl | (simp only [ua, tyf, k8, cC, cM, bK, cg, gn, lg, nm, seval] <;> rfl)⟩
   simp only [lg, hs] at h
   try simp only [vz, tyf, k8, (aj hT), cC, cM, bK, cg, (aJ vq), gn, lg, nm, seval]
   replace h := yu _ h
   try dsimp only at h
   obtain rfl := kF _ h
   exact bw Tryz.results25 rfl
 simp only [d5, hs] at h
 try simp only [vz, tyf, d5, nm, seval]
 obtain rfl := kF _ h
 exact bw Tryz.results25 rfl


theorem Hv (a n b : Int) : og a n b = some (inB a b n) := csome _ _
theorem mg (n a b : Int) : lk n a b = some (inB a b n) := csome _ _
theorem M6 (a b : Int) : ∀ (p : List Int) (c : Int), sa a b p c = goB (p.all (inB a b))
 | [], _ => rfl
 | e :: p, c => by simp only [sa, Hv, Option.bind_some, M6 a b p, List.all_cons, pH]
theorem Hw {l : List Int} (hl : l.length < 9223372036854775808) (a b : Int) : pL a l b = some (l.all (inB a b)) := by
 unfold pL
 rw [fA hl, cond_true, M6, oe]
 exact csome _ _ ▸ by cases l.all (inB a b) <;> rfl
def adjB : List Int → Bool
 | a :: b :: l => decide (a < b) && adjB (b :: l)
 | _ => true
theorem M7 {ns : List Int} (hn : ns.length < 9223372036854775808) : ∀ (p : List Int) (c a : Int), 1 ≤ c → ns.drop (c - 1).toNat = a :: p → sc ns p c = goB (adjB (a :: p))
 | [], _, _, _, _ => rfl
 | e :: p, c, a, hc, hd => by
  have h1 := cA (by omega) hd
  have hb := (xd h1).2
  have h2 := bJ (by omega) hd
  simp only [sc]
  rw [ix (by omega) (by omega), h1, Option.bind_some, M7 hn p (c + 1) e (by omega) (by rw [← h2]; congr 1; omega)]
  have ea : adjB (a :: e :: p) = (decide (a < e) && adjB (e :: p)) := rfl
  rw [ea, pH]
  by_cases h : e ≤ a
  ·rw [decide_eq_true h, decide_eq_false (Int.not_lt.2 h)]; rfl
  ·rw [decide_eq_false h, decide_eq_true (Int.not_le.1 h)]; rfl
theorem Hx {l : List Int} (hl : l.length < 9223372036854775808) (a b : Int) : tX a l b = some (adjB l && l.all (inB a b)) := by
 unfold tX
 have hle : leB 0 1 = true := by decide
 rw [fA hl, cond_true, hle, cond_true, Hw hl]
 cases l with
 | nil => rfl
 | cons x p =>
  have := M7 hl p 1 x (Int.le_refl _) rfl
  simp only [Int.reduceToNat, List.drop_succ_cons, List.drop_zero]
  rw [this, oe, Option.bind_some]
  cases adjB (x :: p) <;> rfl
def strokeB (nb : Nat) (n : Int) (s : GBs) : Bool := inB 0 ((nb : Int) - 1) s.Board && ((inB 1 6 s.Hours.Low && inB s.Hours.Low 6 s.Hours.High) && (s.Needs.all (inB 0 (n - 1)) && adjB s.Needs))
def strokesB (nb : Nat) : Int → List GBs → Bool
 | _, [] => true
 | c, s :: l => strokeB nb c s && strokesB nb (c + 1) l
def benchB (b : GBk) : Bool := inB 0 3 b.Apprentices && ((inB 1 3 b.Boards.length && b.Boards.all (inB 0 60)) && (inB 1 6 b.Strokes.length && strokesB b.Boards.length 0 b.Strokes))
structure Len (b : GBk) : Prop where
 bo : b.Boards.length < 9223372036854775808
 st : b.Strokes.length < 9223372036854775808
 nd : ∀ s ∈ b.Strokes, s.Needs.length < 9223372036854775808
theorem Hy (a b : Int) (x : GSpan) : tW a x b = some (inB a b x.Low && inB x.Low b x.High) := by
 unfold tW inB
 by_cases h1 : a ≤ x.Low <;> by_cases h2 : x.Low ≤ x.High <;> by_cases h3 : x.High ≤ b <;> by_cases h4 : x.Low ≤ b <;> simp [h1, h2, h3, h4] <;> omega
theorem M8 {b : GBk} (hb : b.Boards.length < 9223372036854775808) : ∀ (p : List GBs) (c : Int), 0 ≤ c → c + p.length < 9223372036854775808 → (∀ s ∈ p, s.Needs.length < 9223372036854775808) → se b p c = goB (strokesB b.Boards.length c p)
 | [], _, _, _, _ => rfl
 | s :: p, c, h0, h1, h2 => by
  simp only [List.length_cons] at h1
  have hs := h2 s (List.mem_cons_self ..)
  simp only [se, xj, Hv, Option.bind_some, Hy]
  rw [ix (by omega) (by omega), ix (by omega) (by omega), Hx hs, M8 hb p (c + 1) (by omega) (by omega) (fun s hs => h2 s (List.mem_cons_of_mem _ hs))]
  simp only [strokesB, strokeB, pH, Option.bind_some]
  cases inB 0 ((b.Boards.length : Int) - 1) s.Board <;> cases inB 1 6 s.Hours.Low <;> cases inB s.Hours.Low 6 s.Hours.High <;> cases s.Needs.all (inB 0 (c - 1)) <;> cases adjB s.Needs <;> rfl
theorem LB {b : GBk} (h : Len b) : sD b = some (benchB b) := by
 unfold sD benchB xi xl
 simp only [Hv, Option.bind_some, Hw h.bo]
 rw [fA h.st, cond_true, M8 h.bo b.Strokes 0 (Int.le_refl _) (by have := h.st; omega) h.nd, oe]
 cases inB 0 3 b.Apprentices <;> cases inB 1 3 (b.Boards.length : Int) <;> cases b.Boards.all (inB 0 60) <;> cases inB 1 6 (b.Strokes.length : Int) <;> cases strokesB b.Boards.length 0 b.Strokes <;> rfl
def adjF (a : Option Int) : List Int → Bool
 | [] => true
 | e :: l => (match a with | some x => decide (x < e) | none => true) && adjF (some e) l
theorem M9 : ∀ (l : List Int) (a : Int), adjF (some a) l = adjB (a :: l)
 | [], _ => rfl
 | e :: l, a => by unfold adjF adjB; rw [M9 l e]
theorem Hz (l : List Int) : adjF none l = adjB l := by
 cases l with
 | nil => rfl
 | cons e l => unfold adjF; rw [M9 l e]; rfl
theorem MA {n : Int} (hn : -9223372036854775807 ≤ n) (Gs : n < 9223372036854775808) {s : GBs} (hl : s.Needs.length < 9223372036854775808) : ∀ (p : List Int) (c : Int) (a : Option Int), 0 ≤ c → s.Needs.drop c.toNat = p → (c = 0 ∧ a = none ∨ 0 < c ∧ getI s.Needs (c - 1) = a ∧ a ≠ none) →
  rJ n s p c = goB (p.all (inB 0 (n - 1)) && adjF a p)
 | [], _, _, _, _, _ => rfl
 | e :: p, c, a, h0, hd, ha => by
  have h1 := cA h0 hd
  have hb := (xd h1).2
  simp only [rJ, mg, Option.bind_some]
  rw [ix (by omega) (by omega), MA hn Gs hl p (c + 1) (some e) (by omega) (bJ h0 hd) (.inr ⟨by omega, by rw [show c + 1 - 1 = c by omega]; exact h1, by simp⟩)]
  simp only [List.all_cons, adjF]
  rcases ha with ⟨rfl, rfl⟩ | ⟨hc, ha, hne⟩
  ·cases inB 0 (n - 1) e <;> cases p.all (inB 0 (n - 1)) <;> cases adjF (some e) p <;> rfl
  ·rw [ix (by omega) (by omega), ha, decide_eq_true (show c > 0 from hc)]
   cases a with
   | none => exact absurd rfl hne
   | some x =>
    simp only [cond_true, Option.bind_some]
    by_cases h : e ≤ x
    ·rw [decide_eq_true h, decide_eq_false (Int.not_lt.2 h)]
     cases inB 0 (n - 1) e <;> simp [goB]
    ·rw [decide_eq_false h, decide_eq_true (Int.not_le.1 h)]
     cases inB 0 (n - 1) e <;> cases p.all (inB 0 (n - 1)) <;> cases adjF (some e) p <;> rfl
theorem H3 {b : GBk} (h : Len b) {n : Int} {s : GBs} (hs : getI b.Strokes n = some s) : wD b n = some (strokeB b.Boards.length n s) := by
 have hb := xd hs
 have hst := h.st
 have hl := h.nd s (BR hs)
 have hbo := h.bo
 unfold wD strokeB
 simp only [hs, Option.bind_some, mg]
 rw [ix (by omega) (by omega), fA hl, cond_true, MA (by omega) (by omega) hl s.Needs 0 none (Int.le_refl _) rfl (.inl ⟨rfl, rfl⟩), oe, Hz]
 cases inB 0 ((b.Boards.length : Int) - 1) s.Board <;> cases inB 1 6 s.Hours.Low <;> cases inB s.Hours.Low 6 s.Hours.High <;> cases s.Needs.all (inB 0 (n - 1)) <;> cases adjB s.Needs <;> rfl
theorem MB : ∀ (p : List Int) (c : Int), sS p c = goB (p.all (inB 0 60))
 | [], _ => rfl
 | e :: p, c => by simp only [sS, mg, Option.bind_some, MB p, List.all_cons, pH]
theorem MC {b : GBk} (h : Len b) : ∀ (p : List GBs) (c : Int), 0 ≤ c → b.Strokes.drop c.toNat = p → sR b p c = goB (strokesB b.Boards.length c p)
 | [], _, _, _ => rfl
 | s :: p, c, h0, hd => by
  simp only [sR, H3 h (cA h0 hd), Option.bind_some, MC h p (c + 1) (by omega) (bJ h0 hd), strokesB, pH]
theorem E1 {b : GBk} (h : Len b) : vo b = some (benchB b) := by
 unfold vo benchB
 simp only [mg, Option.bind_some]
 rw [fA h.bo, fA h.st, MB, MC h b.Strokes 0 (Int.le_refl _) rfl, oe, oe]
 cases inB 0 3 b.Apprentices <;> cases inB 1 3 (b.Boards.length : Int) <;> cases b.Boards.all (inB 0 60) <;> cases inB 1 6 (b.Strokes.length : Int) <;> cases strokesB b.Boards.length 0 b.Strokes <;> rfl
def planL (a : Int) : List GBs → List Int → Bool
 | s :: ss, h :: hs => (inB 0 a h && (h == 0 || !s.Round)) && planL a ss hs
 | _, _ => true
def planB (b : GBk) (pl : List Int) : Bool := decide (pl.length = b.Strokes.length) && planL b.Apprentices b.Strokes pl
def mayL : List GBs → List Int → Bool
 | s :: ss, h :: hs => (h == 0 || !s.Round) && mayL ss hs
 | _, _ => true
theorem wH {a : Int} : ∀ (ss : List GBs) (hs : List Int), hs.length = ss.length → planL a ss hs = (hs.all (inB 0 a) && mayL ss hs)
 | [], [], _ => rfl
 | s :: ss, h :: hs, e => by
  simp only [planL, mayL, List.all_cons, wH ss hs (by simpa using e)]
  cases inB 0 a h <;> cases hs.all (inB 0 a) <;> cases (h == 0 || !s.Round) <;> simp
theorem H4 {b : GBk} {n h : Int} {s : GBs} (hs : getI b.Strokes n = some s) : w7 b n h = some (h == 0 || !s.Round) := by
 unfold w7
 cases h == 0 <;> simp [hs]
theorem MD {b : GBk} : ∀ (p : List Int) (c : Int) (ss : List GBs), 0 ≤ c → b.Strokes.drop c.toNat = ss → p.length = ss.length → sP b p c = goB (mayL ss p)
 | [], _, [], _, _, _ => rfl
 | h :: p, c, s :: ss, h0, hd, hl => by
  simp only [sP, H4 (cA h0 hd), Option.bind_some, MD p (c + 1) ss (by omega) (bJ h0 hd) (by simpa using hl), mayL, pH]
theorem LC {b : GBk} (h : Len b) (pl : List Int) : sE b pl = some (planB b pl) := by
 have hst := h.st
 unfold sE planB
 by_cases e : pl.length = b.Strokes.length
 ·have e1 : ((pl.length : Int) != (b.Strokes.length : Int)) = false := by simp [e]
  rw [e1, cond_false, Hw (by omega), decide_eq_true e, wH _ _ e, Option.bind_some, fA (by omega), cond_true, MD pl 0 b.Strokes (Int.le_refl _) rfl e, oe]
  cases pl.all (inB 0 b.Apprentices) <;> cases mayL b.Strokes pl <;> rfl
 ·have e1 : ((pl.length : Int) != (b.Strokes.length : Int)) = true := by simp; omega
  rw [e1, cond_true, decide_eq_false e]; rfl
theorem ME {b : GBk} : ∀ (p : List Int) (c : Int) (ss : List GBs), 0 ≤ c → b.Strokes.drop c.toNat = ss → p.length = ss.length → rN b p c = goB (planL b.Apprentices ss p)
 | [], _, [], _, _, _ => rfl
 | h :: p, c, s :: ss, h0, hd, hl => by
  simp only [rN, mg, cA h0 hd, Option.bind_some, ME p (c + 1) ss (by omega) (bJ h0 hd) (by simpa using hl), planL, pH]
  have e : (h != 0) = !(h == 0) := rfl
  rw [e]
  cases inB 0 b.Apprentices h <;> cases s.Round <;> cases h == 0 <;> rfl
theorem E2 {b : GBk} (h : Len b) (pl : List Int) : vp b pl = some (planB b pl) := by
 have hst := h.st
 unfold vp planB
 by_cases e : pl.length = b.Strokes.length
 ·have e1 : ((pl.length : Int) != (b.Strokes.length : Int)) = false := by simp [e]
  rw [e1, cond_false, decide_eq_true e, fA (by omega), cond_true, ME pl 0 b.Strokes (Int.le_refl _) rfl e, oe]
  cases planL b.Apprentices b.Strokes pl <;> rfl
 ·have e1 : ((pl.length : Int) != (b.Strokes.length : Int)) = true := by simp; omega
  rw [e1, cond_true, decide_eq_false e]; rfl
structure BOk (b : GBk) : Prop where
 ap : 0 ≤ b.Apprentices ∧ b.Apprentices ≤ 3
 nb : 1 ≤ b.Boards.length ∧ b.Boards.length ≤ 3
 bo : ∀ x ∈ b.Boards, 0 ≤ x ∧ x ≤ 60
 ns : 1 ≤ b.Strokes.length ∧ b.Strokes.length ≤ 6
 st : ∀ (i : Nat) s, b.Strokes[i]? = some s → strokeB b.Boards.length i s = true
theorem MF {nb : Nat} : ∀ (p : List GBs) (c : Int), strokesB nb c p = true ↔ ∀ (i : Nat) s, p[i]? = some s → strokeB nb (c + i) s = true
 | [], c => by simp [strokesB]
 | s :: p, c => by
  simp only [strokesB, Bool.and_eq_true, MF p]
  constructor
  ·rintro ⟨h1, h2⟩ i x hx
   cases i with
   | zero => simp at hx; subst hx; simpa using h1
   | succ i => have := h2 i x (by simpa using hx); rw [show c + (i + 1 : Nat) = c + 1 + i by omega]; exact this
  ·intro h
   refine ⟨by have := h 0 s rfl; simpa using this, fun i x hx => ?_⟩
   have := h (i + 1) x (by simpa using hx)
   rw [show c + (i + 1 : Nat) = c + 1 + i by omega] at this
   exact this
theorem E3 {b : GBk} : benchB b = true ↔ BOk b := by
 unfold benchB
 simp only [Bool.and_eq_true, pI, List.all_eq_true, MF]
 constructor
 ·rintro ⟨h1, ⟨h2, h3⟩, h4, h5⟩
  exact ⟨h1, by omega, h3, by omega, fun i s hs => by have := h5 i s hs; simpa using this⟩
 ·rintro ⟨h1, h2, h3, h4, h5⟩
  exact ⟨h1, ⟨by omega, h3⟩, by omega, fun i s hs => by have := h5 i s hs; simpa using this⟩
structure SOk (nb : Nat) (n : Int) (s : GBs) : Prop where
 bo : 0 ≤ s.Board ∧ s.Board < nb
 hr : 1 ≤ s.Hours.Low ∧ s.Hours.Low ≤ s.Hours.High ∧ s.Hours.High ≤ 6
 nd : ∀ k ∈ s.Needs, 0 ≤ k ∧ k < n
 ad : adjB s.Needs = true
theorem RM {nb : Nat} {n : Int} {s : GBs} : strokeB nb n s = true ↔ SOk nb n s := by
 unfold strokeB
 simp only [Bool.and_eq_true, pI, List.all_eq_true]
 constructor
 ·rintro ⟨h1, ⟨h2, h3⟩, h4, h5⟩
  exact ⟨by omega, by omega, fun k hk => by have := h4 k hk; omega, h5⟩
 ·rintro ⟨h1, h2, h3, h4⟩
  exact ⟨by omega, ⟨by omega, by omega⟩, fun k hk => by have := h3 k hk; omega, h4⟩
theorem BOk.s {b : GBk} (h : BOk b) {i : Nat} {s : GBs} (hs : b.Strokes[i]? = some s) : SOk b.Boards.length i s := RM.1 (h.st i s hs)
structure POk (b : GBk) (pl : List Int) : Prop where
 len : pl.length = b.Strokes.length
 may : ∀ (i : Nat) s h, b.Strokes[i]? = some s → pl[i]? = some h → (0 ≤ h ∧ h ≤ b.Apprentices) ∧ (h = 0 ∨ s.Round = false)
theorem HA {a : Int} : ∀ (ss : List GBs) (hs : List Int), hs.length = ss.length → (planL a ss hs = true ↔ ∀ (i : Nat) s h, ss[i]? = some s → hs[i]? = some h → (0 ≤ h ∧ h ≤ a) ∧ (h = 0 ∨ s.Round = false))
 | [], [], _ => by simp [planL]
 | s :: ss, h :: hs, e => by
  simp only [planL, Bool.and_eq_true, HA ss hs (by simpa using e), pI, Bool.or_eq_true, beq_iff_eq, Bool.not_eq_true']
  constructor
  ·rintro ⟨h1, h2⟩ i x y hx hy
   cases i with
   | zero => simp at hx hy; subst hx hy; exact h1
   | succ i => exact h2 i x y (by simpa using hx) (by simpa using hy)
  ·intro hh
   exact ⟨hh 0 s h rfl rfl, fun i x y hx hy => hh (i + 1) x y (by simpa using hx) (by simpa using hy)⟩
theorem E4 {b : GBk} {pl : List Int} : planB b pl = true ↔ POk b pl := by
 unfold planB
 simp only [Bool.and_eq_true, decide_eq_true_eq]
 constructor
 ·rintro ⟨h1, h2⟩; exact ⟨h1, (HA _ _ h1).1 h2⟩
 ·rintro ⟨h1, h2⟩; exact ⟨h1, (HA _ _ h1).2 h2⟩
def aP (k : GBe) : Value := .agg ⟨[.int .i64 k.stroke, .int .i64 k.hours]⟩
def dK (a b : GBe) : Bool := ((a.stroke == b.stroke) && ((a.hours == b.hours) && true))
def cI (n : Int) : VV := .lit (.int .i64 n)
theorem pw (a b : GBe) : aA Tryz.prog (Op.equal 152 (aP a) (aP b)) = some (dK a b) := by
 unfold Op.equal
 exact HB 5 152 _ _ _ (by kernel_rfl) 9995
theorem px (b : Bool) (k : GBe) : aA Tryz.prog (Instr.checkKey b 10000 152 (aP k)) = some () := by
 cases b <;> kernel_rfl
theorem lJ (a b : GBe) (h : dK a b = true) : a = b := by
 obtain ⟨astroke, ahours⟩ := a
 obtain ⟨bstroke, bhours⟩ := b
 simp only [dK, Bool.and_true, Bool.and_eq_true, beq_iff_eq] at h
 simp only [h]
theorem wI (a : GBe) : Instr.sameBits 10000 (aP a) (aP a) = true := by
 simp [aP, Instr.sameBits]
theorem RN : ((Tryz.prog.info? 3).bind (·.zero)).map ofVal2 = some (cI 0) := by kernel_rfl
theorem py (k : GBe) : VV.val? (.agg [.lit (.int .i64 k.stroke), .lit (.int .i64 k.hours)]) = some (aP k) := rfl
theorem wa {β : Nat} (l : List (GBe × Int)) (k : GBe) (H : Nat → Option VObj) (hb : H β = some (.map (encM aP cI l))) : vlookup Tryz.prog H 90 (.mp β) (.agg [.lit (.int .i64 k.stroke), .lit (.int .i64 k.hours)]) true = some (.tup [.lit (.int .i64 (mapGet dK 0 l k)), .lit (.bool (mapHas dK l k))]) :=
 Nj Tryz.underlying90 Tryz.underlying152 pw px RN (py k) hb
theorem wb {β : Nat} (l : List (GBe × Int)) (k : GBe) (n : Int) (H : Nat → Option VObj) (hb : H β = some (.map (encM aP cI l))) : vmapUpdate Tryz.prog H 90 (.mp β) (.agg [.lit (.int .i64 k.stroke), .lit (.int .i64 k.hours)]) (.lit (.int .i64 n)) = some (.upd β (.map (encM aP cI (mapSet dK l k n)))) :=
 zk Tryz.underlying90 Tryz.underlying152 pw px lJ wI (py k) hb
theorem HC {c : VV} {cs : List VV} : vload Tryz.prog 90 (c :: cs) = some c := by
 have h1 : aggT Tryz.prog 90 = some false := by kernel_rfl
 simp [vload, vpart, h1]
theorem HD : szT Tryz.prog 90 = some 1 := by kernel_rfl
theorem wJ : vzl Tryz.prog 90 = some [.lit (.map none)] := by kernel_rfl
def mqr := And.intro (And.intro @zw @zx) True.intro
def mqt := And.intro (And.intro @HC @HD) @wJ
def qC (rc : GBk → (List Int) → Int → Int → (List (GBe × Int)) → Option ((Int) × List (GBe × Int))) (xb : GBk) (xp : List Int) (xs : Int) (xh : Int) (l0 : List (GBe × Int)) : Nat → Int → Option (LOut ((Int) × List (GBe × Int)) (Int))
 | 0, _ => none
 | k0 + 1, bt => cond (decide (bt ≥ 0)) (Option.bind (getI xp bt) (fun x1 => Option.bind (getI xp xs) (fun x2 => cond (x1 == x2) (Option.bind (rc xb xp bt xh l0) (fun r3 => some (.ret (r3.1, r3.2)))) (qC rc xb xp xs xh l0 k0 (i64.wrap (bt - 1)))))) (some (.go bt))
def sA (rc : GBk → (List Int) → Int → Int → (List (GBe × Int)) → Option ((Int) × List (GBe × Int))) (xb : GBk) (xp : List Int) (xs : Int) (xh : Int) (l0 : List (GBe × Int)) : Option ((Int) × List (GBe × Int)) := lbind (qC rc xb xp xs xh l0 1000000 (i64.wrap (xs - 1))) (fun r5 => some r5) (fun c4 => some (0, l0)) (fun _ _ => none)
theorem Mb (rc : GBk → (List Int) → Int → Int → (List (GBe × Int)) → Option ((Int) × List (GBe × Int))) (rc_ok : ∀ (xb : GBk) (xp : List Int) (xs : Int) (xh : Int) (l0 : List (GBe × Int)) (R : (Int) × List (GBe × Int)), rc xb xp xs xh l0 = some R → VUpd Tryz.prog G0 118 (fun β => [.agg [.lit (.int .i64 xb.Apprentices), .sl (aa eI xb.Boards) (List.length xb.Boards) false, .sl (aa cGBs xb.Strokes) (List.length xb.Strokes) false, .sl (aa eI xp) (List.length xp) false, .mp β], .lit (.int .i64 xs), .lit (.int .i64 xh)]) (encM aP cI l0) (encM aP cI R.2) (fun _ => .lit (.int .i64 R.1))) (xb : GBk) (xp : List Int) (xs : Int) (xh : Int) (l0 : List (GBe × Int)) (R : (Int) × List (GBe × Int)) (h : sA rc xb xp xs xh l0 = some R) : VUpd Tryz.prog G0 108 (fun β => [.agg [.lit (.int .i64 xb.Apprentices), .sl (aa eI xb.Boards) (List.length xb.Boards) false, .sl (aa cGBs xb.Strokes) (List.length xb.Strokes) false, .sl (aa eI xp) (List.length xp) false, .mp β], .lit (.int .i64 xs), .lit (.int .i64 xh)]) (encM aP cI l0) (encM aP cI R.2) (fun _ => .lit (.int .i64 R.1)) := by
 intro bj nx hlt
 have aQ := gF (β := bj) (nx := nx) hlt
 refine ar.run mixed Tryz.call108 Tryz.func108 rfl (by simp [Tryz.ntmps108]; kernel_rfl) ?_
 obtain ⟨KF, h, kF, kN⟩ := cO h
 simp only [sA] at h
 simp only [vz, mq, mqm, vsi, tyf, mqt, aQ, nm, seval]
 obtain ⟨K6, h, yu, Hs, RJ, rO⟩ := eN h kN
 obtain ⟨f6, Ht, h⟩ := call2 h
 obtain ⟨I6, pr⟩ : ∃ I : Nat → St → Prop, I = (fun m st => ∃ (p6 : Nat) (kI : Int), p6 = m ∧ st.df = [] ∧ nx + 5 ≤ st.nx ∧ st.H bj = some (.map (encM aP cI l0)) ∧ st.H nx = some (.cells (some 92) ((cGBk xb) ++ [.sl (aa eI xp) (List.length xp) false] ++ [.mp bj])) ∧ st.tm 1 = .lit (.int .i64 xs) ∧ st.tm 2 = .lit (.int .i64 xh) ∧ st.tm 3 = .ptr nx 0 ∧ st.tm 7 = .lit (.int .i64 kI) ∧ K6 (f6 p6 kI)) := ⟨_, rfl⟩
 refine loopK mixed (by kernel_rfl) I6 1000000 (by rw [pr]; refine ⟨1000000, i64.wrap (xs - 1), rfl, rfl, (show nx + 5 ≤ nx + 5 by omega), ?_, ?_, ?_, ?_, ?_, ?_, h⟩ <;> first | (simp only [ua, bP, aQ, nm, seval] <;> rfl) | rfl) ?_
 rintro m ⟨tm, H, rP, df⟩ hinv
 rw [pr] at hinv
 obtain ⟨p6, kI, rfl, hdf, Hu, H7, H8, e9, aV, aZ, bh, h⟩ := hinv
 simp only at hdf Hu H7 H8 e9 aV aZ bh
 have rQ := nq (a := nx) (m := 5) (b := rP) (by omega)
 have jj := gF (β := bj) (nx := rP) (by omega)
 subst hdf Ht
 cases p6 with
 | zero =>
  simp only [qC, hs, reduceCtorEq] at h
  exact absurd h rO
 | succ p6 =>
  simp only [qC, hs, reduceCtorEq] at h
  cases fj : (decide (kI ≥ 0))
  ·simp only [fj, hs] at h
   replace h := Hs _ h
   try dsimp only at h
   try simp only [hs] at h
   try simp only [vz, mq, mqm, vsi, tyf, mqt, aQ, rQ, jj, e9, aV, aZ, bh, H7, H8, fj, nm, seval]
   refine cL (x := (.lit (.int .i64 0))) (by first | (simp only [Tryz.results108, resV, resL, resV1, cF, cE, uw, cr, tyf, mqt, aQ, rQ, jj, H7, H8, fj, nm, seval] <;> rfl) | rfl) ?_
   obtain rfl := kF _ h
   refine ⟨(by first | rfl | assumption | (simp only [aS, aT, aQ, rQ, jj, H7, H8, nm, seval] <;> rfl)), ?_⟩
   exact sq_of (jw (by simp only [tre, tytre, mqr, Bool.and_self]) rfl)
  simp only [fj, hs] at h
  simp only [vz, mq, mqm, vsi, tyf, mqt, aQ, rQ, jj, e9, aV, aZ, bh, H7, H8, fj, nm, seval]
  refine iD (fun tm => tm 1 = .lit (.int .i64 xs) ∧ tm 2 = .lit (.int .i64 xh) ∧ tm 3 = .ptr nx 0 ∧ tm 7 = .lit (.int .i64 kI) ∧ True) (by refine ⟨e9, aV, aZ, bh, trivial⟩ <;> first | (simp only [ua, bP, aQ, rQ, jj, e9, aV, aZ, bh, H7, H8, fj, nm, seval] <;> rfl) | rfl) ?_
  rintro tm ⟨bX, bR, bN, cq, _⟩
  obtain ⟨RO, oX, h⟩ := optI h rO
  try simp only [hs] at h
  obtain ⟨RP, eJ, h⟩ := optI h rO
  try simp only [hs] at h
  cases gx : (RO == RP)
  ·simp only [gx, hs] at h
   have mR := And.intro aQ (And.intro rQ (And.intro jj (And.intro H7 (And.intro H8 (And.intro fj gx)))))
   simp only [vz, mq, mqm, vsi, tyf, mqt, mR, bX, bR, bN, cq, (aj oX), (aj eJ), nm, seval]
   exact ⟨p6, Nat.lt_succ_self _, by rw [pr]; refine ⟨p6, i64.wrap (kI - 1), rfl, rfl, (show nx + 5 ≤ rP + 16 by omega), ?_, ?_, bX, bR, bN, ?_, (by first | exact h | (simp only [mR]; exact h))⟩ <;> first | (simp only [ua, bP, mR, bX, bR, bN, cq, nm, seval] <;> rfl) | rfl⟩
  simp only [gx, hs] at h
  have sX := And.intro aQ (And.intro rQ (And.intro jj (And.intro H7 (And.intro H8 (And.intro fj gx)))))
  obtain ⟨HE, RQ, h⟩ := optI h rO
  try simp only [hs] at h
  simp only [vz, mq, mqm, vsi, tyf, mqt, sX, bX, bR, bN, cq, (aj oX), (aj eJ), nm, seval]
  refine kupd (VUpd.at (β := bj) (y := (fun _ => .lit (.int .i64 HE.1))) (rc_ok _ _ _ _ _ _ RQ) (by omega) (by first | rfl | assumption | (simp only [aS, aT, sX, nm, seval] <;> rfl)) (by first | rfl | (simp only [nrm, aI, @eh, @gA] <;> rfl)) (g9 (fun _ => rfl) _)) ?_
  refine gW (fun tm => tm 28 = .lit (.int .i64 HE.1) ∧ True) (by refine ⟨?_, trivial⟩ <;> first | (simp only [ua, bP, sX, bX, bR, bN, cq, nm, seval] <;> rfl) | rfl) ?_
  rintro tm ⟨dE, _⟩
  try simp only [vz, mq, mqm, vsi, tyf, mqt, sX, (aj oX), (aj eJ), dE, nm, seval]
  refine cL (x := (.lit (.int .i64 HE.1))) (by first | (simp only [Tryz.results108, resV, resL, resV1, cF, cE, uw, cr, tyf, mqt, sX, (aj oX), (aj eJ), nm, seval] <;> rfl) | rfl) ?_
  replace h := yu _ h
  try dsimp only at h
  obtain rfl := kF _ h
  refine ⟨(by first | rfl | assumption | (simp only [aS, aT, sX, nm, seval] <;> rfl)), ?_⟩
  exact sq_of (jw (by simp only [tre, tytre, mqr, Bool.and_self]) rfl)
def s9  : List Int → Int → Int → Option (LOut (Int) (Int))
 | [], cl, gq => some (.go gq)
 | e0 :: p0, cl, gq => s9 p0 (cl + 1) (if gq < e0 then e0 else gq)
def oP (bc : List Int) : Option (Int) := cond (au bc) (lbind (s9 bc 0 0) (fun r2 => some r2) (fun c1 => some c1) (fun _ _ => none)) none
theorem yf (bc : List Int) (R : Int) (h : oP bc = some R) : ai Tryz.prog G0 105 [.sl (aa eI bc) (List.length bc) false] (.tree (.lit (.int .i64 R))) := by
 refine ai.runR mixed Tryz.call105 Tryz.func105 rfl (by simp [Tryz.ntmps105]; kernel_rfl) ?_
 obtain ⟨KF, h, kF, kN⟩ := cO h
 simp only [oP] at h
 cases g4 : (au bc)
 ·simp only [g4, hs] at h
  exact absurd h kN
 simp only [g4, hs] at h
 simp only [vz, tyf, g4, nm, seval]
 obtain ⟨K3, h, uz, n0, C9, qk⟩ := eN h kN
 obtain ⟨f3, ql, h⟩ := call3 h
 obtain ⟨I3, i9⟩ : ∃ I : Nat → St → Prop, I = (fun m st => ∃ (p3 : List Int) (jd : Int) (dW : Int), m = List.length p3 ∧ 0 ≤ jd ∧ List.drop (Int.toNat jd) bc = p3 ∧ st.df = [] ∧ 5 ≤ st.nx ∧ st.tm 6 = .sl (aa eI bc) (List.length bc) false ∧ st.tm 7 = .lit (.int .i64 (List.length bc : Int)) ∧ st.tm 3 = .lit (.int .i64 dW) ∧ st.tm 8 = .lit (.int .i64 jd) ∧ K3 (f3 p3 jd dW)) := ⟨_, rfl⟩
 refine loopK mixed (by kernel_rfl) I3 (List.length bc) (by rw [i9]; refine ⟨bc, 0, 0, rfl, Int.le_refl _, rfl, rfl, (show 5 ≤ 5 by omega), ?_, ?_, ?_, ?_, h⟩ <;> first | (simp only [ua, nm, seval] <;> rfl) | rfl) ?_
 rintro m ⟨tm, H, gy, df⟩ hinv
 rw [i9] at hinv
 obtain ⟨p3, jd, dW, rfl, dt, eK, hdf, qm, e5, e6, e7, e8, h⟩ := hinv
 simp only at hdf qm e5 e6 e7 e8
 have n9 := fg (m := 5) (b := gy) (by omega)
 subst hdf ql
 cases p3 with
 | nil =>
  have k7 : (decide (jd < (List.length bc : Int))) = false := dR dt eK
  simp only [s9, hs, reduceCtorEq] at h
  replace h := n0 _ h
  try dsimp only at h
  try simp only [hs] at h
  try simp only [vz, tyf, g4, n9, e5, e6, e7, e8, k7, nm, seval]
  refine cL (x := (.lit (.int .i64 dW))) (by first | (simp only [Tryz.results105, resV, resL, resV1, cF, cE, uw, cr, tyf, g4, n9, k7, nm, seval] <;> rfl) | rfl) ?_
  obtain rfl := kF _ h
  refine gw ?_ ?_
  ·simp only [tre, tytre, Bool.and_self]
  ·first | (simp only [outV, uw, gG, cr, tyf, nrm, aI, g4, n9, e5, e6, e7, e8, k7, nm, seval] <;> rfl) | rfl
 | cons e3 p3 =>
  have gb : (decide (jd < (List.length bc : Int))) = true := dQ dt eK
  have mK := cA dt eK
  have rI := dN dt eK g4
  simp only [s9, hs, reduceCtorEq] at h
  simp only [vz, tyf, g4, n9, e5, e6, e7, e8, gb, (aj mK), rI, nm, seval]
  exact ⟨List.length p3, Nat.lt_succ_self _, by rw [i9]; refine ⟨p3, jd + 1, (if dW < e3 then e3 else dW), rfl, Int.le_trans dt (Int.le_add_one (Int.le_refl _)), bJ dt eK, rfl, (show 5 ≤ gy + 10 by omega), e5, e6, ?_, ?_, (by first | exact h | (simp only [gb]; exact h))⟩ <;> first | (simp only [ua, n9, e5, e6, e7, e8, gb, rI, nm, seval] <;> rfl) | rfl⟩
end Go.V
end
