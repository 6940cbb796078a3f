/- Part of a proof. -/
import Derived.Test.YtmhlghgbfmcdaaaGreatDoorS1bi
set_option linter.all false
set_option maxRecDepth 4000
set_option maxHeartbeats 40000000
section
namespace Go.V
open Go Go.Proofs IntKind
def m0 (ai : GBk) : List GBs → Int → Option (LOut (Bool) (Unit))
 | [], gV => some (.go ())
 | e0 :: p0, gV => Option.bind (rD ai e0.Board) (fun r2 => cond (r2) (Option.bind (nE 1 e0.Hours 6) (fun r3 => cond (r3) (Option.bind (nG 0 e0.Needs (i64.wrap (gV - 1))) (fun r4 => cond (r4) (m0 ai p0 (gV + 1)) (some (.ret false)))) (some (.ret false)))) (some (.ret false)))
def rE (ai : GBk) : Option (Bool) := Option.bind (iS 1 (List.length ai.Strokes : Int) 6) (fun r1 => cond (r1) (cond (lenOk ai.Strokes) (lbind (m0 ai ai.Strokes 0) (fun r6 => some r6) (fun c5 => some true) (fun _ _ => none)) none) (some false))
theorem Ip (ai : GBk) (R : Bool) (h : rE ai = some R) : ah Tryz.prog G0 102 [.agg (cGBk ai)] (.tree (.lit (.bool R))) := by
 refine ah.runR mixed Tryz.call102 Tryz.func102 rfl (by simp [Tryz.ntmps102]; kernel_rfl) ?_
 obtain ⟨KF, h, kF, kN⟩ := bU h
 simp only [rE] at h
 obtain ⟨r7, o8, h⟩ := optI h kN
 try simp only [hs] at h
 simp only [vz, tyf, nm, seval]
 refine ktA (m2 _ _ _ _ o8) ?_
 refine bx (fun tm => tm 1 = .ptr 0 0 ∧ tm 8 = .lit (.bool r7) ∧ True) (by refine ⟨?_, ?_, trivial⟩ <;> first | (simp only [ua, nm, seval] <;> rfl) | rfl) ?_
 rintro tm ⟨e9, aV, _⟩
 cases bF : (r7)
 ·simp only [bF, hs] at h
  try simp only [vz, tyf, e9, aV, bF, nm, seval]
  obtain rfl := kF _ h
  exact aZ Tryz.results102 rfl
 simp only [bF, hs] at h
 cases j7 : (lenOk ai.Strokes)
 ·simp only [j7, hs] at h
  exact absurd h kN
 simp only [j7, hs] at h
 simp only [vz, tyf, e9, aV, bF, j7, nm, seval]
 obtain ⟨Iq, h, kK, tR, Ir, kL⟩ := fh h kN
 obtain ⟨Is, tS, h⟩ := call2 h
 obtain ⟨It, kM⟩ : ∃ I : Nat → St → Prop, I = (fun m st => ∃ (j8 : List GBs) (bg : Int), m = List.length j8 ∧ 0 ≤ bg ∧ List.drop (Int.toNat bg) ai.Strokes = j8 ∧ st.df = [] ∧ 11 ≤ st.nx ∧ st.H 0 = some (.cells (some 25) (cGBk ai)) ∧ st.tm 1 = .ptr 0 0 ∧ st.tm 11 = .sl (aa cGBs ai.Strokes) (List.length ai.Strokes) false ∧ st.tm 12 = .lit (.int .i64 (List.length ai.Strokes : Int)) ∧ st.tm 13 = .lit (.int .i64 bg) ∧ Iq (Is j8 bg)) := ⟨_, rfl⟩
 refine loopK mixed (by kernel_rfl) It (List.length ai.Strokes) (by rw [kM]; refine ⟨ai.Strokes, 0, rfl, Int.le_refl _, rfl, rfl, (show 11 ≤ 11 by omega), ?_, e9, ?_, ?_, ?_, h⟩ <;> first | (simp only [ua, e9, aV, bF, nm, seval] <;> rfl) | rfl) ?_
 rintro m ⟨tm, H, iT, df⟩ hinv
 rw [kM] at hinv
 obtain ⟨j8, bg, rfl, fZ, gW, hdf, tT, fL, bL, bn, bh, bp, h⟩ := hinv
 simp only at hdf tT fL bL bn bh bp
 have gE := gF (m := 11) (b := iT) (by omega)
 subst hdf tS
 cases j8 with
 | nil =>
  have de : (decide (bg < (List.length ai.Strokes : Int))) = false := fj fZ gW
  simp only [m0, hs, reduceCtorEq] at h
  replace h := tR _ h
  try dsimp only at h
  try simp only [hs] at h
  try simp only [vz, tyf, bF, j7, gE, bL, bn, bh, bp, fL, de, nm, seval]
  obtain rfl := kF _ h
  exact aZ Tryz.results102 rfl
 | cons bl j8 =>
  have iU : (decide (bg < (List.length ai.Strokes : Int))) = true := fk fZ gW
  have gG := dg fZ gW
  have iV := fm fZ gW j7
  simp only [m0, hs, reduceCtorEq] at h
  obtain ⟨nH, m3, h⟩ := optI h kL
  try simp only [hs] at h
  simp only [vz, tyf, bF, j7, gE, bL, bn, bh, bp, fL, iU, (aK gG), iV, nm, seval]
  refine ktA (Iu _ _ _ m3) ?_
  refine bx (fun tm => tm 1 = .ptr 0 0 ∧ tm 3 = .lit (.int .i64 bg) ∧ tm 4 = .ptr (iT + 4) 0 ∧ tm 11 = .sl (aa cGBs ai.Strokes) (List.length ai.Strokes) false ∧ tm 12 = .lit (.int .i64 (List.length ai.Strokes : Int)) ∧ tm 13 = .lit (.int .i64 bg) ∧ tm 21 = .lit (.bool nH) ∧ True) (by refine ⟨bL, ?_, ?_, bn, bh, bp, ?_, trivial⟩ <;> first | (simp only [ua, bF, gE, bL, bn, bh, bp, fL, iU, iV, nm, seval] <;> rfl) | rfl) ?_
  rintro tm ⟨bY, aW, bQ, bA, cj, ca, dW, _⟩
  cases dw : (nH)
  ·simp only [dw, hs] at h
   have gH := And.intro bF (And.intro j7 (And.intro gE (And.intro fL (And.intro iU (And.intro iV dw)))))
   try simp only [vz, tyf, gH, (aK gG), bY, aW, bQ, bA, cj, ca, dW, nm, seval]
   replace h := kK _ h
   try dsimp only at h
   obtain rfl := kF _ h
   exact aZ Tryz.results102 rfl
  simp only [dw, hs] at h
  have iW := And.intro bF (And.intro j7 (And.intro gE (And.intro fL (And.intro iU (And.intro iV dw)))))
  obtain ⟨nI, tU, h⟩ := optI h kL
  try simp only [hs] at h
  simp only [vz, tyf, iW, (aK gG), bY, aW, bQ, bA, cj, ca, dW, nm, seval]
  refine ktA (Iv _ _ _ _ tU) ?_
  refine bx (fun tm => tm 1 = .ptr 0 0 ∧ tm 3 = .lit (.int .i64 bg) ∧ tm 4 = .ptr (iT + 4) 0 ∧ tm 11 = .sl (aa cGBs ai.Strokes) (List.length ai.Strokes) false ∧ tm 12 = .lit (.int .i64 (List.length ai.Strokes : Int)) ∧ tm 13 = .lit (.int .i64 bg) ∧ tm 23 = .lit (.bool false) ∧ tm 26 = .lit (.bool nI) ∧ True) (by refine ⟨bY, aW, bQ, bA, cj, ca, ?_, ?_, trivial⟩ <;> first | (simp only [ua, iW, bY, aW, bQ, bA, cj, ca, dW, nm, seval] <;> rfl) | rfl) ?_
  rintro tm ⟨dL, dM, cU, cV, cb, ck, eJ, iX, _⟩
  cases cW : (nI)
  ·simp only [cW, hs] at h
   try simp only [vz, tyf, iW, (aK gG), dL, dM, cU, cV, cb, ck, eJ, iX, cW, nm, seval]
   replace h := kK _ h
   try dsimp only at h
   obtain rfl := kF _ h
   exact aZ Tryz.results102 rfl
  simp only [cW, hs] at h
  obtain ⟨nJ, rF, h⟩ := optI h kL
  try simp only [hs] at h
  simp only [vz, tyf, iW, (aK gG), dL, dM, cU, cV, cb, ck, eJ, iX, cW, nm, seval]
  refine ktA (Iw _ _ _ _ rF) ?_
  refine bx (fun tm => tm 1 = .ptr 0 0 ∧ tm 11 = .sl (aa cGBs ai.Strokes) (List.length ai.Strokes) false ∧ tm 12 = .lit (.int .i64 (List.length ai.Strokes : Int)) ∧ tm 13 = .lit (.int .i64 bg) ∧ tm 29 = .lit (.bool false) ∧ tm 34 = .lit (.bool nJ) ∧ True) (by refine ⟨dL, cV, cb, ck, ?_, ?_, trivial⟩ <;> first | (simp only [ua, iW, dL, dM, cU, cV, cb, ck, eJ, iX, cW, nm, seval] <;> rfl) | rfl) ?_
  rintro tm ⟨cO, dN, dO, eu, gI, gX, _⟩
  cases m4 : (nJ)
  ·simp only [m4, hs] at h
   try simp only [vz, tyf, iW, (aK gG), cW, cO, dN, dO, eu, gI, gX, m4, nm, seval]
   replace h := kK _ h
   try dsimp only at h
   obtain rfl := kF _ h
   exact aZ Tryz.results102 rfl
  simp only [m4, hs] at h
  simp only [vz, tyf, iW, (aK gG), cW, cO, dN, dO, eu, gI, gX, m4, nm, seval]
  exact ⟨List.length j8, Nat.lt_succ_self _, by rw [kM]; refine ⟨j8, bg + 1, rfl, Int.le_trans fZ (Int.le_add_one (Int.le_refl _)), dh fZ gW, rfl, (show 11 ≤ iT + 28 by omega), ?_, cO, dN, dO, ?_, (by first | exact h | (simp only [iW, cW, m4]; exact h))⟩ <;> first | (simp only [ua, iW, cW, cO, dN, dO, eu, gI, gX, m4, nm, seval] <;> rfl) | rfl⟩
def m5 (ai : GBk) : Option (Bool) := Option.bind (iS 0 ai.Apprentices 3) (fun r1 => cond (r1) (Option.bind (rG ai.Boards) (fun r2 => cond (r2) (Option.bind (rE ai) (fun r3 => some r3)) (some false))) (some false))
theorem EC (ai : GBk) (R : Bool) (h : m5 ai = some R) : ah Tryz.prog G0 67 [.agg (cGBk ai)] (.tree (.lit (.bool R))) := by
 refine ah.runR mixed Tryz.call67 Tryz.func67 rfl (by simp [Tryz.ntmps67]; kernel_rfl) ?_
 obtain ⟨KF, h, kF, kN⟩ := bU h
 simp only [m5] at h
 obtain ⟨r4, o5, h⟩ := optI h kN
 try simp only [hs] at h
 simp only [vz, tyf, nm, seval]
 refine ktA (m2 _ _ _ _ o5) ?_
 refine bx (fun tm => tm 1 = .ptr 0 0 ∧ tm 5 = .lit (.bool r4) ∧ True) (by refine ⟨?_, ?_, trivial⟩ <;> first | (simp only [ua, nm, seval] <;> rfl) | rfl) ?_
 rintro tm ⟨e6, e7, _⟩
 cases d8 : (r4)
 ·simp only [d8, hs] at h
  try simp only [vz, tyf, e6, e7, d8, nm, seval]
  obtain rfl := kF _ h
  exact aZ Tryz.results67 rfl
 simp only [d8, hs] at h
 obtain ⟨r9, ez, h⟩ := optI h kN
 try simp only [hs] at h
 simp only [vz, tyf, e6, e7, d8, nm, seval]
 refine ktA (Ix _ _ ez) ?_
 refine bx (fun tm => tm 1 = .ptr 0 0 ∧ tm 6 = .lit (.bool true) ∧ tm 9 = .lit (.bool r9) ∧ True) (by refine ⟨e6, ?_, ?_, trivial⟩ <;> first | (simp only [ua, e6, e7, d8, nm, seval] <;> rfl) | rfl) ?_
 rintro tm ⟨bc, bl, br, _⟩
 cases bH : (r9)
 ·simp only [bH, hs] at h
  try simp only [vz, tyf, d8, bc, bl, br, bH, nm, seval]
  obtain rfl := kF _ h
  exact aZ Tryz.results67 rfl
 simp only [bH, hs] at h
 obtain ⟨rH, eK, h⟩ := optI h kN
 try simp only [hs] at h
 simp only [vz, tyf, d8, bc, bl, br, bH, nm, seval]
 refine ktA (Ip _ _ eK) ?_
 refine bx (fun tm => tm 11 = .lit (.bool true) ∧ tm 13 = .lit (.bool rH) ∧ True) (by refine ⟨?_, ?_, trivial⟩ <;> first | (simp only [ua, d8, bc, bl, br, bH, nm, seval] <;> rfl) | rfl) ?_
 rintro tm ⟨bh, bp, _⟩
 try simp only [vz, tyf, d8, bH, bh, bp, nm, seval]
 obtain rfl := kF _ h
 exact aZ Tryz.results67 rfl
def nK (ai : GBk) (xs : Int) (cv : Int) : Option (Bool) := cond (cv == 0) (some true) (Option.bind (getI ai.Strokes xs) (fun x1 => some (!x1.Round)))
theorem Iy (ai : GBk) (xs : Int) (cv : Int) (R : Bool) (h : nK ai xs cv = some R) : ah Tryz.prog G0 104 [.agg (cGBk ai), .lit (.int .i64 xs), .lit (.int .i64 cv)] (.tree (.lit (.bool R))) := by
 refine ah.runR mixed Tryz.call104 Tryz.func104 rfl (by simp [Tryz.ntmps104]; kernel_rfl) ?_
 obtain ⟨KF, h, kF, kN⟩ := bU h
 simp only [nK] at h
 cases d2 : (cv == 0)
 ·simp only [d2, hs] at h
  obtain ⟨x3, o4, h⟩ := optI h kN
  try simp only [hs] at h
  try simp only [vz, tyf, d2, (aK o4), nm, seval]
  obtain rfl := kF _ h
  exact aZ Tryz.results104 rfl
 simp only [d2, hs] at h
 try simp only [vz, tyf, d2, nm, seval]
 obtain rfl := kF _ h
 exact aZ Tryz.results104 rfl
def m6 (ai : GBk) : List Int → Int → Option (LOut (Bool) (Unit))
 | [], gY => some (.go ())
 | e0 :: p0, gY => Option.bind (nK ai gY e0) (fun r2 => cond (r2) (m6 ai p0 (gY + 1)) (some (.ret false)))
def m7 (ai : GBk) (ag : List Int) : Option (Bool) := cond ((List.length ag : Int) != (List.length ai.Strokes : Int)) (some false) (Option.bind (kO 0 ag ai.Apprentices) (fun r1 => cond (r1) (cond (lenOk ag) (lbind (m6 ai ag 0) (fun r4 => some r4) (fun c3 => some true) (fun _ _ => none)) none) (some false)))
theorem ED (ai : GBk) (ag : List Int) (R : Bool) (h : m7 ai ag = some R) : ah Tryz.prog G0 68 [.agg (cGBk ai), .sl (aa eI ag) (List.length ag) false] (.tree (.lit (.bool R))) := by
 refine ah.runR mixed Tryz.call68 Tryz.func68 rfl (by simp [Tryz.ntmps68]; kernel_rfl) ?_
 obtain ⟨KF, h, kF, kN⟩ := bU h
 simp only [m7] at h
 cases d5 : ((List.length ag : Int) != (List.length ai.Strokes : Int))
 ·simp only [d5, hs] at h
  obtain ⟨r6, o7, h⟩ := optI h kN
  try simp only [hs] at h
  simp only [vz, tyf, d5, nm, seval]
  refine ktA (tV _ _ _ _ o7) ?_
  refine bx (fun tm => tm 1 = .sl (aa eI ag) (List.length ag) false ∧ tm 2 = .ptr 0 0 ∧ tm 13 = .lit (.bool false) ∧ tm 17 = .lit (.bool r6) ∧ True) (by refine ⟨?_, ?_, ?_, ?_, trivial⟩ <;> first | (simp only [ua, d5, nm, seval] <;> rfl) | rfl) ?_
  rintro tm ⟨e8, e9, aV, bc, _⟩
  cases bG : (r6)
  ·simp only [bG, hs] at h
   try simp only [vz, tyf, d5, e8, e9, aV, bc, bG, nm, seval]
   obtain rfl := kF _ h
   exact aZ Tryz.results68 rfl
  simp only [bG, hs] at h
  cases kP : (lenOk ag)
  ·simp only [kP, hs] at h
   exact absurd h kN
  simp only [kP, hs] at h
  simp only [vz, tyf, d5, e8, e9, aV, bc, bG, kP, nm, seval]
  obtain ⟨Iz, h, tW, tX, I0, tY⟩ := fh h kN
  obtain ⟨I1, tZ, h⟩ := call2 h
  obtain ⟨I2, kQ⟩ : ∃ I : Nat → St → Prop, I = (fun m st => ∃ (j9 : List Int) (bN : Int), m = List.length j9 ∧ 0 ≤ bN ∧ List.drop (Int.toNat bN) ag = j9 ∧ st.df = [] ∧ 18 ≤ st.nx ∧ st.H 0 = some (.cells (some 25) (cGBk ai)) ∧ st.tm 2 = .ptr 0 0 ∧ st.tm 20 = .sl (aa eI ag) (List.length ag) false ∧ st.tm 21 = .lit (.int .i64 (List.length ag : Int)) ∧ st.tm 22 = .lit (.int .i64 bN) ∧ Iz (I1 j9 bN)) := ⟨_, rfl⟩
  refine loopK mixed (by kernel_rfl) I2 (List.length ag) (by rw [kQ]; refine ⟨ag, 0, rfl, Int.le_refl _, rfl, rfl, (show 18 ≤ 18 by omega), ?_, e9, ?_, ?_, ?_, h⟩ <;> first | (simp only [ua, d5, e8, e9, aV, bc, bG, nm, seval] <;> rfl) | rfl) ?_
  rintro m ⟨tm, H, nL, df⟩ hinv
  rw [kQ] at hinv
  obtain ⟨j9, bN, rfl, ga, gZ, hdf, ub, nM, bn, bh, bp, bI, h⟩ := hinv
  simp only at hdf ub nM bn bh bp bI
  have rI := gF (m := 18) (b := nL) (by omega)
  subst hdf tZ
  cases j9 with
  | nil =>
   have iU : (decide (bN < (List.length ag : Int))) = false := fj ga gZ
   simp only [m6, hs, reduceCtorEq] at h
   replace h := tX _ h
   try dsimp only at h
   try simp only [hs] at h
   try simp only [vz, tyf, d5, bG, kP, rI, bn, bh, bp, bI, nM, iU, nm, seval]
   obtain rfl := kF _ h
   exact aZ Tryz.results68 rfl
  | cons br j9 =>
   have kR : (decide (bN < (List.length ag : Int))) = true := fk ga gZ
   have iY := dg ga gZ
   have gb := fm ga gZ kP
   simp only [m6, hs, reduceCtorEq] at h
   obtain ⟨eL, kS, h⟩ := optI h tY
   try simp only [hs] at h
   simp only [vz, tyf, d5, bG, kP, rI, bn, bh, bp, bI, nM, kR, (aR iY), gb, nm, seval]
   refine ktA (Iy _ _ _ _ kS) ?_
   refine bx (fun tm => tm 2 = .ptr 0 0 ∧ tm 20 = .sl (aa eI ag) (List.length ag) false ∧ tm 21 = .lit (.int .i64 (List.length ag : Int)) ∧ tm 22 = .lit (.int .i64 bN) ∧ tm 30 = .lit (.bool eL) ∧ True) (by refine ⟨bn, bh, bp, bI, ?_, trivial⟩ <;> first | (simp only [ua, d5, bG, rI, bn, bh, bp, bI, nM, kR, gb, nm, seval] <;> rfl) | rfl) ?_
   rintro tm ⟨aW, bQ, bA, cj, ca, _⟩
   have rJ := And.intro d5 (And.intro bG (And.intro kP (And.intro rI (And.intro nM (And.intro kR gb)))))
   cases dw : (eL)
   ·simp only [dw, hs] at h
    try simp only [vz, tyf, rJ, (aR iY), aW, bQ, bA, cj, ca, dw, nm, seval]
    replace h := tW _ h
    try dsimp only at h
    obtain rfl := kF _ h
    exact aZ Tryz.results68 rfl
   simp only [dw, hs] at h
   simp only [vz, tyf, rJ, (aR iY), aW, bQ, bA, cj, ca, dw, nm, seval]
   exact ⟨List.length j9, Nat.lt_succ_self _, by rw [kQ]; refine ⟨j9, bN + 1, rfl, Int.le_trans ga (Int.le_add_one (Int.le_refl _)), dh ga gZ, rfl, (show 18 ≤ nL + 13 by omega), ?_, aW, bQ, bA, ?_, (by first | exact h | (simp only [rJ, dw]; exact h))⟩ <;> first | (simp only [ua, rJ, aW, bQ, bA, cj, ca, dw, nm, seval] <;> rfl) | rfl⟩
 simp only [d5, hs] at h
 try simp only [vz, tyf, d5, nm, seval]
 obtain rfl := kF _ h
 exact aZ Tryz.results68 rfl
def nN (ai : GBk) (xs : Int) : Option (Bool) := Option.bind (iS 0 xs (i64.wrap ((List.length ai.Strokes : Int) - 1))) (fun r1 => some r1)
theorem I8 (ai : GBk) (xs : Int) (R : Bool) (h : nN ai xs = some R) : ah Tryz.prog G0 80 [.agg (cGBk ai), .lit (.int .i64 xs)] (.tree (.lit (.bool R))) := by
 refine ah.runR mixed Tryz.call80 Tryz.func80 rfl (by simp [Tryz.ntmps80]; kernel_rfl) ?_
 obtain ⟨KF, h, kF, kN⟩ := bU h
 simp only [nN] at h
 obtain ⟨r2, o3, h⟩ := optI h kN
 try simp only [hs] at h
 simp only [vz, tyf, nm, seval]
 refine ktA (m2 _ _ _ _ o3) ?_
 refine bx (fun tm => tm 10 = .lit (.bool r2) ∧ True) (by refine ⟨?_, trivial⟩ <;> first | (simp only [ua, nm, seval] <;> rfl) | rfl) ?_
 rintro tm ⟨e4, _⟩
 try simp only [vz, tyf, e4, nm, seval]
 obtain rfl := kF _ h
 exact aZ Tryz.results80 rfl
def kT  : List GBs → Int → Option (LOut (Bool) (Unit))
 | [], cm => some (.go ())
 | e0 :: p0, cm => cond (decide (cm < 9)) (cond (decide ((List.length e0.Needs : Int) > 8)) (some (.ret false)) (kT p0 (cm + 1))) (some (.go ()))
def rK (ai : GBk) : Option (Bool) := cond (lenOk ai.Strokes) (lbind (kT ai.Strokes 0) (fun r2 => some r2) (fun c1 => cond (decide ((List.length ai.Boards : Int) ≤ 5)) (some (decide ((List.length ai.Strokes : Int) ≤ 8))) (some false)) (fun _ _ => none)) none
theorem I9 (ai : GBk) (R : Bool) (h : rK ai = some R) : ah Tryz.prog G0 18 [.agg (cGBk ai)] (.tree (.lit (.bool R))) := by
 refine ah.runR mixed Tryz.call18 Tryz.func18 rfl (by simp [Tryz.ntmps18]; kernel_rfl) ?_
 obtain ⟨KF, h, kF, kN⟩ := bU h
 simp only [rK] at h
 cases g4 : (lenOk ai.Strokes)
 ·simp only [g4, hs] at h
  exact absurd h kN
 simp only [g4, hs] at h
 simp only [vz, tyf, g4, nm, seval]
 obtain ⟨K3, h, EF, rL, IA, IB⟩ := fh h kN
 obtain ⟨f3, uc, h⟩ := call2 h
 obtain ⟨I3, kU⟩ : ∃ I : Nat → St → Prop, I = (fun m st => ∃ (p3 : List GBs) (cg : Int), m = List.length p3 ∧ 0 ≤ cg ∧ List.drop (Int.toNat cg) ai.Strokes = p3 ∧ st.df = [] ∧ 3 ≤ st.nx ∧ st.H 0 = some (.cells (some 25) (cGBk ai)) ∧ st.tm 1 = .ptr 0 0 ∧ st.tm 3 = .lit (.int .i64 cg) ∧ K3 (f3 p3 cg)) := ⟨_, rfl⟩
 refine loopK mixed (by kernel_rfl) I3 (List.length ai.Strokes) (by rw [kU]; refine ⟨ai.Strokes, 0, rfl, Int.le_refl _, rfl, rfl, (show 3 ≤ 3 by omega), ?_, ?_, ?_, h⟩ <;> first | (simp only [ua, nm, seval] <;> rfl) | rfl) ?_
 rintro m ⟨tm, H, nO, df⟩ hinv
 rw [kU] at hinv
 obtain ⟨p3, cg, rfl, gd, hC, hdf, ud, H5, e6, e7, h⟩ := hinv
 simp only at hdf ud H5 e6 e7
 have n8 := gF (m := 3) (b := nO) (by omega)
 subst hdf uc
 cases p3 with
 | nil =>
  have d9 : (decide (cg < (List.length ai.Strokes : Int))) = false := fj gd hC
  simp only [kT, hs, reduceCtorEq] at h
  replace h := rL _ h
  try dsimp only at h
  try simp only [hs] at h
  cases jA : (decide ((List.length ai.Boards : Int) ≤ 5))
  ·simp only [jA, hs] at h
   try simp only [vz, tyf, g4, n8, e6, e7, H5, d9, jA, nm, seval]
   obtain rfl := kF _ h
   exact aZ Tryz.results18 rfl
  simp only [jA, hs] at h
  try simp only [vz, tyf, g4, n8, e6, e7, H5, d9, jA, nm, seval]
  obtain rfl := kF _ h
  exact aZ Tryz.results18 rfl
 | cons e3 p3 =>
  have bF : (decide (cg < (List.length ai.Strokes : Int))) = true := fk gd hC
  have jB := dg gd hC
  have kV := fm gd hC g4
  simp only [kT, hs, reduceCtorEq] at h
  cases bH : (decide (cg < 9))
  ·simp only [bH, hs] at h
   replace h := rL _ h
   try dsimp only at h
   try simp only [hs] at h
   cases gf : (decide ((List.length ai.Boards : Int) ≤ 5))
   ·simp only [gf, hs] at h
    have IC := And.intro g4 (And.intro n8 (And.intro H5 (And.intro bF (And.intro kV (And.intro bH gf)))))
    try simp only [vz, tyf, IC, e6, e7, (aK jB), nm, seval]
    obtain rfl := kF _ h
    exact aZ Tryz.results18 rfl
   simp only [gf, hs] at h
   have ID := And.intro g4 (And.intro n8 (And.intro H5 (And.intro bF (And.intro kV (And.intro bH gf)))))
   try simp only [vz, tyf, ID, e6, e7, (aK jB), nm, seval]
   obtain rfl := kF _ h
   exact aZ Tryz.results18 rfl
  simp only [bH, hs] at h
  cases jC : (decide ((List.length e3.Needs : Int) > 8))
  ·simp only [jC, hs] at h
   have ue := And.intro g4 (And.intro n8 (And.intro H5 (And.intro bF (And.intro kV (And.intro bH jC)))))
   simp only [vz, tyf, ue, e6, e7, (aK jB), nm, seval]
   exact ⟨List.length p3, Nat.lt_succ_self _, by rw [kU]; refine ⟨p3, cg + 1, rfl, Int.le_trans gd (Int.le_add_one (Int.le_refl _)), dh gd hC, rfl, (show 3 ≤ nO + 20 by omega), ?_, e6, ?_, (by first | exact h | (simp only [ue]; exact h))⟩ <;> first | (simp only [ua, ue, e6, e7, nm, seval] <;> rfl) | rfl⟩
  simp only [jC, hs] at h
  have IE := And.intro g4 (And.intro n8 (And.intro H5 (And.intro bF (And.intro kV (And.intro bH jC)))))
  try simp only [vz, tyf, IE, e6, e7, (aK jB), nm, seval]
  replace h := EF _ h
  try dsimp only at h
  obtain rfl := kF _ h
  exact aZ Tryz.results18 rfl
def gg (gh : Int) (di : Int) (cX : Int) : Option (Bool) := cond (decide (gh ≥ di)) (some (decide (gh ≤ cX))) (some false)
theorem iG (gh : Int) (di : Int) (cX : Int) (R : Bool) (h : gg gh di cX = some R) : ah Tryz.prog G0 73 [.lit (.int .i64 gh), .lit (.int .i64 di), .lit (.int .i64 cX)] (.tree (.lit (.bool R))) := by
 refine ah.runR mixed Tryz.call73 Tryz.func73 rfl (by simp [Tryz.ntmps73]; kernel_rfl) ?_
 obtain ⟨KF, h, kF, kN⟩ := bU h
 simp only [gg] at h
 cases d1 : (decide (gh ≥ di))
 ·simp only [d1, hs] at h
  try simp only [vz, tyf, d1, nm, seval]
  obtain rfl := kF _ h
  exact aZ Tryz.results73 rfl
 simp only [d1, hs] at h
 try simp only [vz, tyf, d1, nm, seval]
 obtain rfl := kF _ h
 exact aZ Tryz.results73 rfl
def kW (bj : Int) (x1 : GBs) : List Int → Int → Option (LOut (Bool) (Unit))
 | [], hJ => some (.go ())
 | e0 :: p0, hJ => Option.bind (gg e0 0 (i64.wrap (bj - 1))) (fun r5 => cond (r5) (cond (decide (hJ > 0)) (Option.bind (getI x1.Needs (i64.wrap (hJ - 1))) (fun x6 => cond (decide (e0 ≤ x6)) (some (.ret false)) (kW bj x1 p0 (hJ + 1)))) (kW bj x1 p0 (hJ + 1))) (some (.ret false)))
def nP (ai : GBk) (bj : Int) : Option (Bool) := Option.bind (getI ai.Strokes bj) (fun x1 => Option.bind (gg x1.Board 0 (i64.wrap ((List.length ai.Boards : Int) - 1))) (fun r2 => cond (r2) (Option.bind (gg x1.Hours.Low 1 6) (fun r3 => cond (r3) (Option.bind (gg x1.Hours.High x1.Hours.Low 6) (fun r4 => cond (r4) (cond (lenOk x1.Needs) (lbind (kW bj x1 x1.Needs 0) (fun r8 => some r8) (fun c7 => some true) (fun _ _ => none)) none) (some false))) (some false))) (some false)))
theorem IF (ai : GBk) (bj : Int) (R : Bool) (h : nP ai bj = some R) : ah Tryz.prog G0 74 [.agg (cGBk ai), .lit (.int .i64 bj)] (.tree (.lit (.bool R))) := by
 refine ah.runR mixed Tryz.call74 Tryz.func74 rfl (by simp [Tryz.ntmps74]; kernel_rfl) ?_
 obtain ⟨KF, h, kF, kN⟩ := bU h
 simp only [nP] at h
 obtain ⟨x9, ez, h⟩ := optI h kN
 try simp only [hs] at h
 obtain ⟨EG, IG, h⟩ := optI h kN
 try simp only [hs] at h
 simp only [vz, tyf, (aK ez), nm, seval]
 refine ktA (iG _ _ _ _ IG) ?_
 refine bx (fun tm => tm 1 = .lit (.int .i64 bj) ∧ tm 5 = .ptr 7 0 ∧ tm 18 = .lit (.bool EG) ∧ True) (by refine ⟨?_, ?_, ?_, trivial⟩ <;> first | (simp only [ua, nm, seval] <;> rfl) | rfl) ?_
 rintro tm ⟨br, b3, bL, _⟩
 cases dX : (EG)
 ·simp only [dX, hs] at h
  try simp only [vz, tyf, (aK ez), br, b3, bL, dX, nm, seval]
  obtain rfl := kF _ h
  exact aZ Tryz.results74 rfl
 simp only [dX, hs] at h
 obtain ⟨iZ, uf, h⟩ := optI h kN
 try simp only [hs] at h
 simp only [vz, tyf, (aK ez), br, b3, bL, dX, nm, seval]
 refine ktA (iG _ _ _ _ uf) ?_
 refine bx (fun tm => tm 1 = .lit (.int .i64 bj) ∧ tm 5 = .ptr 7 0 ∧ tm 20 = .lit (.bool false) ∧ tm 24 = .lit (.bool iZ) ∧ True) (by refine ⟨br, b3, ?_, ?_, trivial⟩ <;> first | (simp only [ua, br, b3, bL, dX, nm, seval] <;> rfl) | rfl) ?_
 rintro tm ⟨bI, cR, cD, b4, _⟩
 cases gJ : (iZ)
 ·simp only [gJ, hs] at h
  try simp only [vz, tyf, (aK ez), dX, bI, cR, cD, b4, gJ, nm, seval]
  obtain rfl := kF _ h
  exact aZ Tryz.results74 rfl
 simp only [gJ, hs] at h
 obtain ⟨nH, m3, h⟩ := optI h kN
 try simp only [hs] at h
 simp only [vz, tyf, (aK ez), dX, bI, cR, cD, b4, gJ, nm, seval]
 refine ktA (iG _ _ _ _ m3) ?_
 refine bx (fun tm => tm 1 = .lit (.int .i64 bj) ∧ tm 5 = .ptr 7 0 ∧ tm 27 = .lit (.bool false) ∧ tm 34 = .lit (.bool nH) ∧ True) (by refine ⟨bI, cR, ?_, ?_, trivial⟩ <;> first | (simp only [ua, dX, bI, cR, cD, b4, gJ, nm, seval] <;> rfl) | rfl) ?_
 rintro tm ⟨bY, aW, bQ, bA, _⟩
 cases ja : (nH)
 ·simp only [ja, hs] at h
  try simp only [vz, tyf, (aK ez), dX, gJ, bY, aW, bQ, bA, ja, nm, seval]
  obtain rfl := kF _ h
  exact aZ Tryz.results74 rfl
 simp only [ja, hs] at h
 cases kX : (lenOk x9.Needs)
 ·simp only [kX, hs] at h
  exact absurd h kN
 simp only [kX, hs] at h
 simp only [vz, tyf, (aK ez), dX, gJ, bY, aW, bQ, bA, ja, kX, nm, seval]
 obtain ⟨IH, h, nQ, ug, II, nR⟩ := fh h kN
 obtain ⟨IJ, uh, h⟩ := call2 h
 obtain ⟨IK, jb⟩ : ∃ I : Nat → St → Prop, I = (fun m st => ∃ (iH : List Int) (bP : Int), m = List.length iH ∧ 0 ≤ bP ∧ List.drop (Int.toNat bP) x9.Needs = iH ∧ st.df = [] ∧ 35 ≤ st.nx ∧ st.H 7 = some (.cells (some 49) (cGBs x9)) ∧ st.tm 1 = .lit (.int .i64 bj) ∧ st.tm 5 = .ptr 7 0 ∧ st.tm 6 = .lit (.int .i64 bP) ∧ IH (IJ iH bP)) := ⟨_, rfl⟩
 refine loopK mixed (by kernel_rfl) IK (List.length x9.Needs) (by rw [jb]; refine ⟨x9.Needs, 0, rfl, Int.le_refl _, rfl, rfl, (show 35 ≤ 35 by omega), ?_, bY, aW, ?_, h⟩ <;> first | (simp only [ua, dX, gJ, bY, aW, bQ, bA, ja, nm, seval] <;> rfl) | rfl) ?_
 rintro m ⟨tm, H, kY, df⟩ hinv
 rw [jb] at hinv
 obtain ⟨iH, bP, rfl, eM, gi, hdf, ui, nS, fM, nT, nU, h⟩ := hinv
 simp only at hdf ui nS fM nT nU
 have rM := gF (m := 35) (b := kY) (by omega)
 subst hdf uh
 cases iH with
 | nil =>
  have IL : (decide (bP < (List.length x9.Needs : Int))) = false := fj eM gi
  simp only [kW, hs, reduceCtorEq] at h
  replace h := ug _ h
  try dsimp only at h
  try simp only [hs] at h
  try simp only [vz, tyf, (aK ez), dX, gJ, ja, kX, rM, fM, nT, nU, nS, IL, nm, seval]
  obtain rfl := kF _ h
  exact aZ Tryz.results74 rfl
 | cons ca iH =>
  have uj : (decide (bP < (List.length x9.Needs : Int))) = true := fk eM gi
  have jD := dg eM gi
  have uk := fm eM gi kX
  simp only [kW, hs, reduceCtorEq] at h
  simp only [vz, tyf, (aK ez), dX, gJ, ja, kX, rM, fM, nT, nU, nS, uj, (aR jD), uk, nm, seval]
  refine nV (fun tm => tm 1 = .lit (.int .i64 bj) ∧ tm 5 = .ptr 7 0 ∧ tm 6 = .lit (.int .i64 bP) ∧ True) (by refine ⟨fM, nT, nU, trivial⟩ <;> first | (simp only [ua, dX, gJ, ja, rM, fM, nT, nU, nS, uj, uk, nm, seval] <;> rfl) | rfl) ?_
  rintro tm ⟨cb, ck, eJ, _⟩
  have iI := And.intro dX (And.intro gJ (And.intro ja (And.intro kX (And.intro rM (And.intro nS (And.intro uj uk))))))
  obtain ⟨EH, IM, h⟩ := optI h nR
  try simp only [hs] at h
  simp only [vz, tyf, iI, (aK ez), (aR jD), cb, ck, eJ, nm, seval]
  refine dktA (iG _ _ _ _ IM) ?_
  refine bx (fun tm => tm 1 = .lit (.int .i64 bj) ∧ tm 5 = .ptr 7 0 ∧ tm 6 = .lit (.int .i64 bP) ∧ tm 51 = .lit (.bool EH) ∧ True) (by refine ⟨cb, ck, eJ, ?_, trivial⟩ <;> first | (simp only [ua, iI, cb, ck, eJ, nm, seval] <;> rfl) | rfl) ?_
  rintro tm ⟨dj, cO, dN, dO, _⟩
  cases fN : (EH)
  ·simp only [fN, hs] at h
   try simp only [vz, tyf, iI, (aK ez), (aR jD), dj, cO, dN, dO, fN, nm, seval]
   replace h := nQ _ h
   try dsimp only at h
   obtain rfl := kF _ h
   exact aZ Tryz.results74 rfl
  simp only [fN, hs] at h
  cases eN : (decide (bP > 0))
  ·simp only [eN, hs] at h
   simp only [vz, tyf, iI, (aK ez), (aR jD), dj, cO, dN, dO, fN, eN, nm, seval]
   exact ⟨List.length iH, Nat.lt_succ_self _, by rw [jb]; refine ⟨iH, bP + 1, rfl, Int.le_trans eM (Int.le_add_one (Int.le_refl _)), dh eM gi, rfl, (show 35 ≤ kY + 35 by omega), ?_, dj, cO, ?_, (by first | exact h | (simp only [iI, fN, eN]; exact h))⟩ <;> first | (simp only [ua, iI, dj, cO, dN, dO, fN, eN, nm, seval] <;> rfl) | rfl⟩
  simp only [eN, hs] at h
  obtain ⟨IN, rN, h⟩ := optI h nR
  try simp only [hs] at h
  cases m8 : (decide (ca ≤ IN))
  ·simp only [m8, hs] at h
   simp only [vz, tyf, iI, (aK ez), (aR jD), dj, cO, dN, dO, fN, eN, (aR rN), m8, nm, seval]
   exact ⟨List.length iH, Nat.lt_succ_self _, by rw [jb]; refine ⟨iH, bP + 1, rfl, Int.le_trans eM (Int.le_add_one (Int.le_refl _)), dh eM gi, rfl, (show 35 ≤ kY + 35 by omega), ?_, dj, cO, ?_, (by first | exact h | (simp only [iI, fN, eN, m8]; exact h))⟩ <;> first | (simp only [ua, iI, dj, cO, dN, dO, fN, eN, m8, nm, seval] <;> rfl) | rfl⟩
  simp only [m8, hs] at h
  try simp only [vz, tyf, iI, (aK ez), (aR jD), dj, cO, dN, dO, fN, eN, (aR rN), m8, nm, seval]
  replace h := nQ _ h
  try dsimp only at h
  obtain rfl := kF _ h
  exact aZ Tryz.results74 rfl
def m9 (ai : GBk) : List GBs → Int → Option (LOut (Bool) (Unit))
 | [], kZ => some (.go ())
 | e1 :: p1, kZ => Option.bind (nP ai kZ) (fun r6 => cond (r6) (m9 ai p1 (kZ + 1)) (some (.ret false)))
def mA  : List Int → Int → Option (LOut (Bool) (Unit))
 | [], cm => some (.go ())
 | e0 :: p0, cm => Option.bind (gg e0 0 60) (fun r4 => cond (r4) (mA p0 (cm + 1)) (some (.ret false)))
def mB (ai : GBk) : Option (Bool) := Option.bind (gg ai.Apprentices 0 3) (fun r1 => cond (r1) (Option.bind (gg (List.length ai.Boards : Int) 1 3) (fun r2 => cond (r2) (Option.bind (gg (List.length ai.Strokes : Int) 1 6) (fun r3 => cond (r3) (cond (lenOk ai.Boards) (lbind (mA ai.Boards 0) (fun r9 => some r9) (fun c5 => cond (lenOk ai.Strokes) (lbind (m9 ai ai.Strokes 0) (fun r8 => some r8) (fun c7 => some true) (fun _ _ => none)) none) (fun _ _ => none)) none) (some false))) (some false))) (some false))
theorem EI (ai : GBk) (R : Bool) (h : mB ai = some R) : ah Tryz.prog G0 24 [.agg (cGBk ai)] (.tree (.lit (.bool R))) := by
 refine ah.runR mixed Tryz.call24 Tryz.func24 rfl (by simp [Tryz.ntmps24]; kernel_rfl) ?_
 obtain ⟨KF, h, kF, kN⟩ := bU h
 simp only [mB] at h
 obtain ⟨la, um, h⟩ := optI h kN
 try simp only [hs] at h
 simp only [vz, tyf, nm, seval]
 refine ktA (iG _ _ _ _ um) ?_
 refine bx (fun tm => tm 1 = .ptr 0 0 ∧ tm 7 = .lit (.bool la) ∧ True) (by refine ⟨?_, ?_, trivial⟩ <;> first | (simp only [ua, nm, seval] <;> rfl) | rfl) ?_
 rintro tm ⟨bl, br, _⟩
 cases bH : (la)
 ·simp only [bH, hs] at h
  try simp only [vz, tyf, bl, br, bH, nm, seval]
  obtain rfl := kF _ h
  exact aZ Tryz.results24 rfl
 simp only [bH, hs] at h
 obtain ⟨rH, eK, h⟩ := optI h kN
 try simp only [hs] at h
 simp only [vz, tyf, bl, br, bH, nm, seval]
 refine ktA (iG _ _ _ _ eK) ?_
 refine bx (fun tm => tm 1 = .ptr 0 0 ∧ tm 9 = .lit (.bool false) ∧ tm 13 = .lit (.bool rH) ∧ True) (by refine ⟨bl, ?_, ?_, trivial⟩ <;> first | (simp only [ua, bl, br, bH, nm, seval] <;> rfl) | rfl) ?_
 rintro tm ⟨bh, bp, bI, _⟩
 cases de : (rH)
 ·simp only [de, hs] at h
  try simp only [vz, tyf, bH, bh, bp, bI, de, nm, seval]
  obtain rfl := kF _ h
  exact aZ Tryz.results24 rfl
 simp only [de, hs] at h
 obtain ⟨hO, nW, h⟩ := optI h kN
 try simp only [hs] at h
 simp only [vz, tyf, bH, bh, bp, bI, de, nm, seval]
 refine ktA (iG _ _ _ _ nW) ?_
 refine bx (fun tm => tm 1 = .ptr 0 0 ∧ tm 16 = .lit (.bool false) ∧ tm 20 = .lit (.bool hO) ∧ True) (by refine ⟨bh, ?_, ?_, trivial⟩ <;> first | (simp only [ua, bH, bh, bp, bI, de, nm, seval] <;> rfl) | rfl) ?_
 rintro tm ⟨bf, bu, bB, _⟩
 cases bz : (hO)
 ·simp only [bz, hs] at h
  try simp only [vz, tyf, bH, de, bf, bu, bB, bz, nm, seval]
  obtain rfl := kF _ h
  exact aZ Tryz.results24 rfl
 simp only [bz, hs] at h
 cases iJ : (lenOk ai.Boards)
 ·simp only [iJ, hs] at h
  exact absurd h kN
 simp only [iJ, hs] at h
 simp only [vz, tyf, bH, de, bf, bu, bB, bz, iJ, nm, seval]
 obtain ⟨IP, h, uo, uq, IQ, ur⟩ := fh h kN
 obtain ⟨IS, uu, h⟩ := call2 h
 obtain ⟨IT, lb⟩ : ∃ I : Nat → St → Prop, I = (fun m st => ∃ (jE : List Int) (cw : Int), m = List.length jE ∧ 0 ≤ cw ∧ List.drop (Int.toNat cw) ai.Boards = jE ∧ st.df = [] ∧ 21 ≤ st.nx ∧ st.H 0 = some (.cells (some 25) (cGBk ai)) ∧ st.tm 1 = .ptr 0 0 ∧ st.tm 3 = .lit (.int .i64 cw) ∧ IP (IS jE cw)) := ⟨_, rfl⟩
 refine loopK mixed (by kernel_rfl) IT (List.length ai.Boards) (by rw [lb]; refine ⟨ai.Boards, 0, rfl, Int.le_refl _, rfl, rfl, (show 21 ≤ 21 by omega), ?_, bf, ?_, h⟩ <;> first | (simp only [ua, bH, de, bf, bu, bB, bz, nm, seval] <;> rfl) | rfl) ?_
 rintro m ⟨tm, H, fw, df⟩ hinv
 rw [lb] at hinv
 obtain ⟨jE, cw, rfl, gj, hS, hdf, uv, eA, cj, ca, h⟩ := hinv
 simp only at hdf uv eA cj ca
 have jc := gF (m := 21) (b := fw) (by omega)
 subst hdf uu
 cases jE with
 | nil =>
  have dw : (decide (cw < (List.length ai.Boards : Int))) = false := fj gj hS
  simp only [mA, hs, reduceCtorEq] at h
  replace h := uq _ h
  try dsimp only at h
  try simp only [hs] at h
  cases fx : (lenOk ai.Strokes)
  ·simp only [fx, hs] at h
   exact absurd h kN
  simp only [fx, hs] at h
  simp only [vz, tyf, bH, de, bz, iJ, jc, cj, ca, eA, dw, fx, nm, seval]
  obtain ⟨IU, h, ux, uy, IV, uz⟩ := fh h kN
  obtain ⟨IW, u2, h⟩ := call2 h
  obtain ⟨IX, ld⟩ : ∃ I : Nat → St → Prop, I = (fun m st => ∃ (jF : List GBs) (cy : Int), m = List.length jF ∧ 0 ≤ cy ∧ List.drop (Int.toNat cy) ai.Strokes = jF ∧ st.df = [] ∧ fw + 6 ≤ st.nx ∧ st.H 0 = some (.cells (some 25) (cGBk ai)) ∧ st.tm 1 = .ptr 0 0 ∧ st.tm 4 = .lit (.int .i64 cy) ∧ IU (IW jF cy)) := ⟨_, rfl⟩
  refine loopK mixed (by kernel_rfl) IX (List.length ai.Strokes) (by rw [ld]; refine ⟨ai.Strokes, 0, rfl, Int.le_refl _, rfl, rfl, (show fw + 6 ≤ fw + 6 by omega), ?_, cj, ?_, h⟩ <;> first | (simp only [ua, bH, de, bz, jc, cj, ca, eA, dw, nm, seval] <;> rfl) | rfl) ?_
  rintro m ⟨tm, H, lf, df⟩ hinv
  rw [ld] at hinv
  obtain ⟨jF, cy, rfl, gk, hT, hdf, u3, nX, nY, dL, h⟩ := hinv
  simp only at hdf u3 nX nY dL
  have rO := gF (m := 21) (b := lf) (by omega)
  have rP := nZ (a := fw) (m := 6) (b := lf) (by omega)
  subst hdf u2
  cases jF with
  | nil =>
   have IY : (decide (cy < (List.length ai.Strokes : Int))) = false := fj gk hT
   simp only [m9, hs, reduceCtorEq] at h
   replace h := uy _ h
   try dsimp only at h
   try simp only [hs] at h
   try simp only [vz, tyf, bH, de, bz, iJ, jc, dw, fx, rO, rP, nY, dL, nX, IY, nm, seval]
   obtain rfl := kF _ h
   exact aZ Tryz.results24 rfl
  | cons fM jF =>
   have u4 : (decide (cy < (List.length ai.Strokes : Int))) = true := fk gk hT
   have u5 := dg gk hT
   have u6 := fm gk hT fx
   simp only [m9, hs, reduceCtorEq] at h
   obtain ⟨lg, u7, h⟩ := optI h uz
   try simp only [hs] at h
   simp only [vz, tyf, bH, de, bz, iJ, jc, dw, fx, rO, rP, nY, dL, nX, u4, (aK u5), u6, nm, seval]
   refine ktA (IF _ _ _ u7) ?_
   refine bx (fun tm => tm 1 = .ptr 0 0 ∧ tm 4 = .lit (.int .i64 cy) ∧ tm 46 = .lit (.bool lg) ∧ True) (by refine ⟨nY, dL, ?_, trivial⟩ <;> first | (simp only [ua, bH, de, bz, jc, dw, rO, rP, nY, dL, nX, u4, u6, nm, seval] <;> rfl) | rfl) ?_
   rintro tm ⟨fy, dj, cO, _⟩
   have rQ := And.intro bH (And.intro de (And.intro bz (And.intro iJ (And.intro jc (And.intro dw (And.intro fx (And.intro rO (And.intro rP (And.intro nX (And.intro u4 u6))))))))))
   cases mC : (lg)
   ·simp only [mC, hs] at h
    try simp only [vz, tyf, rQ, (aK u5), fy, dj, cO, mC, nm, seval]
    replace h := ux _ h
    try dsimp only at h
    obtain rfl := kF _ h
    exact aZ Tryz.results24 rfl
   simp only [mC, hs] at h
   simp only [vz, tyf, rQ, (aK u5), fy, dj, cO, mC, nm, seval]
   exact ⟨List.length jF, Nat.lt_succ_self _, by rw [ld]; refine ⟨jF, cy + 1, rfl, Int.le_trans gk (Int.le_add_one (Int.le_refl _)), dh gk hT, rfl, (show fw + 6 ≤ lf + 12 by omega), ?_, fy, ?_, (by first | exact h | (simp only [rQ, mC]; exact h))⟩ <;> first | (simp only [ua, rQ, fy, dj, cO, mC, nm, seval] <;> rfl) | rfl⟩
 | cons aW jE =>
  have fN : (decide (cw < (List.length ai.Boards : Int))) = true := fk gj hS
  have u9 := dg gj hS
  have uA := fm gj hS iJ
  simp only [mA, hs, reduceCtorEq] at h
  obtain ⟨oa, uB, h⟩ := optI h ur
  try simp only [hs] at h
  simp only [vz, tyf, bH, de, bz, iJ, jc, cj, ca, eA, fN, (aR u9), uA, nm, seval]
  refine ktA (iG _ _ _ _ uB) ?_
  refine bx (fun tm => tm 1 = .ptr 0 0 ∧ tm 3 = .lit (.int .i64 cw) ∧ tm 35 = .lit (.bool oa) ∧ True) (by refine ⟨cj, ca, ?_, trivial⟩ <;> first | (simp only [ua, bH, de, bz, jc, cj, ca, eA, fN, uA, nm, seval] <;> rfl) | rfl) ?_
  rintro tm ⟨iK, jd, je, _⟩
  have rR := And.intro bH (And.intro de (And.intro bz (And.intro iJ (And.intro jc (And.intro eA (And.intro fN uA))))))
  cases mD : (oa)
  ·simp only [mD, hs] at h
   try simp only [vz, tyf, rR, (aR u9), iK, jd, je, mD, nm, seval]
   replace h := uo _ h
   try dsimp only at h
   obtain rfl := kF _ h
   exact aZ Tryz.results24 rfl
  simp only [mD, hs] at h
  simp only [vz, tyf, rR, (aR u9), iK, jd, je, mD, nm, seval]
  exact ⟨List.length jE, Nat.lt_succ_self _, by rw [lb]; refine ⟨jE, cw + 1, rfl, Int.le_trans gj (Int.le_add_one (Int.le_refl _)), dh gj hS, rfl, (show 21 ≤ fw + 15 by omega), ?_, iK, ?_, (by first | exact h | (simp only [rR, mD]; exact h))⟩ <;> first | (simp only [ua, rR, iK, jd, je, mD, nm, seval] <;> rfl) | rfl⟩
def mF (ai : GBk) : Option (Bool) := Option.bind (rK ai) (fun r1 => cond (r1) (Option.bind (mB ai) (fun r2 => some r2)) (some false))
theorem IZ (ai : GBk) (R : Bool) (h : mF ai = some R) : ah Tryz.prog G0 30 [.agg (cGBk ai)] (.tree (.lit (.bool R))) := by
 refine ah.runR mixed Tryz.call30 Tryz.func30 rfl (by simp [Tryz.ntmps30]; kernel_rfl) ?_
 obtain ⟨KF, h, kF, kN⟩ := bU h
 simp only [mF] at h
 obtain ⟨r3, o4, h⟩ := optI h kN
 try simp only [hs] at h
 simp only [vz, tyf, nm, seval]
 refine ktA (I9 _ _ o4) ?_
 refine bx (fun tm => tm 1 = .ptr 0 0 ∧ tm 4 = .lit (.bool r3) ∧ True) (by refine ⟨?_, ?_, trivial⟩ <;> first | (simp only [ua, nm, seval] <;> rfl) | rfl) ?_
 rintro tm ⟨e5, e6, _⟩
 cases d7 : (r3)
 ·simp only [d7, hs] at h
  try simp only [vz, tyf, e5, e6, d7, nm, seval]
  obtain rfl := kF _ h
  exact aZ Tryz.results30 rfl
 simp only [d7, hs] at h
 obtain ⟨r8, o9, h⟩ := optI h kN
 try simp only [hs] at h
 simp only [vz, tyf, e5, e6, d7, nm, seval]
 refine ktA (EI _ _ o9) ?_
 refine bx (fun tm => tm 5 = .lit (.bool true) ∧ tm 7 = .lit (.bool r8) ∧ True) (by refine ⟨?_, ?_, trivial⟩ <;> first | (simp only [ua, e5, e6, d7, nm, seval] <;> rfl) | rfl) ?_
 rintro tm ⟨aV, bc, _⟩
 try simp only [vz, tyf, d7, aV, bc, nm, seval]
 obtain rfl := kF _ h
 exact aZ Tryz.results30 rfl
def rS (hU : List Int) : Option (Bool) := some (decide ((List.length hU : Int) ≤ 9))
theorem Ja (hU : List Int) (R : Bool) (h : rS hU = some R) : ah Tryz.prog G0 19 [.sl (aa eI hU) (List.length hU) false] (.tree (.lit (.bool R))) := by
 refine ah.runR mixed Tryz.call19 Tryz.func19 rfl (by simp [Tryz.ntmps19]; kernel_rfl) ?_
 obtain ⟨KF, h, kF, kN⟩ := bU h
 simp only [rS] at h
 try simp only [vz, tyf, nm, seval]
 obtain rfl := kF _ h
 exact aZ Tryz.results19 rfl
def lh (ai : GBk) : List Int → Int → Option (LOut (Bool) (Unit))
 | [], dz => some (.go ())
 | e0 :: p0, dz => Option.bind (gg e0 0 ai.Apprentices) (fun r1 => cond (r1) (Option.bind (getI ai.Strokes dz) (fun x2 => cond (x2.Round) (cond (e0 != 0) (some (.ret false)) (lh ai p0 (dz + 1))) (lh ai p0 (dz + 1)))) (some (.ret false)))
def oc (ai : GBk) (bJ : List Int) : Option (Bool) := cond ((List.length bJ : Int) != (List.length ai.Strokes : Int)) (some false) (cond (lenOk bJ) (lbind (lh ai bJ 0) (fun r4 => some r4) (fun c3 => some true) (fun _ _ => none)) none)
theorem Jb (ai : GBk) (bJ : List Int) (R : Bool) (h : oc ai bJ = some R) : ah Tryz.prog G0 25 [.agg (cGBk ai), .sl (aa eI bJ) (List.length bJ) false] (.tree (.lit (.bool R))) := by
 refine ah.runR mixed Tryz.call25 Tryz.func25 rfl (by simp [Tryz.ntmps25]; kernel_rfl) ?_
 obtain ⟨KF, h, kF, kN⟩ := bU h
 simp only [oc] at h
 cases d5 : ((List.length bJ : Int) != (List.length ai.Strokes : Int))
 ·simp only [d5, hs] at h
  cases g7 : (lenOk bJ)
  ·simp only [g7, hs] at h
   exact absurd h kN
  simp only [g7, hs] at h
  simp only [vz, tyf, d5, g7, nm, seval]
  obtain ⟨K6, h, rT, uC, Jc, lj⟩ := fh h kN
  obtain ⟨f6, uD, h⟩ := call2 h
  obtain ⟨I6, jG⟩ : ∃ I : Nat → St → Prop, I = (fun m st => ∃ (p6 : List Int) (dk : Int), m = List.length p6 ∧ 0 ≤ dk ∧ List.drop (Int.toNat dk) bJ = p6 ∧ st.df = [] ∧ 9 ≤ st.nx ∧ st.H 0 = some (.cells (some 25) (cGBk ai)) ∧ st.tm 1 = .sl (aa eI bJ) (List.length bJ) false ∧ st.tm 2 = .ptr 0 0 ∧ st.tm 5 = .lit (.int .i64 dk) ∧ K6 (f6 p6 dk)) := ⟨_, rfl⟩
  refine loopK mixed (by kernel_rfl) I6 (List.length bJ) (by rw [jG]; refine ⟨bJ, 0, rfl, Int.le_refl _, rfl, rfl, (show 9 ≤ 9 by omega), ?_, ?_, ?_, ?_, h⟩ <;> first | (simp only [ua, d5, nm, seval] <;> rfl) | rfl) ?_
  rintro m ⟨tm, H, lk, df⟩ hinv
  rw [jG] at hinv
  obtain ⟨p6, dk, rfl, jH, mG, hdf, uE, H8, e9, aV, bc, h⟩ := hinv
  simp only at hdf uE H8 e9 aV bc
  have fp := gF (m := 9) (b := lk) (by omega)
  subst hdf uD
  cases p6 with
  | nil =>
   have gL : (decide (dk < (List.length bJ : Int))) = false := fj jH mG
   simp only [lh, hs, reduceCtorEq] at h
   replace h := uC _ h
   try dsimp only at h
   try simp only [hs] at h
   try simp only [vz, tyf, d5, g7, fp, e9, aV, bc, H8, gL, nm, seval]
   obtain rfl := kF _ h
   exact aZ Tryz.results25 rfl
  | cons e6 p6 =>
   have bH : (decide (dk < (List.length bJ : Int))) = true := fk jH mG
   have eK := dg jH mG
   have mH := fm jH mG g7
   simp only [lh, hs, reduceCtorEq] at h
   simp only [vz, tyf, d5, g7, fp, e9, aV, bc, H8, bH, (aR eK), mH, nm, seval]
   refine nV (fun tm => tm 1 = .sl (aa eI bJ) (List.length bJ) false ∧ tm 2 = .ptr 0 0 ∧ tm 5 = .lit (.int .i64 dk) ∧ True) (by refine ⟨e9, aV, bc, trivial⟩ <;> first | (simp only [ua, d5, fp, e9, aV, bc, H8, bH, mH, nm, seval] <;> rfl) | rfl) ?_
   rintro tm ⟨bh, bp, bI, _⟩
   obtain ⟨gM, eO, h⟩ := optI h lj
   try simp only [hs] at h
   simp only [vz, tyf, d5, g7, fp, H8, bH, (aR eK), mH, bh, bp, bI, nm, seval]
   refine dktA (iG _ _ _ _ eO) ?_
   refine bx (fun tm => tm 1 = .sl (aa eI bJ) (List.length bJ) false ∧ tm 2 = .ptr 0 0 ∧ tm 5 = .lit (.int .i64 dk) ∧ tm 24 = .lit (.bool gM) ∧ True) (by refine ⟨bh, bp, bI, ?_, trivial⟩ <;> first | (simp only [ua, d5, fp, H8, bH, mH, bh, bp, bI, nm, seval] <;> rfl) | rfl) ?_
   rintro tm ⟨b4, bf, bu, bB, _⟩
   cases bz : (gM)
   ·simp only [bz, hs] at h
    have Jd := And.intro d5 (And.intro g7 (And.intro fp (And.intro H8 (And.intro bH (And.intro mH bz)))))
    try simp only [vz, tyf, Jd, (aR eK), b4, bf, bu, bB, nm, seval]
    replace h := rT _ h
    try dsimp only at h
    obtain rfl := kF _ h
    exact aZ Tryz.results25 rfl
   simp only [bz, hs] at h
   have eP := And.intro d5 (And.intro g7 (And.intro fp (And.intro H8 (And.intro bH (And.intro mH bz)))))
   obtain ⟨Je, od, h⟩ := optI h lj
   try simp only [hs] at h
   cases hX : (Je.Round)
   ·simp only [hX, hs] at h
    simp only [vz, tyf, eP, (aR eK), b4, bf, bu, bB, (aK od), hX, nm, seval]
    exact ⟨List.length p6, Nat.lt_succ_self _, by rw [jG]; refine ⟨p6, dk + 1, rfl, Int.le_trans jH (Int.le_add_one (Int.le_refl _)), dh jH mG, rfl, (show 9 ≤ lk + 30 by omega), ?_, b4, bf, ?_, (by first | exact h | (simp only [eP, hX]; exact h))⟩ <;> first | (simp only [ua, eP, b4, bf, bu, bB, hX, nm, seval] <;> rfl) | rfl | (simp only [ua, tyf, eP, b4, bf, bu, bB, hX, nm, seval] <;> rfl)⟩
   simp only [hX, hs] at h
   cases ll : (e6 != 0)
   ·simp only [ll, hs] at h
    simp only [vz, tyf, eP, (aR eK), b4, bf, bu, bB, (aK od), hX, ll, nm, seval]
    exact ⟨List.length p6, Nat.lt_succ_self _, by rw [jG]; refine ⟨p6, dk + 1, rfl, Int.le_trans jH (Int.le_add_one (Int.le_refl _)), dh jH mG, rfl, (show 9 ≤ lk + 30 by omega), ?_, b4, bf, ?_, (by first | exact h | (simp only [eP, hX, ll]; exact h))⟩ <;> first | (simp only [ua, eP, b4, bf, bu, bB, hX, ll, nm, seval] <;> rfl) | rfl | (simp only [ua, tyf, eP, b4, bf, bu, bB, hX, ll, nm, seval] <;> rfl)⟩
   simp only [ll, hs] at h
   try simp only [vz, tyf, eP, (aR eK), b4, bf, bu, bB, (aK od), hX, ll, nm, seval]
   replace h := rT _ h
   try dsimp only at h
   obtain rfl := kF _ h
   exact aZ Tryz.results25 rfl
 simp only [d5, hs] at h
 try simp only [vz, tyf, d5, nm, seval]
 obtain rfl := kF _ h
 exact aZ Tryz.results25 rfl

def oe (ai : GBk) (bj : Int) : Option (Bool) := Option.bind (gg bj 0 (i64.wrap ((List.length ai.Strokes : Int) - 1))) (fun r1 => some r1)
theorem Jf (ai : GBk) (bj : Int) (R : Bool) (h : oe ai bj = some R) : ah Tryz.prog G0 45 [.agg (cGBk ai), .lit (.int .i64 bj)] (.tree (.lit (.bool R))) := by
 refine ah.runR mixed Tryz.call45 Tryz.func45 rfl (by simp [Tryz.ntmps45]; kernel_rfl) ?_
 obtain ⟨KF, h, kF, kN⟩ := bU h
 simp only [oe] at h
 obtain ⟨r2, o3, h⟩ := optI h kN
 try simp only [hs] at h
 simp only [vz, tyf, nm, seval]
 refine ktA (iG _ _ _ _ o3) ?_
 refine bx (fun tm => tm 10 = .lit (.bool r2) ∧ True) (by refine ⟨?_, trivial⟩ <;> first | (simp only [ua, nm, seval] <;> rfl) | rfl) ?_
 rintro tm ⟨e4, _⟩
 try simp only [vz, tyf, e4, nm, seval]
 obtain rfl := kF _ h
 exact aZ Tryz.results45 rfl
theorem rU (a n b : Int) : iS a n b = some (inB a b n) := csome _ _
theorem mI (n a b : Int) : gg n a b = some (inB a b n) := csome _ _
theorem EJ (a b : Int) : ∀ (p : List Int) (c : Int), mJ a b p c = goB (p.all (inB a b))
 | [], _ => rfl
 | e :: p, c => by simp only [mJ, rU, Option.bind_some, EJ a b p, List.all_cons, ln]
theorem uF {l : List Int} (hl : l.length < 9223372036854775808) (a b : Int) : kO a l b = some (l.all (inB a b)) := by
 unfold kO
 rw [fO hl, cond_true, EJ, jI]
 exact csome _ _ ▸ by cases l.all (inB a b) <;> rfl
def adjB : List Int → Bool
 | a :: b :: l => decide (a < b) && adjB (b :: l)
 | _ => true
theorem EK {ns : List Int} (hn : ns.length < 9223372036854775808) : ∀ (p : List Int) (c a : Int), 1 ≤ c → ns.drop (c - 1).toNat = a :: p → mK ns p c = goB (adjB (a :: p))
 | [], _, _, _, _ => rfl
 | e :: p, c, a, hc, hd => by
  have h1 := dg (by omega) hd
  have hb := (lp h1).2
  have h2 := dh (by omega) hd
  simp only [mK]
  rw [fP (by omega) (by omega), h1, Option.bind_some, EK hn p (c + 1) e (by omega) (by rw [← h2]; congr 1; omega)]
  have ea : adjB (a :: e :: p) = (decide (a < e) && adjB (e :: p)) := rfl
  rw [ea, ln]
  by_cases h : e ≤ a
  ·rw [decide_eq_true h, decide_eq_false (Int.not_lt.2 h)]; rfl
  ·rw [decide_eq_false h, decide_eq_true (Int.not_le.1 h)]; rfl
theorem uG {l : List Int} (hl : l.length < 9223372036854775808) (a b : Int) : nG a l b = some (adjB l && l.all (inB a b)) := by
 unfold nG
 have hle : leB 0 1 = true := by decide
 rw [fO hl, cond_true, hle, cond_true, uF hl]
 cases l with
 | nil => rfl
 | cons x p =>
  have := EK hl p 1 x (Int.le_refl _) rfl
  simp only [Int.reduceToNat, List.drop_succ_cons, List.drop_zero]
  rw [this, jI, Option.bind_some]
  cases adjB (x :: p) <;> rfl
def strokeB (nb : Nat) (n : Int) (s : GBs) : Bool := inB 0 ((nb : Int) - 1) s.Board && ((inB 1 6 s.Hours.Low && inB s.Hours.Low 6 s.Hours.High) && (s.Needs.all (inB 0 (n - 1)) && adjB s.Needs))
def strokesB (nb : Nat) : Int → List GBs → Bool
 | _, [] => true
 | c, s :: l => strokeB nb c s && strokesB nb (c + 1) l
def benchB (b : GBk) : Bool := inB 0 3 b.Apprentices && ((inB 1 3 b.Boards.length && b.Boards.all (inB 0 60)) && (inB 1 6 b.Strokes.length && strokesB b.Boards.length 0 b.Strokes))
structure Len (b : GBk) : Prop where
 bo : b.Boards.length < 9223372036854775808
 st : b.Strokes.length < 9223372036854775808
 nd : ∀ s ∈ b.Strokes, s.Needs.length < 9223372036854775808
theorem uH (a b : Int) (x : GSpan) : nE a x b = some (inB a b x.Low && inB x.Low b x.High) := by
 unfold nE inB
 by_cases h1 : a ≤ x.Low <;> by_cases h2 : x.Low ≤ x.High <;> by_cases h3 : x.High ≤ b <;> by_cases h4 : x.Low ≤ b <;> simp [h1, h2, h3, h4] <;> omega
theorem EL {b : GBk} (hb : b.Boards.length < 9223372036854775808) : ∀ (p : List GBs) (c : Int), 0 ≤ c → c + p.length < 9223372036854775808 → (∀ s ∈ p, s.Needs.length < 9223372036854775808) → m0 b p c = goB (strokesB b.Boards.length c p)
 | [], _, _, _, _ => rfl
 | s :: p, c, h0, h1, h2 => by
  simp only [List.length_cons] at h1
  have hs := h2 s (List.mem_cons_self ..)
  simp only [m0, rD, rU, Option.bind_some, uH]
  rw [fP (by omega) (by omega), fP (by omega) (by omega), uG hs, EL hb p (c + 1) (by omega) (by omega) (fun s hs => h2 s (List.mem_cons_of_mem _ hs))]
  simp only [strokesB, strokeB, ln, Option.bind_some]
  cases inB 0 ((b.Boards.length : Int) - 1) s.Board <;> cases inB 1 6 s.Hours.Low <;> cases inB s.Hours.Low 6 s.Hours.High <;> cases s.Needs.all (inB 0 (c - 1)) <;> cases adjB s.Needs <;> rfl
theorem EM {b : GBk} (h : Len b) : m5 b = some (benchB b) := by
 unfold m5 benchB rG rE
 simp only [rU, Option.bind_some, uF h.bo]
 rw [fO h.st, cond_true, EL h.bo b.Strokes 0 (Int.le_refl _) (by have := h.st; omega) h.nd, jI]
 cases inB 0 3 b.Apprentices <;> cases inB 1 3 (b.Boards.length : Int) <;> cases b.Boards.all (inB 0 60) <;> cases inB 1 6 (b.Strokes.length : Int) <;> cases strokesB b.Boards.length 0 b.Strokes <;> rfl
def adjF (a : Option Int) : List Int → Bool
 | [] => true
 | e :: l => (match a with | some x => decide (x < e) | none => true) && adjF (some e) l
theorem EN : ∀ (l : List Int) (a : Int), adjF (some a) l = adjB (a :: l)
 | [], _ => rfl
 | e :: l, a => by unfold adjF adjB; rw [EN l e]
theorem uI (l : List Int) : adjF none l = adjB l := by
 cases l with
 | nil => rfl
 | cons e l => unfold adjF; rw [EN l e]; rfl
theorem EO {n : Int} (hn : -9223372036854775807 ≤ n) (uJ : n < 9223372036854775808) {s : GBs} (hl : s.Needs.length < 9223372036854775808) : ∀ (p : List Int) (c : Int) (a : Option Int), 0 ≤ c → s.Needs.drop c.toNat = p → (c = 0 ∧ a = none ∨ 0 < c ∧ getI s.Needs (c - 1) = a ∧ a ≠ none) →
  kW n s p c = goB (p.all (inB 0 (n - 1)) && adjF a p)
 | [], _, _, _, _, _ => rfl
 | e :: p, c, a, h0, hd, ha => by
  have h1 := dg h0 hd
  have hb := (lp h1).2
  simp only [kW, mI, Option.bind_some]
  rw [fP (by omega) (by omega), EO hn uJ hl p (c + 1) (some e) (by omega) (dh h0 hd) (.inr ⟨by omega, by rw [show c + 1 - 1 = c by omega]; exact h1, by simp⟩)]
  simp only [List.all_cons, adjF]
  rcases ha with ⟨rfl, rfl⟩ | ⟨hc, ha, hne⟩
  ·cases inB 0 (n - 1) e <;> cases p.all (inB 0 (n - 1)) <;> cases adjF (some e) p <;> rfl
  ·rw [fP (by omega) (by omega), ha, decide_eq_true (show c > 0 from hc)]
   cases a with
   | none => exact absurd rfl hne
   | some x =>
    simp only [cond_true, Option.bind_some]
    by_cases h : e ≤ x
    ·rw [decide_eq_true h, decide_eq_false (Int.not_lt.2 h)]
     cases inB 0 (n - 1) e <;> simp [goB]
    ·rw [decide_eq_false h, decide_eq_true (Int.not_le.1 h)]
     cases inB 0 (n - 1) e <;> cases p.all (inB 0 (n - 1)) <;> cases adjF (some e) p <;> rfl
theorem Jg {b : GBk} (h : Len b) {n : Int} {s : GBs} (hs : getI b.Strokes n = some s) : nP b n = some (strokeB b.Boards.length n s) := by
 have hb := lp hs
 have hst := h.st
 have hl := h.nd s (uK hs)
 have hbo := h.bo
 unfold nP strokeB
 simp only [hs, Option.bind_some, mI]
 rw [fP (by omega) (by omega), fO hl, cond_true, EO (by omega) (by omega) hl s.Needs 0 none (Int.le_refl _) rfl (.inl ⟨rfl, rfl⟩), jI, uI]
 cases inB 0 ((b.Boards.length : Int) - 1) s.Board <;> cases inB 1 6 s.Hours.Low <;> cases inB s.Hours.Low 6 s.Hours.High <;> cases s.Needs.all (inB 0 (n - 1)) <;> cases adjB s.Needs <;> rfl
theorem EP : ∀ (p : List Int) (c : Int), mA p c = goB (p.all (inB 0 60))
 | [], _ => rfl
 | e :: p, c => by simp only [mA, mI, Option.bind_some, EP p, List.all_cons, ln]
theorem ES {b : GBk} (h : Len b) : ∀ (p : List GBs) (c : Int), 0 ≤ c → b.Strokes.drop c.toNat = p → m9 b p c = goB (strokesB b.Boards.length c p)
 | [], _, _, _ => rfl
 | s :: p, c, h0, hd => by
  simp only [m9, Jg h (dg h0 hd), Option.bind_some, ES h p (c + 1) (by omega) (dh h0 hd), strokesB, ln]
theorem ET {b : GBk} (h : Len b) : mB b = some (benchB b) := by
 unfold mB benchB
 simp only [mI, Option.bind_some]
 rw [fO h.bo, fO h.st, EP, ES h b.Strokes 0 (Int.le_refl _) rfl, jI, jI]
 cases inB 0 3 b.Apprentices <;> cases inB 1 3 (b.Boards.length : Int) <;> cases b.Boards.all (inB 0 60) <;> cases inB 1 6 (b.Strokes.length : Int) <;> cases strokesB b.Boards.length 0 b.Strokes <;> rfl
def planL (a : Int) : List GBs → List Int → Bool
 | s :: ss, h :: hs => (inB 0 a h && (h == 0 || !s.Round)) && planL a ss hs
 | _, _ => true
def planB (b : GBk) (pl : List Int) : Bool := decide (pl.length = b.Strokes.length) && planL b.Apprentices b.Strokes pl
def mayL : List GBs → List Int → Bool
 | s :: ss, h :: hs => (h == 0 || !s.Round) && mayL ss hs
 | _, _ => true
theorem EU {a : Int} : ∀ (ss : List GBs) (hs : List Int), hs.length = ss.length → planL a ss hs = (hs.all (inB 0 a) && mayL ss hs)
 | [], [], _ => rfl
 | s :: ss, h :: hs, e => by
  simp only [planL, mayL, List.all_cons, EU ss hs (by simpa using e)]
  cases inB 0 a h <;> cases hs.all (inB 0 a) <;> cases (h == 0 || !s.Round) <;> simp
theorem uL {b : GBk} {n h : Int} {s : GBs} (hs : getI b.Strokes n = some s) : nK b n h = some (h == 0 || !s.Round) := by
 unfold nK
 cases h == 0 <;> simp [hs]
theorem EV {b : GBk} : ∀ (p : List Int) (c : Int) (ss : List GBs), 0 ≤ c → b.Strokes.drop c.toNat = ss → p.length = ss.length → m6 b p c = goB (mayL ss p)
 | [], _, [], _, _, _ => rfl
 | h :: p, c, s :: ss, h0, hd, hl => by
  simp only [m6, uL (dg h0 hd), Option.bind_some, EV p (c + 1) ss (by omega) (dh h0 hd) (by simpa using hl), mayL, ln]
theorem EW {b : GBk} (h : Len b) (pl : List Int) : m7 b pl = some (planB b pl) := by
 have hst := h.st
 unfold m7 planB
 by_cases e : pl.length = b.Strokes.length
 ·have e1 : ((pl.length : Int) != (b.Strokes.length : Int)) = false := by simp [e]
  rw [e1, cond_false, uF (by omega), decide_eq_true e, EU _ _ e, Option.bind_some, fO (by omega), cond_true, EV pl 0 b.Strokes (Int.le_refl _) rfl e, jI]
  cases pl.all (inB 0 b.Apprentices) <;> cases mayL b.Strokes pl <;> rfl
 ·have e1 : ((pl.length : Int) != (b.Strokes.length : Int)) = true := by simp; omega
  rw [e1, cond_true, decide_eq_false e]; rfl
theorem EX {b : GBk} : ∀ (p : List Int) (c : Int) (ss : List GBs), 0 ≤ c → b.Strokes.drop c.toNat = ss → p.length = ss.length → lh b p c = goB (planL b.Apprentices ss p)
 | [], _, [], _, _, _ => rfl
 | h :: p, c, s :: ss, h0, hd, hl => by
  simp only [lh, mI, dg h0 hd, Option.bind_some, EX p (c + 1) ss (by omega) (dh h0 hd) (by simpa using hl), planL, ln]
  have e : (h != 0) = !(h == 0) := rfl
  rw [e]
  cases inB 0 b.Apprentices h <;> cases s.Round <;> cases h == 0 <;> rfl
theorem uM {b : GBk} (h : Len b) (pl : List Int) : oc b pl = some (planB b pl) := by
 have hst := h.st
 unfold oc planB
 by_cases e : pl.length = b.Strokes.length
 ·have e1 : ((pl.length : Int) != (b.Strokes.length : Int)) = false := by simp [e]
  rw [e1, cond_false, decide_eq_true e, fO (by omega), cond_true, EX pl 0 b.Strokes (Int.le_refl _) rfl e, jI]
  cases planL b.Apprentices b.Strokes pl <;> rfl
 ·have e1 : ((pl.length : Int) != (b.Strokes.length : Int)) = true := by simp; omega
  rw [e1, cond_true, decide_eq_false e]; rfl
theorem uN {b : GBk} (h : Len b) (n : Int) : oe b n = some (inB 0 ((b.Strokes.length : Int) - 1) n) := by
 have := h.st
 unfold oe
 rw [mI, Option.bind_some, fP (by omega) (by omega)]
theorem Jh {b : GBk} (h : Len b) (n : Int) : nN b n = some (inB 0 ((b.Strokes.length : Int) - 1) n) := by
 have := h.st
 unfold nN
 rw [rU, Option.bind_some, fP (by omega) (by omega)]
structure BOk (b : GBk) : Prop where
 ap : 0 ≤ b.Apprentices ∧ b.Apprentices ≤ 3
 nb : 1 ≤ b.Boards.length ∧ b.Boards.length ≤ 3
 bo : ∀ x ∈ b.Boards, 0 ≤ x ∧ x ≤ 60
 ns : 1 ≤ b.Strokes.length ∧ b.Strokes.length ≤ 6
 st : ∀ (i : Nat) s, b.Strokes[i]? = some s → strokeB b.Boards.length i s = true
theorem EY {nb : Nat} : ∀ (p : List GBs) (c : Int), strokesB nb c p = true ↔ ∀ (i : Nat) s, p[i]? = some s → strokeB nb (c + i) s = true
 | [], c => by simp [strokesB]
 | s :: p, c => by
  simp only [strokesB, Bool.and_eq_true, EY p]
  constructor
  ·rintro ⟨h1, h2⟩ i x hx
   cases i with
   | zero => simp at hx; subst hx; simpa using h1
   | succ i => have := h2 i x (by simpa using hx); rw [show c + (i + 1 : Nat) = c + 1 + i by omega]; exact this
  ·intro h
   refine ⟨by have := h 0 s rfl; simpa using this, fun i x hx => ?_⟩
   have := h (i + 1) x (by simpa using hx)
   rw [show c + (i + 1 : Nat) = c + 1 + i by omega] at this
   exact this
theorem rV {b : GBk} : benchB b = true ↔ BOk b := by
 unfold benchB
 simp only [Bool.and_eq_true, og, List.all_eq_true, EY]
 constructor
 ·rintro ⟨h1, ⟨h2, h3⟩, h4, h5⟩
  exact ⟨h1, by omega, h3, by omega, fun i s hs => by have := h5 i s hs; simpa using this⟩
 ·rintro ⟨h1, h2, h3, h4, h5⟩
  exact ⟨h1, ⟨by omega, h3⟩, by omega, fun i s hs => by have := h5 i s hs; simpa using this⟩
structure SOk (nb : Nat) (n : Int) (s : GBs) : Prop where
 bo : 0 ≤ s.Board ∧ s.Board < nb
 hr : 1 ≤ s.Hours.Low ∧ s.Hours.Low ≤ s.Hours.High ∧ s.Hours.High ≤ 6
 nd : ∀ k ∈ s.Needs, 0 ≤ k ∧ k < n
 ad : adjB s.Needs = true
theorem Ji {nb : Nat} {n : Int} {s : GBs} : strokeB nb n s = true ↔ SOk nb n s := by
 unfold strokeB
 simp only [Bool.and_eq_true, og, List.all_eq_true]
 constructor
 ·rintro ⟨h1, ⟨h2, h3⟩, h4, h5⟩
  exact ⟨by omega, by omega, fun k hk => by have := h4 k hk; omega, h5⟩
 ·rintro ⟨h1, h2, h3, h4⟩
  exact ⟨by omega, ⟨by omega, by omega⟩, fun k hk => by have := h3 k hk; omega, h4⟩
theorem BOk.s {b : GBk} (h : BOk b) {i : Nat} {s : GBs} (hs : b.Strokes[i]? = some s) : SOk b.Boards.length i s := Ji.1 (h.st i s hs)
structure POk (b : GBk) (pl : List Int) : Prop where
 len : pl.length = b.Strokes.length
 may : ∀ (i : Nat) s h, b.Strokes[i]? = some s → pl[i]? = some h → (0 ≤ h ∧ h ≤ b.Apprentices) ∧ (h = 0 ∨ s.Round = false)
theorem uO {a : Int} : ∀ (ss : List GBs) (hs : List Int), hs.length = ss.length → (planL a ss hs = true ↔ ∀ (i : Nat) s h, ss[i]? = some s → hs[i]? = some h → (0 ≤ h ∧ h ≤ a) ∧ (h = 0 ∨ s.Round = false))
 | [], [], _ => by simp [planL]
 | s :: ss, h :: hs, e => by
  simp only [planL, Bool.and_eq_true, uO ss hs (by simpa using e), og, Bool.or_eq_true, beq_iff_eq, Bool.not_eq_true']
  constructor
  ·rintro ⟨h1, h2⟩ i x y hx hy
   cases i with
   | zero => simp at hx hy; subst hx hy; exact h1
   | succ i => exact h2 i x y (by simpa using hx) (by simpa using hy)
  ·intro hh
   exact ⟨hh 0 s h rfl rfl, fun i x y hx hy => hh (i + 1) x y (by simpa using hx) (by simpa using hy)⟩
theorem oh {b : GBk} {pl : List Int} : planB b pl = true ↔ POk b pl := by
 unfold planB
 simp only [Bool.and_eq_true, decide_eq_true_eq]
 constructor
 ·rintro ⟨h1, h2⟩; exact ⟨h1, (uO _ _ h1).1 h2⟩
 ·rintro ⟨h1, h2⟩; exact ⟨h1, (uO _ _ h1).2 h2⟩
def aL (k : GBe) : Value := .agg ⟨[.int .i64 k.stroke, .int .i64 k.hours]⟩
def bV (a b : GBe) : Bool := ((a.stroke == b.stroke) && ((a.hours == b.hours) && true))
def bO (n : Int) : VV := .lit (.int .i64 n)
theorem jJ (a b : GBe) : av Tryz.prog (Op.equal 152 (aL a) (aL b)) = some (bV a b) := by
 unfold Op.equal
 exact uP 5 152 _ _ _ (by kernel_rfl) 9995
theorem jK (b : Bool) (k : GBe) : av Tryz.prog (Instr.checkKey b 10000 152 (aL k)) = some () := by
 cases b <;> kernel_rfl
theorem hY (a b : GBe) (h : bV a b = true) : a = b := by
 obtain ⟨astroke, ahours⟩ := a
 obtain ⟨bstroke, bhours⟩ := b
 simp only [bV, Bool.and_true, Bool.and_eq_true, beq_iff_eq] at h
 simp only [h]
theorem om (a : GBe) : Instr.sameBits 10000 (aL a) (aL a) = true := by
 simp [aL, Instr.sameBits]
theorem Jj : ((Tryz.prog.info? 3).bind (·.zero)).map ofVal2 = some (bO 0) := by kernel_rfl
theorem jL (k : GBe) : VV.val? (.agg [.lit (.int .i64 k.stroke), .lit (.int .i64 k.hours)]) = some (aL k) := rfl
theorem oo {β : Nat} (l : List (GBe × Int)) (k : GBe) (H : Nat → Option VObj) (hb : H β = some (.map (encM aL bO l))) : vlookup Tryz.prog H 90 (.mp β) (.agg [.lit (.int .i64 k.stroke), .lit (.int .i64 k.hours)]) true = some (.tup [.lit (.int .i64 (mapGet bV 0 l k)), .lit (.bool (mapHas bV l k))]) :=
 Jk Tryz.underlying90 Tryz.underlying152 jJ jK Jj (jL k) hb
theorem oq {β : Nat} (l : List (GBe × Int)) (k : GBe) (n : Int) (H : Nat → Option VObj) (hb : H β = some (.map (encM aL bO l))) : vmapUpdate Tryz.prog H 90 (.mp β) (.agg [.lit (.int .i64 k.stroke), .lit (.int .i64 k.hours)]) (.lit (.int .i64 n)) = some (.upd β (.map (encM aL bO (mapSet bV l k n)))) :=
 uQ Tryz.underlying90 Tryz.underlying152 jJ jK hY om (jL k) hb
theorem uR {c : VV} {cs : List VV} : vload Tryz.prog 90 (c :: cs) = some c := by
 have h1 : aggT Tryz.prog 90 = some false := by kernel_rfl
 simp [vload, vpart, h1]
theorem uS : szT Tryz.prog 90 = some 1 := by kernel_rfl
theorem ot : vzl Tryz.prog 90 = some [.lit (.map none)] := by kernel_rfl
def mqr := And.intro (And.intro @uT @uU) True.intro
def mqt := And.intro (And.intro @uR @uS) @ot
def lq (rc : GBk → (List Int) → Int → Int → (List (GBe × Int)) → Option ((Int) × List (GBe × Int))) (xb : GBk) (xp : List Int) (xs : Int) (xh : Int) (l0 : List (GBe × Int)) : Nat → Int → Option (LOut ((Int) × List (GBe × Int)) (Int))
 | 0, _ => none
 | k0 + 1, b2 => cond (decide (b2 ≥ 0)) (Option.bind (getI xp b2) (fun x1 => Option.bind (getI xp xs) (fun x2 => cond (x1 == x2) (Option.bind (rc xb xp b2 xh l0) (fun r3 => some (.ret (r3.1, r3.2)))) (lq rc xb xp xs xh l0 k0 (i64.wrap (b2 - 1)))))) (some (.go b2))
def ou (rc : GBk → (List Int) → Int → Int → (List (GBe × Int)) → Option ((Int) × List (GBe × Int))) (xb : GBk) (xp : List Int) (xs : Int) (xh : Int) (l0 : List (GBe × Int)) : Option ((Int) × List (GBe × Int)) := lbind (lq rc xb xp xs xh l0 1000000 (i64.wrap (xs - 1))) (fun r5 => some r5) (fun c4 => some (0, l0)) (fun _ _ => none)
theorem Jl (rc : GBk → (List Int) → Int → Int → (List (GBe × Int)) → Option ((Int) × List (GBe × Int))) (rc_ok : ∀ (xb : GBk) (xp : List Int) (xs : Int) (xh : Int) (l0 : List (GBe × Int)) (R : (Int) × List (GBe × Int)), rc xb xp xs xh l0 = some R → VUpd Tryz.prog G0 118 (fun β => [.agg [.lit (.int .i64 xb.Apprentices), .sl (aa eI xb.Boards) (List.length xb.Boards) false, .sl (aa cGBs xb.Strokes) (List.length xb.Strokes) false, .sl (aa eI xp) (List.length xp) false, .mp β], .lit (.int .i64 xs), .lit (.int .i64 xh)]) (encM aL bO l0) (encM aL bO R.2) (fun _ => .lit (.int .i64 R.1))) (xb : GBk) (xp : List Int) (xs : Int) (xh : Int) (l0 : List (GBe × Int)) (R : (Int) × List (GBe × Int)) (h : ou rc xb xp xs xh l0 = some R) : VUpd Tryz.prog G0 108 (fun β => [.agg [.lit (.int .i64 xb.Apprentices), .sl (aa eI xb.Boards) (List.length xb.Boards) false, .sl (aa cGBs xb.Strokes) (List.length xb.Strokes) false, .sl (aa eI xp) (List.length xp) false, .mp β], .lit (.int .i64 xs), .lit (.int .i64 xh)]) (encM aL bO l0) (encM aL bO R.2) (fun _ => .lit (.int .i64 R.1)) := by
 intro aT nx hlt
 have aO := gm (β := aT) (nx := nx) hlt
 refine aq.run mixed Tryz.call108 Tryz.func108 rfl (by simp [Tryz.ntmps108]; kernel_rfl) ?_
 obtain ⟨KF, h, kF, kN⟩ := bU h
 simp only [ou] at h
 simp only [vz, mq, mqm, vsi, tyf, mqt, aO, nm, seval]
 obtain ⟨K6, h, rT, uC, Jc, lj⟩ := fh h kN
 obtain ⟨f6, uD, h⟩ := call2 h
 obtain ⟨I6, jG⟩ : ∃ I : Nat → St → Prop, I = (fun m st => ∃ (p6 : Nat) (gn : Int), p6 = m ∧ st.df = [] ∧ nx + 5 ≤ st.nx ∧ st.H aT = some (.map (encM aL bO l0)) ∧ st.H nx = some (.cells (some 92) ((cGBk xb) ++ [.sl (aa eI xp) (List.length xp) false] ++ [.mp aT])) ∧ st.tm 1 = .lit (.int .i64 xs) ∧ st.tm 2 = .lit (.int .i64 xh) ∧ st.tm 3 = .ptr nx 0 ∧ st.tm 7 = .lit (.int .i64 gn) ∧ K6 (f6 p6 gn)) := ⟨_, rfl⟩
 refine loopK mixed (by kernel_rfl) I6 1000000 (by rw [jG]; refine ⟨1000000, i64.wrap (xs - 1), rfl, rfl, (show nx + 5 ≤ nx + 5 by omega), ?_, ?_, ?_, ?_, ?_, ?_, h⟩ <;> first | (simp only [ua, bm, aO, nm, seval] <;> rfl) | rfl) ?_
 rintro m ⟨tm, H, lk, df⟩ hinv
 rw [jG] at hinv
 obtain ⟨p6, gn, rfl, hdf, uE, H7, H8, e9, aV, bc, bl, h⟩ := hinv
 simp only at hdf uE H7 H8 e9 aV bc bl
 have lr := nZ (a := nx) (m := 5) (b := lk) (by omega)
 have lu := gm (β := aT) (nx := lk) (by omega)
 subst hdf uD
 cases p6 with
 | zero =>
  simp only [lq, hs, reduceCtorEq] at h
  exact absurd h lj
 | succ p6 =>
  simp only [lq, hs, reduceCtorEq] at h
  cases gf : (decide (gn ≥ 0))
  ·simp only [gf, hs] at h
   replace h := uC _ h
   try dsimp only at h
   try simp only [hs] at h
   try simp only [vz, mq, mqm, vsi, tyf, mqt, aO, lr, lu, e9, aV, bc, bl, H7, H8, gf, nm, seval]
   refine bR (x := (.lit (.int .i64 0))) (by first | (simp only [Tryz.results108, resV, resL, resV1, bS, bT, uw, cr, tyf, mqt, aO, lr, lu, H7, H8, gf, nm, seval] <;> rfl) | rfl) ?_
   obtain rfl := kF _ h
   refine ⟨(by first | rfl | assumption | (simp only [aX, aY, aO, lr, lu, H7, H8, nm, seval] <;> rfl)), ?_⟩
   exact sq_of (fQ (by simp only [tre, tytre, mqr, Bool.and_self]) rfl)
  simp only [gf, hs] at h
  simp only [vz, mq, mqm, vsi, tyf, mqt, aO, lr, lu, e9, aV, bc, bl, H7, H8, gf, nm, seval]
  refine nV (fun tm => tm 1 = .lit (.int .i64 xs) ∧ tm 2 = .lit (.int .i64 xh) ∧ tm 3 = .ptr nx 0 ∧ tm 7 = .lit (.int .i64 gn) ∧ True) (by refine ⟨e9, aV, bc, bl, trivial⟩ <;> first | (simp only [ua, bm, aO, lr, lu, e9, aV, bc, bl, H7, H8, gf, nm, seval] <;> rfl) | rfl) ?_
  rintro tm ⟨bn, bh, bp, bI, _⟩
  obtain ⟨fR, eO, h⟩ := optI h lj
  try simp only [hs] at h
  obtain ⟨Jm, gG, h⟩ := optI h lj
  try simp only [hs] at h
  cases hZ : (fR == Jm)
  ·simp only [hZ, hs] at h
   have uW := And.intro aO (And.intro lr (And.intro lu (And.intro H7 (And.intro H8 (And.intro gf hZ)))))
   simp only [vz, mq, mqm, vsi, tyf, mqt, uW, bn, bh, bp, bI, (aR eO), (aR gG), nm, seval]
   exact ⟨p6, Nat.lt_succ_self _, by rw [jG]; refine ⟨p6, i64.wrap (gn - 1), rfl, rfl, (show nx + 5 ≤ lk + 16 by omega), ?_, ?_, bn, bh, bp, ?_, (by first | exact h | (simp only [uW]; exact h))⟩ <;> first | (simp only [ua, bm, uW, bn, bh, bp, bI, nm, seval] <;> rfl) | rfl⟩
  simp only [hZ, hs] at h
  have mM := And.intro aO (And.intro lr (And.intro lu (And.intro H7 (And.intro H8 (And.intro gf hZ)))))
  obtain ⟨mN, uX, h⟩ := optI h lj
  try simp only [hs] at h
  simp only [vz, mq, mqm, vsi, tyf, mqt, mM, bn, bh, bp, bI, (aR eO), (aR gG), nm, seval]
  refine kupd (VUpd.at (β := aT) (y := (fun _ => .lit (.int .i64 mN.1))) (rc_ok _ _ _ _ _ _ uX) (by omega) (by first | rfl | assumption | (simp only [aX, aY, mM, nm, seval] <;> rfl)) (by first | rfl | (simp only [nrm, aG, @bZ, @d4] <;> rfl)) (dP (fun _ => rfl) _)) ?_
  refine dY (fun tm => tm 28 = .lit (.int .i64 mN.1) ∧ True) (by refine ⟨?_, trivial⟩ <;> first | (simp only [ua, bm, mM, bn, bh, bp, bI, nm, seval] <;> rfl) | rfl) ?_
  rintro tm ⟨bA, _⟩
  try simp only [vz, mq, mqm, vsi, tyf, mqt, mM, (aR eO), (aR gG), bA, nm, seval]
  refine bR (x := (.lit (.int .i64 mN.1))) (by first | (simp only [Tryz.results108, resV, resL, resV1, bS, bT, uw, cr, tyf, mqt, mM, (aR eO), (aR gG), nm, seval] <;> rfl) | rfl) ?_
  replace h := rT _ h
  try dsimp only at h
  obtain rfl := kF _ h
  refine ⟨(by first | rfl | assumption | (simp only [aX, aY, mM, nm, seval] <;> rfl)), ?_⟩
  exact sq_of (fQ (by simp only [tre, tytre, mqr, Bool.and_self]) rfl)
def mO  : List Int → Int → Int → Option (LOut (Int) (Int))
 | [], ia, cm => some (.go cm)
 | e0 :: p0, ia, cm => mO p0 (ia + 1) (if cm < e0 then e0 else cm)
def jf (aQ : List Int) : Option (Int) := cond (lenOk aQ) (lbind (mO aQ 0 0) (fun r2 => some r2) (fun c1 => some c1) (fun _ _ => none)) none
theorem ov (aQ : List Int) (R : Int) (h : jf aQ = some R) : ah Tryz.prog G0 105 [.sl (aa eI aQ) (List.length aQ) false] (.tree (.lit (.int .i64 R))) := by
 refine ah.runR mixed Tryz.call105 Tryz.func105 rfl (by simp [Tryz.ntmps105]; kernel_rfl) ?_
 obtain ⟨KF, h, kF, kN⟩ := bU h
 simp only [jf] at h
 cases g4 : (lenOk aQ)
 ·simp only [g4, hs] at h
  exact absurd h kN
 simp only [g4, hs] at h
 simp only [vz, tyf, g4, nm, seval]
 obtain ⟨K3, h, EF, rL, IA, IB⟩ := fh h kN
 obtain ⟨f3, uc, h⟩ := call3 h
 obtain ⟨I3, kU⟩ : ∃ I : Nat → St → Prop, I = (fun m st => ∃ (p3 : List Int) (eQ : Int) (cg : Int), m = List.length p3 ∧ 0 ≤ eQ ∧ List.drop (Int.toNat eQ) aQ = p3 ∧ st.df = [] ∧ 5 ≤ st.nx ∧ st.tm 6 = .sl (aa eI aQ) (List.length aQ) false ∧ st.tm 7 = .lit (.int .i64 (List.length aQ : Int)) ∧ st.tm 3 = .lit (.int .i64 cg) ∧ st.tm 8 = .lit (.int .i64 eQ) ∧ K3 (f3 p3 eQ cg)) := ⟨_, rfl⟩
 refine loopK mixed (by kernel_rfl) I3 (List.length aQ) (by rw [kU]; refine ⟨aQ, 0, 0, rfl, Int.le_refl _, rfl, rfl, (show 5 ≤ 5 by omega), ?_, ?_, ?_, ?_, h⟩ <;> first | (simp only [ua, nm, seval] <;> rfl) | rfl) ?_
 rintro m ⟨tm, H, nO, df⟩ hinv
 rw [kU] at hinv
 obtain ⟨p3, eQ, cg, rfl, gd, hC, hdf, ud, e5, e6, e7, e8, h⟩ := hinv
 simp only at hdf ud e5 e6 e7 e8
 have n9 := gF (m := 5) (b := nO) (by omega)
 subst hdf uc
 cases p3 with
 | nil =>
  have jA : (decide (eQ < (List.length aQ : Int))) = false := fj gd hC
  simp only [mO, hs, reduceCtorEq] at h
  replace h := rL _ h
  try dsimp only at h
  try simp only [hs] at h
  try simp only [vz, tyf, g4, n9, e5, e6, e7, e8, jA, nm, seval]
  refine bR (x := (.lit (.int .i64 cg))) (by first | (simp only [Tryz.results105, resV, resL, resV1, bS, bT, uw, cr, tyf, g4, n9, jA, nm, seval] <;> rfl) | rfl) ?_
  obtain rfl := kF _ h
  refine eR ?_ ?_
  ·simp only [tre, tytre, Bool.and_self]
  ·first | (simp only [outV, uw, eC, cr, tyf, nrm, aG, g4, n9, e5, e6, e7, e8, jA, nm, seval] <;> rfl) | rfl
 | cons e3 p3 =>
  have bF : (decide (eQ < (List.length aQ : Int))) = true := fk gd hC
  have jB := dg gd hC
  have kV := fm gd hC g4
  simp only [mO, hs, reduceCtorEq] at h
  simp only [vz, tyf, g4, n9, e5, e6, e7, e8, bF, (aR jB), kV, nm, seval]
  exact ⟨List.length p3, Nat.lt_succ_self _, by rw [kU]; refine ⟨p3, eQ + 1, (if cg < e3 then e3 else cg), rfl, Int.le_trans gd (Int.le_add_one (Int.le_refl _)), dh gd hC, rfl, (show 5 ≤ nO + 10 by omega), e5, e6, ?_, ?_, (by first | exact h | (simp only [bF]; exact h))⟩ <;> first | (simp only [ua, n9, e5, e6, e7, e8, bF, kV, nm, seval] <;> rfl) | rfl⟩
end Go.V
end
