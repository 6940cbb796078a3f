/- Part of a proof. -/
import Derived.Test.YtmhlghgbfmcdaaaGreatDoorG7bi
set_option linter.all false
set_option maxRecDepth 4000
set_option maxHeartbeats 40000000
section
namespace Go.V
open Go Go.Proofs IntKind
def oB (rc : GBk → (List Int) → Int → Int → (List (Gbe × Int)) → Option ((Int) × List (Gbe × Int))) (aa : GBk) (ag : List Int) (ah : Int) (ai : Int) (l0 : List (Gbe × Int)) : Nat → Int → Option (LOut ((Int) × List (Gbe × Int)) (Int))
 | 0, _ => none
 | k0 + 1, ck => cond (decide (ck ≥ 0)) (Option.bind (getI ag ck) (fun x1 => Option.bind (getI ag ah) (fun x2 => cond (x1 == x2) (Option.bind (rc aa ag ck ai l0) (fun r3 => some (.ret (r3.1, r3.2)))) (oB rc aa ag ah ai l0 k0 (i64.wrap (ck - 1)))))) (some (.go ck))
def sB (rc : GBk → (List Int) → Int → Int → (List (Gbe × Int)) → Option ((Int) × List (Gbe × Int))) (aa : GBk) (ag : List Int) (ah : Int) (ai : Int) (l0 : List (Gbe × Int)) : Option ((Int) × List (Gbe × Int)) := lbind (oB rc aa ag ah ai l0 1000000 (i64.wrap (ah - 1))) (fun r5 => some r5) (fun c4 => some (0, l0)) (fun _ _ => none)
theorem NN (rc : GBk → (List Int) → Int → Int → (List (Gbe × Int)) → Option ((Int) × List (Gbe × Int))) (rc_ok : ∀ (aa : GBk) (ag : List Int) (ah : Int) (ai : Int) (l0 : List (Gbe × Int)) (R : (Int) × List (Gbe × Int)), rc aa ag ah ai l0 = some R → VUpd Tryz.prog G0 118 (fun β => [.agg [.lit (.int .i64 aa.Apprentices), .sl (ae eI aa.Boards) (List.length aa.Boards) false, .sl (ae cGBs aa.Strokes) (List.length aa.Strokes) false, .sl (ae eI ag) (List.length ag) false, .mp β], .lit (.int .i64 ah), .lit (.int .i64 ai)]) (encM aN bM l0) (encM aN bM R.2) (fun _ => .lit (.int .i64 R.1))) (aa : GBk) (ag : List Int) (ah : Int) (ai : Int) (l0 : List (Gbe × Int)) (R : (Int) × List (Gbe × Int)) (h : sB rc aa ag ah ai l0 = some R) : VUpd Tryz.prog G0 108 (fun β => [.agg [.lit (.int .i64 aa.Apprentices), .sl (ae eI aa.Boards) (List.length aa.Boards) false, .sl (ae cGBs aa.Strokes) (List.length aa.Strokes) false, .sl (ae eI ag) (List.length ag) false, .mp β], .lit (.int .i64 ah), .lit (.int .i64 ai)]) (encM aN bM l0) (encM aN bM R.2) (fun _ => .lit (.int .i64 R.1)) := by
 intro bk nx hlt
 have aX := gZ (β := bk) (nx := nx) hlt
 refine an.run mixed Tryz.call108 Tryz.func108 rfl (by simp [Tryz.ntmps108]; kernel_rfl) ?_
 obtain ⟨KF, h, kF, kN⟩ := cJ h
 simp only [sB] at h
 simp only [vz, mq, mqm, vsi, tyf, mqt, aX, nm, seval]
 obtain ⟨K6, h, w5, AQ, NO, oC⟩ := hC h kN
 obtain ⟨f6, AR, h⟩ := call2 h
 obtain ⟨I6, ng⟩ : ∃ I : Nat → St → Prop, I = (fun m st => ∃ (p6 : Nat) (ji : Int), p6 = m ∧ st.df = [] ∧ nx + 5 ≤ st.nx ∧ st.H bk = some (.map (encM aN bM l0)) ∧ st.H nx = some (.cells (some 92) ((cGBk aa) ++ [.sl (ae eI ag) (List.length ag) false] ++ [.mp bk])) ∧ st.tm 1 = .lit (.int .i64 ah) ∧ st.tm 2 = .lit (.int .i64 ai) ∧ st.tm 3 = .ptr nx 0 ∧ st.tm 7 = .lit (.int .i64 ji) ∧ K6 (f6 p6 ji)) := ⟨_, rfl⟩
 refine loopK mixed (by kernel_rfl) I6 1000000 (by rw [ng]; refine ⟨1000000, i64.wrap (ah - 1), rfl, rfl, (show nx + 5 ≤ nx + 5 by omega), ?_, ?_, ?_, ?_, ?_, ?_, h⟩ <;> first | (simp only [ua, bO, aX, nm, seval] <;> rfl) | rfl) ?_
 rintro m ⟨tm, H, oD, df⟩ hinv
 rw [ng] at hinv
 obtain ⟨p6, ji, rfl, hdf, AS, H7, H8, e9, bc, b4, cn, h⟩ := hinv
 simp only at hdf AS H7 H8 e9 bc b4 cn
 have oE := mT (a := nx) (m := 5) (b := oD) (by omega)
 have oF := gZ (β := bk) (nx := oD) (by omega)
 subst hdf AR
 cases p6 with
 | zero =>
  simp only [oB, hs, reduceCtorEq] at h
  exact absurd h oC
 | succ p6 =>
  simp only [oB, hs, reduceCtorEq] at h
  cases jj : (decide (ji ≥ 0))
  ·simp only [jj, hs] at h
   replace h := AQ _ h
   try dsimp only at h
   try simp only [hs] at h
   try simp only [vz, mq, mqm, vsi, tyf, mqt, aX, oE, oF, e9, bc, b4, cn, H7, H8, jj, nm, seval]
   refine cH (x := (.lit (.int .i64 0))) (by first | (simp only [Tryz.results108, resV, resL, resV1, dh, di, uw, cr, tyf, mqt, aX, oE, oF, H7, H8, jj, nm, seval] <;> rfl) | rfl) ?_
   obtain rfl := kF _ h
   refine ⟨(by first | rfl | assumption | (simp only [aU, bg, aX, oE, oF, H7, H8, nm, seval] <;> rfl)), ?_⟩
   exact sq_of (lG (by simp only [tre, tytre, mqr, Bool.and_self]) rfl)
  simp only [jj, hs] at h
  simp only [vz, mq, mqm, vsi, tyf, mqt, aX, oE, oF, e9, bc, b4, cn, H7, H8, jj, nm, seval]
  refine s8 (fun tm => tm 1 = .lit (.int .i64 ah) ∧ tm 2 = .lit (.int .i64 ai) ∧ tm 3 = .ptr nx 0 ∧ tm 7 = .lit (.int .i64 ji) ∧ True) (by refine ⟨e9, bc, b4, cn, trivial⟩ <;> first | (simp only [ua, bO, aX, oE, oF, e9, bc, b4, cn, H7, H8, jj, nm, seval] <;> rfl) | rfl) ?_
  rintro tm ⟨bC, b6, bV, ct, _⟩
  obtain ⟨NP, nh, h⟩ := optI h oC
  try simp only [hs] at h
  obtain ⟨NQ, iW, h⟩ := optI h oC
  try simp only [hs] at h
  cases ki : (NP == NQ)
  ·simp only [ki, hs] at h
   have AT := And.intro aX (And.intro oE (And.intro oF (And.intro H7 (And.intro H8 (And.intro jj ki)))))
   simp only [vz, mq, mqm, vsi, tyf, mqt, AT, bC, b6, bV, ct, (aW nh), (aW iW), nm, seval]
   exact ⟨p6, Nat.lt_succ_self _, by rw [ng]; refine ⟨p6, i64.wrap (ji - 1), rfl, rfl, (show nx + 5 ≤ oD + 16 by omega), ?_, ?_, bC, b6, bV, ?_, (by first | exact h | (simp only [AT]; exact h))⟩ <;> first | (simp only [ua, bO, AT, bC, b6, bV, ct, nm, seval] <;> rfl) | rfl⟩
  simp only [ki, hs] at h
  have qI := And.intro aX (And.intro oE (And.intro oF (And.intro H7 (And.intro H8 (And.intro jj ki)))))
  obtain ⟨AU, NR, h⟩ := optI h oC
  try simp only [hs] at h
  simp only [vz, mq, mqm, vsi, tyf, mqt, qI, bC, b6, bV, ct, (aW nh), (aW iW), nm, seval]
  refine kupd (VUpd.at (β := bk) (y := (fun _ => .lit (.int .i64 AU.1))) (rc_ok _ _ _ _ _ _ NR) (by omega) (by first | rfl | assumption | (simp only [aU, bg, qI, nm, seval] <;> rfl)) (by first | rfl | (simp only [nrm, tynrm, @cT, @fC] <;> rfl)) (gv (fun _ => rfl) _)) ?_
  refine gD (fun tm => tm 28 = .lit (.int .i64 AU.1) ∧ True) (by refine ⟨?_, trivial⟩ <;> first | (simp only [ua, bO, qI, bC, b6, bV, ct, nm, seval] <;> rfl) | rfl) ?_
  rintro tm ⟨cK, _⟩
  try simp only [vz, mq, mqm, vsi, tyf, mqt, qI, (aW nh), (aW iW), cK, nm, seval]
  refine cH (x := (.lit (.int .i64 AU.1))) (by first | (simp only [Tryz.results108, resV, resL, resV1, dh, di, uw, cr, tyf, mqt, qI, (aW nh), (aW iW), nm, seval] <;> rfl) | rfl) ?_
  replace h := w5 _ h
  try dsimp only at h
  obtain rfl := kF _ h
  refine ⟨(by first | rfl | assumption | (simp only [aU, bg, qI, nm, seval] <;> rfl)), ?_⟩
  exact sq_of (lG (by simp only [tre, tytre, mqr, Bool.and_self]) rfl)
def qJ  : List Int → Int → Int → Option (LOut (Int) (Int))
 | [], sC, cL => some (.go cL)
 | e0 :: p0, sC, cL => qJ p0 (sC + 1) (if cL < e0 then e0 else cL)
def mg (aY : List Int) : Option (Int) := cond (aM aY) (lbind (qJ aY 0 0) (fun r2 => some r2) (fun c1 => some c1) (fun _ _ => none)) none
theorem sD (aY : List Int) (R : Int) (h : mg aY = some R) : aj Tryz.prog G0 105 [.sl (ae eI aY) (List.length aY) false] (.tree (.lit (.int .i64 R))) := by
 refine aj.runR mixed Tryz.call105 Tryz.func105 rfl (by simp [Tryz.ntmps105]; kernel_rfl) ?_
 obtain ⟨KF, h, kF, kN⟩ := cJ h
 simp only [mg] at h
 cases g4 : (aM aY)
 ·simp only [g4, hs] at h
  exact absurd h kN
 simp only [g4, hs] at h
 simp only [vz, tyf, g4, nm, seval]
 obtain ⟨K3, h, JK, w6, NS, NT⟩ := hC h kN
 obtain ⟨f3, AV, h⟩ := call3 h
 obtain ⟨I3, oG⟩ : ∃ I : Nat → St → Prop, I = (fun m st => ∃ (p3 : List Int) (gE : Int) (cD : Int), m = List.length p3 ∧ 0 ≤ gE ∧ List.drop (Int.toNat gE) aY = p3 ∧ st.df = [] ∧ 5 ≤ st.nx ∧ st.tm 6 = .sl (ae eI aY) (List.length aY) false ∧ st.tm 7 = .lit (.int .i64 (List.length aY : Int)) ∧ st.tm 3 = .lit (.int .i64 cD) ∧ st.tm 8 = .lit (.int .i64 gE) ∧ K3 (f3 p3 gE cD)) := ⟨_, rfl⟩
 refine loopK mixed (by kernel_rfl) I3 (List.length aY) (by rw [oG]; refine ⟨aY, 0, 0, rfl, Int.le_refl _, rfl, rfl, (show 5 ≤ 5 by omega), ?_, ?_, ?_, ?_, h⟩ <;> first | (simp only [ua, nm, seval] <;> rfl) | rfl) ?_
 rintro m ⟨tm, H, sE, df⟩ hinv
 rw [oG] at hinv
 obtain ⟨p3, gE, cD, rfl, jk, kj, hdf, AW, e5, e6, e7, e8, h⟩ := hinv
 simp only at hdf AW e5 e6 e7 e8
 have n9 := je (m := 5) (b := sE) (by omega)
 subst hdf AV
 cases p3 with
 | nil =>
  have lH : (decide (gE < (List.length aY : Int))) = false := gC jk kj
  simp only [qJ, hs, reduceCtorEq] at h
  replace h := w6 _ h
  try dsimp only at h
  try simp only [hs] at h
  try simp only [vz, tyf, g4, n9, e5, e6, e7, e8, lH, nm, seval]
  refine cH (x := (.lit (.int .i64 cD))) (by first | (simp only [Tryz.results105, resV, resL, resV1, dh, di, uw, cr, tyf, g4, n9, lH, nm, seval] <;> rfl) | rfl) ?_
  obtain rfl := kF _ h
  refine ka ?_ ?_
  ·simp only [tre, tytre, Bool.and_self]
  ·first | (simp only [outV, uw, jO, cr, tyf, nrm, tynrm, g4, n9, e5, e6, e7, e8, lH, nm, seval] <;> rfl) | rfl
 | cons e3 p3 =>
  have fD : (decide (gE < (List.length aY : Int))) = true := gq jk kj
  have qK := dG jk kj
  have oH := gu jk kj g4
  simp only [qJ, hs, reduceCtorEq] at h
  simp only [vz, tyf, g4, n9, e5, e6, e7, e8, fD, (aW qK), oH, nm, seval]
  exact ⟨List.length p3, Nat.lt_succ_self _, by rw [oG]; refine ⟨p3, gE + 1, (if cD < e3 then e3 else cD), rfl, Int.le_trans jk (Int.le_add_one (Int.le_refl _)), dj jk kj, rfl, (show 5 ≤ sE + 10 by omega), e5, e6, ?_, ?_, (by first | exact h | (simp only [fD]; exact h))⟩ <;> first | (simp only [ua, n9, e5, e6, e7, e8, fD, oH, nm, seval] <;> rfl) | rfl⟩
def mh (rc : GBk → (List Int) → Int → Int → (List (Gbe × Int)) → Option ((Int) × List (Gbe × Int))) (aa : GBk) (ag : List Int) (ai : Int) : List Int → Int → (List Int) → (List (Gbe × Int)) → Option (LOut ((List Int) × List (Gbe × Int)) ((List Int) × (List (Gbe × Int))))
 | [], fp, ck, bT => some (.go (ck, bT))
 | e0 :: p0, fp, ck, bT => Option.bind (rc aa ag e0 ai bT) (fun r2 => cond (roomOk 8 (List.length (ck ++ [r2.1]))) (mh rc aa ag ai p0 (fp + 1) (ck ++ [r2.1]) r2.2) none)
def qL (rc : GBk → (List Int) → Int → Int → (List (Gbe × Int)) → Option ((Int) × List (Gbe × Int))) (aa : GBk) (ag : List Int) (aq : List Int) (ai : Int) (l0 : List (Gbe × Int)) : Option ((List Int) × List (Gbe × Int)) := cond (aM aq) (lbind (mh rc aa ag ai aq 0 ([] : List Int) l0) (fun r4 => some r4) (fun c3 => some (c3.1, c3.2)) (fun _ _ => none)) none
theorem JL (rc : GBk → (List Int) → Int → Int → (List (Gbe × Int)) → Option ((Int) × List (Gbe × Int))) (rc_ok : ∀ (aa : GBk) (ag : List Int) (ah : Int) (ai : Int) (l0 : List (Gbe × Int)) (R : (Int) × List (Gbe × Int)), rc aa ag ah ai l0 = some R → VUpd Tryz.prog G0 118 (fun β => [.agg [.lit (.int .i64 aa.Apprentices), .sl (ae eI aa.Boards) (List.length aa.Boards) false, .sl (ae cGBs aa.Strokes) (List.length aa.Strokes) false, .sl (ae eI ag) (List.length ag) false, .mp β], .lit (.int .i64 ah), .lit (.int .i64 ai)]) (encM aN bM l0) (encM aN bM R.2) (fun _ => .lit (.int .i64 R.1))) (aa : GBk) (ag : List Int) (aq : List Int) (ai : Int) (l0 : List (Gbe × Int)) (R : (List Int) × List (Gbe × Int)) (h : qL rc aa ag aq ai l0 = some R) : VUpd Tryz.prog G0 106 (fun β => [.agg [.lit (.int .i64 aa.Apprentices), .sl (ae eI aa.Boards) (List.length aa.Boards) false, .sl (ae cGBs aa.Strokes) (List.length aa.Strokes) false, .sl (ae eI ag) (List.length ag) false, .mp β], .sl (ae eI aq) (List.length aq) false, .lit (.int .i64 ai)]) (encM aN bM l0) (encM aN bM R.2) (fun _ => .sl (ae eI R.1) (List.length R.1) false) := by
 intro bk nx hlt
 have aX := gZ (β := bk) (nx := nx) hlt
 refine an.run mixed Tryz.call106 Tryz.func106 rfl (by simp [Tryz.ntmps106]; kernel_rfl) ?_
 obtain ⟨KF, h, kF, kN⟩ := cJ h
 simp only [qL] at h
 cases g6 : (aM aq)
 ·simp only [g6, hs] at h
  exact absurd h kN
 simp only [g6, hs] at h
 simp only [vz, mq, mqm, vsi, tyf, mqt, aX, g6, nm, seval]
 obtain ⟨K5, h, JM, w7, NU, qM⟩ := hC h kN
 obtain ⟨f5, AX, h⟩ := call4 h
 obtain ⟨I5, ni⟩ : ∃ I : Nat → St → Prop, I = (fun m st => ∃ (p5 : List Int) (bW : Int) (bB : List Int) (kl : List (Gbe × Int)) (mi : VV), m = List.length p5 ∧ 0 ≤ bW ∧ List.drop (Int.toNat bW) aq = p5 ∧ st.df = [] ∧ nx + 6 ≤ st.nx ∧ st.H bk = some (.map (encM aN bM kl)) ∧ st.H nx = some (.cells (some 92) ((cGBk aa) ++ [.sl (ae eI ag) (List.length ag) false] ++ [.mp bk])) ∧ st.tm 2 = .lit (.int .i64 ai) ∧ st.tm 3 = .ptr nx 0 ∧ st.tm 10 = .sl (ae eI aq) (List.length aq) false ∧ st.tm 11 = .lit (.int .i64 (List.length aq : Int)) ∧ st.tm 7 = mi ∧ st.tm 12 = .lit (.int .i64 bW) ∧ ((∃ (β : Nat) (el : Option TypeId), mi = .ref β 0 (List.length bB) 1 (List.length bB) ∧ β < st.nx ∧ β ≠ bk ∧ β ≠ nx ∧ st.H β = some (.cells el (ae eI bB))) ∨ (mi = .lit (.slice none 0 0) ∧ bB = [])) ∧ K5 (f5 p5 bW bB kl)) := ⟨_, rfl⟩
 refine loopK mixed (by kernel_rfl) I5 (List.length aq) (by rw [ni]; refine ⟨aq, 0, ([] : List Int), l0, .lit (.slice none 0 0), rfl, Int.le_refl _, rfl, rfl, (show nx + 6 ≤ nx + 6 by omega), ?_, ?_, ?_, ?_, ?_, ?_, ?_, ?_, Or.inr ⟨rfl, rfl⟩, h⟩ <;> first | (simp only [ua, bO, aX, nm, seval] <;> rfl) | rfl) ?_
 rintro m ⟨tm, H, km, df⟩ hinv
 rw [ni] at hinv
 obtain ⟨p5, bW, bB, kl, mi, rfl, fE, hO, hdf, AY, H7, H8, e9, bc, b4, cn, bN, cB, nj, h⟩ := hinv
 simp only at hdf AY H7 H8 e9 bc b4 cn bN cB nj
 have dO := mT (a := nx) (m := 6) (b := km) (by omega)
 have dP := gZ (β := bk) (nx := km) (by omega)
 subst hdf AX
 rcases nj with ⟨sF, nk, rfl, AZ, Ba, Bc, mj⟩ | ⟨rfl, rfl⟩
 ·have ml := gZ AZ
  have mm := ne_f Ba
  have mn := ne_f Bc
  cases p5 with
  | nil =>
   have mo : (decide (bW < (List.length aq : Int))) = false := gC fE hO
   simp only [mh, hs, reduceCtorEq] at h
   replace h := w7 _ h
   try dsimp only at h
   try simp only [hs] at h
   try simp only [vz, mq, mqm, vsi, tyf, mqt, aX, g6, dO, dP, e9, bc, b4, cn, bN, cB, H7, H8, ml, mj, mm, mn, mo, nm, seval]
   refine cH (x := (.ref sF 0 (List.length bB) 1 (List.length bB))) (by first | (simp only [Tryz.results106, resV, resL, resV1, dh, di, uw, cr, tyf, mqt, aX, g6, dO, dP, H7, H8, ml, mj, mm, mn, mo, nm, seval] <;> rfl) | rfl) ?_
   obtain rfl := kF _ h
   refine ⟨(by first | rfl | assumption | (simp only [aU, bg, aX, dO, dP, H7, H8, ml, mj, mm, mn, nm, seval] <;> rfl)), ?_⟩
   exact Bd (by first | rfl | assumption | (simp only [aU, bg, aX, dO, dP, H7, H8, ml, mj, mm, mn, nm, seval] <;> rfl)) (by first | rfl | assumption | (simp only [aU, bg, aX, dO, dP, H7, H8, ml, mj, mm, mn, nm, seval] <;> rfl)) eI_ok (fun _ => rfl)
  | cons e5 p5 =>
   have oI : (decide (bW < (List.length aq : Int))) = true := gq fE hO
   have mr := dG fE hO
   have oJ := gu fE hO g6
   simp only [mh, hs, reduceCtorEq] at h
   obtain ⟨gF, oL, h⟩ := optI h qM
   try simp only [hs] at h
   simp only [vz, mq, mqm, vsi, tyf, mqt, aX, g6, dO, dP, e9, bc, b4, cn, bN, cB, H7, H8, ml, mj, mm, mn, oI, (aW mr), oJ, nm, seval]
   refine kupd (VUpd.at (β := bk) (y := (fun _ => .lit (.int .i64 gF.1))) (rc_ok _ _ _ _ _ _ oL) (by omega) (by first | rfl | assumption | (simp only [aU, bg, aX, dO, dP, H7, H8, ml, mj, mm, mn, nm, seval] <;> rfl)) (by first | rfl | (simp only [nrm, tynrm, @cT, @fC] <;> rfl)) (gv (fun _ => rfl) _)) ?_
   refine gD (fun tm => tm 2 = .lit (.int .i64 ai) ∧ tm 3 = .ptr nx 0 ∧ tm 10 = .sl (ae eI aq) (List.length aq) false ∧ tm 11 = .lit (.int .i64 (List.length aq : Int)) ∧ tm 12 = .lit (.int .i64 bW) ∧ tm 16 = .ref sF 0 (List.length bB) 1 (List.length bB) ∧ tm 20 = .lit (.int .i64 gF.1) ∧ True) (by refine ⟨e9, bc, b4, cn, cB, ?_, ?_, trivial⟩ <;> first | (simp only [ua, bO, aX, dO, dP, e9, bc, b4, cn, bN, cB, H7, H8, ml, mj, mm, mn, oI, oJ, nm, seval] <;> rfl) | rfl) ?_
   rintro tm ⟨bm, cQ, cK, dV, dk, jl, fq, _⟩
   have jP := And.intro aX (And.intro g6 (And.intro dO (And.intro dP (And.intro H7 (And.intro H8 (And.intro ml (And.intro mj (And.intro mm (And.intro mn (And.intro oI oJ))))))))))
   cases il : (roomOk 8 (List.length (bB ++ [gF.1])))
   ·simp only [il, hs] at h
    exact absurd h qM
   simp only [il, hs] at h
   simp only [vz, mq, mqm, vsi, tyf, mqt, jP, (aW mr), bm, cQ, cK, dV, dk, jl, fq, il, nm, seval]
   refine k_app (w := 1) (enc := eI) (xs := bB) (ys := ([gF.1])) (el := nk) (jN := (some 3)) (fun _ => rfl) im iq Tryz.underlying22 (by first | rfl | assumption | (simp only [aU, bg, dI, jP, nm, seval] <;> rfl) | (simp only [aU, bg, iX, jm, iu, iv, tyf, mqt, jP, (aW mr), bm, cQ, cK, dV, dk, jl, fq, il, nm, seval]; done)) (by first | rfl | assumption | (simp only [aU, bg, dI, jP, nm, seval] <;> rfl) | (simp only [aU, bg, iX, jm, iu, iv, tyf, mqt, jP, (aW mr), bm, cQ, cK, dV, dk, jl, fq, il, nm, seval]; done)) (Nat.zero_lt_succ _) il ?_
   simp only [vz, mq, mqm, vsi, tyf, mqt, jP, (aW mr), bm, cQ, cK, dV, dk, jl, fq, il, nm, seval]
   exact ⟨List.length p5, Nat.lt_succ_self _, by rw [ni]; refine ⟨p5, bW + 1, (bB ++ [gF.1]), gF.2, .ref (km + 10) 0 (List.length (bB ++ [gF.1])) 1 (List.length (bB ++ [gF.1])), rfl, Int.le_trans fE (Int.le_add_one (Int.le_refl _)), dj fE hO, rfl, (show nx + 6 ≤ km + 14 by omega), ?_, ?_, bm, cQ, cK, dV, ?_, ?_, Or.inl ⟨km + 10, (sameEl nk 3), rfl, (by first | omega | (simp only [nm, seval]; done) | (simp only [nm, seval]; omega)), (by first | omega | (intro hh; simp only [jP, reduceCtorEq] at hh)), (by first | omega | (intro hh; simp only [jP, reduceCtorEq] at hh)), ?_⟩, (by first | exact h | (simp only [jP]; exact h))⟩ <;> first | (simp only [ua, bO, jP, bm, cQ, cK, dV, dk, jl, fq, nm, seval] <;> rfl) | rfl⟩
 ·cases p5 with
  | nil =>
   have JN : (decide (bW < (List.length aq : Int))) = false := gC fE hO
   simp only [mh, hs, reduceCtorEq] at h
   replace h := w7 _ h
   try dsimp only at h
   try simp only [hs] at h
   try simp only [vz, mq, mqm, vsi, tyf, mqt, aX, g6, dO, dP, e9, bc, b4, cn, bN, cB, H7, H8, JN, nm, seval]
   refine cH (x := (.lit (.slice none 0 0))) (by first | (simp only [Tryz.results106, resV, resL, resV1, dh, di, uw, cr, tyf, mqt, aX, g6, dO, dP, H7, H8, JN, nm, seval] <;> rfl) | rfl) ?_
   obtain rfl := kF _ h
   refine ⟨(by first | rfl | assumption | (simp only [aU, bg, aX, dO, dP, H7, H8, nm, seval] <;> rfl)), ?_⟩
   exact sq_of Be
  | cons e5 p5 =>
   have Bf : (decide (bW < (List.length aq : Int))) = true := gq fE hO
   have w8 := dG fE hO
   have Bh := gu fE hO g6
   simp only [mh, hs, reduceCtorEq] at h
   obtain ⟨nn, np, h⟩ := optI h qM
   try simp only [hs] at h
   simp only [vz, mq, mqm, vsi, tyf, mqt, aX, g6, dO, dP, e9, bc, b4, cn, bN, cB, H7, H8, Bf, (aW w8), Bh, nm, seval]
   refine kupd (VUpd.at (β := bk) (y := (fun _ => .lit (.int .i64 nn.1))) (rc_ok _ _ _ _ _ _ np) (by omega) (by first | rfl | assumption | (simp only [aU, bg, aX, dO, dP, H7, H8, nm, seval] <;> rfl)) (by first | rfl | (simp only [nrm, tynrm, @cT, @fC] <;> rfl)) (gv (fun _ => rfl) _)) ?_
   refine gD (fun tm => tm 2 = .lit (.int .i64 ai) ∧ tm 3 = .ptr nx 0 ∧ tm 10 = .sl (ae eI aq) (List.length aq) false ∧ tm 11 = .lit (.int .i64 (List.length aq : Int)) ∧ tm 12 = .lit (.int .i64 bW) ∧ tm 16 = .lit (.slice none 0 0) ∧ tm 20 = .lit (.int .i64 nn.1) ∧ True) (by refine ⟨e9, bc, b4, cn, cB, ?_, ?_, trivial⟩ <;> first | (simp only [ua, bO, aX, dO, dP, e9, bc, b4, cn, bN, cB, H7, H8, Bf, Bh, nm, seval] <;> rfl) | rfl) ?_
   rintro tm ⟨fu, dB, fF, iw, lI, ix, eK, _⟩
   have nq := And.intro aX (And.intro g6 (And.intro dO (And.intro dP (And.intro H7 (And.intro H8 (And.intro Bf Bh))))))
   cases qN : (roomOk 8 (List.length (([] : List Int) ++ [nn.1])))
   ·simp only [qN, hs] at h
    exact absurd h qM
   simp only [qN, hs] at h
   simp only [vz, mq, mqm, vsi, tyf, mqt, nq, (aW w8), fu, dB, fF, iw, lI, ix, eK, qN, nm, seval]
   refine me (w := 1) (enc := eI) (ys := ([nn.1])) (jN := (some 3)) (fun _ => rfl) im iq Tryz.underlying22 (by first | rfl | assumption | (simp only [aU, bg, dI, nq, nm, seval] <;> rfl) | (simp only [aU, bg, iX, jm, iu, iv, tyf, mqt, nq, (aW w8), fu, dB, fF, iw, lI, ix, eK, qN, nm, seval]; done)) (Nat.zero_lt_succ _) qN ?_
   simp only [vz, mq, mqm, vsi, tyf, mqt, nq, (aW w8), fu, dB, fF, iw, lI, ix, eK, qN, nm, seval]
   exact ⟨List.length p5, Nat.lt_succ_self _, by rw [ni]; refine ⟨p5, bW + 1, (([] : List Int) ++ [nn.1]), nn.2, .ref (km + 10) 0 (List.length (([] : List Int) ++ [nn.1])) 1 (List.length (([] : List Int) ++ [nn.1])), rfl, Int.le_trans fE (Int.le_add_one (Int.le_refl _)), dj fE hO, rfl, (show nx + 6 ≤ km + 14 by omega), ?_, ?_, fu, dB, fF, iw, ?_, ?_, Or.inl ⟨km + 10, (some 3), rfl, (by first | omega | (simp only [nm, seval]; done) | (simp only [nm, seval]; omega)), (by first | omega | (intro hh; simp only [nq, reduceCtorEq] at hh)), (by first | omega | (intro hh; simp only [nq, reduceCtorEq] at hh)), ?_⟩, (by first | exact h | (simp only [nq]; exact h))⟩ <;> first | (simp only [ua, bO, nq, fu, dB, fF, iw, lI, ix, eK, nm, seval] <;> rfl) | rfl⟩
def sG (rc : GBk → (List Int) → Int → Int → (List (Gbe × Int)) → Option ((Int) × List (Gbe × Int))) (aa : GBk) (ag : List Int) (ah : Int) (ai : Int) (l0 : List (Gbe × Int)) : Option ((Int) × List (Gbe × Int)) := Option.bind (sB rc aa ag ah ai l0) (fun r1 => Option.bind (getI aa.Strokes ah) (fun x2 => Option.bind (qL rc aa ag x2.Needs ai r1.2) (fun r3 => Option.bind (mg r3.1) (fun r4 => Option.bind (mg ([r1.1, r4])) (fun r5 => some (r5, r3.2))))))
theorem JO (rc : GBk → (List Int) → Int → Int → (List (Gbe × Int)) → Option ((Int) × List (Gbe × Int))) (rc_ok : ∀ (aa : GBk) (ag : List Int) (ah : Int) (ai : Int) (l0 : List (Gbe × Int)) (R : (Int) × List (Gbe × Int)), rc aa ag ah ai l0 = some R → VUpd Tryz.prog G0 118 (fun β => [.agg [.lit (.int .i64 aa.Apprentices), .sl (ae eI aa.Boards) (List.length aa.Boards) false, .sl (ae cGBs aa.Strokes) (List.length aa.Strokes) false, .sl (ae eI ag) (List.length ag) false, .mp β], .lit (.int .i64 ah), .lit (.int .i64 ai)]) (encM aN bM l0) (encM aN bM R.2) (fun _ => .lit (.int .i64 R.1))) (aa : GBk) (ag : List Int) (ah : Int) (ai : Int) (l0 : List (Gbe × Int)) (R : (Int) × List (Gbe × Int)) (h : sG rc aa ag ah ai l0 = some R) : VUpd Tryz.prog G0 107 (fun β => [.agg [.lit (.int .i64 aa.Apprentices), .sl (ae eI aa.Boards) (List.length aa.Boards) false, .sl (ae cGBs aa.Strokes) (List.length aa.Strokes) false, .sl (ae eI ag) (List.length ag) false, .mp β], .lit (.int .i64 ah), .lit (.int .i64 ai)]) (encM aN bM l0) (encM aN bM R.2) (fun _ => .lit (.int .i64 R.1)) := by
 intro bk nx hlt
 have aX := gZ (β := bk) (nx := nx) hlt
 refine an.run mixed Tryz.call107 Tryz.func107 rfl (by simp [Tryz.ntmps107]; kernel_rfl) ?_
 obtain ⟨KF, h, kF, kN⟩ := cJ h
 simp only [sG] at h
 simp only [vz, mq, mqm, vsi, tyf, mqt, aX, nm, seval]
 refine md (fun tm => tm 1 = .lit (.int .i64 ah) ∧ tm 2 = .lit (.int .i64 ai) ∧ tm 3 = .ptr nx 0 ∧ True) (by refine ⟨?_, ?_, ?_, trivial⟩ <;> first | (simp only [ua, bO, aX, nm, seval] <;> rfl) | rfl) ?_
 rintro tm ⟨e6, e7, e8, _⟩
 obtain ⟨r9, gw, h⟩ := optI h kN
 try simp only [hs] at h
 simp only [vz, mq, mqm, vsi, tyf, mqt, aX, e6, e7, e8, nm, seval]
 refine dkupd (VUpd.at (β := bk) (y := (fun _ => .lit (.int .i64 r9.1))) (NN rc rc_ok _ _ _ _ _ _ gw) (by omega) (by first | rfl | assumption | (simp only [aU, bg, aX, nm, seval] <;> rfl)) (by first | rfl | (simp only [nrm, tynrm, @cT, @fC] <;> rfl)) (gv (fun _ => rfl) _)) ?_
 refine gD (fun tm => tm 1 = .lit (.int .i64 ah) ∧ tm 2 = .lit (.int .i64 ai) ∧ tm 3 = .ptr nx 0 ∧ tm 10 = .lit (.int .i64 r9.1) ∧ True) (by refine ⟨e6, e7, e8, ?_, trivial⟩ <;> first | (simp only [ua, bO, aX, e6, e7, e8, nm, seval] <;> rfl) | rfl) ?_
 rintro tm ⟨b4, cn, bN, cB, _⟩
 obtain ⟨JP, gG, h⟩ := optI h kN
 try simp only [hs] at h
 obtain ⟨mu, Bi, h⟩ := optI h kN
 try simp only [hs] at h
 simp only [vz, mq, mqm, vsi, tyf, mqt, aX, b4, cn, bN, cB, (aL gG), nm, seval]
 refine dkupd (VUpd.at (β := bk) (y := (fun _ => .sl (ae eI mu.1) (List.length mu.1) false)) (JL rc rc_ok _ _ _ _ _ _ Bi) (by omega) (by first | rfl | assumption | (simp only [aU, bg, aX, nm, seval] <;> rfl)) (by first | rfl | (simp only [nrm, tynrm, @cT, @fC] <;> rfl)) (gv (fun _ => rfl) _)) ?_
 refine gD (fun tm => tm 10 = .lit (.int .i64 r9.1) ∧ tm 20 = .sl (ae eI mu.1) (List.length mu.1) false ∧ True) (by refine ⟨cB, ?_, trivial⟩ <;> first | (simp only [ua, bO, aX, b4, cn, bN, cB, nm, seval] <;> rfl) | rfl) ?_
 rintro tm ⟨ct, fG, _⟩
 obtain ⟨jn, sH, h⟩ := optI h kN
 try simp only [hs] at h
 simp only [vz, mq, mqm, vsi, tyf, mqt, aX, (aL gG), ct, fG, nm, seval]
 refine dktree (args0 := [.sl (ae eI mu.1) (List.length mu.1) false]) (by first | (simp only [nrm, tynrm, @cT] <;> rfl) | rfl) (by simp only [tre, tytre, mqr, Bool.and_self]) (sD _ _ sH) ?_
 refine bL (fun tm => tm 10 = .lit (.int .i64 r9.1) ∧ tm 21 = .lit (.int .i64 jn) ∧ True) (by refine ⟨ct, ?_, trivial⟩ <;> first | (simp only [ua, bO, aX, ct, fG, nm, seval] <;> rfl) | rfl) ?_
 rintro tm ⟨cu, bR, _⟩
 obtain ⟨gF, oL, h⟩ := optI h kN
 try simp only [hs] at h
 simp only [vz, mq, mqm, vsi, tyf, mqt, aX, (aL gG), cu, bR, nm, seval]
 refine dkseen1 (w := 1) (enc := eI) (xs := ([r9.1, jn])) (el := (some 3)) ⟨eI_ok.tree, eI_ok.norm⟩ (fun _ => rfl) (by simp only [List.length_cons, List.length_nil]; decide) (by simp only [aU, bg, dI, aX, nm, seval] <;> rfl) (sD _ _ oL) (by first | rfl | simp only [VV.flat, flatL, Bool.and_self]) ?_
 refine bL (fun tm => tm 23 = .lit (.int .i64 gF) ∧ True) (by refine ⟨?_, trivial⟩ <;> first | (simp only [ua, bO, aX, cu, bR, nm, seval] <;> rfl) | rfl) ?_
 rintro tm ⟨bm, _⟩
 simp only [vz, mq, mqm, vsi, tyf, mqt, aX, (aL gG), bm, nm, seval]
 refine jQ ⟨?_, ?_⟩
 ·simp only [jR, jS, dQ, jT, and_true, true_and]
  repeat' (first | exact trivial | refine And.intro ?_ ?_ | rw [dQ] | rw [jU] | exact Or.inl (by decide +kernel) | exact Or.inl (by dsimp only; decide +kernel) | (refine Or.inr ⟨?_, ?_⟩ <;> simp; done) | (refine Or.inr ⟨?_, ?_⟩ <;> simp <;> omega) | (refine Or.inr ⟨?_, ?_⟩ <;> simp [VEff.wr] <;> omega))
 try simp only [vz, mq, mqm, vsi, tyf, mqt, aX, (aL gG), bm, nm, seval]
 refine cH (x := (.lit (.int .i64 gF))) (by first | (simp only [Tryz.results107, resV, resL, resV1, dh, di, uw, cr, tyf, mqt, aX, (aL gG), nm, seval] <;> rfl) | rfl) ?_
 obtain rfl := kF _ h
 refine ⟨(by first | rfl | assumption | (simp only [aU, bg, aX, nm, seval] <;> rfl)), ?_⟩
 exact sq_of (lG (by simp only [tre, tytre, mqr, Bool.and_self]) rfl)
def sJ (aa : GBk) (ag : List Int) (ah : Int) : Option (Int) := Option.bind (getI aa.Strokes ah) (fun x1 => some x1.Hours.Low)
theorem NV (aa : GBk) (ag : List Int) (ah : Int) (b : Nat) (R : Int) (h : sJ aa ag ah = some R) : aj Tryz.prog G0 139 [.agg [.lit (.int .i64 aa.Apprentices), .sl (ae eI aa.Boards) (List.length aa.Boards) false, .sl (ae cGBs aa.Strokes) (List.length aa.Strokes) false, .sl (ae eI ag) (List.length ag) false, .lit (.map (some b))], .lit (.int .i64 ah)] (.tree (.lit (.int .i64 R))) := by
 refine aj.runR mixed Tryz.call139 Tryz.func139 rfl (by simp [Tryz.ntmps139]; kernel_rfl) ?_
 obtain ⟨KF, h, kF, kN⟩ := cJ h
 simp only [sJ] at h
 obtain ⟨x2, o3, h⟩ := optI h kN
 try simp only [hs] at h
 try simp only [vz, vsi, tyf, (aL o3), nm, seval]
 refine cH (x := (.lit (.int .i64 x2.Hours.Low))) (by first | (simp only [Tryz.results139, resV, resL, resV1, dh, di, uw, cr, tyf, (aL o3), nm, seval] <;> rfl) | rfl) ?_
 obtain rfl := kF _ h
 refine ka ?_ ?_
 ·simp only [tre, tytre, Bool.and_self]
 ·first | (simp only [outV, uw, jO, cr, tyf, nrm, tynrm, (aL o3), nm, seval] <;> rfl) | rfl
def sK (aa : GBk) (ag : List Int) (ah : Int) : Option (Int) := Option.bind (getI aa.Strokes ah) (fun x1 => some x1.Hours.High)
theorem NW (aa : GBk) (ag : List Int) (ah : Int) (b : Nat) (R : Int) (h : sK aa ag ah = some R) : aj Tryz.prog G0 140 [.agg [.lit (.int .i64 aa.Apprentices), .sl (ae eI aa.Boards) (List.length aa.Boards) false, .sl (ae cGBs aa.Strokes) (List.length aa.Strokes) false, .sl (ae eI ag) (List.length ag) false, .lit (.map (some b))], .lit (.int .i64 ah)] (.tree (.lit (.int .i64 R))) := by
 refine aj.runR mixed Tryz.call140 Tryz.func140 rfl (by simp [Tryz.ntmps140]; kernel_rfl) ?_
 obtain ⟨KF, h, kF, kN⟩ := cJ h
 simp only [sK] at h
 obtain ⟨x2, o3, h⟩ := optI h kN
 try simp only [hs] at h
 try simp only [vz, vsi, tyf, (aL o3), nm, seval]
 refine cH (x := (.lit (.int .i64 x2.Hours.High))) (by first | (simp only [Tryz.results140, resV, resL, resV1, dh, di, uw, cr, tyf, (aL o3), nm, seval] <;> rfl) | rfl) ?_
 obtain rfl := kF _ h
 refine ka ?_ ?_
 ·simp only [tre, tytre, Bool.and_self]
 ·first | (simp only [outV, uw, jO, cr, tyf, nrm, tynrm, (aL o3), nm, seval] <;> rfl) | rfl
def sL (rc : GBk → (List Int) → Int → Int → (List (Gbe × Int)) → Option ((Int) × List (Gbe × Int))) (aa : GBk) (ag : List Int) (ah : Int) (ai : Int) (l0 : List (Gbe × Int)) : Option ((Int) × List (Gbe × Int)) := cond (mapHas cw l0 (Gbe.mk ah ai)) (some (mapGet cw 0 l0 (Gbe.mk ah ai), l0)) (Option.bind (sG rc aa ag ah ai l0) (fun r1 => cond (ai == 0) (Option.bind (sJ aa ag ah) (fun r2 => some (i64.wrap (r1.1 + r2), mapSet cw r1.2 (Gbe.mk ah ai) (i64.wrap (r1.1 + r2))))) (cond (ai == 1) (Option.bind (sK aa ag ah) (fun r2 => some (i64.wrap (r1.1 + r2), mapSet cw r1.2 (Gbe.mk ah ai) (i64.wrap (r1.1 + r2))))) none)))
theorem NX (rc : GBk → (List Int) → Int → Int → (List (Gbe × Int)) → Option ((Int) × List (Gbe × Int))) (rc_ok : ∀ (aa : GBk) (ag : List Int) (ah : Int) (ai : Int) (l0 : List (Gbe × Int)) (R : (Int) × List (Gbe × Int)), rc aa ag ah ai l0 = some R → VUpd Tryz.prog G0 118 (fun β => [.agg [.lit (.int .i64 aa.Apprentices), .sl (ae eI aa.Boards) (List.length aa.Boards) false, .sl (ae cGBs aa.Strokes) (List.length aa.Strokes) false, .sl (ae eI ag) (List.length ag) false, .mp β], .lit (.int .i64 ah), .lit (.int .i64 ai)]) (encM aN bM l0) (encM aN bM R.2) (fun _ => .lit (.int .i64 R.1))) (aa : GBk) (ag : List Int) (ah : Int) (ai : Int) (l0 : List (Gbe × Int)) (R : (Int) × List (Gbe × Int)) (h : sL rc aa ag ah ai l0 = some R) : VUpd Tryz.prog G0 118 (fun β => [.agg [.lit (.int .i64 aa.Apprentices), .sl (ae eI aa.Boards) (List.length aa.Boards) false, .sl (ae cGBs aa.Strokes) (List.length aa.Strokes) false, .sl (ae eI ag) (List.length ag) false, .mp β], .lit (.int .i64 ah), .lit (.int .i64 ai)]) (encM aN bM l0) (encM aN bM R.2) (fun _ => .lit (.int .i64 R.1)) := by
 intro bk nx hlt
 have aX := gZ (β := bk) (nx := nx) hlt
 refine an.run mixed Tryz.call118 Tryz.func118 rfl (by simp [Tryz.ntmps118]; kernel_rfl) ?_
 obtain ⟨KF, h, kF, kN⟩ := cJ h
 simp only [sL] at h
 have w2 := fun H => sM (β := bk) l0 (Gbe.mk ah ai) H
 try simp only [bO] at w2
 cases d3 : (mapHas cw l0 (Gbe.mk ah ai))
 ·simp only [d3, hs] at h
  obtain ⟨r4, o5, h⟩ := optI h kN
  try simp only [hs] at h
  have hk : (ai == 0) = true ∨ ((ai == 0) = false ∧ (ai == 1) = true) := by
   cases c0 : (ai == 0)
   ·cases c1 : (ai == 1)
    ·simp only [c0, c1, hs] at h
     exact absurd h kN
    exact .inr ⟨rfl, rfl⟩
   exact .inl rfl
  rcases hk with c0 | ⟨c0, c1⟩
  ·obtain rfl : ai = 0 := by simpa using c0
   simp only [c0, hs] at h
   simp only [vz, mq, mqm, vsi, tyf, mqt, aX, w2, d3, nm, seval]
   refine md (fun tm => tm 1 = .lit (.int .i64 ah) ∧ tm 2 = .lit (.int .i64 0) ∧ tm 3 = .ptr nx 0 ∧ tm 7 = .ptr (nx + 5) 0 ∧ tm 10 = .ptr (nx + 19) 0 ∧ True) (by refine ⟨?_, ?_, ?_, ?_, ?_, trivial⟩ <;> first | (simp only [ua, bO, aX, w2, d3, nm, seval] <;> rfl) | rfl) ?_
   rintro tm ⟨e1, e2, e3, e4, bc, _⟩
   simp only [vz, mq, mqm, vsi, tyf, mqt, aX, w2, d3, e1, e2, e3, e4, bc, nm, seval]
   refine dkupd (VUpd.at (β := bk) (y := (fun _ => .lit (.int .i64 r4.1))) (JO rc rc_ok _ _ _ _ _ _ o5) (by omega) (by first | rfl | assumption | (simp only [aU, bg, aX, nm, seval] <;> rfl)) (by first | rfl | (simp only [nrm, tynrm, @cT, @fC] <;> rfl)) (gv (fun _ => rfl) _)) ?_
   refine gD (fun tm => tm 1 = .lit (.int .i64 ah) ∧ tm 2 = .lit (.int .i64 0) ∧ tm 3 = .ptr nx 0 ∧ tm 7 = .ptr (nx + 5) 0 ∧ tm 10 = .ptr (nx + 19) 0 ∧ tm 27 = .lit (.int .i64 r4.1) ∧ True) (by refine ⟨e1, e2, e3, e4, bc, ?_, trivial⟩ <;> first | (simp only [ua, bO, aX, e1, e2, e3, e4, bc, nm, seval] <;> rfl) | rfl) ?_
   rintro tm ⟨e1, e2, e3, e4, bc, bm, _⟩
   obtain ⟨r8, o9, h⟩ := optI h kN
   try simp only [hs] at h
   simp only [vz, mq, mqm, vsi, tyf, mqt, aX, w2, d3, e1, e2, e3, e4, bc, bm, nm, seval]
   refine dkupd (VUpd.at (β := bk) (y := (fun _ => .lit (.int .i64 r8))) (VUpd.of_lit (A := fun β => [.agg [.lit (.int .i64 aa.Apprentices), .sl (ae eI aa.Boards) (List.length aa.Boards) false, .sl (ae cGBs aa.Strokes) (List.length aa.Strokes) false, .sl (ae eI ag) (List.length ag) false, .mp β], .lit (.int .i64 ah)]) (x := fun _ => .lit (.int .i64 r8)) (es := encM aN bM r4.2) (A0 := fun _ b => [.agg [.lit (.int .i64 aa.Apprentices), .sl (ae eI aa.Boards) (List.length aa.Boards) false, .sl (ae cGBs aa.Strokes) (List.length aa.Strokes) false, .sl (ae eI ag) (List.length ag) false, .lit (.map (some b))], .lit (.int .i64 ah)]) (fun β b => by simp only [List.map_cons, List.map_nil, vlt, if_true, nrm, tynrm, @cT, tyf, mqt] <;> rfl) (fun β b => by simp only [List.map_cons, List.map_nil, vlt, if_true, tre, tytre, tyf, mqt, Bool.and_self]) (fun β b => rfl) (fun β b => NV aa ag ah b r8 o9) (fun _ _ _ _ _ => lG (by simp only [tre, tytre, mqr, Bool.and_self]) rfl)) (by omega) (by first | rfl | assumption | (simp only [aU, bg, aX, nm, seval] <;> rfl)) (by first | rfl | (simp only [nrm, tynrm, @cT, @fC] <;> rfl)) (gv (fun _ => rfl) _)) ?_
   refine gD (fun tm => tm 1 = .lit (.int .i64 ah) ∧ tm 2 = .lit (.int .i64 0) ∧ tm 3 = .ptr nx 0 ∧ tm 7 = .ptr (nx + 5) 0 ∧ tm 27 = .lit (.int .i64 r4.1) ∧ tm 33 = .lit (.int .i64 r8) ∧ True) (by refine ⟨e1, e2, e3, e4, bm, ?_, trivial⟩ <;> first | (simp only [ua, bO, aX, e1, e2, e3, e4, bc, bm, nm, seval] <;> rfl) | rfl) ?_
   rintro tm ⟨e1, e2, e3, e4, bm, fq, _⟩
   simp only [vz, mq, mqm, vsi, tyf, mqt, aX, w2, d3, e1, e2, e3, e4, bm, fq, nm, seval]
   refine jQ ⟨?_, ?_⟩
   ·simp only [jR, jS, dQ, jT, and_true, true_and]
    repeat' (first | exact trivial | refine And.intro ?_ ?_ | rw [dQ] | rw [jU] | exact Or.inl (by decide +kernel) | exact Or.inl (by dsimp only; decide +kernel) | (refine Or.inr ⟨?_, ?_⟩ <;> simp; done) | (refine Or.inr ⟨?_, ?_⟩ <;> simp <;> omega) | (refine Or.inr ⟨?_, ?_⟩ <;> simp [VEff.wr] <;> omega) | (refine Or.inr ⟨?_, ?_⟩ <;> simp [rdV, rdO, topName, Op.operands, kn, oM, sN, qO, VEff.wr] <;> omega))
   have w9 := fun H => sO (β := bk) r4.2 (Gbe.mk ah 0) (i64.wrap (r4.1 + r8)) H
   try simp only [bO] at w9
   try simp only [vz, mq, mqm, vsi, tyf, mqt, aX, d3, e1, e2, e3, e4, bm, fq, w9, nm, seval]
   refine cH (x := (.lit (.int .i64 (i64.wrap (r4.1 + r8))))) (by first | (simp only [Tryz.results118, resV, resL, resV1, dh, di, uw, cr, tyf, mqt, aX, d3, w9, nm, seval] <;> rfl) | rfl) ?_
   obtain rfl := kF _ h
   refine ⟨(by first | rfl | assumption | (simp only [aU, bg, aX, nm, seval] <;> rfl)), ?_⟩
   exact sq_of (lG (by simp only [tre, tytre, mqr, Bool.and_self]) rfl)
  obtain rfl : ai = 1 := by simpa using c1
  simp only [c0, c1, hs] at h
  simp only [vz, mq, mqm, vsi, tyf, mqt, aX, w2, d3, nm, seval]
  refine md (fun tm => tm 1 = .lit (.int .i64 ah) ∧ tm 2 = .lit (.int .i64 1) ∧ tm 3 = .ptr nx 0 ∧ tm 7 = .ptr (nx + 5) 0 ∧ tm 10 = .ptr (nx + 19) 0 ∧ True) (by refine ⟨?_, ?_, ?_, ?_, ?_, trivial⟩ <;> first | (simp only [ua, bO, aX, w2, d3, nm, seval] <;> rfl) | rfl) ?_
  rintro tm ⟨e1, e2, e3, e4, bc, _⟩
  simp only [vz, mq, mqm, vsi, tyf, mqt, aX, w2, d3, e1, e2, e3, e4, bc, nm, seval]
  refine dkupd (VUpd.at (β := bk) (y := (fun _ => .lit (.int .i64 r4.1))) (JO rc rc_ok _ _ _ _ _ _ o5) (by omega) (by first | rfl | assumption | (simp only [aU, bg, aX, nm, seval] <;> rfl)) (by first | rfl | (simp only [nrm, tynrm, @cT, @fC] <;> rfl)) (gv (fun _ => rfl) _)) ?_
  refine gD (fun tm => tm 1 = .lit (.int .i64 ah) ∧ tm 2 = .lit (.int .i64 1) ∧ tm 3 = .ptr nx 0 ∧ tm 7 = .ptr (nx + 5) 0 ∧ tm 10 = .ptr (nx + 19) 0 ∧ tm 27 = .lit (.int .i64 r4.1) ∧ True) (by refine ⟨e1, e2, e3, e4, bc, ?_, trivial⟩ <;> first | (simp only [ua, bO, aX, e1, e2, e3, e4, bc, nm, seval] <;> rfl) | rfl) ?_
  rintro tm ⟨e1, e2, e3, e4, bc, bm, _⟩
  obtain ⟨r8, o9, h⟩ := optI h kN
  try simp only [hs] at h
  simp only [vz, mq, mqm, vsi, tyf, mqt, aX, w2, d3, e1, e2, e3, e4, bc, bm, nm, seval]
  refine dkupd (VUpd.at (β := bk) (y := (fun _ => .lit (.int .i64 r8))) (VUpd.of_lit (A := fun β => [.agg [.lit (.int .i64 aa.Apprentices), .sl (ae eI aa.Boards) (List.length aa.Boards) false, .sl (ae cGBs aa.Strokes) (List.length aa.Strokes) false, .sl (ae eI ag) (List.length ag) false, .mp β], .lit (.int .i64 ah)]) (x := fun _ => .lit (.int .i64 r8)) (es := encM aN bM r4.2) (A0 := fun _ b => [.agg [.lit (.int .i64 aa.Apprentices), .sl (ae eI aa.Boards) (List.length aa.Boards) false, .sl (ae cGBs aa.Strokes) (List.length aa.Strokes) false, .sl (ae eI ag) (List.length ag) false, .lit (.map (some b))], .lit (.int .i64 ah)]) (fun β b => by simp only [List.map_cons, List.map_nil, vlt, if_true, nrm, tynrm, @cT, tyf, mqt] <;> rfl) (fun β b => by simp only [List.map_cons, List.map_nil, vlt, if_true, tre, tytre, tyf, mqt, Bool.and_self]) (fun β b => rfl) (fun β b => NW aa ag ah b r8 o9) (fun _ _ _ _ _ => lG (by simp only [tre, tytre, mqr, Bool.and_self]) rfl)) (by omega) (by first | rfl | assumption | (simp only [aU, bg, aX, nm, seval] <;> rfl)) (by first | rfl | (simp only [nrm, tynrm, @cT, @fC] <;> rfl)) (gv (fun _ => rfl) _)) ?_
  refine gD (fun tm => tm 1 = .lit (.int .i64 ah) ∧ tm 2 = .lit (.int .i64 1) ∧ tm 3 = .ptr nx 0 ∧ tm 7 = .ptr (nx + 5) 0 ∧ tm 27 = .lit (.int .i64 r4.1) ∧ tm 33 = .lit (.int .i64 r8) ∧ True) (by refine ⟨e1, e2, e3, e4, bm, ?_, trivial⟩ <;> first | (simp only [ua, bO, aX, e1, e2, e3, e4, bc, bm, nm, seval] <;> rfl) | rfl) ?_
  rintro tm ⟨e1, e2, e3, e4, bm, fq, _⟩
  simp only [vz, mq, mqm, vsi, tyf, mqt, aX, w2, d3, e1, e2, e3, e4, bm, fq, nm, seval]
  refine jQ ⟨?_, ?_⟩
  ·simp only [jR, jS, dQ, jT, and_true, true_and]
   repeat' (first | exact trivial | refine And.intro ?_ ?_ | rw [dQ] | rw [jU] | exact Or.inl (by decide +kernel) | exact Or.inl (by dsimp only; decide +kernel) | (refine Or.inr ⟨?_, ?_⟩ <;> simp; done) | (refine Or.inr ⟨?_, ?_⟩ <;> simp <;> omega) | (refine Or.inr ⟨?_, ?_⟩ <;> simp [VEff.wr] <;> omega) | (refine Or.inr ⟨?_, ?_⟩ <;> simp [rdV, rdO, topName, Op.operands, kn, oM, sN, qO, VEff.wr] <;> omega))
  have w9 := fun H => sO (β := bk) r4.2 (Gbe.mk ah 1) (i64.wrap (r4.1 + r8)) H
  try simp only [bO] at w9
  try simp only [vz, mq, mqm, vsi, tyf, mqt, aX, d3, e1, e2, e3, e4, bm, fq, w9, nm, seval]
  refine cH (x := (.lit (.int .i64 (i64.wrap (r4.1 + r8))))) (by first | (simp only [Tryz.results118, resV, resL, resV1, dh, di, uw, cr, tyf, mqt, aX, d3, w9, nm, seval] <;> rfl) | rfl) ?_
  obtain rfl := kF _ h
  refine ⟨(by first | rfl | assumption | (simp only [aU, bg, aX, nm, seval] <;> rfl)), ?_⟩
  exact sq_of (lG (by simp only [tre, tytre, mqr, Bool.and_self]) rfl)
 simp only [d3, hs] at h
 try simp only [vz, mq, mqm, vsi, tyf, mqt, aX, w2, d3, nm, seval]
 refine cH (x := (.lit (.int .i64 (mapGet cw 0 l0 (Gbe.mk ah ai))))) (by first | (simp only [Tryz.results118, resV, resL, resV1, dh, di, uw, cr, tyf, mqt, aX, w2, d3, nm, seval] <;> rfl) | rfl) ?_
 obtain rfl := kF _ h
 refine ⟨(by first | rfl | assumption | (simp only [aU, bg, aX, nm, seval] <;> rfl)), ?_⟩
 exact sq_of (lG (by simp only [tre, tytre, mqr, Bool.and_self]) rfl)
def gEnd : Nat → GBk → (List Int) → Int → Int → (List (Gbe × Int)) → Option ((Int) × List (Gbe × Int))
 | 0 => fun _ _ _ _ _ => none
 | n + 1 => sL (gEnd n)
theorem oN : ∀ (n : Nat) (aa : GBk) (ag : List Int) (ah : Int) (ai : Int) (l0 : List (Gbe × Int)) (R : (Int) × List (Gbe × Int)), gEnd n aa ag ah ai l0 = some R → VUpd Tryz.prog G0 118 (fun β => [.agg [.lit (.int .i64 aa.Apprentices), .sl (ae eI aa.Boards) (List.length aa.Boards) false, .sl (ae cGBs aa.Strokes) (List.length aa.Strokes) false, .sl (ae eI ag) (List.length ag) false, .mp β], .lit (.int .i64 ah), .lit (.int .i64 ai)]) (encM aN bM l0) (encM aN bM R.2) (fun _ => .lit (.int .i64 R.1))
 | 0, _, _, _, _, _, _, h => by cases h
 | n + 1, aa, ag, ah, ai, l0, R, h => NX (gEnd n) (oN n) aa ag ah ai l0 R h
def Bj (aa : GBk) (ag : List Int) (ah : Int) (ai : Int) (l0 : List (Gbe × Int)) : Option ((Int) × List (Gbe × Int)) := gEnd 8 aa ag ah ai l0
theorem NY (aa : GBk) (ag : List Int) (ah : Int) (ai : Int) (l0 : List (Gbe × Int)) (R : (Int) × List (Gbe × Int)) (h : Bj aa ag ah ai l0 = some R) : VUpd Tryz.prog G0 118 (fun β => [.agg [.lit (.int .i64 aa.Apprentices), .sl (ae eI aa.Boards) (List.length aa.Boards) false, .sl (ae cGBs aa.Strokes) (List.length aa.Strokes) false, .sl (ae eI ag) (List.length ag) false, .mp β], .lit (.int .i64 ah), .lit (.int .i64 ai)]) (encM aN bM l0) (encM aN bM R.2) (fun _ => .lit (.int .i64 R.1)) := oN 8 aa ag ah ai l0 R h
def wB (aa : GBk) (ag : List Int) (aq : List Int) (ai : Int) (l0 : List (Gbe × Int)) : Option ((List Int) × List (Gbe × Int)) := qL (gEnd 8) aa ag aq ai l0
theorem JQ (aa : GBk) (ag : List Int) (aq : List Int) (ai : Int) (l0 : List (Gbe × Int)) (R : (List Int) × List (Gbe × Int)) (h : wB aa ag aq ai l0 = some R) : VUpd Tryz.prog G0 106 (fun β => [.agg [.lit (.int .i64 aa.Apprentices), .sl (ae eI aa.Boards) (List.length aa.Boards) false, .sl (ae cGBs aa.Strokes) (List.length aa.Strokes) false, .sl (ae eI ag) (List.length ag) false, .mp β], .sl (ae eI aq) (List.length aq) false, .lit (.int .i64 ai)]) (encM aN bM l0) (encM aN bM R.2) (fun _ => .sl (ae eI R.1) (List.length R.1) false) := JL (gEnd 8) (oN 8) aa ag aq ai l0 R h
def oO (aa : GBk) (ag : List Int) : List GBs → Int → Int → (List (Gbe × Int)) → Option (LOut ((Int) × List (Gbe × Int)) (Int × (List (Gbe × Int))))
 | [], oP, cL, bT => some (.go (cL, bT))
 | e0 :: p0, oP, cL, bT => Option.bind (Bj aa ag oP 1 bT) (fun r3 => Option.bind (mg ([cL, r3.1])) (fun r4 => oO aa ag p0 (oP + 1) r4 r3.2))
def oQ (aa : GBk) (ag : List Int) (l0 : List (Gbe × Int)) : Option ((Int) × List (Gbe × Int)) := cond (aM aa.Strokes) (lbind (oO aa ag aa.Strokes 0 0 l0) (fun r6 => some r6) (fun c5 => some (c5.1, c5.2)) (fun _ _ => none)) none
theorem Bk (aa : GBk) (ag : List Int) (l0 : List (Gbe × Int)) (R : (Int) × List (Gbe × Int)) (h : oQ aa ag l0 = some R) : VUpd Tryz.prog G0 87 (fun β => [.agg [.lit (.int .i64 aa.Apprentices), .sl (ae eI aa.Boards) (List.length aa.Boards) false, .sl (ae cGBs aa.Strokes) (List.length aa.Strokes) false, .sl (ae eI ag) (List.length ag) false, .mp β]]) (encM aN bM l0) (encM aN bM R.2) (fun _ => .lit (.int .i64 R.1)) := by
 intro bk nx hlt
 have aX := gZ (β := bk) (nx := nx) hlt
 refine an.run mixed Tryz.call87 Tryz.func87 rfl (by simp [Tryz.ntmps87]; kernel_rfl) ?_
 obtain ⟨KF, h, kF, kN⟩ := cJ h
 simp only [oQ] at h
 cases g8 : (aM aa.Strokes)
 ·simp only [g8, hs] at h
  exact absurd h kN
 simp only [g8, hs] at h
 simp only [vz, mq, mqm, vsi, tyf, mqt, aX, g8, nm, seval]
 obtain ⟨K7, h, RN, NZ, RO, JR⟩ := hC h kN
 obtain ⟨f7, Oa, h⟩ := call4 h
 obtain ⟨I7, Bl⟩ : ∃ I : Nat → St → Prop, I = (fun m st => ∃ (p7 : List GBs) (eW : Int) (iy : Int) (ko : List (Gbe × Int)), m = List.length p7 ∧ 0 ≤ eW ∧ List.drop (Int.toNat eW) aa.Strokes = p7 ∧ st.df = [] ∧ nx + 8 ≤ st.nx ∧ st.H bk = some (.map (encM aN bM ko)) ∧ st.H nx = some (.cells (some 92) ((cGBk aa) ++ [.sl (ae eI ag) (List.length ag) false] ++ [.mp bk])) ∧ st.tm 1 = .ptr nx 0 ∧ st.tm 8 = .lit (.int .i64 (List.length aa.Strokes : Int)) ∧ st.tm 3 = .lit (.int .i64 iy) ∧ st.tm 9 = .lit (.int .i64 eW) ∧ K7 (f7 p7 eW iy ko)) := ⟨_, rfl⟩
 refine loopK mixed (by kernel_rfl) I7 (List.length aa.Strokes) (by rw [Bl]; refine ⟨aa.Strokes, 0, 0, l0, rfl, Int.le_refl _, rfl, rfl, (show nx + 8 ≤ nx + 8 by omega), ?_, ?_, ?_, ?_, ?_, ?_, h⟩ <;> first | (simp only [ua, bO, aX, nm, seval] <;> rfl) | rfl) ?_
 rintro m ⟨tm, H, Bm, df⟩ hinv
 rw [Bl] at hinv
 obtain ⟨p7, eW, iy, ko, rfl, qP, sP, hdf, Ob, H9, nr, b4, cn, bN, cB, h⟩ := hinv
 simp only at hdf Ob H9 nr b4 cn bN cB
 have dO := mT (a := nx) (m := 8) (b := Bm) (by omega)
 have dP := gZ (β := bk) (nx := Bm) (by omega)
 subst hdf Oa
 cases p7 with
 | nil =>
  have mw : (decide (eW < (List.length aa.Strokes : Int))) = false := gC qP sP
  simp only [oO, hs, reduceCtorEq] at h
  replace h := NZ _ h
  try dsimp only at h
  try simp only [hs] at h
  try simp only [vz, mq, mqm, vsi, tyf, mqt, aX, g8, dO, dP, b4, cn, bN, cB, H9, nr, mw, nm, seval]
  refine cH (x := (.lit (.int .i64 iy))) (by first | (simp only [Tryz.results87, resV, resL, resV1, dh, di, uw, cr, tyf, mqt, aX, g8, dO, dP, H9, nr, mw, nm, seval] <;> rfl) | rfl) ?_
  obtain rfl := kF _ h
  refine ⟨(by first | rfl | assumption | (simp only [aU, bg, aX, dO, dP, H9, nr, nm, seval] <;> rfl)), ?_⟩
  exact sq_of (lG (by first | (simp only [tre, tytre, mqr, Bool.and_self]; done) | rfl) rfl)
 | cons e7 p7 =>
  have nt : (decide (eW < (List.length aa.Strokes : Int))) = true := gq qP sP
  have sQ := dG qP sP
  have Bn := gu qP sP g8
  simp only [oO, hs, reduceCtorEq] at h
  obtain ⟨jn, sH, h⟩ := optI h JR
  try simp only [hs] at h
  simp only [vz, mq, mqm, vsi, tyf, mqt, aX, g8, dO, dP, b4, cn, bN, cB, H9, nr, nt, (aL sQ), Bn, nm, seval]
  refine kupd (VUpd.at (β := bk) (y := (fun _ => .lit (.int .i64 jn.1))) (NY _ _ _ _ _ _ sH) (by omega) (by first | rfl | assumption | (simp only [aU, bg, aX, dO, dP, H9, nr, nm, seval] <;> rfl)) (by first | rfl | (simp only [nrm, tynrm, @cT, @fC] <;> rfl)) (gv (fun _ => rfl) _)) ?_
  refine gD (fun tm => tm 1 = .ptr nx 0 ∧ tm 8 = .lit (.int .i64 (List.length aa.Strokes : Int)) ∧ tm 9 = .lit (.int .i64 eW) ∧ tm 12 = .lit (.int .i64 iy) ∧ tm 15 = .lit (.int .i64 jn.1) ∧ True) (by refine ⟨b4, cn, cB, ?_, ?_, trivial⟩ <;> first | (simp only [ua, bO, aX, dO, dP, b4, cn, bN, cB, H9, nr, nt, Bn, nm, seval] <;> rfl) | rfl) ?_
  rintro tm ⟨cu, bR, cg, cC, bm, _⟩
  have gH := And.intro aX (And.intro g8 (And.intro dO (And.intro dP (And.intro H9 (And.intro nr (And.intro nt Bn))))))
  obtain ⟨JS, sR, h⟩ := optI h JR
  try simp only [hs] at h
  simp only [vz, mq, mqm, vsi, tyf, mqt, gH, (aL sQ), cu, bR, cg, cC, bm, nm, seval]
  refine kseen (args0 := [.sl (ae eI ([iy, jn.1])) (List.length ([iy, jn.1])) false]) (by simp only [List.map_cons, List.map_nil, jO, aU, bg, cr, tyf, mqt, nrm, tynrm, gH, (aL sQ), cu, bR, cg, cC, bm, nm, seval] <;> rfl) (by simp only [List.map_cons, List.map_nil, jO, aU, bg, cr, tyf, mqt, nrm, tynrm, gH, (aL sQ), cu, bR, cg, cC, bm, nm, seval]; simp only [tre, tytre, mqr, Bool.and_self]) (sD _ _ sR) (by first | rfl | simp only [VV.flat, flatL, Bool.and_self]) ?_
  refine bL (fun tm => tm 1 = .ptr nx 0 ∧ tm 8 = .lit (.int .i64 (List.length aa.Strokes : Int)) ∧ tm 9 = .lit (.int .i64 eW) ∧ tm 17 = .lit (.int .i64 JS) ∧ True) (by refine ⟨cu, bR, cg, ?_, trivial⟩ <;> first | (simp only [ua, bO, gH, cu, bR, cg, cC, bm, nm, seval] <;> rfl) | rfl) ?_
  rintro tm ⟨dk, jl, fq, iz, _⟩
  simp only [vz, mq, mqm, vsi, tyf, mqt, gH, (aL sQ), dk, jl, fq, iz, nm, seval]
  exact ⟨List.length p7, Nat.lt_succ_self _, by rw [Bl]; refine ⟨p7, eW + 1, JS, jn.2, rfl, Int.le_trans qP (Int.le_add_one (Int.le_refl _)), dj qP sP, rfl, (show nx + 8 ≤ Bm + 12 by omega), ?_, ?_, dk, jl, ?_, ?_, (by first | exact h | (simp only [gH]; exact h))⟩ <;> first | (simp only [ua, bO, gH, dk, jl, fq, iz, nm, seval] <;> rfl) | rfl⟩
def goB (b : Bool) : Option (LOut Bool Unit) := cond b (some (.go ())) (some (.ret false))
theorem oR (a b : Bool) : goB (a && b) = cond a (goB b) (some (.ret false)) := by cases a <;> rfl
theorem csome (a b : Bool) : cond a (some b) (some false) = some (a && b) := by cases a <;> rfl
theorem nu {X : Type} (b : Bool) (kr : Bool → Option X) (kg : Unit → Option X) (kb : Nat → Unit → Option X) : lbind (goB b) kr kg kb = cond b (kg ()) (kr false) := by cases b <;> rfl
def inB (a b n : Int) : Bool := decide (a ≤ n) && decide (n ≤ b)
theorem sS {a b n : Int} : inB a b n = true ↔ a ≤ n ∧ n ≤ b := by simp [inB]
theorem hS {n : Int} (h1 : -9223372036854775808 ≤ n) (h2 : n < 9223372036854775808) : i64.wrap n = n := IntWalk.i64_in _ (by omega)
theorem Bo {α : Type} {xs : List α} (h : aM xs = true) : xs.length < 9223372036854775808 := by simpa [aM] using h
theorem gI {α : Type} {xs : List α} (h : xs.length < 9223372036854775808) : aM xs = true := by simpa [aM] using h
theorem Bp {α : Type} {xs : List α} {i : Int} {x : α} (h : getI xs i = some x) : x ∈ xs := by
 unfold getI at h
 split at h
 ·exact List.mem_of_getElem? h
 ·cases h
theorem oS {α : Type} {xs : List α} {i : Int} {x : α} (h : getI xs i = some x) : 0 ≤ i ∧ i < xs.length := ⟨(nf h).1, (nf h).2.1⟩
end Go.V
end
section
namespace Go.V
def mxL (l : List Int) : Int := l.foldl max 0
theorem JT : ∀ (l : List Int) (a b : Int), l.foldl max a ≤ b ↔ a ≤ b ∧ ∀ x ∈ l, x ≤ b
 | [], a, b => by simp
 | x :: l, a, b => by
  simp only [List.foldl_cons, JT l, List.mem_cons, forall_eq_or_imp]
  constructor
  ·rintro ⟨h1, h2⟩; exact ⟨by omega, by omega, h2⟩
  ·rintro ⟨h1, h2, h3⟩; exact ⟨by omega, h3⟩
theorem oT {l : List Int} {b : Int} : mxL l ≤ b ↔ 0 ≤ b ∧ ∀ x ∈ l, x ≤ b := JT l 0 b
theorem Bq (l : List Int) : 0 ≤ mxL l := (oT.1 (Int.le_refl _)).1
theorem Br {l : List Int} {x : Int} (h : x ∈ l) : x ≤ mxL l := (oT.1 (Int.le_refl _)).2 x h
def frF (hd : Nat → Int) (e : Nat → Int) (h : Int) : Nat → Int
 | 0 => 0
 | k + 1 => if hd k = h then e k else frF hd e h k
theorem JU {hd : Nat → Int} {e e' : Nat → Int} {h : Int} : ∀ {n : Nat}, (∀ k, k < n → e k = e' k) → frF hd e h n = frF hd e' h n
 | 0, _ => rfl
 | n + 1, hk => by
  unfold frF
  rw [hk n (Nat.lt_succ_self _), JU (fun k h => hk k (Nat.lt_succ_of_lt h))]
theorem sU {hd : Nat → Int} {e : Nat → Int} {h b : Int} (hb : 0 ≤ b) : ∀ {n : Nat}, (∀ k, k < n → hd k = h → e k ≤ b) → frF hd e h n ≤ b
 | 0, _ => hb
 | n + 1, hk => by
  unfold frF
  split
  ·rename_i hh; exact hk n (Nat.lt_succ_self _) hh
  ·exact sU hb (fun k h1 h2 => hk k (Nat.lt_succ_of_lt h1) h2)
def bgF (hd : Nat → Int) (nd : Nat → List Int) (e : Nat → Int) (s : Nat) : Int := max (max 0 (frF hd e (hd s) s)) (mxL ((nd s).map fun k => e k.toNat))
def En (hd : Nat → Int) (nd : Nat → List Int) (d : Nat → Int) : Nat → Nat → Int
 | 0, _ => 0
 | f + 1, s => bgF hd nd (En hd nd d f) s + d s
def NdOk (nd : Nat → List Int) : Prop := ∀ s, ∀ k ∈ nd s, 0 ≤ k ∧ k.toNat < s
theorem JV {hd : Nat → Int} {nd : Nat → List Int} {e e' : Nat → Int} {s : Nat} (hn : NdOk nd) (h : ∀ k, k < s → e k = e' k) : bgF hd nd e s = bgF hd nd e' s := by
 unfold bgF
 rw [JU h]
 congr 2
 exact List.map_congr_left fun k hk => h _ (hn s k hk).2
theorem sV {hd : Nat → Int} {nd : Nat → List Int} {d : Nat → Int} (hn : NdOk nd) : ∀ (f g s : Nat), s < f → s < g → En hd nd d f s = En hd nd d g s
 | 0, _, _, h, _ => absurd h (Nat.not_lt_zero _)
 | _ + 1, 0, _, _, h => absurd h (Nat.not_lt_zero _)
 | f + 1, g + 1, s, h1, h2 => by
  unfold En
  rw [JV hn (e' := En hd nd d g) (fun k hk => sV hn f g k (by omega) (by omega))]
def Ed (hd : Nat → Int) (nd : Nat → List Int) (d : Nat → Int) (s : Nat) : Int := En hd nd d (s + 1) s
def Bg (hd : Nat → Int) (nd : Nat → List Int) (d : Nat → Int) (s : Nat) : Int := bgF hd nd (Ed hd nd d) s
theorem Ed_eq {hd : Nat → Int} {nd : Nat → List Int} {d : Nat → Int} (hn : NdOk nd) (s : Nat) : Ed hd nd d s = Bg hd nd d s + d s := by
 show bgF hd nd (En hd nd d s) s + d s = _
 rw [JV hn (e' := Ed hd nd d) (fun k hk => sV hn s (k + 1) k hk (Nat.lt_succ_self _))]
 rfl
theorem Bs (hd : Nat → Int) (nd : Nat → List Int) (e : Nat → Int) (s : Nat) : 0 ≤ bgF hd nd e s := by
 have := Bq ((nd s).map fun k => e k.toNat)
 unfold bgF
 omega
section
variable {hd : Nat → Int} {nd : Nat → List Int} {d d' : Nat → Int}
theorem Bg_nn (s : Nat) : 0 ≤ Bg hd nd d s := Bs _ _ _ _
theorem Ed_nn (hn : NdOk nd) (h : ∀ k, 0 ≤ d k) (s : Nat) : 0 ≤ Ed hd nd d s := by
 rw [Ed_eq hn]
 have := Bg_nn (hd := hd) (nd := nd) (d := d) s
 have := h s
 omega
theorem sW (hn : NdOk nd) {s : Nat} {k : Int} (hk : k ∈ nd s) : Ed hd nd d k.toNat ≤ Bg hd nd d s := by
 have := Br (List.mem_map_of_mem (f := fun k : Int => Ed hd nd d k.toNat) hk)
 unfold Bg bgF
 omega
theorem sX (s : Nat) : frF hd (Ed hd nd d) (hd s) s ≤ Bg hd nd d s := by
 unfold Bg bgF
 omega
theorem oU (hn : NdOk nd) (h0 : ∀ k, 0 ≤ d k) {h : Int} : ∀ {n k : Nat}, k < n → hd k = h → Ed hd nd d k ≤ frF hd (Ed hd nd d) h n
 | 0, _, hk, _ => absurd hk (Nat.not_lt_zero _)
 | n + 1, k, hk, hh => by
  unfold frF
  split
  ·rename_i hn'
   rcases Nat.lt_or_ge k n with h1 | h1
   ·have h2 := oU hn h0 h1 hh
    have h3 := sX (hd := hd) (nd := nd) (d := d) n
    rw [hn'] at h3
    rw [Ed_eq hn n]
    have := h0 n
    omega
   ·have : k = n := by omega
    subst this
    exact Int.le_refl _
  ·rename_i hn'
   have : k ≠ n := by rintro rfl; exact hn' hh
   exact oU hn h0 (by omega) hh
theorem sY (hn : NdOk nd) (h0 : ∀ k, 0 ≤ d k) {k s : Nat} (hk : k < s) (hh : hd k = hd s) : Ed hd nd d k ≤ Bg hd nd d s := Int.le_trans (oU hn h0 hk hh) (sX s)
theorem oV (hn : NdOk nd) {s : Nat} {b : Int} (hb : 0 ≤ b) (h1 : ∀ k, k < s → hd k = hd s → Ed hd nd d k ≤ b) (h2 : ∀ k ∈ nd s, Ed hd nd d k.toNat ≤ b) : Bg hd nd d s ≤ b := by
 have h3 := sU (hd := hd) (e := Ed hd nd d) (h := hd s) (n := s) hb h1
 have h4 : mxL ((nd s).map fun k => Ed hd nd d k.toNat) ≤ b := by
  refine oT.2 ⟨hb, ?_⟩
  intro x hx
  obtain ⟨k, hk, rfl⟩ := List.mem_map.1 hx
  exact h2 k hk
 unfold Bg bgF
 omega
theorem Ed_bd (hn : NdOk nd) {m : Int} (h0 : ∀ k, 0 ≤ d k ∧ d k ≤ m) : ∀ (f s : Nat), s < f → Ed hd nd d s ≤ m * (s + 1)
 | 0, _, h => absurd h (Nat.not_lt_zero _)
 | f + 1, s, h => by
  have hm : 0 ≤ m := Int.le_trans (h0 0).1 (h0 0).2
  have key : ∀ k, k < s → Ed hd nd d k ≤ m * s := fun k hk => by
   refine Int.le_trans (Ed_bd hn h0 f k (by omega)) ?_
   exact Int.mul_le_mul_of_nonneg_left (by omega) hm
  have h1 : Bg hd nd d s ≤ m * s := oV hn (Int.mul_nonneg hm (by omega)) (fun k hk _ => key k hk) (fun k hk => key _ (hn s k hk).2)
  rw [Ed_eq hn, Int.mul_add]
  have := h0 s
  omega
theorem Bt (hn : NdOk nd) {m : Int} (h0 : ∀ k, 0 ≤ d k ∧ d k ≤ m) (s : Nat) : Ed hd nd d s ≤ m * (s + 1) := Ed_bd hn h0 (s + 1) s (Nat.lt_succ_self _)
def tkF (e : Nat → Int) : Nat → Int
 | 0 => 0
 | n + 1 => max (tkF e n) (e n)
theorem oW (e : Nat → Int) : ∀ n, 0 ≤ tkF e n
 | 0 => Int.le_refl _
 | n + 1 => by have := oW e n; unfold tkF; omega
theorem oX {e : Nat → Int} : ∀ {n k : Nat}, k < n → e k ≤ tkF e n
 | 0, _, h => absurd h (Nat.not_lt_zero _)
 | n + 1, k, h => by
  unfold tkF
  rcases Nat.lt_or_ge k n with h1 | h1
  ·have := oX (e := e) h1; omega
  ·have : k = n := by omega
   subst this
   omega
theorem oY {e : Nat → Int} {b : Int} (hb : 0 ≤ b) : ∀ {n : Nat}, (∀ k, k < n → e k ≤ b) → tkF e n ≤ b
 | 0, _ => hb
 | n + 1, h => by
  have h1 := oY hb (n := n) (fun k hk => h k (by omega))
  have h2 := h n (by omega)
  unfold tkF
  omega
theorem Bu {e e' : Nat → Int} {n : Nat} (h : ∀ k, k < n → e k ≤ e' k) : tkF e n ≤ tkF e' n := oY (oW e' n) fun k hk => Int.le_trans (h k hk) (oX hk)
end
end Go.V
end
section
namespace Go.V
open Go Go.Proofs IntKind
def nv (aJ : Int) (dW : Int) (aV : Int) : Option (Bool) := cond (decide (aJ ≤ dW)) (some (decide (dW ≤ aV))) (some false)
theorem sZ (aJ : Int) (dW : Int) (aV : Int) (R : Bool) (h : nv aJ dW aV = some R) : aj Tryz.prog G0 95 [.lit (.int .i64 aJ), .lit (.int .i64 dW), .lit (.int .i64 aV)] (.tree (.lit (.bool R))) := by
 refine aj.runR mixed Tryz.call95 Tryz.func95 rfl (by simp [Tryz.ntmps95]; kernel_rfl) ?_
 obtain ⟨KF, h, kF, kN⟩ := cJ h
 simp only [nv] at h
 cases d1 : (decide (aJ ≤ dW))
 ·simp only [d1, hs] at h
  try simp only [vz, tyf, d1, nm, seval]
  obtain rfl := kF _ h
  exact bd Tryz.results95 rfl
 simp only [d1, hs] at h
 try simp only [vz, tyf, d1, nm, seval]
 obtain rfl := kF _ h
 exact bd Tryz.results95 rfl
def qQ (aJ : Int) (aV : Int) : List Int → Int → Option (LOut (Bool) (Unit))
 | [], nw => some (.go ())
 | e0 :: p0, nw => Option.bind (nv aJ e0 aV) (fun r1 => cond (r1) (qQ aJ aV p0 (nw + 1)) (some (.ret false)))
def oZ (aJ : Int) (ar : List Int) (aV : Int) : Option (Bool) := cond (aM ar) (lbind (qQ aJ aV ar 0) (fun r3 => some r3) (fun c2 => some true) (fun _ _ => none)) none
theorem Bv (aJ : Int) (ar : List Int) (aV : Int) (R : Bool) (h : oZ aJ ar aV = some R) : aj Tryz.prog G0 103 [.lit (.int .i64 aJ), .sl (ae eI ar) (List.length ar) false, .lit (.int .i64 aV)] (.tree (.lit (.bool R))) := by
 refine aj.runR mixed Tryz.call103 Tryz.func103 rfl (by simp [Tryz.ntmps103]; kernel_rfl) ?_
 obtain ⟨KF, h, kF, kN⟩ := cJ h
 simp only [oZ] at h
 cases g5 : (aM ar)
 ·simp only [g5, hs] at h
  exact absurd h kN
 simp only [g5, hs] at h
 simp only [vz, tyf, g5, nm, seval]
 obtain ⟨K4, h, Oc, Od, RP, Oe⟩ := hC h kN
 obtain ⟨f4, Of, h⟩ := call2 h
 obtain ⟨I4, Bw⟩ : ∃ I : Nat → St → Prop, I = (fun m st => ∃ (p4 : List Int) (cU : Int), m = List.length p4 ∧ 0 ≤ cU ∧ List.drop (Int.toNat cU) ar = p4 ∧ st.df = [] ∧ 4 ≤ st.nx ∧ st.tm 0 = .lit (.int .i64 aJ) ∧ st.tm 2 = .lit (.int .i64 aV) ∧ st.tm 9 = .sl (ae eI ar) (List.length ar) false ∧ st.tm 10 = .lit (.int .i64 (List.length ar : Int)) ∧ st.tm 11 = .lit (.int .i64 cU) ∧ K4 (f4 p4 cU)) := ⟨_, rfl⟩
 refine loopK mixed (by kernel_rfl) I4 (List.length ar) (by rw [Bw]; refine ⟨ar, 0, rfl, Int.le_refl _, rfl, rfl, (show 4 ≤ 4 by omega), ?_, ?_, ?_, ?_, ?_, h⟩ <;> first | (simp only [ua, nm, seval] <;> rfl) | rfl) ?_
 rintro m ⟨tm, H, JW, df⟩ hinv
 rw [Bw] at hinv
 obtain ⟨p4, cU, rfl, qR, ta, hdf, Og, e6, e7, e8, e9, bc, h⟩ := hinv
 simp only at hdf Og e6 e7 e8 e9 bc
 have qS := je (m := 4) (b := JW) (by omega)
 subst hdf Of
 cases p4 with
 | nil =>
  have bU : (decide (cU < (List.length ar : Int))) = false := gC qR ta
  simp only [qQ, hs, reduceCtorEq] at h
  replace h := Od _ h
  try dsimp only at h
  try simp only [hs] at h
  try simp only [vz, tyf, g5, qS, e6, e7, e8, e9, bc, bU, nm, seval]
  obtain rfl := kF _ h
  exact bd Tryz.results103 rfl
 | cons e4 p4 =>
  have jV : (decide (cU < (List.length ar : Int))) = true := gq qR ta
  have pa := dG qR ta
  have tc := gu qR ta g5
  simp only [qQ, hs, reduceCtorEq] at h
  obtain ⟨JX, Oh, h⟩ := optI h Oe
  try simp only [hs] at h
  simp only [vz, tyf, g5, qS, e6, e7, e8, e9, bc, jV, (aW pa), tc, nm, seval]
  refine ktA (sZ _ _ _ _ Oh) ?_
  refine bL (fun tm => tm 0 = .lit (.int .i64 aJ) ∧ tm 2 = .lit (.int .i64 aV) ∧ tm 9 = .sl (ae eI ar) (List.length ar) false ∧ tm 10 = .lit (.int .i64 (List.length ar : Int)) ∧ tm 11 = .lit (.int .i64 cU) ∧ tm 18 = .lit (.bool JX) ∧ True) (by refine ⟨e6, e7, e8, e9, bc, ?_, trivial⟩ <;> first | (simp only [ua, qS, e6, e7, e8, e9, bc, jV, tc, nm, seval] <;> rfl) | rfl) ?_
  rintro tm ⟨bV, ct, fG, jo, dm, cu, _⟩
  cases ki : (JX)
  ·simp only [ki, hs] at h
   try simp only [vz, tyf, g5, qS, jV, (aW pa), tc, bV, ct, fG, jo, dm, cu, ki, nm, seval]
   replace h := Oc _ h
   try dsimp only at h
   obtain rfl := kF _ h
   exact bd Tryz.results103 rfl
  simp only [ki, hs] at h
  simp only [vz, tyf, g5, qS, jV, (aW pa), tc, bV, ct, fG, jo, dm, cu, ki, nm, seval]
  exact ⟨List.length p4, Nat.lt_succ_self _, by rw [Bw]; refine ⟨p4, cU + 1, rfl, Int.le_trans qR (Int.le_add_one (Int.le_refl _)), dj qR ta, rfl, (show 4 ≤ JW + 11 by omega), bV, ct, fG, jo, ?_, (by first | exact h | (simp only [jV, ki]; exact h))⟩ <;> first | (simp only [ua, qS, jV, tc, bV, ct, fG, jo, dm, cu, ki, nm, seval] <;> rfl) | rfl⟩
def wC (br : List Int) : Option (Bool) := Option.bind (nv 1 (List.length br : Int) 3) (fun r1 => cond (r1) (Option.bind (oZ 0 br 60) (fun r2 => some r2)) (some false))
theorem Oi (br : List Int) (R : Bool) (h : wC br = some R) : aj Tryz.prog G0 101 [.sl (ae eI br) (List.length br) false] (.tree (.lit (.bool R))) := by
 refine aj.runR mixed Tryz.call101 Tryz.func101 rfl (by simp [Tryz.ntmps101]; kernel_rfl) ?_
 obtain ⟨KF, h, kF, kN⟩ := cJ h
 simp only [wC] at h
 obtain ⟨r3, o4, h⟩ := optI h kN
 try simp only [hs] at h
 simp only [vz, tyf, nm, seval]
 refine ktA (sZ _ _ _ _ o4) ?_
 refine bL (fun tm => tm 0 = .sl (ae eI br) (List.length br) false ∧ tm 5 = .lit (.bool r3) ∧ True) (by refine ⟨?_, ?_, trivial⟩ <;> first | (simp only [ua, nm, seval] <;> rfl) | rfl) ?_
 rintro tm ⟨e5, e6, _⟩
 cases d7 : (r3)
 ·simp only [d7, hs] at h
  try simp only [vz, tyf, e5, e6, d7, nm, seval]
  obtain rfl := kF _ h
  exact bd Tryz.results101 rfl
 simp only [d7, hs] at h
 obtain ⟨r8, o9, h⟩ := optI h kN
 try simp only [hs] at h
 simp only [vz, tyf, e5, e6, d7, nm, seval]
 refine ktA (Bv _ _ _ _ o9) ?_
 refine bL (fun tm => tm 6 = .lit (.bool true) ∧ tm 8 = .lit (.bool r8) ∧ True) (by refine ⟨?_, ?_, trivial⟩ <;> first | (simp only [ua, e5, e6, d7, nm, seval] <;> rfl) | rfl) ?_
 rintro tm ⟨bc, b4, _⟩
 try simp only [vz, tyf, d7, bc, b4, nm, seval]
 obtain rfl := kF _ h
 exact bd Tryz.results101 rfl
def wD (ak : GBk) (cV : Int) : Option (Bool) := Option.bind (nv 0 cV (i64.wrap ((List.length ak.Boards : Int) - 1))) (fun r1 => some r1)
theorem Oj (ak : GBk) (cV : Int) (R : Bool) (h : wD ak cV = some R) : aj Tryz.prog G0 71 [.agg (cGBk ak), .lit (.int .i64 cV)] (.tree (.lit (.bool R))) := by
 refine aj.runR mixed Tryz.call71 Tryz.func71 rfl (by simp [Tryz.ntmps71]; kernel_rfl) ?_
 obtain ⟨KF, h, kF, kN⟩ := cJ h
 simp only [wD] at h
 obtain ⟨r2, o3, h⟩ := optI h kN
 try simp only [hs] at h
 simp only [vz, tyf, nm, seval]
 refine ktA (sZ _ _ _ _ o3) ?_
 refine bL (fun tm => tm 10 = .lit (.bool r2) ∧ True) (by refine ⟨?_, trivial⟩ <;> first | (simp only [ua, nm, seval] <;> rfl) | rfl) ?_
 rintro tm ⟨e4, _⟩
 try simp only [vz, tyf, e4, nm, seval]
 obtain rfl := kF _ h
 exact bd Tryz.results71 rfl
def td (aJ : Int) (eX : GSpan) (aV : Int) : Option (Bool) := cond (decide (aJ ≤ eX.Low)) (cond (decide (eX.Low ≤ eX.High)) (some (decide (eX.High ≤ aV))) (some false)) (some false)
theorem Ok (aJ : Int) (eX : GSpan) (aV : Int) (R : Bool) (h : td aJ eX aV = some R) : aj Tryz.prog G0 133 [.lit (.int .i64 aJ), .agg (cGSpan eX), .lit (.int .i64 aV)] (.tree (.lit (.bool R))) := by
 refine aj.runR mixed Tryz.call133 Tryz.func133 rfl (by simp [Tryz.ntmps133]; kernel_rfl) ?_
 obtain ⟨KF, h, kF, kN⟩ := cJ h
 simp only [td] at h
 cases d1 : (decide (aJ ≤ eX.Low))
 ·simp only [d1, hs] at h
  try simp only [vz, tyf, d1, nm, seval]
  obtain rfl := kF _ h
  exact bd Tryz.results133 rfl
 simp only [d1, hs] at h
 cases d2 : (decide (eX.Low ≤ eX.High))
 ·simp only [d2, hs] at h
  try simp only [vz, tyf, d1, d2, nm, seval]
  obtain rfl := kF _ h
  exact bd Tryz.results133 rfl
 simp only [d2, hs] at h
 try simp only [vz, tyf, d1, d2, nm, seval]
 obtain rfl := kF _ h
 exact bd Tryz.results133 rfl
end Go.V
end
