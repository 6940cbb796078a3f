/- Part of a proof. -/
import Derived.Test.YtmhlghgbfmcdaaaGreatDoorG7bm
set_option linter.all false
set_option maxRecDepth 4000
set_option maxHeartbeats 40000000
section
namespace Go.V
open Go Go.Proofs IntKind
def pM (mA : (List GSpan) × Int) (jr : (List GSpan) × Int) (k6 : (List GSpan) × Int) : List Int → Int → Option (LOut (Bool) (Unit))
 | [], gM => some (.go ())
 | e1 :: p1, gM => Option.bind (getI jr.1 gM) (fun ud => Option.bind (getI mA.1 gM) (fun pN => cond (decide (ud.Low > pN.Low)) (some (.ret false)) (cond (decide (ud.High > pN.High)) (some (.ret false)) (Option.bind (getI k6.1 gM) (fun xi => cond (decide (xi.Low > pN.Low)) (some (.ret false)) (cond (decide (xi.High > pN.High)) (some (.ret false)) (pM mA jr k6 p1 (gM + 1))))))))
def mG (bn : Int) : List Int → Int → (List Int) → Option (LOut (Bool) ((List Int)))
 | [], jb, gN => some (.go gN)
 | e0 :: p0, jb, gN => cond (jb != bn) (cond (roomOk 8 (List.length (gN ++ [e0]))) (mG bn p0 (jb + 1) (gN ++ [e0])) none) (mG bn p0 (jb + 1) gN)
def ue (ak X Y : GBk) (aA : List Int) : Option (Bool) := Option.bind (nJ ak) (fun rp => Option.bind (nJ X) (fun rj => Option.bind (nJ Y) (fun EL => cond (rp.2.2 != 0) (some false) (cond (rj.2.2 != 0) (some false) (cond (EL.2.2 != 0) (some false) (cond (decide (rj.2.1 < 1)) (some false) (cond (decide (rj.2.1 > rp.2.1)) (some false) (cond (decide (EL.2.1 < 1)) (some false) (cond (decide (EL.2.1 > rp.2.1)) (some false) (Option.bind (pI ak aA) (fun mA => Option.bind (pI X aA) (fun jr => Option.bind (pI Y aA) (fun k6 => cond (mA.2 != 0) (some false) (cond (jr.2 != 0) (some false) (cond (k6.2 != 0) (some false) (cond ((List.length mA.1 : Int) != (List.length aA : Int)) (some false) (cond ((List.length jr.1 : Int) != (List.length aA : Int)) (some false) (cond ((List.length k6.1 : Int) != (List.length aA : Int)) (some false) (cond (aM aA) (lbind (pM mA jr k6 aA 0) (fun j0 => some j0) (fun Qn => some true) (fun _ _ => none)) none)))))))))))))))))))
def xj (ak : GBk) (aA : List Int) (aE : Int) (bA : Int) (bn : Int) : Option (Bool) := Option.bind (ru ak) (fun r1 => cond (r1) (Option.bind (wR aA) (fun r2 => cond (r2) (Option.bind (t9 ak aA) (fun r3 => cond (r3) (Option.bind (tA ak aE) (fun r4 => cond (r4) (cond (decide (bA < 0)) (some true) (cond (decide (bA > 6)) (some true) (cond (decide (bn < 0)) (some true) (Option.bind (getI ak.Strokes aE) (fun x5 => cond (decide (bn > (List.length x5.Needs : Int))) (some true) (cond (neB ak.Strokes) (cond (roomOk 56 (List.length ([] ++ ak.Strokes))) (Option.bind (xk (if 1 < (i64.wrap (x5.Hours.Low - bA)) then (i64.wrap (x5.Hours.Low - bA)) else 1) (if 1 < (i64.wrap (x5.Hours.High - bA)) then (i64.wrap (x5.Hours.High - bA)) else 1)) (fun r6 => Option.bind (getI ([] ++ ak.Strokes) aE) (fun x7 => Option.bind (getI (List.set ([] ++ ak.Strokes) (Int.toNat aE) (GBs.mk x7.Board x7.Round r6 x7.Needs)) aE) (fun x8 => cond (aM x5.Needs) (lbind (mG bn x5.Needs 0 ([] : List Int)) (fun jn => some jn) (fun c9 => ue ak (GBk.mk ak.Apprentices ak.Boards (List.set (List.set ([] ++ ak.Strokes) (Int.toNat aE) (GBs.mk x7.Board x7.Round r6 x7.Needs)) (Int.toNat aE) (GBs.mk x8.Board false x8.Hours x8.Needs))) (GBk.mk ak.Apprentices ak.Boards (List.set ([] ++ ak.Strokes) (Int.toNat aE) (GBs.mk x7.Board x7.Round x7.Hours c9))) aA) (fun _ _ => none)) none)))) none) none)))))) (some true))) (some true))) (some true))) (some true))
theorem EM {P : Program} {G : Glob} {m n b : Nat} {body a c : Code} {K : St → Prop} {Q : VExit → St → Prop} {st : St} (I : St → Prop) (h1 : CWp P G m body (VExit.then K (VExit.inBlock b (VExit.then (CWp P G n a (VExit.then I Q)) Q))) st) (h2 : ∀ s, I s → CWp P G n c Q s) : CWp P G m body (VExit.then K (VExit.inBlock b (VExit.then (CWp P G n (.seq a c) Q) Q))) st :=
 CWp.mono body st (xL (fun _ h => h) (fun e s h => by
  cases e with
  | normal => exact rN I h h2
  | exit i =>
   rw [KO] at h ⊢
   split
   · next hi => rw [if_pos hi] at h; exact rN I h h2
   · next hi => rw [if_neg hi] at h; exact h
  | _ => exact h)) h1
theorem Qo (ak : GBk) (aA : List Int) (aE : Int) (bA : Int) (bn : Int) (R : Bool) (h : xj ak aA aE bA bn = some R) : aj Tryz.prog G0 16 [.agg (cGBk ak), .sl (ae eI aA) (List.length aA) false, .lit (.int .i64 aE), .lit (.int .i64 bA), .lit (.int .i64 bn)] (.tree (.lit (.bool R))) := by
 refine aj.runRQ mixed Tryz.call16 Tryz.func16 rfl (by simp [Tryz.ntmps16]; kernel_rfl) ?_
 obtain ⟨KF, h, kF, kN⟩ := cJ h
 simp only [xj] at h
 obtain ⟨xl, iW, h⟩ := optI h kN
 try simp only [hs] at h
 simp only [vz, tyf, nm, seval]
 refine ktA (Ph _ _ iW) ?_
 refine bL (fun tm => tm 1 = .sl (ae eI aA) (List.length aA) false ∧ tm 2 = .lit (.int .i64 aE) ∧ tm 3 = .lit (.int .i64 bA) ∧ tm 4 = .lit (.int .i64 bn) ∧ tm 5 = .ptr 0 0 ∧ tm 33 = .lit (.bool xl) ∧ True) (by refine ⟨?_, ?_, ?_, ?_, ?_, ?_, trivial⟩ <;> first | (simp only [ua, nm, seval] <;> rfl) | rfl) ?_
 rintro tm ⟨bR, cg, cC, bm, cQ, cK, _⟩
 cases cF : (xl)
 ·simp only [cF, hs] at h
  simp only [vz, tyf, bR, cg, cC, bm, cQ, cK, cF, nm, seval]
  refine ktree0 mH ?_
  try simp only [vz, tyf, bR, cg, cC, bm, cQ, cK, cF, nm, seval]
  obtain rfl := kF _ h
  exact bd Tryz.results16 rfl
 simp only [cF, hs] at h
 obtain ⟨KZ, Qq, h⟩ := optI h kN
 try simp only [hs] at h
 simp only [vz, tyf, bR, cg, cC, bm, cQ, cK, cF, nm, seval]
 refine ktA (Pj _ _ Qq) ?_
 refine bL (fun tm => tm 1 = .sl (ae eI aA) (List.length aA) false ∧ tm 2 = .lit (.int .i64 aE) ∧ tm 3 = .lit (.int .i64 bA) ∧ tm 4 = .lit (.int .i64 bn) ∧ tm 5 = .ptr 0 0 ∧ tm 35 = .lit (.bool false) ∧ tm 37 = .lit (.bool KZ) ∧ True) (by refine ⟨bR, cg, cC, bm, cQ, ?_, ?_, trivial⟩ <;> first | (simp only [ua, bR, cg, cC, bm, cQ, cK, cF, nm, seval] <;> rfl) | rfl) ?_
 rintro tm ⟨fq, iz, kA, kC, kG, iA, iB, _⟩
 cases g9 : (KZ)
 ·simp only [g9, hs] at h
  simp only [vz, tyf, cF, fq, iz, kA, kC, kG, iA, iB, g9, nm, seval]
  refine ktree0 mH ?_
  try simp only [vz, tyf, cF, fq, iz, kA, kC, kG, iA, iB, g9, nm, seval]
  obtain rfl := kF _ h
  exact bd Tryz.results16 rfl
 simp only [g9, hs] at h
 obtain ⟨Lb, Qr, h⟩ := optI h kN
 try simp only [hs] at h
 simp only [vz, tyf, cF, fq, iz, kA, kC, kG, iA, iB, g9, nm, seval]
 refine ktA (Pk _ _ _ Qr) ?_
 refine bL (fun tm => tm 1 = .sl (ae eI aA) (List.length aA) false ∧ tm 2 = .lit (.int .i64 aE) ∧ tm 3 = .lit (.int .i64 bA) ∧ tm 4 = .lit (.int .i64 bn) ∧ tm 5 = .ptr 0 0 ∧ tm 40 = .lit (.bool false) ∧ tm 43 = .lit (.bool Lb) ∧ True) (by refine ⟨fq, iz, kA, kC, kG, ?_, ?_, trivial⟩ <;> first | (simp only [ua, cF, fq, iz, kA, kC, kG, iA, iB, g9, nm, seval] <;> rfl) | rfl) ?_
 rintro tm ⟨dB, fF, iw, lI, ix, eK, eM, _⟩
 cases jc : (Lb)
 ·simp only [jc, hs] at h
  simp only [vz, tyf, cF, g9, dB, fF, iw, lI, ix, eK, eM, jc, nm, seval]
  refine ktree0 mH ?_
  try simp only [vz, tyf, cF, g9, dB, fF, iw, lI, ix, eK, eM, jc, nm, seval]
  obtain rfl := kF _ h
  exact bd Tryz.results16 rfl
 simp only [jc, hs] at h
 obtain ⟨Lc, Qs, h⟩ := optI h kN
 try simp only [hs] at h
 simp only [vz, tyf, cF, g9, dB, fF, iw, lI, ix, eK, eM, jc, nm, seval]
 refine ktA (Pn _ _ _ Qs) ?_
 refine bL (fun tm => tm 1 = .sl (ae eI aA) (List.length aA) false ∧ tm 2 = .lit (.int .i64 aE) ∧ tm 3 = .lit (.int .i64 bA) ∧ tm 4 = .lit (.int .i64 bn) ∧ tm 5 = .ptr 0 0 ∧ tm 46 = .lit (.bool false) ∧ tm 49 = .lit (.bool Lc) ∧ True) (by refine ⟨dB, fF, iw, lI, ix, ?_, ?_, trivial⟩ <;> first | (simp only [ua, cF, g9, dB, fF, iw, lI, ix, eK, eM, jc, nm, seval] <;> rfl) | rfl) ?_
 rintro tm ⟨dX, eN, gz, g0, gy, hZ, ia, _⟩
 cases lS : (Lc)
 ·simp only [lS, hs] at h
  simp only [vz, tyf, cF, g9, jc, dX, eN, gz, g0, gy, hZ, ia, lS, nm, seval]
  refine ktree0 mH ?_
  try simp only [vz, tyf, cF, g9, jc, dX, eN, gz, g0, gy, hZ, ia, lS, nm, seval]
  obtain rfl := kF _ h
  exact bd Tryz.results16 rfl
 simp only [lS, hs] at h
 cases iE : (decide (bA < 0))
 ·simp only [iE, hs] at h
  cases rD : (decide (bA > 6))
  ·simp only [rD, hs] at h
   cases xm : (decide (bn < 0))
   ·simp only [xm, hs] at h
    have fw := And.intro cF (And.intro g9 (And.intro jc (And.intro lS (And.intro iE (And.intro rD xm)))))
    obtain ⟨mI, eZ, h⟩ := optI h kN
    try simp only [hs] at h
    cases eP : (decide (bn > (List.length mI.Needs : Int)))
    ·simp only [eP, hs] at h
     simp only [vz, tyf, fw, dX, eN, gz, g0, gy, hZ, ia, (aL eZ), eP, nm, seval]
     refine md (fun tm => tm 1 = .sl (ae eI aA) (List.length aA) false ∧ tm 2 = .lit (.int .i64 aE) ∧ tm 3 = .lit (.int .i64 bA) ∧ tm 4 = .lit (.int .i64 bn) ∧ tm 5 = .ptr 0 0 ∧ True) (by refine ⟨dX, eN, gz, g0, gy, trivial⟩ <;> first | (simp only [ua, fw, dX, eN, gz, g0, gy, hZ, ia, eP, nm, seval] <;> rfl) | rfl) ?_
     rintro tm ⟨uf, ug, uh, ui, uj, _⟩
     simp only [vz, tyf, fw, (aL eZ), eP, uf, ug, uh, ui, uj, nm, seval]
     refine jQ ⟨?_, ?_⟩
     ·simp only [jR, jS, dQ, jT, and_true, true_and]
      repeat' (first | exact trivial | refine And.intro ?_ ?_ | rw [dQ] | rw [jU] | exact Or.inl (by decide +kernel) | exact Or.inl (by dsimp only; decide +kernel) | (refine Or.inr ⟨?_, ?_⟩ <;> simp; done) | (refine Or.inr ⟨?_, ?_⟩ <;> simp <;> omega) | (refine Or.inr ⟨?_, ?_⟩ <;> simp [VEff.wr] <;> omega))
     cases ib : (neB ak.Strokes)
     ·simp only [ib, hs] at h
      exact absurd h kN
     simp only [ib, hs] at h
     cases ic : (roomOk 56 (List.length ([] ++ ak.Strokes)))
     ·simp only [ic, hs] at h
      exact absurd h kN
     simp only [ic, hs] at h
     simp only [vz, tyf, fw, (aL eZ), eP, uf, ug, uh, ui, uj, ib, ic, nm, seval]
     refine uk (w := 5) (enc := cGBs) (ys := ak.Strokes) (fun _ => rfl) um uo Tryz.underlying23 ib ic ?_
     simp only [vz, tyf, fw, (aL eZ), eP, uf, ug, uh, ui, uj, ib, ic, nm, seval]
     refine md (fun tm => tm 1 = .sl (ae eI aA) (List.length aA) false ∧ tm 2 = .lit (.int .i64 aE) ∧ tm 3 = .lit (.int .i64 bA) ∧ tm 4 = .lit (.int .i64 bn) ∧ tm 5 = .ptr 0 0 ∧ tm 11 = .ptr 47 0 ∧ tm 12 = .ptr 48 0 ∧ tm 13 = .ptr 61 0 ∧ True) (by refine ⟨uf, ug, uh, ui, uj, ?_, ?_, ?_, trivial⟩ <;> first | (simp only [ua, fw, eP, uf, ug, uh, ui, uj, nm, seval] <;> rfl) | rfl) ?_
     rintro tm ⟨EN, EO, Ld, EP, ES, ET, EU, EV, _⟩
     obtain ⟨j3, Qt, h⟩ := optI h kN
     try simp only [hs] at h
     simp only [vz, tyf, fw, (aL eZ), eP, ib, ic, EN, EO, Ld, EP, ES, ET, EU, EV, nm, seval]
     refine dktA (Qu _ _ _ Qt) ?_
     refine bL (fun tm => tm 1 = .sl (ae eI aA) (List.length aA) false ∧ tm 2 = .lit (.int .i64 aE) ∧ tm 4 = .lit (.int .i64 bn) ∧ tm 5 = .ptr 0 0 ∧ tm 11 = .ptr 47 0 ∧ tm 12 = .ptr 48 0 ∧ tm 13 = .ptr 61 0 ∧ tm 88 = .ref 53 0 (List.length ([] ++ ak.Strokes)) 5 (List.length ([] ++ ak.Strokes)) ∧ tm 89 = .lit (.int .i64 aE) ∧ tm 102 = .agg (cGSpan j3) ∧ True) (by refine ⟨EN, EO, EP, ES, ET, EU, EV, ?_, ?_, ?_, trivial⟩ <;> first | (simp only [ua, fw, eP, EN, EO, Ld, EP, ES, ET, EU, EV, nm, seval] <;> rfl) | rfl) ?_
     rintro tm ⟨uq, ur, uu, uv, ux, uy, uz, xn, xo, xp, _⟩
     obtain ⟨b9, fx, h⟩ := optI h kN
     try simp only [hs] at h
     have lT := setAF (w := 5) (enc := cGBs) 2 2 (fun _ => rfl) (by decide) fx
     have kS := setBF (w := 5) (enc := cGBs) 2 (cGSpan j3) (GBs.mk b9.Board b9.Round j3 b9.Needs) (fun _ => rfl) (Nat.le_of_ble_eq_true rfl) fx rfl
     simp only [vz, tyf, nm, seval] at kS
     have lU := setC (w := 5) (enc := cGBs) ([] ++ ak.Strokes) (Int.toNat aE) (GBs.mk b9.Board b9.Round j3 b9.Needs) (fun _ => rfl)
     simp only [vz, tyf, fw, (aL eZ), eP, ib, ic, uq, ur, uu, uv, ux, uy, uz, xn, xo, xp, (ba fx), lT, kS, lU, nm, seval]
     refine jQ ⟨?_, ?_⟩
     ·simp only [jR, jS, dQ, jT, and_true, true_and]
      repeat' (first | exact trivial | refine And.intro ?_ ?_ | rw [dQ] | rw [jU] | exact Or.inl (by decide +kernel) | exact Or.inl (by dsimp only; decide +kernel) | (refine Or.inr ⟨?_, ?_⟩ <;> simp; done) | (refine Or.inr ⟨?_, ?_⟩ <;> simp <;> omega) | (refine Or.inr ⟨?_, ?_⟩ <;> simp [VEff.wr] <;> omega))
     obtain ⟨bt, cM, h⟩ := optI h kN
     try simp only [hs] at h
     have fM := setAF (w := 5) (enc := cGBs) 1 1 (fun _ => rfl) (by decide) cM
     have fa := setBF (w := 5) (enc := cGBs) 1 [.lit (.bool false)] (GBs.mk bt.Board false bt.Hours bt.Needs) (fun _ => rfl) (Nat.le_of_ble_eq_true rfl) cM rfl
     simp only [vz, tyf, nm, seval] at fa
     have fN := setC (w := 5) (enc := cGBs) (List.set ([] ++ ak.Strokes) (Int.toNat aE) (GBs.mk b9.Board b9.Round j3 b9.Needs)) (Int.toNat aE) (GBs.mk bt.Board false bt.Hours bt.Needs) (fun _ => rfl)
     simp only [vz, tyf, fw, (aL eZ), eP, ib, ic, uq, ur, uu, uv, ux, uy, uz, xn, xo, xp, (ba fx), lT, kS, lU, (ba cM), fM, fa, fN, nm, seval]
     refine uk (w := 5) (enc := cGBs) (ys := ak.Strokes) (fun _ => rfl) um uo Tryz.underlying23 ib ic ?_
     cases eh : (aM mI.Needs)
     ·simp only [eh, hs] at h
      exact absurd h kN
     simp only [eh, hs] at h
     simp only [vz, tyf, fw, (aL eZ), eP, ib, ic, uq, ur, uu, uv, ux, uy, uz, xn, xo, xp, (ba fx), lT, kS, lU, (ba cM), fM, fa, fN, eh, nm, seval]
     obtain ⟨EW, h, Le, u3, Lf, nK⟩ := hC h kN
     obtain ⟨EX, u4, h⟩ := call3 h
     obtain ⟨EY, fy⟩ : ∃ I : Nat → St → Prop, I = (fun m st => ∃ (cY : List Int) (bh : Int) (aT : List Int) (fO : VV), m = List.length cY ∧ 0 ≤ bh ∧ List.drop (Int.toNat bh) mI.Needs = cY ∧ st.df = [] ∧ 95 ≤ st.nx ∧ st.H 0 = some (.cells (some 25) (cGBk ak)) ∧ st.H 47 = some (.cells (some 25) ([.lit (.int .i64 ak.Apprentices)] ++ [.sl (ae eI ak.Boards) (List.length ak.Boards) false] ++ [.ref 53 0 (List.length (List.set (List.set ([] ++ ak.Strokes) (Int.toNat aE) (GBs.mk b9.Board b9.Round j3 b9.Needs)) (Int.toNat aE) (GBs.mk bt.Board false bt.Hours bt.Needs))) 5 (List.length (List.set (List.set ([] ++ ak.Strokes) (Int.toNat aE) (GBs.mk b9.Board b9.Round j3 b9.Needs)) (Int.toNat aE) (GBs.mk bt.Board false bt.Hours bt.Needs)))])) ∧ st.H 48 = some (.cells (some 25) ([.lit (.int .i64 ak.Apprentices)] ++ [.sl (ae eI ak.Boards) (List.length ak.Boards) false] ++ [.ref 90 0 (List.length ([] ++ ak.Strokes)) 5 (List.length ([] ++ ak.Strokes))])) ∧ st.H 53 = some (.cells ((some 49)) (ae cGBs (List.set (List.set ([] ++ ak.Strokes) (Int.toNat aE) (GBs.mk b9.Board b9.Round j3 b9.Needs)) (Int.toNat aE) (GBs.mk bt.Board false bt.Hours bt.Needs)))) ∧ st.H 61 = some (.cells (some 49) (cGBs mI)) ∧ st.H 90 = some (.cells ((some 49)) (ae cGBs ([] ++ ak.Strokes))) ∧ st.tm 1 = .sl (ae eI aA) (List.length aA) false ∧ st.tm 2 = .lit (.int .i64 aE) ∧ st.tm 4 = .lit (.int .i64 bn) ∧ st.tm 5 = .ptr 0 0 ∧ st.tm 11 = .ptr 47 0 ∧ st.tm 12 = .ptr 48 0 ∧ st.tm 13 = .ptr 61 0 ∧ st.tm 14 = fO ∧ st.tm 15 = .lit (.int .i64 bh) ∧ ((∃ (β : Nat) (el : Option TypeId), fO = .ref β 0 (List.length aT) 1 (List.length aT) ∧ β < st.nx ∧ β ≠ 0 ∧ β ≠ 47 ∧ β ≠ 48 ∧ β ≠ 53 ∧ β ≠ 61 ∧ β ≠ 90 ∧ st.H β = some (.cells el (ae eI aT))) ∨ (fO = .lit (.slice none 0 0) ∧ aT = [])) ∧ EW (EX cY bh aT)) := ⟨_, rfl⟩
     refine loopK mixed (jJ (by kernel_rfl)) EY (List.length mI.Needs) (by rw [fy]; refine ⟨mI.Needs, 0, ([] : List Int), .lit (.slice none 0 0), rfl, Int.le_refl _, rfl, rfl, (show 95 ≤ 95 by omega), ?_, ?_, ?_, ?_, ?_, ?_, uq, ur, uu, uv, ux, uy, uz, ?_, ?_, Or.inr ⟨rfl, rfl⟩, h⟩ <;> first | (simp only [ua, fw, eP, uq, ur, uu, uv, ux, uy, uz, xn, xo, xp, lT, kS, lU, fM, fa, fN, nm, seval] <;> rfl) | rfl) ?_
     rintro m ⟨tm, H, cG, df⟩ hinv
     rw [fy] at hinv
     obtain ⟨cY, bh, aT, fO, rfl, bQ, cy, hdf, u5, cz, fP, fQ, fR, iG, iH, bu, bD, bE, bw, bx, bz, bF, bZ, ca, fS, h⟩ := hinv
     simp only at hdf u5 cz fP fQ fR iG iH bu bD bE bw bx bz bF bZ ca fS
     have j4 := je (m := 95) (b := cG) (by omega)
     subst hdf u4
     obtain ⟨X, hX⟩ : ∃ X : GBk, X = GBk.mk ak.Apprentices ak.Boards (List.set (List.set ([] ++ ak.Strokes) (Int.toNat aE) (GBs.mk b9.Board b9.Round j3 b9.Needs)) (Int.toNat aE) (GBs.mk bt.Board false bt.Hours bt.Needs)) := ⟨_, rfl⟩
     obtain ⟨Y, hY⟩ : ∃ Y : GBk, Y = GBk.mk ak.Apprentices ak.Boards (List.set ([] ++ ak.Strokes) (Int.toNat aE) (GBs.mk b9.Board b9.Round b9.Hours aT)) := ⟨_, rfl⟩
     cases cY with
     | nil =>
      have u6 : (decide (bh < (List.length mI.Needs : Int))) = false := gC bQ cy
      simp only [mG, hs, reduceCtorEq] at h
      replace h := u3 _ h
      try dsimp only at h
      try simp only [hs] at h
      rw [← hX, ← hY] at h
      obtain ⟨J1, EZ⟩ : ∃ I : St → Prop, I = (fun st => st.df = [] ∧ 95 ≤ st.nx ∧ st.H 0 = some (.cells (some 25) (cGBk ak)) ∧ (∃ H2, Ghs st.H H2 ∧ H2 0 = some (.cells (some 25) (cGBk ak)) ∧ H2 47 = some (.cells (some 25) (cGBk X)) ∧ H2 48 = some (.cells (some 25) (cGBk Y))) ∧ st.tm 1 = .sl (ae eI aA) (List.length aA) false ∧ st.tm 5 = .ptr 0 0 ∧ st.tm 11 = .ptr 47 0 ∧ st.tm 12 = .ptr 48 0 ∧ KF (ue ak X Y aA)) := ⟨_, rfl⟩
      refine EM J1 ?_ ?_
      ·rcases fS with ⟨cm, cZ, rfl, kT, kU, kV, kW, kX, kY, kZ, lf⟩ | ⟨rfl, rfl⟩
       ·have ei := gZ kT
        have ej := ne_f kU
        have ep := ne_f kV
        have eu := ne_f kW
        have ez := ne_f kX
        have eC := ne_f kY
        have eD := ne_f kZ
        have pO := setAF (w := 5) (enc := cGBs) 4 1 (fun _ => rfl) (by decide) fx
        have lg := setBF (w := 5) (enc := cGBs) 4 [.sl (ae eI aT) (List.length aT) false] (GBs.mk b9.Board b9.Round b9.Hours aT) (fun _ => rfl) (Nat.le_of_ble_eq_true rfl) fx rfl
        simp only [vz, tyf, nm, seval] at lg
        simp only [vz, tyf, fw, (aL eZ), eP, ib, ic, (ba fx), lT, kS, lU, (ba cM), fM, fa, fN, eh, j4, bu, bD, bE, bw, bx, bz, bF, bZ, ca, cz, fP, fQ, fR, iG, iH, ei, lf, ej, ep, eu, ez, eC, eD, u6, pO, nm, seval]
        rw [EZ]
        have hlx : (ae cGBs (List.set (List.set ([] ++ ak.Strokes) (Int.toNat aE) (GBs.mk b9.Board b9.Round j3 b9.Needs)) (Int.toNat aE) (GBs.mk bt.Board false bt.Hours bt.Needs))).length = (List.set (List.set ([] ++ ak.Strokes) (Int.toNat aE) (GBs.mk b9.Board b9.Round j3 b9.Needs)) (Int.toNat aE) (GBs.mk bt.Board false bt.Hours bt.Needs)).length * 5 := dH (w := 5) (enc := cGBs) (fun _ => rfl) _
        have hly : (ae cGBs (List.set ([] ++ ak.Strokes) (Int.toNat aE) (GBs.mk b9.Board b9.Round b9.Hours aT))).length = ([] ++ ak.Strokes).length * 5 := by rw [dH (w := 5) (enc := cGBs) (fun _ => rfl), List.length_set]
        obtain ⟨H3, j5⟩ : ∃ H3, H3 = updH (without (updH H 90 (.cells (some 49) (List.take (aE.toNat * 5 + 4) (ae cGBs ([] ++ ak.Strokes)) ++ .ref cm 0 aT.length 1 aT.length :: List.drop (aE.toNat * 5 + 5) (ae cGBs ([] ++ ak.Strokes))))) cm) 90 (.cells (some 49) (ae cGBs (List.set ([] ++ ak.Strokes) (Int.toNat aE) (GBs.mk b9.Board b9.Round b9.Hours aT)))) := ⟨_, rfl⟩
        have gk : ∀ H2, Ghs (updH (without (updH H 90 (.cells (some 49) (List.take (aE.toNat * 5 + 4) (ae cGBs ([] ++ ak.Strokes)) ++ .ref cm 0 aT.length 1 aT.length :: List.drop (aE.toNat * 5 + 5) (ae cGBs ([] ++ ak.Strokes))))) cm) 90 (.cells (some 49) (List.take (aE.toNat * 5 + 4) (ae cGBs ([] ++ ak.Strokes)) ++ .sl (ae eI aT) aT.length false :: List.drop (aE.toNat * 5 + 5) (ae cGBs ([] ++ ak.Strokes))))) H2 → Ghs (updH H 90 (.cells (some 49) (List.take (aE.toNat * 5 + 4) (ae cGBs ([] ++ ak.Strokes)) ++ .ref cm 0 aT.length 1 aT.length :: List.drop (aE.toNat * 5 + 5) (ae cGBs ([] ++ ak.Strokes))))) H2 := fun H2 g => Ghs.mid (γ := cm) (ε := 90) (e1 := cZ) (cp := aT.length) (by simp only [aU, ei, ej, ep, eu, ez, eC, eD, lf, nm, seval]) (by rw [aU, if_pos rfl]) (by omega) (eI_ok.treeL _) (dH (w := 1) (enc := eI) (fun _ => rfl) _) g
        simp only [lg, ← j5] at gk
        obtain ⟨H2, g2, g3, g4, g5⟩ := Ghs.two (H := H3) (a := 48) (b := 47) (x := 53) (y := 90) (e1 := some 25) (e2 := some 25) (e3 := some 49) (e4 := some 49) (o0 := some (.cells (some 25) (cGBk ak))) (by rw [j5]; simp only [aU, bg, ei, ej, ep, eu, ez, eC, eD, cz, nm, seval]) (by rw [j5]; simp only [aU, bg, ei, ej, ep, eu, ez, eC, eD, fP, nm, seval]; rfl) (by rw [j5]; simp only [aU, bg, ei, ej, ep, eu, ez, eC, eD, fQ, nm, seval]; rfl) (by rw [j5]; simp only [aU, bg, ei, ej, ep, eu, ez, eC, eD, fR, nm, seval]) (by rw [j5]; simp only [aU, bg, nm, seval]) (by decide) (j6.treeL _) (j6.treeL _) hlx hly
        refine ⟨rfl, (by dsimp only; omega), ?_, ⟨H2, gk H2 g2, g3, by rw [g4, hX]; rfl, by rw [g5, hY]; simp only [cGBk, List.length_set]; rfl⟩, ?_, ?_, ?_, ?_, h⟩ <;> first | (simp only [ua, aU, bu, bD, bE, bw, bx, bz, bF, bZ, ca, ei, ej, ep, eu, ez, eC, eD, cz, nm, seval] <;> rfl) | (simp only [ua, aU, bu, bD, bE, bw, bx, bz, bF, bZ, ca, ei, ej, ep, eu, ez, eC, eD, cz, nm, seval]; done) | rfl
       ·have pO := setAF (w := 5) (enc := cGBs) 4 1 (fun _ => rfl) (by decide) fx
        have lg := setBF (w := 5) (enc := cGBs) 4 [.sl (ae eI ([] : List Int)) (List.length ([] : List Int)) false] (GBs.mk b9.Board b9.Round b9.Hours ([] : List Int)) (fun _ => rfl) (Nat.le_of_ble_eq_true rfl) fx rfl
        simp only [vz, tyf, nm, seval] at lg
        simp only [vz, tyf, fw, (aL eZ), eP, ib, ic, (ba fx), lT, kS, lU, (ba cM), fM, fa, fN, eh, j4, bu, bD, bE, bw, bx, bz, bF, bZ, ca, cz, fP, fQ, fR, iG, iH, u6, pO, nm, seval]
        rw [EZ]
        have hlx : (ae cGBs (List.set (List.set ([] ++ ak.Strokes) (Int.toNat aE) (GBs.mk b9.Board b9.Round j3 b9.Needs)) (Int.toNat aE) (GBs.mk bt.Board false bt.Hours bt.Needs))).length = (List.set (List.set ([] ++ ak.Strokes) (Int.toNat aE) (GBs.mk b9.Board b9.Round j3 b9.Needs)) (Int.toNat aE) (GBs.mk bt.Board false bt.Hours bt.Needs)).length * 5 := dH (w := 5) (enc := cGBs) (fun _ => rfl) _
        have hly : (ae cGBs (List.set ([] ++ ak.Strokes) (Int.toNat aE) (GBs.mk b9.Board b9.Round b9.Hours ([] : List Int)))).length = ([] ++ ak.Strokes).length * 5 := by rw [dH (w := 5) (enc := cGBs) (fun _ => rfl), List.length_set]
        obtain ⟨H3, j5⟩ : ∃ H3, H3 = updH (updH H 90 (.cells (some 49) (List.take (aE.toNat * 5 + 4) (ae cGBs ([] ++ ak.Strokes)) ++ .lit (.slice none 0 0) :: List.drop (aE.toNat * 5 + 5) (ae cGBs ([] ++ ak.Strokes))))) 90 (.cells (some 49) (ae cGBs (List.set ([] ++ ak.Strokes) (Int.toNat aE) (GBs.mk b9.Board b9.Round b9.Hours ([] : List Int))))) := ⟨_, rfl⟩
        have gk : ∀ H2, Ghs (updH (updH H 90 (.cells (some 49) (List.take (aE.toNat * 5 + 4) (ae cGBs ([] ++ ak.Strokes)) ++ .lit (.slice none 0 0) :: List.drop (aE.toNat * 5 + 5) (ae cGBs ([] ++ ak.Strokes))))) 90 (.cells (some 49) (List.take (aE.toNat * 5 + 4) (ae cGBs ([] ++ ak.Strokes)) ++ .sl (ae eI ([] : List Int)) (List.length ([] : List Int)) false :: List.drop (aE.toNat * 5 + 5) (ae cGBs ([] ++ ak.Strokes))))) H2 → Ghs (updH H 90 (.cells (some 49) (List.take (aE.toNat * 5 + 4) (ae cGBs ([] ++ ak.Strokes)) ++ .lit (.slice none 0 0) :: List.drop (aE.toNat * 5 + 5) (ae cGBs ([] ++ ak.Strokes))))) H2 := fun H2 g => Ghs.empty (β := 90) (by rw [aU, if_pos rfl]) g
        simp only [lg, ← j5] at gk
        obtain ⟨H2, g2, g3, g4, g5⟩ := Ghs.two (H := H3) (a := 48) (b := 47) (x := 53) (y := 90) (e1 := some 25) (e2 := some 25) (e3 := some 49) (e4 := some 49) (o0 := some (.cells (some 25) (cGBk ak))) (by rw [j5]; simp only [aU, bg, cz, nm, seval]) (by rw [j5]; simp only [aU, bg, fP, nm, seval]; rfl) (by rw [j5]; simp only [aU, bg, fQ, nm, seval]; rfl) (by rw [j5]; simp only [aU, bg, fR, nm, seval]) (by rw [j5]; simp only [aU, bg, nm, seval]) (by decide) (j6.treeL _) (j6.treeL _) hlx hly
        refine ⟨rfl, (by dsimp only; omega), ?_, ⟨H2, gk H2 g2, g3, by rw [g4, hX]; rfl, by rw [g5, hY]; simp only [cGBk, List.length_set]; rfl⟩, ?_, ?_, ?_, ?_, h⟩ <;> first | (simp only [ua, aU, bu, bD, bE, bw, bx, bz, bF, bZ, ca, cz, nm, seval] <;> rfl) | (simp only [ua, aU, bu, bD, bE, bw, bx, bz, bF, bZ, ca, cz, nm, seval]; done) | rfl
      ·rintro ⟨tm, H, cG, df⟩ hst
       rw [EZ] at hst
       obtain ⟨hdf, u7, cz, ⟨H2, gh, H2a, H2b, H2c⟩, bu, bw, bx, bz, h⟩ := hst
       simp only at hdf u7 cz gh bu bw bx bz
       subst hdf
       simp only [ue] at h
       obtain ⟨eE, Fa, h⟩ := optI h kN
       try simp only [hs] at h
       simp only [vz, tyf, cz, bu, bw, bx, bz, nm, seval]
       refine kghs gh (args0 := [.agg (cGBk ak)]) (by first | (simp only [nrm, tynrm] <;> rfl) | rfl) (by simp only [tre, tytre, Bool.and_self]) (EI _ _ Fa) ?_
       refine bL (fun tm => tm 1 = .sl (ae eI aA) (List.length aA) false ∧ tm 5 = .ptr 0 0 ∧ tm 11 = .ptr 47 0 ∧ tm 12 = .ptr 48 0 ∧ tm 140 = .tup [.sl (ae eI eE.1) (List.length eE.1) false, .lit (.int .i64 eE.2.1), .lit (.int .i64 eE.2.2)] ∧ True) (by refine ⟨bu, bw, bx, bz, ?_, trivial⟩ <;> first | (simp only [ua, cz, bu, bw, bx, bz, nm, seval] <;> rfl) | rfl) ?_
       rintro tm ⟨pP, pQ, pR, pS, u9, _⟩
       have eF := And.intro H2a (And.intro H2b H2c)
       obtain ⟨fU, Fb, h⟩ := optI h kN
       try simp only [hs] at h
       simp only [vz, tyf, eF, pP, pQ, pR, pS, u9, nm, seval]
       refine ktA (EI _ _ Fb) ?_
       refine bL (fun tm => tm 1 = .sl (ae eI aA) (List.length aA) false ∧ tm 5 = .ptr 0 0 ∧ tm 11 = .ptr 47 0 ∧ tm 12 = .ptr 48 0 ∧ tm 17 = .lit (.int .i64 eE.2.1) ∧ tm 18 = .lit (.int .i64 eE.2.2) ∧ tm 146 = .tup [.sl (ae eI fU.1) (List.length fU.1) false, .lit (.int .i64 fU.2.1), .lit (.int .i64 fU.2.2)] ∧ True) (by refine ⟨pP, pQ, pR, pS, ?_, ?_, ?_, trivial⟩ <;> first | (simp only [ua, eF, pP, pQ, pR, pS, u9, nm, seval] <;> rfl) | rfl) ?_
       rintro tm ⟨pT, pU, pV, pW, pX, pY, uA, _⟩
       obtain ⟨iI, Fc, h⟩ := optI h kN
       try simp only [hs] at h
       simp only [vz, tyf, eF, pT, pU, pV, pW, pX, pY, uA, nm, seval]
       refine ktA (EI _ _ Fc) ?_
       refine bL (fun tm => tm 1 = .sl (ae eI aA) (List.length aA) false ∧ tm 5 = .ptr 0 0 ∧ tm 11 = .ptr 47 0 ∧ tm 12 = .ptr 48 0 ∧ tm 17 = .lit (.int .i64 eE.2.1) ∧ tm 18 = .lit (.int .i64 eE.2.2) ∧ tm 20 = .lit (.int .i64 fU.2.1) ∧ tm 21 = .lit (.int .i64 fU.2.2) ∧ tm 152 = .tup [.sl (ae eI iI.1) (List.length iI.1) false, .lit (.int .i64 iI.2.1), .lit (.int .i64 iI.2.2)] ∧ True) (by refine ⟨pT, pU, pV, pW, pX, pY, ?_, ?_, ?_, trivial⟩ <;> first | (simp only [ua, eF, pT, pU, pV, pW, pX, pY, uA, nm, seval] <;> rfl) | rfl) ?_
       rintro tm ⟨fb, fV, fc, fe, fW, fX, fY, fZ, ga, _⟩
       cases gb : (eE.2.2 != 0)
       ·simp only [gb, hs] at h
        cases gO : (fU.2.2 != 0)
        ·simp only [gO, hs] at h
         cases iJ : (iI.2.2 != 0)
         ·simp only [iJ, hs] at h
          cases j7 : (decide (fU.2.1 < 1))
          ·simp only [j7, hs] at h
           cases lh : (decide (fU.2.1 > eE.2.1))
           ·simp only [lh, hs] at h
            cases mJ : (decide (iI.2.1 < 1))
            ·simp only [mJ, hs] at h
             have dp := And.intro eF (And.intro gb (And.intro gO (And.intro iJ (And.intro j7 (And.intro lh mJ)))))
             cases cN : (decide (iI.2.1 > eE.2.1))
             ·simp only [cN, hs] at h
              obtain ⟨cO, Fe, h⟩ := optI h kN
              try simp only [hs] at h
              simp only [vz, tyf, dp, fb, fV, fc, fe, fW, fX, fY, fZ, ga, cN, nm, seval]
              refine ktA (E7 _ _ _ Fe) ?_
              refine bL (fun tm => tm 1 = .sl (ae eI aA) (List.length aA) false ∧ tm 11 = .ptr 47 0 ∧ tm 12 = .ptr 48 0 ∧ tm 187 = .tup [.sl (ae cGSpan cO.1) (List.length cO.1) false, .lit (.int .i64 cO.2)] ∧ True) (by refine ⟨fb, fc, fe, ?_, trivial⟩ <;> first | (simp only [ua, dp, fb, fV, fc, fe, fW, fX, fY, fZ, ga, cN, nm, seval] <;> rfl) | rfl) ?_
              rintro tm ⟨pZ, uB, qa, uC, _⟩
              obtain ⟨dK, Ff, h⟩ := optI h kN
              try simp only [hs] at h
              simp only [vz, tyf, dp, cN, pZ, uB, qa, uC, nm, seval]
              refine ktA (E7 _ _ _ Ff) ?_
              refine bL (fun tm => tm 1 = .sl (ae eI aA) (List.length aA) false ∧ tm 12 = .ptr 48 0 ∧ tm 25 = .sl (ae cGSpan cO.1) (List.length cO.1) false ∧ tm 26 = .lit (.int .i64 cO.2) ∧ tm 193 = .tup [.sl (ae cGSpan dK.1) (List.length dK.1) false, .lit (.int .i64 dK.2)] ∧ True) (by refine ⟨pZ, qa, ?_, ?_, ?_, trivial⟩ <;> first | (simp only [ua, dp, cN, pZ, uB, qa, uC, nm, seval] <;> rfl) | rfl) ?_
              rintro tm ⟨qb, uD, qc, qe, uE, _⟩
              obtain ⟨gf, Fg, h⟩ := optI h kN
              try simp only [hs] at h
              simp only [vz, tyf, dp, cN, qb, uD, qc, qe, uE, nm, seval]
              refine ktA (E7 _ _ _ Fg) ?_
              refine bL (fun tm => tm 1 = .sl (ae eI aA) (List.length aA) false ∧ tm 25 = .sl (ae cGSpan cO.1) (List.length cO.1) false ∧ tm 26 = .lit (.int .i64 cO.2) ∧ tm 27 = .sl (ae cGSpan dK.1) (List.length dK.1) false ∧ tm 28 = .lit (.int .i64 dK.2) ∧ tm 199 = .tup [.sl (ae cGSpan gf.1) (List.length gf.1) false, .lit (.int .i64 gf.2)] ∧ True) (by refine ⟨qb, qc, qe, ?_, ?_, ?_, trivial⟩ <;> first | (simp only [ua, dp, cN, qb, uD, qc, qe, uE, nm, seval] <;> rfl) | rfl) ?_
              rintro tm ⟨gg, gi, gP, gj, gQ, gR, _⟩
              cases gS : (cO.2 != 0)
              ·simp only [gS, hs] at h
               cases iK : (dK.2 != 0)
               ·simp only [iK, hs] at h
                cases j8 : (gf.2 != 0)
                ·simp only [j8, hs] at h
                 cases lj : ((List.length cO.1 : Int) != (List.length aA : Int))
                 ·simp only [lj, hs] at h
                  cases mK : ((List.length dK.1 : Int) != (List.length aA : Int))
                  ·simp only [mK, hs] at h
                   have gT := And.intro dp (And.intro cN (And.intro gS (And.intro iK (And.intro j8 (And.intro lj mK)))))
                   cases ff : ((List.length gf.1 : Int) != (List.length aA : Int))
                   ·simp only [ff, hs] at h
                    cases gU : (aM aA)
                    ·simp only [gU, hs] at h
                     exact absurd h kN
                    simp only [gU, hs] at h
                    simp only [vz, tyf, gT, gg, gi, gP, gj, gQ, gR, ff, gU, nm, seval]
                    obtain ⟨Fh, h, jd, uF, Lg, lk⟩ := hC h kN
                    obtain ⟨Fi, uG, h⟩ := call2 h
                    obtain ⟨Fj, ll⟩ : ∃ I : Nat → St → Prop, I = (fun m st => ∃ (gV : List Int) (bG : Int), m = List.length gV ∧ 0 ≤ bG ∧ List.drop (Int.toNat bG) aA = gV ∧ st.df = [] ∧ 95 ≤ st.nx ∧ st.tm 1 = .sl (ae eI aA) (List.length aA) false ∧ st.tm 25 = .sl (ae cGSpan cO.1) (List.length cO.1) false ∧ st.tm 27 = .sl (ae cGSpan dK.1) (List.length dK.1) false ∧ st.tm 29 = .sl (ae cGSpan gf.1) (List.length gf.1) false ∧ st.tm 31 = .lit (.int .i64 bG) ∧ Fh (Fi gV bG)) := ⟨_, rfl⟩
                    refine loopK mixed (jJ (by kernel_rfl)) Fj (List.length aA) (by rw [ll]; refine ⟨aA, 0, rfl, Int.le_refl _, rfl, rfl, (by dsimp only; omega), gg, gi, gj, ?_, ?_, h⟩ <;> first | (simp only [ua, gT, gg, gi, gP, gj, gQ, gR, ff, nm, seval] <;> rfl) | rfl) ?_
                    rintro m ⟨tm, H, uH, df⟩ hinv
                    rw [ll] at hinv
                    obtain ⟨gV, bG, rfl, fz, gW, hdf, uI, j9, jA, jB, jC, jD, h⟩ := hinv
                    simp only at hdf uI j9 jA jB jC jD
                    have lp := je (m := 95) (b := uH) (by omega)
                    subst hdf uG
                    cases gV with
                    | nil =>
                     have uJ : (decide (bG < (List.length aA : Int))) = false := gC fz gW
                     simp only [pM, hs, reduceCtorEq] at h
                     replace h := uF _ h
                     try dsimp only at h
                     try simp only [hs] at h
                     simp only [vz, tyf, gT, ff, gU, lp, j9, jA, jB, jC, jD, uJ, nm, seval]
                     refine ktree0 mH ?_
                     try simp only [vz, tyf, gT, ff, gU, lp, j9, jA, jB, jC, jD, uJ, nm, seval]
                     obtain rfl := kF _ h
                     exact bd Tryz.results16 rfl
                    | cons Qv gV =>
                     have qf : (decide (bG < (List.length aA : Int))) = true := gq fz gW
                     have jE := dG fz gW
                     have qg := gu fz gW gU
                     simp only [pM, hs, reduceCtorEq] at h
                     simp only [vz, tyf, gT, ff, gU, lp, j9, jA, jB, jC, jD, qf, (aW jE), qg, nm, seval]
                     refine s8 (fun tm => tm 1 = .sl (ae eI aA) (List.length aA) false ∧ tm 25 = .sl (ae cGSpan cO.1) (List.length cO.1) false ∧ tm 27 = .sl (ae cGSpan dK.1) (List.length dK.1) false ∧ tm 29 = .sl (ae cGSpan gf.1) (List.length gf.1) false ∧ tm 31 = .lit (.int .i64 bG) ∧ True) (by refine ⟨j9, jA, jB, jC, jD, trivial⟩ <;> first | (simp only [ua, gT, ff, lp, j9, jA, jB, jC, jD, qf, qg, nm, seval] <;> rfl) | rfl) ?_
                     rintro tm ⟨iL, iM, iN, iO, jF, _⟩
                     have iP := And.intro gT (And.intro ff (And.intro gU (And.intro lp (And.intro qf qg))))
                     obtain ⟨uK, lq, h⟩ := optI h lk
                     try simp only [hs] at h
                     obtain ⟨mM, lu, h⟩ := optI h lk
                     try simp only [hs] at h
                     cases gm : (decide (uK.Low > mM.Low))
                     ·simp only [gm, hs] at h
                      cases gX : (decide (uK.High > mM.High))
                      ·simp only [gX, hs] at h
                       obtain ⟨uL, qh, h⟩ := optI h lk
                       try simp only [hs] at h
                       cases iQ : (decide (uL.Low > mM.Low))
                       ·simp only [iQ, hs] at h
                        cases jG : (decide (uL.High > mM.High))
                        ·simp only [jG, hs] at h
                         simp only [vz, tyf, iP, (aW jE), iL, iM, iN, iO, jF, (dq lq), (dq lu), gm, gX, (dq qh), iQ, jG, nm, seval]
                         exact ⟨List.length gV, Nat.lt_succ_self _, by rw [ll]; refine ⟨gV, bG + 1, rfl, Int.le_trans fz (Int.le_add_one (Int.le_refl _)), dj fz gW, rfl, (by dsimp only; omega), iL, iM, iN, iO, ?_, (by first | exact h | (simp only [iP, gm, gX, iQ, jG]; exact h))⟩ <;> first | (simp only [ua, iP, iL, iM, iN, iO, jF, gm, gX, iQ, jG, nm, seval] <;> rfl) | rfl⟩
                        simp only [jG, hs] at h
                        try simp only [vz, tyf, iP, (aW jE), iL, iM, iN, iO, jF, (dq lq), (dq lu), gm, gX, (dq qh), iQ, jG, nm, seval]
                        replace h := jd _ h
                        try dsimp only at h
                        obtain rfl := kF _ h
                        exact bd Tryz.results16 rfl
                       simp only [iQ, hs] at h
                       try simp only [vz, tyf, iP, (aW jE), iL, iM, iN, iO, jF, (dq lq), (dq lu), gm, gX, (dq qh), iQ, nm, seval]
                       replace h := jd _ h
                       try dsimp only at h
                       obtain rfl := kF _ h
                       exact bd Tryz.results16 rfl
                      simp only [gX, hs] at h
                      try simp only [vz, tyf, iP, (aW jE), iL, iM, iN, iO, jF, (dq lq), (dq lu), gm, gX, nm, seval]
                      replace h := jd _ h
                      try dsimp only at h
                      obtain rfl := kF _ h
                      exact bd Tryz.results16 rfl
                     simp only [gm, hs] at h
                     try simp only [vz, tyf, iP, (aW jE), iL, iM, iN, iO, jF, (dq lq), (dq lu), gm, nm, seval]
                     replace h := jd _ h
                     try dsimp only at h
                     obtain rfl := kF _ h
                     exact bd Tryz.results16 rfl
                   simp only [ff, hs] at h
                   try simp only [vz, tyf, gT, gg, gi, gP, gj, gQ, gR, ff, nm, seval]
                   obtain rfl := kF _ h
                   exact bd Tryz.results16 rfl
                  simp only [mK, hs] at h
                  have Fk := And.intro dp (And.intro cN (And.intro gS (And.intro iK (And.intro j8 (And.intro lj mK)))))
                  try simp only [vz, tyf, Fk, gg, gi, gP, gj, gQ, gR, nm, seval]
                  obtain rfl := kF _ h
                  exact bd Tryz.results16 rfl
                 simp only [lj, hs] at h
                 try simp only [vz, tyf, dp, cN, gg, gi, gP, gj, gQ, gR, gS, iK, j8, lj, nm, seval]
                 obtain rfl := kF _ h
                 exact bd Tryz.results16 rfl
                simp only [j8, hs] at h
                try simp only [vz, tyf, dp, cN, gg, gi, gP, gj, gQ, gR, gS, iK, j8, nm, seval]
                obtain rfl := kF _ h
                exact bd Tryz.results16 rfl
               simp only [iK, hs] at h
               try simp only [vz, tyf, dp, cN, gg, gi, gP, gj, gQ, gR, gS, iK, nm, seval]
               obtain rfl := kF _ h
               exact bd Tryz.results16 rfl
              simp only [gS, hs] at h
              try simp only [vz, tyf, dp, cN, gg, gi, gP, gj, gQ, gR, gS, nm, seval]
              obtain rfl := kF _ h
              exact bd Tryz.results16 rfl
             simp only [cN, hs] at h
             try simp only [vz, tyf, dp, fb, fV, fc, fe, fW, fX, fY, fZ, ga, cN, nm, seval]
             obtain rfl := kF _ h
             exact bd Tryz.results16 rfl
            simp only [mJ, hs] at h
            have Fl := And.intro eF (And.intro gb (And.intro gO (And.intro iJ (And.intro j7 (And.intro lh mJ)))))
            try simp only [vz, tyf, Fl, fb, fV, fc, fe, fW, fX, fY, fZ, ga, nm, seval]
            obtain rfl := kF _ h
            exact bd Tryz.results16 rfl
           simp only [lh, hs] at h
           try simp only [vz, tyf, eF, fb, fV, fc, fe, fW, fX, fY, fZ, ga, gb, gO, iJ, j7, lh, nm, seval]
           obtain rfl := kF _ h
           exact bd Tryz.results16 rfl
          simp only [j7, hs] at h
          try simp only [vz, tyf, eF, fb, fV, fc, fe, fW, fX, fY, fZ, ga, gb, gO, iJ, j7, nm, seval]
          obtain rfl := kF _ h
          exact bd Tryz.results16 rfl
         simp only [iJ, hs] at h
         try simp only [vz, tyf, eF, fb, fV, fc, fe, fW, fX, fY, fZ, ga, gb, gO, iJ, nm, seval]
         obtain rfl := kF _ h
         exact bd Tryz.results16 rfl
        simp only [gO, hs] at h
        try simp only [vz, tyf, eF, fb, fV, fc, fe, fW, fX, fY, fZ, ga, gb, gO, nm, seval]
        obtain rfl := kF _ h
        exact bd Tryz.results16 rfl
       simp only [gb, hs] at h
       try simp only [vz, tyf, eF, fb, fV, fc, fe, fW, fX, fY, fZ, ga, gb, nm, seval]
       obtain rfl := kF _ h
       exact bd Tryz.results16 rfl
     | cons fg cY =>
      rcases fS with ⟨cm, cZ, rfl, kT, kU, kV, kW, kX, kY, kZ, lf⟩ | ⟨rfl, rfl⟩
      ·have ei := gZ kT
       have ej := ne_f kU
       have ep := ne_f kV
       have eu := ne_f kW
       have ez := ne_f kX
       have eC := ne_f kY
       have eD := ne_f kZ
       have uM : (decide (bh < (List.length mI.Needs : Int))) = true := gq bQ cy
       have lv := dG bQ cy
       have uN := gu bQ cy eh
       simp only [mG, hs, reduceCtorEq] at h
       cases mN : (bh != bn)
       ·simp only [mN, hs] at h
        have gn := And.intro fw (And.intro eP (And.intro ib (And.intro ic (And.intro lT (And.intro kS (And.intro lU (And.intro fM (And.intro fa (And.intro fN (And.intro eh (And.intro j4 (And.intro cz (And.intro fP (And.intro fQ (And.intro fR (And.intro iG (And.intro iH (And.intro ei (And.intro lf (And.intro ej (And.intro ep (And.intro eu (And.intro ez (And.intro eC (And.intro eD (And.intro uM (And.intro uN mN)))))))))))))))))))))))))))
        simp only [vz, tyf, gn, (aL eZ), (ba fx), (ba cM), bu, bD, bE, bw, bx, bz, bF, bZ, ca, (aW lv), nm, seval]
        exact ⟨List.length cY, Nat.lt_succ_self _, by rw [fy]; refine ⟨cY, bh + 1, aT, .ref cm 0 (List.length aT) 1 (List.length aT), rfl, Int.le_trans bQ (Int.le_add_one (Int.le_refl _)), dj bQ cy, rfl, (show 95 ≤ cG + 11 by omega), ?_, ?_, ?_, ?_, ?_, ?_, bu, bD, bE, bw, bx, bz, bF, ?_, ?_, Or.inl ⟨cm, cZ, rfl, (by first | omega | (simp only [nm, seval]; done) | (simp only [nm, seval]; omega)), (by first | omega | (intro hh; simp only [gn, reduceCtorEq] at hh)), (by first | omega | (intro hh; simp only [gn, reduceCtorEq] at hh)), (by first | omega | (intro hh; simp only [gn, reduceCtorEq] at hh)), (by first | omega | (intro hh; simp only [gn, reduceCtorEq] at hh)), (by first | omega | (intro hh; simp only [gn, reduceCtorEq] at hh)), (by first | omega | (intro hh; simp only [gn, reduceCtorEq] at hh)), ?_⟩, (by first | exact h | (simp only [gn]; exact h))⟩ <;> first | (simp only [ua, gn, bu, bD, bE, bw, bx, bz, bF, bZ, ca, nm, seval] <;> rfl) | rfl⟩
       simp only [mN, hs] at h
       have da := And.intro fw (And.intro eP (And.intro ib (And.intro ic (And.intro lT (And.intro kS (And.intro lU (And.intro fM (And.intro fa (And.intro fN (And.intro eh (And.intro j4 (And.intro cz (And.intro fP (And.intro fQ (And.intro fR (And.intro iG (And.intro iH (And.intro ei (And.intro lf (And.intro ej (And.intro ep (And.intro eu (And.intro ez (And.intro eC (And.intro eD (And.intro uM (And.intro uN mN)))))))))))))))))))))))))))
       cases iR : (roomOk 8 (List.length (aT ++ [fg])))
       ·simp only [iR, hs] at h
        exact absurd h nK
       simp only [iR, hs] at h
       simp only [vz, tyf, da, (aL eZ), (ba fx), (ba cM), bu, bD, bE, bw, bx, bz, bF, bZ, ca, (aW lv), iR, nm, seval]
       refine k_app (w := 1) (enc := eI) (xs := aT) (ys := ([fg])) (el := cZ) (jN := (some 3)) (fun _ => rfl) im iq Tryz.underlying22 (by first | rfl | assumption | (simp only [aU, bg, dI, da, nm, seval] <;> rfl) | (simp only [aU, bg, iX, jm, iu, iv, tyf, da, (aL eZ), (ba fx), (ba cM), bu, bD, bE, bw, bx, bz, bF, bZ, ca, (aW lv), iR, nm, seval]; done)) (by first | rfl | assumption | (simp only [aU, bg, dI, da, nm, seval] <;> rfl) | (simp only [aU, bg, iX, jm, iu, iv, tyf, da, (aL eZ), (ba fx), (ba cM), bu, bD, bE, bw, bx, bz, bF, bZ, ca, (aW lv), iR, nm, seval]; done)) (Nat.zero_lt_succ _) iR ?_
       simp only [vz, tyf, da, (aL eZ), (ba fx), (ba cM), bu, bD, bE, bw, bx, bz, bF, bZ, ca, (aW lv), iR, nm, seval]
       exact ⟨List.length cY, Nat.lt_succ_self _, by rw [fy]; refine ⟨cY, bh + 1, (aT ++ [fg]), .ref (cG + 15) 0 (List.length (aT ++ [fg])) 1 (List.length (aT ++ [fg])), rfl, Int.le_trans bQ (Int.le_add_one (Int.le_refl _)), dj bQ cy, rfl, (show 95 ≤ cG + 20 by omega), ?_, ?_, ?_, ?_, ?_, ?_, bu, bD, bE, bw, bx, bz, bF, ?_, ?_, Or.inl ⟨cG + 15, (sameEl cZ 3), rfl, (by first | omega | (simp only [nm, seval]; done) | (simp only [nm, seval]; omega)), (by first | omega | (intro hh; simp only [da, reduceCtorEq] at hh)), (by first | omega | (intro hh; simp only [da, reduceCtorEq] at hh)), (by first | omega | (intro hh; simp only [da, reduceCtorEq] at hh)), (by first | omega | (intro hh; simp only [da, reduceCtorEq] at hh)), (by first | omega | (intro hh; simp only [da, reduceCtorEq] at hh)), (by first | omega | (intro hh; simp only [da, reduceCtorEq] at hh)), ?_⟩, (by first | exact h | (simp only [da]; exact h))⟩ <;> first | (simp only [ua, da, bu, bD, bE, bw, bx, bz, bF, bZ, ca, nm, seval] <;> rfl) | rfl⟩
      ·have uO : (decide (bh < (List.length mI.Needs : Int))) = true := gq bQ cy
       have mO := dG bQ cy
       have uP := gu bQ cy eh
       simp only [mG, hs, reduceCtorEq] at h
       cases mP : (bh != bn)
       ·simp only [mP, hs] at h
        have qi := And.intro fw (And.intro eP (And.intro ib (And.intro ic (And.intro lT (And.intro kS (And.intro lU (And.intro fM (And.intro fa (And.intro fN (And.intro eh (And.intro j4 (And.intro cz (And.intro fP (And.intro fQ (And.intro fR (And.intro iG (And.intro iH (And.intro uO (And.intro uP mP)))))))))))))))))))
        simp only [vz, tyf, qi, (aL eZ), (ba fx), (ba cM), bu, bD, bE, bw, bx, bz, bF, bZ, ca, (aW mO), nm, seval]
        exact ⟨List.length cY, Nat.lt_succ_self _, by rw [fy]; refine ⟨cY, bh + 1, ([] : List Int), .lit (.slice none 0 0), rfl, Int.le_trans bQ (Int.le_add_one (Int.le_refl _)), dj bQ cy, rfl, (show 95 ≤ cG + 11 by omega), ?_, ?_, ?_, ?_, ?_, ?_, bu, bD, bE, bw, bx, bz, bF, ?_, ?_, Or.inr ⟨rfl, rfl⟩, (by first | exact h | (simp only [qi]; exact h))⟩ <;> first | (simp only [ua, qi, bu, bD, bE, bw, bx, bz, bF, bZ, ca, nm, seval] <;> rfl) | rfl⟩
       simp only [mP, hs] at h
       have dL := And.intro fw (And.intro eP (And.intro ib (And.intro ic (And.intro lT (And.intro kS (And.intro lU (And.intro fM (And.intro fa (And.intro fN (And.intro eh (And.intro j4 (And.intro cz (And.intro fP (And.intro fQ (And.intro fR (And.intro iG (And.intro iH (And.intro uO (And.intro uP mP)))))))))))))))))))
       cases jH : (roomOk 8 (List.length (([] : List Int) ++ [fg])))
       ·simp only [jH, hs] at h
        exact absurd h nK
       simp only [jH, hs] at h
       simp only [vz, tyf, dL, (aL eZ), (ba fx), (ba cM), bu, bD, bE, bw, bx, bz, bF, bZ, ca, (aW mO), jH, nm, seval]
       refine me (w := 1) (enc := eI) (ys := ([fg])) (jN := (some 3)) (fun _ => rfl) im iq Tryz.underlying22 (by first | rfl | assumption | (simp only [aU, bg, dI, dL, nm, seval] <;> rfl) | (simp only [aU, bg, iX, jm, iu, iv, tyf, dL, (aL eZ), (ba fx), (ba cM), bu, bD, bE, bw, bx, bz, bF, bZ, ca, (aW mO), jH, nm, seval]; done)) (Nat.zero_lt_succ _) jH ?_
       simp only [vz, tyf, dL, (aL eZ), (ba fx), (ba cM), bu, bD, bE, bw, bx, bz, bF, bZ, ca, (aW mO), jH, nm, seval]
       exact ⟨List.length cY, Nat.lt_succ_self _, by rw [fy]; refine ⟨cY, bh + 1, (([] : List Int) ++ [fg]), .ref (cG + 15) 0 (List.length (([] : List Int) ++ [fg])) 1 (List.length (([] : List Int) ++ [fg])), rfl, Int.le_trans bQ (Int.le_add_one (Int.le_refl _)), dj bQ cy, rfl, (show 95 ≤ cG + 20 by omega), ?_, ?_, ?_, ?_, ?_, ?_, bu, bD, bE, bw, bx, bz, bF, ?_, ?_, Or.inl ⟨cG + 15, (some 3), rfl, (by first | omega | (simp only [nm, seval]; done) | (simp only [nm, seval]; omega)), (by first | omega | (intro hh; simp only [dL, reduceCtorEq] at hh)), (by first | omega | (intro hh; simp only [dL, reduceCtorEq] at hh)), (by first | omega | (intro hh; simp only [dL, reduceCtorEq] at hh)), (by first | omega | (intro hh; simp only [dL, reduceCtorEq] at hh)), (by first | omega | (intro hh; simp only [dL, reduceCtorEq] at hh)), (by first | omega | (intro hh; simp only [dL, reduceCtorEq] at hh)), ?_⟩, (by first | exact h | (simp only [dL]; exact h))⟩ <;> first | (simp only [ua, dL, bu, bD, bE, bw, bx, bz, bF, bZ, ca, nm, seval] <;> rfl) | rfl⟩
    simp only [eP, hs] at h
    simp only [vz, tyf, fw, dX, eN, gz, g0, gy, hZ, ia, (aL eZ), eP, nm, seval]
    refine ktree0 mH ?_
    try simp only [vz, tyf, fw, dX, eN, gz, g0, gy, hZ, ia, (aL eZ), eP, nm, seval]
    obtain rfl := kF _ h
    exact bd Tryz.results16 rfl
   simp only [xm, hs] at h
   have uQ := And.intro cF (And.intro g9 (And.intro jc (And.intro lS (And.intro iE (And.intro rD xm)))))
   simp only [vz, tyf, uQ, dX, eN, gz, g0, gy, hZ, ia, nm, seval]
   refine ktree0 mH ?_
   try simp only [vz, tyf, uQ, dX, eN, gz, g0, gy, hZ, ia, nm, seval]
   obtain rfl := kF _ h
   exact bd Tryz.results16 rfl
  simp only [rD, hs] at h
  simp only [vz, tyf, cF, g9, jc, dX, eN, gz, g0, gy, hZ, ia, lS, iE, rD, nm, seval]
  refine ktree0 mH ?_
  try simp only [vz, tyf, cF, g9, jc, dX, eN, gz, g0, gy, hZ, ia, lS, iE, rD, nm, seval]
  obtain rfl := kF _ h
  exact bd Tryz.results16 rfl
 simp only [iE, hs] at h
 simp only [vz, tyf, cF, g9, jc, dX, eN, gz, g0, gy, hZ, ia, lS, iE, nm, seval]
 refine ktree0 mH ?_
 try simp only [vz, tyf, cF, g9, jc, dX, eN, gz, g0, gy, hZ, ia, lS, iE, nm, seval]
 obtain rfl := kF _ h
 exact bd Tryz.results16 rfl
end Go.V
end
section
namespace Go.V
open Go Go.Proofs IntKind
theorem Ed_nd {hd : Nat → Int} {nd nd' : Nat → List Int} {d d' : Nat → Int} (hn : NdOk nd) (hn' : NdOk nd') (h0 : ∀ k, 0 ≤ d' k) (hs : ∀ s k, k ∈ nd s → k ∈ nd' s) (h : ∀ k, d k ≤ d' k) : ∀ (f s : Nat), s < f → Ed hd nd d s ≤ Ed hd nd' d' s
 | 0, _, hf => absurd hf (Nat.not_lt_zero _)
 | f + 1, s, hf => by
  rw [Ed_eq hn, Ed_eq hn']
  have h1 : Bg hd nd d s ≤ Bg hd nd' d' s := oV hn (Bg_nn s) (fun k hk hh => Int.le_trans (Ed_nd hn hn' h0 hs h f k (by omega)) (sY hn' h0 hk hh)) (fun k hk => Int.le_trans (Ed_nd hn hn' h0 hs h f k.toNat (by have := (hn s k hk).2; omega)) (sW hn' (hs s k hk)))
  have := h s
  omega
theorem qj : ∀ (l : List Int), adjB l = true ↔ l.Pairwise (· < ·)
 | [] => by simp [adjB]
 | [a] => by simp [adjB]
 | a :: e :: l => by
  have ih := qj (e :: l)
  have e1 : adjB (a :: e :: l) = (decide (a < e) && adjB (e :: l)) := rfl
  rw [e1, Bool.and_eq_true, decide_eq_true_eq, ih, List.pairwise_cons (a := a)]
  constructor
  ·rintro ⟨h1, h2⟩
   refine ⟨fun x hx => ?_, h2⟩
   rcases List.mem_cons.1 hx with rfl | hx
   ·exact h1
   ·have := (List.pairwise_cons.1 h2).1 x hx
    omega
  ·rintro ⟨h1, h2⟩
   exact ⟨h1 e (List.mem_cons_self ..), h2⟩
def swp (b : GBk) (s : Nat) (y : GBs) : GBk := ⟨b.Apprentices, b.Boards, b.Strokes.set s y⟩
structure Lss (x y : GBs) : Prop where
 bo : y.Board = x.Board
 lo : y.Hours.Low ≤ x.Hours.Low
 hi : y.Hours.High ≤ x.Hours.High
 hr : 1 ≤ y.Hours.Low ∧ y.Hours.Low ≤ y.Hours.High
 nd : y.Needs.Sublist x.Needs
 rd : y.Round = true → x.Round = true
section
variable {b : GBk} {s : Nat} {x y : GBs} (hx : b.Strokes[s]? = some x) (hl : Lss x y)
theorem nL : (swp b s y).Strokes.length = b.Strokes.length := by simp [swp]
theorem uR (i : Nat) : (swp b s y).Strokes[i]? = if s = i ∧ i < b.Strokes.length then some y else b.Strokes[i]? := by
 simp only [swp, List.getElem?_set]
 by_cases e : s = i
 ·subst e
  by_cases h : s < b.Strokes.length
  ·rw [if_pos rfl, if_pos h, if_pos ⟨rfl, h⟩]
  ·rw [if_pos rfl, if_neg h, if_neg (fun hh => h hh.2), List.getElem?_eq_none (by omega)]
 ·rw [if_neg e, if_neg (fun hh => e hh.1)]
include hx hl
theorem xq (hB : BOk b) : BOk (swp b s y) := by
 refine ⟨hB.ap, hB.nb, hB.bo, by rw [nL]; exact hB.ns, fun i z hz => ?_⟩
 rw [uR] at hz
 split at hz
 ·rename_i e
  cases hz
  obtain ⟨rfl, _⟩ := e
  have h := hB.s hx
  exact KA.2 ⟨by rw [hl.bo]; exact h.bo, ⟨hl.hr.1, hl.hr.2, Int.le_trans hl.hi h.hr.2.2⟩, fun k hk => h.nd k (hl.nd.subset hk), (qj _).2 (((qj _).1 h.ad).sublist hl.nd)⟩
 ·exact hB.st i z hz
theorem Fm (h : Len b) : Len (swp b s y) := by
 refine ⟨h.bo, by rw [nL]; exact h.st, fun z hz => ?_⟩
 obtain ⟨i, hi⟩ := List.getElem?_of_mem hz
 rw [uR] at hi
 split at hi
 ·cases hi
  have := h.nd x (List.mem_of_getElem? hx)
  have h2 := hl.nd.length_le
  omega
 ·exact h.nd z (List.mem_of_getElem? hi)
theorem Fo {pl : List Int} (hP : POk b pl) : POk (swp b s y) pl := by
 refine ⟨by rw [nL]; exact hP.len, fun i z k hz hk => ?_⟩
 rw [uR] at hz
 split at hz
 ·rename_i e
  cases hz
  obtain ⟨rfl, _⟩ := e
  obtain ⟨h1, h2⟩ := hP.may s x k hx hk
  refine ⟨h1, ?_⟩
  rcases h2 with h2 | h2
  ·exact .inl h2
  ·right
   cases hr : y.Round with
   | false => rfl
   | true => rw [hl.rd hr] at h2; cases h2
 ·exact hP.may i z k hz hk
theorem qk (hB : BOk b) (pl : List Int) (h : Int) (i : Nat) : EE (swp b s y) pl h i ≤ EE b pl h i := by
 have hB' := xq hx hl hB
 refine Ed_nd hB'.h.nd hB.h.nd (fun k => (hB.h.d h k).1) (fun t k hk => ?_) (fun k => ?_) (i + 1) i (Nat.lt_succ_self _)
 ·unfold nF at hk ⊢
  rw [uR] at hk
  by_cases e : s = t ∧ t < b.Strokes.length
  ·rw [if_pos e] at hk
   obtain ⟨rfl, _⟩ := e
   rw [hx]
   exact hl.nd.subset hk
  ·rw [if_neg e] at hk; exact hk
 ·unfold dF
  rw [uR]
  by_cases e : s = k ∧ k < b.Strokes.length
  ·rw [if_pos e]
   obtain ⟨rfl, _⟩ := e
   rw [hx]
   have h1 := hl.lo
   have h2 := hl.hi
   dsimp only
   split <;> omega
  ·rw [if_neg e]; exact Int.le_refl _
theorem Fp (hB : BOk b) (pl : List Int) : TK (swp b s y) pl ≤ TK b pl := by
 unfold TK
 rw [nL]
 exact Bu fun k _ => qk hx hl hB pl 1 k
theorem uS (hL : Len b) (hB : BOk b) {R : List Int} (hR : IsB b b.Apprentices R) : ∃ R1, nJ (swp b s y) = some (R1, TK (swp b s y) R1, 0) ∧ 1 ≤ TK (swp b s y) R1 ∧ TK (swp b s y) R1 ≤ TK b R := by
 have hB' := xq hx hl hB
 obtain ⟨R1, Lh⟩ := ub (swp b s y) (swp b s y).Apprentices
 have e := uc (Fm hx hl hL) hB' hB'.ap.1 hB'.ap.2 Lh
 rw [uT] at e
 have hp : R ∈ LA (swp b s y) (swp b s y).Apprentices := (uU hB').2 (p8.2 (Fo hx hl (p8.1 ((uU hB).1 hR.2.1))))
 exact ⟨R1, e, (TK_b hB' R1).1, Int.le_trans (Lh.2.2 R hp) (Fp hx hl hB R)⟩
end
theorem ql (a : Int) : ∀ (p : List Int) (c : Int) (acc : List Int), acc.length + p.length ≤ 1000 → ∃ q : List Int, q.Sublist p ∧ mG a p c acc = some (.go (acc ++ q))
 | [], c, acc, _ => ⟨[], List.Sublist.slnil, by simp [mG]⟩
 | e :: p, c, acc, hn => by
  simp only [List.length_cons] at hn
  simp only [mG]
  cases (c != a) with
  | false =>
   obtain ⟨q, h1, h2⟩ := ql a p (c + 1) acc (by omega)
   exact ⟨q, h1.cons _, h2⟩
  | true =>
   obtain ⟨q, h1, h2⟩ := ql a p (c + 1) (acc ++ [e]) (by simp; omega)
   rw [cond_true, room8 (by simp; omega), cond_true, h2]
   exact ⟨e :: q, h1.cons_cons _, by simp⟩
theorem uW {b X Y : GBk} {pl : List Int} {z1 z2 z3 : Int} (hX : X.Strokes.length = b.Strokes.length) (hY : Y.Strokes.length = b.Strokes.length) (h1 : ∀ h i, EE X pl h i ≤ EE b pl h i) (h2 : ∀ h i, EE Y pl h i ≤ EE b pl h i) : ∀ (p : List Int) (c : Nat), c + p.length = b.Strokes.length → pM (endsL b pl, z1) (endsL X pl, z2) (endsL Y pl, z3) p c = some (.go ())
 | [], c, _ => rfl
 | e :: p, c, h => by
  simp only [List.length_cons] at h
  simp only [pM]
  rw [getEnds (by omega) (by omega), getEnds (by omega) (by omega), getEnds (by omega) (by omega)]
  have a1 := h1 0 c
  have a2 := h1 1 c
  have a3 := h2 0 c
  have a4 := h2 1 c
  simp only [Option.bind_some, endS, Int.toNat_natCast]
  rw [decide_eq_false (by omega), decide_eq_false (by omega), decide_eq_false (by omega), decide_eq_false (by omega)]
  exact uW hX hY h1 h2 p (c + 1) (by omega)
theorem Fq {b : GBk} (hL : Len b) (hB : BOk b) {pl : List Int} (hP : POk b pl) {s : Nat} {x y z : GBs} (hx : b.Strokes[s]? = some x) (hy : Lss x y) (hz : Lss x z) : ue b (swp b s y) (swp b s z) pl = some true := by
 have hA := hB.ap
 have hn := hB.ns
 obtain ⟨R, hR⟩ := ub b b.Apprentices
 have eB := uc hL hB hA.1 hA.2 hR
 rw [uT] at eB
 obtain ⟨R1, e1, g1, k1⟩ := uS hx hy hL hB hR
 obtain ⟨R2, e2, g2, k2⟩ := uS hx hz hL hB hR
 have hBy := xq hx hy hB
 have hBz := xq hx hz hB
 have f0 := pL hL pl
 have f1 := pL (Fm hx hy hL) pl
 have f2 := pL (Fm hx hz hL) pl
 rw [pz.2 hB, p8.2 hP] at f0
 rw [pz.2 hBy, p8.2 (Fo hx hy hP)] at f1
 rw [pz.2 hBz, p8.2 (Fo hx hz hP)] at f2
 simp only [Bool.and_self, if_true] at f0 f1 f2
 have hlen := hP.len
 have q0 : (((endsL b pl).length : Int) != (pl.length : Int)) = false := by rw [EF, hlen]; simp
 have q1 : (((endsL (swp b s y) pl).length : Int) != (pl.length : Int)) = false := by rw [EF, nL, hlen]; simp
 have q2 : (((endsL (swp b s z) pl).length : Int) != (pl.length : Int)) = false := by rw [EF, nL, hlen]; simp
 unfold ue
 simp only [eB, e1, e2, Option.bind_some, bne_self_eq_false, cond_false, decide_eq_false (show ¬ TK (swp b s y) R1 < 1 by omega), decide_eq_false (show ¬ TK (swp b s y) R1 > TK b R by omega), decide_eq_false (show ¬ TK (swp b s z) R2 < 1 by omega), decide_eq_false (show ¬ TK (swp b s z) R2 > TK b R by omega), f0, f1, f2, q0, q1, q2]
 have cI := uW (b := b) (X := swp b s y) (Y := swp b s z) (pl := pl) (z1 := 0) (z2 := 0) (z3 := 0) nL nL (qk hx hy hB pl) (qk hx hz hB pl) pl 0 (by omega)
 have dA : pM (endsL b pl, 0) (endsL (swp b s y) pl, 0) (endsL (swp b s z) pl, 0) pl 0 = some (.go ()) := cI
 rw [gI (by omega), cond_true, dA]
 rfl
theorem Qw (b : GBk) (pl : List Int) (s less need : Int) (hb : aM b.Boards = true ∧ aM b.Strokes = true ∧ ∀ y ∈ b.Strokes, aM y.Needs = true) (hp : aM pl = true) : xj b pl s less need = some true := by
 have hL := Len.of hb
 unfold xj
 rcases PW hL with e | ⟨e, hB⟩
 ·rw [e]; rfl
 have hns := hB.ns
 simp only [e, Option.bind_some, cond_true, wR, Cx hL, Cy hL]
 cases (decide ((pl.length : Int) ≤ 9)) with
 | false => rfl
 | true =>
 cases hP : planB b pl with
 | false => rfl
 | true =>
 cases hI : inB 0 ((b.Strokes.length : Int) - 1) s with
 | false => rfl
 | true =>
 have hi := sS.1 hI
 simp only [cond_true]
 by_cases b0 : less < 0
 ·rw [decide_eq_true b0]; rfl
 by_cases b1 : less > 6
 ·rw [decide_eq_false b0, decide_eq_true b1]; rfl
 by_cases b2 : need < 0
 ·rw [decide_eq_false b0, decide_eq_false b1, decide_eq_true b2]; rfl
 rw [decide_eq_false b0, decide_eq_false b1, decide_eq_false b2]
 obtain ⟨x, g1, hx⟩ := getS (b := b) (s := s) hi.1 (by omega)
 have hs : s.toNat < b.Strokes.length := by omega
 have hxo := hB.s hx
 have hr := hxo.hr
 have hfew := (hB.h.s hx).few (by omega)
 simp only [cond_false, g1, Option.bind_some]
 by_cases b3 : need > (x.Needs.length : Int)
 ·rw [decide_eq_true b3]; rfl
 obtain ⟨q, hq, eq⟩ := ql need x.Needs 0 [] (by simp; omega)
 rw [List.nil_append] at eq
 rw [decide_eq_false b3, ED hns.1, List.nil_append, room56 (by omega), hS (by omega) (by omega), hS (by omega) (by omega)]
 simp only [cond_true, cond_false, xk, Option.bind_some, g1]
 generalize hlo : (if 1 < x.Hours.Low - less then x.Hours.Low - less else 1) = lo
 generalize hhi : (if 1 < x.Hours.High - less then x.Hours.High - less else 1) = qm
 have hlo' : 1 ≤ lo ∧ lo ≤ x.Hours.Low ∧ lo ≤ qm ∧ qm ≤ x.Hours.High := by
  subst hlo hhi
  split <;> split <;> omega
 have hget : getI (b.Strokes.set s.toNat ⟨x.Board, x.Round, ⟨lo, qm⟩, x.Needs⟩) s = some ⟨x.Board, x.Round, ⟨lo, qm⟩, x.Needs⟩ := by
  unfold getI
  rw [if_pos hi.1, List.getElem?_set_self hs]
 rw [hget, Option.bind_some, gI (show x.Needs.length < 9223372036854775808 by omega), cond_true, eq]
 simp only [lbind, List.set_set]
 exact Fq hL hB (p8.1 hP) hx (y := ⟨x.Board, false, ⟨lo, qm⟩, x.Needs⟩) (z := ⟨x.Board, x.Round, x.Hours, q⟩) ⟨rfl, hlo'.2.1, hlo'.2.2.2, ⟨hlo'.1, hlo'.2.2.1⟩, List.Sublist.refl _, (fun h => by cases h)⟩ ⟨rfl, Int.le_refl _, Int.le_refl _, ⟨hr.1, hr.2.1⟩, hq, id⟩
end Go.V
end
