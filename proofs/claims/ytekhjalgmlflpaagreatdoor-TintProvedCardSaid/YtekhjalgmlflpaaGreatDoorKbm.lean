/- Part of a proof. -/
import Derived.Test.YtekhjalgmlflpaaGreatDoorKbl
set_option linter.all false
set_option maxRecDepth 4000
set_option maxHeartbeats 40000000
section
namespace Go.V
open Go Go.Proofs IntKind
def ltL : List Int → List Int → Bool
 | a :: x, b :: y => cond (a != b) (decide (a < b)) (ltL x y)
 | _, _ => false
theorem Xk {b : List Int} : ∀ (p q : List Int) (c : Int), 0 ≤ c → b.drop c.toNat = q → p.length = q.length → ∃ r, Af b p c = some r ∧ ((r = .go () ∧ ltL p q = false) ∨ r = .ret (ltL p q))
 | [], [], _, _, _, _ => ⟨_, rfl, .inl ⟨rfl, rfl⟩⟩
 | _ :: _, [], _, _, _, h => by simp at h
 | [], _ :: _, _, _, _, h => by simp at h
 | e :: p, v :: q, c, h0, h, hl => by
  have hg := fp h0 h
  have hlt := (Ps hg).2
  simp only [Af, hg, Option.bind_some, decide_eq_true hlt, cond_true, ltL]
  cases hne : (e != v) with
  | true => exact ⟨_, rfl, .inr rfl⟩
  | false =>
   simp only [cond_false]
   exact Xk p q (c + 1) (by omega) (eE h0 h) (by simpa using hl)
theorem QE {a b : List Int} (ha : lenOk a = true) (h : a.length = b.length) : Ag a b = some (ltL a b) := by
 unfold Ag
 obtain ⟨r, hr, h2⟩ := Xk a b 0 (Int.le_refl _) rfl h
 rw [ha, hr]
 rcases h2 with ⟨rfl, h3⟩ | rfl
 ·simp [aK, h, h3]
 ·simp [aK]
theorem xd : ∀ {x y : List Int}, x.length = y.length → (ltL x y = true ↔ lexL x y)
 | [], [], _ => by simp [ltL, lexL]
 | [], _ :: _, h => by simp at h
 | _ :: _, [], h => by simp at h
 | a :: x, b :: y, h => by
  have ih := xd (x := x) (y := y) (by simpa using h)
  show cond (a != b) (decide (a < b)) (ltL x y) = true ↔ (a < b ∨ a = b ∧ lexL x y)
  by_cases e : a = b
  ·subst e
   rw [bne_self_eq_false, cond_false, ih]
   constructor
   ·exact fun h => .inr ⟨rfl, h⟩
   ·rintro (h | h)
    ·omega
    ·exact h.2
  ·rw [bne_iff_ne.2 e, cond_true, decide_eq_true_eq]
   constructor
   ·exact .inl
   ·rintro (h | h)
    ·exact h
    ·exact absurd h.1 e
theorem QF {s : Gs} {q : List Int} : (wordI s q = 3 ∧ surelyB s q = true) ∨ (wordI s q = 2 ∧ surelyB s q = false) ∨ (wordI s q = 1 ∧ surelyB s q = false) := by
 unfold wordI
 cases surelyB s q with
 | true => exact .inl ⟨rfl, rfl⟩
 | false =>
  cases (yearsL s q).isEmpty
  ·exact .inr (.inl ⟨rfl, rfl⟩)
  ·exact .inr (.inr ⟨rfl, rfl⟩)
theorem QG {s : Gs} (hs : ShOk s) (h : lenOk s.Tins = true) {q : List Int} (hq : MixOk s q) : D7 s q = some (wordI s q, true) := by
 unfold D7
 rw [Q2 h, hs.ok, hq.ok]
 simp only [Bool.and_self, cond_true, Option.bind_some, beq_self_eq_true]
 rcases QF (s := s) (q := q) with ⟨e, _⟩ | ⟨e, _⟩ | ⟨e, _⟩ <;> rw [e] <;> rfl
theorem QH {s : Gs} (h : lenOk s.Tins = true) {mix : List Int} (hm : lenOk mix = true) : ∃ b, D8 s mix = some b ∧ (b = true → ShOk s ∧ MixOk s mix) := by
 unfold D8
 rw [show FW s = some (decide ((List.length s.Tins : Int) ≤ 6)) from rfl, QI h]
 cases decide ((List.length s.Tins : Int) ≤ 6) with
 | false => exact ⟨false, rfl, fun h => by cases h⟩
 | true =>
 cases decide ((List.length mix : Int) ≤ 6) with
 | false => exact ⟨false, rfl, fun h => by cases h⟩
 | true =>
 simp only [Option.bind_some, cond_true]
 cases hb : sheetB s with
 | false => exact ⟨false, rfl, fun h => by cases h⟩
 | true =>
  have hs := ShOk.of hb
  simp only [cond_true, QJ hs hm, Option.bind_some]
  exact ⟨_, rfl, fun hx => ⟨hs, MixOk.of hx⟩⟩
def uy (br : Gi) : Nat → Int → Option (LOut (Bool) (Unit))
 | 0, cj => some (.go ())
 | k0 + 1, cj => cond (cj == 0) (Option.bind (j6 br.a0 (-2) 2) (fun r1 => cond (r1) (uy br k0 (cj + 1)) (some (.ret false)))) (cond (cj == 1) (Option.bind (j6 br.a1 (-2) 2) (fun r2 => cond (r2) (uy br k0 (cj + 1)) (some (.ret false)))) (cond (cj == 2) (Option.bind (j6 br.a2 (-2) 2) (fun r3 => cond (r3) (uy br k0 (cj + 1)) (some (.ret false)))) (none)))
def uz (br : Gi) : Option (Bool) := cond (boundOk 3) (aK (uy br (Int.toNat (3 - 0)) 0) (fun r5 => some r5) (fun c4 => some (!(br.a0 == 0 && (br.a1 == 0 && (br.a2 == 0))))) (fun _ _ => none)) none
theorem Xl (br : Gi) (R : Bool) (h : uz br = some R) : ad Tryz.prog G0 39 [.agg (cGi br)] (.tree (.lit (.bool R))) := by
 refine ad.runR mixed Tryz.call39 Tryz.func39 rfl (by simp [Tryz.ntmps39]; kernel_rfl) ?_
 obtain ⟨KF, h, kF, kN⟩ := cQ h
 simp only [uz] at h
 cases g7 : (boundOk 3)
 ·simp only [g7, hs] at h
  exact absurd h kN
 simp only [g7, hs] at h
 simp only [vz, tyf, g7, nm, seval]
 obtain ⟨K6, h, BW, N7, kB6, zx⟩ := eO h kN
 obtain ⟨f6, N8, h⟩ := call2 h
 obtain ⟨I6, sv⟩ : ∃ I : Nat → St → Prop, I = (fun m st => ∃ (p6 : Nat) (fR : Int), p6 = m ∧ loOk fR = true ∧ Int.toNat (3 - fR) = p6 ∧ st.df = [] ∧ 3 ≤ st.nx ∧ st.H 0 = some (.cells (some 22) (cGi br)) ∧ st.tm 1 = .ptr 0 0 ∧ st.tm 3 = .lit (.int .i64 fR) ∧ K6 (f6 p6 fR)) := ⟨_, rfl⟩
 refine loopK mixed (by kernel_rfl) I6 (Int.toNat (3 - 0)) (by rw [sv]; refine ⟨Int.toNat (3 - 0), 0, rfl, (by rfl), rfl, rfl, (show 3 ≤ 3 by omega), ?_, ?_, ?_, h⟩ <;> first | (simp only [ua, nm, seval] <;> rfl) | rfl) ?_
 rintro m ⟨tm, H, v7, df⟩ hinv
 rw [sv] at hinv
 obtain ⟨p6, fR, rfl, pP, oT, hdf, N9, H8, e9, aW, h⟩ := hinv
 simp only at hdf N9 H8 e9 aW
 have fP := eN (m := 3) (b := v7) (by omega)
 subst hdf N8
 cases p6 with
 | zero =>
  have fk : (decide (fR < 3)) = false := tK oT
  simp only [uy, hs, reduceCtorEq] at h
  replace h := N7 _ h
  try dsimp only at h
  try simp only [hs] at h
  try simp only [vz, tyf, g7, fP, e9, aW, H8, fk, nm, seval]
  obtain rfl := kF _ h
  exact bl Tryz.results39 rfl
 | succ p6 =>
  have cV : (decide (fR < 3)) = true := tM oT
  have iM := tN pP oT g7
  simp only [uy, hs, reduceCtorEq] at h
  cases bu : (fR == 0)
  ·simp only [bu, hs] at h
   cases cG : (fR == 1)
   ·simp only [cG, hs] at h
    have uh := And.intro g7 (And.intro fP (And.intro H8 (And.intro cV (And.intro iM (And.intro bu cG)))))
    cases cD : (fR == 2)
    ·simp only [cD, hs] at h
     exact absurd h zx
    simp only [cD, hs] at h
    obtain ⟨oU, pQ, h⟩ := optI h zx
    try simp only [hs] at h
    simp only [vz, tyf, uh, e9, aW, cD, (fe cD), nm, seval]
    refine ktA (kh _ _ _ _ pQ) ?_
    refine aV (fun tm => tm 1 = .ptr 0 0 ∧ tm 3 = .lit (.int .i64 fR) ∧ tm 11 = .lit (.bool oU) ∧ True) (by refine ⟨e9, aW, ?_, trivial⟩ <;> first | (simp only [ua, uh, e9, aW, cD, nm, seval] <;> rfl) | rfl) ?_
    rintro tm ⟨bJ, bR, bz, _⟩
    cases dY : (oU)
    ·simp only [dY, hs] at h
     try simp only [vz, tyf, uh, cD, (fe cD), bJ, bR, bz, dY, nm, seval]
     replace h := BW _ h
     try dsimp only at h
     obtain rfl := kF _ h
     exact bl Tryz.results39 rfl
    simp only [dY, hs] at h
    simp only [vz, tyf, uh, cD, (fe cD), bJ, bR, bz, dY, nm, seval]
    exact ⟨p6, Nat.lt_succ_self _, by rw [sv]; refine ⟨p6, fR + 1, rfl, iZ pP, ja oT, rfl, (show 3 ≤ v7 + 10 by omega), ?_, bJ, ?_, h⟩ <;> first | (simp only [ua, uh, cD, bJ, bR, bz, dY, nm, seval] <;> rfl) | rfl⟩
   simp only [cG, hs] at h
   have D9 := And.intro g7 (And.intro fP (And.intro H8 (And.intro cV (And.intro iM (And.intro bu cG)))))
   obtain ⟨pC, vd, h⟩ := optI h zx
   try simp only [hs] at h
   simp only [vz, tyf, D9, e9, aW, (fg cG), nm, seval]
   refine ktA (kh _ _ _ _ vd) ?_
   refine aV (fun tm => tm 1 = .ptr 0 0 ∧ tm 3 = .lit (.int .i64 fR) ∧ tm 11 = .lit (.bool pC) ∧ True) (by refine ⟨e9, aW, ?_, trivial⟩ <;> first | (simp only [ua, D9, e9, aW, nm, seval] <;> rfl) | rfl) ?_
   rintro tm ⟨bA, bW, cC, _⟩
   cases iE : (pC)
   ·simp only [iE, hs] at h
    try simp only [vz, tyf, D9, (fg cG), bA, bW, cC, iE, nm, seval]
    replace h := BW _ h
    try dsimp only at h
    obtain rfl := kF _ h
    exact bl Tryz.results39 rfl
   simp only [iE, hs] at h
   simp only [vz, tyf, D9, (fg cG), bA, bW, cC, iE, nm, seval]
   exact ⟨p6, Nat.lt_succ_self _, by rw [sv]; refine ⟨p6, fR + 1, rfl, iZ pP, ja oT, rfl, (show 3 ≤ v7 + 10 by omega), ?_, bA, ?_, h⟩ <;> first | (simp only [ua, D9, bA, bW, cC, iE, nm, seval] <;> rfl) | rfl⟩
  simp only [bu, hs] at h
  obtain ⟨BC, tJ, h⟩ := optI h zx
  try simp only [hs] at h
  simp only [vz, tyf, g7, fP, e9, aW, H8, cV, iM, bu, (fh bu), nm, seval]
  refine ktA (kh _ _ _ _ tJ) ?_
  refine aV (fun tm => tm 1 = .ptr 0 0 ∧ tm 3 = .lit (.int .i64 fR) ∧ tm 11 = .lit (.bool BC) ∧ True) (by refine ⟨e9, aW, ?_, trivial⟩ <;> first | (simp only [ua, fP, e9, aW, H8, cV, iM, bu, nm, seval] <;> rfl) | rfl) ?_
  rintro tm ⟨fF, gk, eh, _⟩
  cases j9 : (BC)
  ·simp only [j9, hs] at h
   have b38 := And.intro g7 (And.intro fP (And.intro H8 (And.intro cV (And.intro iM (And.intro bu j9)))))
   try simp only [vz, tyf, b38, (fh bu), fF, gk, eh, nm, seval]
   replace h := BW _ h
   try dsimp only at h
   obtain rfl := kF _ h
   exact bl Tryz.results39 rfl
  simp only [j9, hs] at h
  have Xm := And.intro g7 (And.intro fP (And.intro H8 (And.intro cV (And.intro iM (And.intro bu j9)))))
  simp only [vz, tyf, Xm, (fh bu), fF, gk, eh, nm, seval]
  exact ⟨p6, Nat.lt_succ_self _, by rw [sv]; refine ⟨p6, fR + 1, rfl, iZ pP, ja oT, rfl, (show 3 ≤ v7 + 10 by omega), ?_, fF, ?_, h⟩ <;> first | (simp only [ua, Xm, fF, gk, eh, nm, seval] <;> rfl) | rfl⟩
def Ah (br : Gi) (cy : Ga) : Nat → Int → Int → Option (LOut (Int) (Int))
 | 0, eM, bx => some (.go bx)
 | k0 + 1, eM, bx => cond (eM == 0) (Ah br cy k0 (eM + 1) (i64.wrap (bx + (if (i64.wrap (br.a0 * cy.a0.Low)) < (i64.wrap (br.a0 * cy.a0.High)) then (i64.wrap (br.a0 * cy.a0.High)) else (i64.wrap (br.a0 * cy.a0.Low)))))) (cond (eM == 1) (Ah br cy k0 (eM + 1) (i64.wrap (bx + (if (i64.wrap (br.a1 * cy.a1.Low)) < (i64.wrap (br.a1 * cy.a1.High)) then (i64.wrap (br.a1 * cy.a1.High)) else (i64.wrap (br.a1 * cy.a1.Low)))))) (cond (eM == 2) (Ah br cy k0 (eM + 1) (i64.wrap (bx + (if (i64.wrap (br.a2 * cy.a2.Low)) < (i64.wrap (br.a2 * cy.a2.High)) then (i64.wrap (br.a2 * cy.a2.High)) else (i64.wrap (br.a2 * cy.a2.Low)))))) (none)))
def GN (br : Gi) (cy : Ga) : Option (Int) := cond (boundOk 3) (aK (Ah br cy (Int.toNat (3 - 0)) 0 0) (fun r2 => some r2) (fun c1 => some c1) (fun _ _ => none)) none
theorem zoq (br : Gi) (cy : Ga) (R : Int) (h : GN br cy = some R) : ad Tryz.prog G0 74 [.agg (cGi br), .agg (cGa cy)] (.tree (.lit (.int .i64 R))) := by
 refine ad.runR mixed Tryz.call74 Tryz.func74 rfl (by simp [Tryz.ntmps74]; kernel_rfl) ?_
 obtain ⟨KF, h, kF, kN⟩ := cQ h
 simp only [GN] at h
 cases g4 : (boundOk 3)
 ·simp only [g4, hs] at h
  exact absurd h kN
 simp only [g4, hs] at h
 simp only [vz, tyf, g4, nm, seval]
 obtain ⟨K3, h, BU, rl, FR, v5⟩ := eO h kN
 obtain ⟨f3, ss, h⟩ := call3 h
 obtain ⟨I3, jc⟩ : ∃ I : Nat → St → Prop, I = (fun m st => ∃ (p3 : Nat) (eX : Int) (ly : Int), p3 = m ∧ loOk eX = true ∧ Int.toNat (3 - eX) = p3 ∧ st.df = [] ∧ 5 ≤ st.nx ∧ st.H 0 = some (.cells (some 22) (cGi br)) ∧ st.H 1 = some (.cells (some 25) (cGa cy)) ∧ st.tm 2 = .ptr 0 0 ∧ st.tm 3 = .ptr 1 0 ∧ st.tm 5 = .lit (.int .i64 ly) ∧ st.tm 6 = .lit (.int .i64 eX) ∧ K3 (f3 p3 eX ly)) := ⟨_, rfl⟩
 refine loopK mixed (by kernel_rfl) I3 (Int.toNat (3 - 0)) (by rw [jc]; refine ⟨Int.toNat (3 - 0), 0, 0, rfl, (by rfl), rfl, rfl, (show 5 ≤ 5 by omega), ?_, ?_, ?_, ?_, ?_, ?_, h⟩ <;> first | (simp only [ua, nm, seval] <;> rfl) | rfl) ?_
 rintro m ⟨tm, H, gF, df⟩ hinv
 rw [jc] at hinv
 obtain ⟨p3, eX, ly, rfl, ec, eW, hdf, su, H5, H6, e7, e8, e9, aW, h⟩ := hinv
 simp only at hdf su H5 H6 e7 e8 e9 aW
 have fP := eN (m := 5) (b := gF) (by omega)
 subst hdf ss
 cases p3 with
 | zero =>
  have fk : (decide (eX < 3)) = false := tK eW
  simp only [Ah, hs, reduceCtorEq] at h
  replace h := rl _ h
  try dsimp only at h
  try simp only [hs] at h
  try simp only [vz, tyf, g4, fP, e7, e8, e9, aW, H5, H6, fk, nm, seval]
  refine bP (x := (.lit (.int .i64 ly))) (by first | (simp only [Tryz.results74, resV, resL, ar, bV, bU, uw, cr, tyf, g4, fP, H5, H6, fk, nm, seval] <;> rfl) | rfl) ?_
  obtain rfl := kF _ h
  refine bZ ?_ ?_
  ·simp only [tre, au, Bool.and_self]
  ·first | (simp only [outV, uw, cA, cr, tyf, nrm, av, g4, fP, e7, e8, e9, aW, H5, H6, fk, nm, seval] <;> rfl) | rfl
 | succ p3 =>
  have cV : (decide (eX < 3)) = true := tM eW
  have iM := tN ec eW g4
  simp only [Ah, hs, reduceCtorEq] at h
  simp only [vz, tyf, g4, fP, e7, e8, e9, aW, H5, H6, cV, iM, nm, seval]
  refine fu (fun tm => tm 2 = .ptr 0 0 ∧ tm 3 = .ptr 1 0 ∧ tm 5 = .lit (.int .i64 ly) ∧ tm 6 = .lit (.int .i64 eX) ∧ True) (by refine ⟨e7, e8, e9, aW, trivial⟩ <;> first | (simp only [ua, fP, e7, e8, e9, aW, H5, H6, cV, iM, nm, seval] <;> rfl) | rfl) ?_
  rintro tm ⟨bK, bw, bI, cv, _⟩
  cases dc : (eX == 0)
  ·simp only [dc, hs] at h
   have GO := And.intro g4 (And.intro fP (And.intro H5 (And.intro H6 (And.intro cV (And.intro iM dc)))))
   cases fa : (eX == 1)
   ·simp only [fa, hs] at h
    cases gJ : (eX == 2)
    ·simp only [gJ, hs] at h
     exact absurd h v5
    simp only [gJ, hs] at h
    simp only [vz, tyf, GO, bK, bw, bI, cv, fa, gJ, (fe gJ), (hX gJ), nm, seval]
    exact ⟨p3, Nat.lt_succ_self _, by rw [jc]; refine ⟨p3, eX + 1, i64.wrap (ly + (if (i64.wrap (br.a2 * cy.a2.Low)) < (i64.wrap (br.a2 * cy.a2.High)) then (i64.wrap (br.a2 * cy.a2.High)) else (i64.wrap (br.a2 * cy.a2.Low)))), rfl, iZ ec, ja eW, rfl, (show 5 ≤ gF + 25 by omega), ?_, ?_, bK, bw, ?_, ?_, h⟩ <;> first | (simp only [ua, GO, bK, bw, bI, cv, fa, gJ, nm, seval] <;> rfl) | rfl⟩
   simp only [fa, hs] at h
   simp only [vz, tyf, GO, bK, bw, bI, cv, fa, (fg fa), (ia fa), nm, seval]
   exact ⟨p3, Nat.lt_succ_self _, by rw [jc]; refine ⟨p3, eX + 1, i64.wrap (ly + (if (i64.wrap (br.a1 * cy.a1.Low)) < (i64.wrap (br.a1 * cy.a1.High)) then (i64.wrap (br.a1 * cy.a1.High)) else (i64.wrap (br.a1 * cy.a1.Low)))), rfl, iZ ec, ja eW, rfl, (show 5 ≤ gF + 25 by omega), ?_, ?_, bK, bw, ?_, ?_, h⟩ <;> first | (simp only [ua, GO, bK, bw, bI, cv, fa, nm, seval] <;> rfl) | rfl⟩
  simp only [dc, hs] at h
  have Xn := And.intro g4 (And.intro fP (And.intro H5 (And.intro H6 (And.intro cV (And.intro iM dc)))))
  simp only [vz, tyf, Xn, bK, bw, bI, cv, (fh dc), (ib dc), nm, seval]
  exact ⟨p3, Nat.lt_succ_self _, by rw [jc]; refine ⟨p3, eX + 1, i64.wrap (ly + (if (i64.wrap (br.a0 * cy.a0.Low)) < (i64.wrap (br.a0 * cy.a0.High)) then (i64.wrap (br.a0 * cy.a0.High)) else (i64.wrap (br.a0 * cy.a0.Low)))), rfl, iZ ec, ja eW, rfl, (show 5 ≤ gF + 25 by omega), ?_, ?_, bK, bw, ?_, ?_, h⟩ <;> first | (simp only [ua, Xn, bK, bw, bI, cv, nm, seval] <;> rfl) | rfl⟩
def Ai (ai : Gi) (c2 : Int × Int) : List Gt → Int → Option (LOut (Bool) (Unit))
 | [], DA => some (.go ())
 | e1 :: p1, DA => Option.bind (GN ai e1.pg) (fun r3 => cond (decide ((i64.wrap (r3 + c2.2)) ≥ c2.1)) (some (.ret false)) (Ai ai c2 p1 (DA + 1)))
def xe (ae : Gs) (ai : Gi) (r1 : Ga) : Nat → Int → Int → Int → Option (LOut (Bool) (Int × Int))
 | 0, i9, eM, qA => some (.go (eM, qA))
 | k0 + 1, i9, eM, qA => cond (i9 == 0) (xe ae ai r1 k0 (i9 + 1) (i64.wrap (eM + (if (i64.wrap (ai.a0 * r1.a0.High)) < (i64.wrap (ai.a0 * r1.a0.Low)) then (i64.wrap (ai.a0 * r1.a0.High)) else (i64.wrap (ai.a0 * r1.a0.Low))))) (i64.wrap (qA + (i64.wrap (ae.Off * (if ai.a0 < (i64.wrap (-ai.a0)) then (i64.wrap (-ai.a0)) else ai.a0)))))) (cond (i9 == 1) (xe ae ai r1 k0 (i9 + 1) (i64.wrap (eM + (if (i64.wrap (ai.a1 * r1.a1.High)) < (i64.wrap (ai.a1 * r1.a1.Low)) then (i64.wrap (ai.a1 * r1.a1.High)) else (i64.wrap (ai.a1 * r1.a1.Low))))) (i64.wrap (qA + (i64.wrap (ae.Off * (if ai.a1 < (i64.wrap (-ai.a1)) then (i64.wrap (-ai.a1)) else ai.a1)))))) (cond (i9 == 2) (xe ae ai r1 k0 (i9 + 1) (i64.wrap (eM + (if (i64.wrap (ai.a2 * r1.a2.High)) < (i64.wrap (ai.a2 * r1.a2.Low)) then (i64.wrap (ai.a2 * r1.a2.High)) else (i64.wrap (ai.a2 * r1.a2.Low))))) (i64.wrap (qA + (i64.wrap (ae.Off * (if ai.a2 < (i64.wrap (-ai.a2)) then (i64.wrap (-ai.a2)) else ai.a2)))))) (none)))
def Aj (ae : Gs) (ai : Gi) : Option (Bool) := Option.bind (Cs ae) (fun r1 => cond (boundOk 3) (aK (xe ae ai r1 (Int.toNat (3 - 0)) 0 0 0) (fun r6 => some r6) (fun c2 => cond (lenOk ae.Tins) (aK (Ai ai c2 ae.Tins 0) (fun r5 => some r5) (fun c4 => some true) (fun _ _ => none)) none) (fun _ _ => none)) none)
theorem Xo (ae : Gs) (ai : Gi) (R : Bool) (h : Aj ae ai = some R) : ad Tryz.prog G0 40 [.agg (cGs ae), .agg (cGi ai)] (.tree (.lit (.bool R))) := by
 refine ad.runR mixed Tryz.call40 Tryz.func40 rfl (by simp [Tryz.ntmps40]; kernel_rfl) ?_
 obtain ⟨KF, h, kF, kN⟩ := cQ h
 simp only [Aj] at h
 obtain ⟨r7, o8, h⟩ := optI h kN
 try simp only [hs] at h
 simp only [vz, qr, tyf, nm, seval]
 refine ktA (zsl _ _ o8) ?_
 refine aV (fun tm => tm 2 = .ptr 0 0 ∧ tm 3 = .ptr 1 0 ∧ tm 11 = .agg (cGa r7) ∧ True) (by refine ⟨?_, ?_, ?_, trivial⟩ <;> first | (simp only [ua, nm, seval] <;> rfl) | rfl) ?_
 rintro tm ⟨e9, aW, aX, _⟩
 cases rI : (boundOk 3)
 ·simp only [rI, hs] at h
  exact absurd h kN
 simp only [rI, hs] at h
 simp only [vz, qr, tyf, e9, aW, aX, rI, nm, seval]
 obtain ⟨K12, h, kR12, QK, kB12, QL⟩ := eO h kN
 obtain ⟨f12, QM, h⟩ := call4 h
 obtain ⟨I12, qB⟩ : ∃ I : Nat → St → Prop, I = (fun m st => ∃ (pj : Nat) (db : Int) (dT : Int) (dU : Int), pj = m ∧ loOk db = true ∧ Int.toNat (3 - db) = pj ∧ st.df = [] ∧ 10 ≤ st.nx ∧ st.H 0 = some (.cells (some 28) (cGs ae)) ∧ st.H 1 = some (.cells (some 22) (cGi ai)) ∧ st.H 5 = some (.cells (some 25) (cGa r7)) ∧ st.tm 2 = .ptr 0 0 ∧ st.tm 3 = .ptr 1 0 ∧ st.tm 5 = .ptr 5 0 ∧ st.tm 6 = .lit (.int .i64 dT) ∧ st.tm 7 = .lit (.int .i64 dU) ∧ st.tm 8 = .lit (.int .i64 db) ∧ K12 (f12 pj db dT dU)) := ⟨_, rfl⟩
 refine loopK mixed (by kernel_rfl) I12 (Int.toNat (3 - 0)) (by rw [qB]; refine ⟨Int.toNat (3 - 0), 0, 0, 0, rfl, (by rfl), rfl, rfl, (show 10 ≤ 10 by omega), ?_, ?_, ?_, e9, aW, ?_, ?_, ?_, ?_, h⟩ <;> first | (simp only [ua, e9, aW, aX, nm, seval] <;> rfl) | rfl) ?_
 rintro m ⟨tm, H, ky, df⟩ hinv
 rw [qB] at hinv
 obtain ⟨pj, db, dT, dU, rfl, tk, nW, hdf, QN, Ak, Al, nV, bI, cv, cT, cB, bJ, bR, h⟩ := hinv
 simp only at hdf QN Ak Al nV bI cv cT cB bJ bR
 have tl := eN (m := 10) (b := ky) (by omega)
 subst hdf QM
 cases pj with
 | zero =>
  have dY : (decide (db < 3)) = false := tK nW
  simp only [xe, hs, reduceCtorEq] at h
  replace h := QK _ h
  try dsimp only at h
  try simp only [hs] at h
  cases xf : (lenOk ae.Tins)
  ·simp only [xf, hs] at h
   exact absurd h kN
  simp only [xf, hs] at h
  simp only [vz, qr, tyf, rI, tl, bI, cv, cT, cB, bJ, bR, Ak, Al, nV, dY, xf, nm, seval]
  obtain ⟨K25, h, QO, QP, kB25, QQ⟩ := eO h kN
  obtain ⟨DB, QR, h⟩ := call2 h
  obtain ⟨I25, xg⟩ : ∃ I : Nat → St → Prop, I = (fun m st => ∃ (rJ : List Gt) (gg : Int), m = List.length rJ ∧ 0 ≤ gg ∧ List.drop (Int.toNat gg) ae.Tins = rJ ∧ st.df = [] ∧ ky + 3 ≤ st.nx ∧ st.H 0 = some (.cells (some 28) (cGs ae)) ∧ st.H 1 = some (.cells (some 22) (cGi ai)) ∧ st.tm 2 = .ptr 0 0 ∧ st.tm 3 = .ptr 1 0 ∧ st.tm 6 = .lit (.int .i64 dT) ∧ st.tm 7 = .lit (.int .i64 dU) ∧ st.tm 9 = .lit (.int .i64 gg) ∧ K25 (DB rJ gg)) := ⟨_, rfl⟩
  refine loopK mixed (by kernel_rfl) I25 (List.length ae.Tins) (by rw [xg]; refine ⟨ae.Tins, 0, rfl, Int.le_refl _, rfl, rfl, (show ky + 3 ≤ ky + 3 by omega), ?_, ?_, bI, cv, cB, bJ, ?_, h⟩ <;> first | (simp only [ua, tl, bI, cv, cT, cB, bJ, bR, Ak, Al, nV, dY, nm, seval] <;> rfl) | rfl) ?_
  rintro m ⟨tm, H, xh, df⟩ hinv
  rw [xg] at hinv
  obtain ⟨rJ, gg, rfl, nX, qC, hdf, QS, DC, DD, bW, cC, cE, fC, iS, h⟩ := hinv
  simp only at hdf QS DC DD bW cC cE fC iS
  have sx := eN (m := 10) (b := xh) (by omega)
  have GP := oM (a := ky) (m := 3) (b := xh) (by omega)
  subst hdf QR
  cases rJ with
  | nil =>
   have Cd : (decide (gg < (List.length ae.Tins : Int))) = false := iG nX qC
   simp only [Ai, hs, reduceCtorEq] at h
   replace h := QP _ h
   try dsimp only at h
   try simp only [hs] at h
   try simp only [vz, qr, tyf, rI, tl, dY, xf, sx, GP, bW, cC, cE, fC, iS, DC, DD, Cd, nm, seval]
   obtain rfl := kF _ h
   exact bl Tryz.results40 rfl
  | cons cq rJ =>
   have j9 : (decide (gg < (List.length ae.Tins : Int))) = true := iH nX qC
   have GQ := fp nX qC
   have QT := iI nX qC xf
   simp only [Ai, hs, reduceCtorEq] at h
   simp only [vz, qr, tyf, rI, tl, dY, xf, sx, GP, bW, cC, cE, fC, iS, DC, DD, j9, (bB GQ), QT, nm, seval]
   refine fu (fun tm => tm 2 = .ptr 0 0 ∧ tm 3 = .ptr 1 0 ∧ tm 6 = .lit (.int .i64 dT) ∧ tm 7 = .lit (.int .i64 dU) ∧ tm 9 = .lit (.int .i64 gg) ∧ True) (by refine ⟨bW, cC, cE, fC, iS, trivial⟩ <;> first | (simp only [ua, tl, dY, sx, GP, bW, cC, cE, fC, iS, DC, DD, j9, QT, nm, seval] <;> rfl) | rfl) ?_
   rintro tm ⟨dp, dZ, eT, jd, rK, _⟩
   have DE := And.intro rI (And.intro tl (And.intro dY (And.intro xf (And.intro sx (And.intro GP (And.intro DC (And.intro DD (And.intro j9 QT))))))))
   obtain ⟨Xp, o47, h⟩ := optI h QQ
   try simp only [hs] at h
   simp only [vz, qr, tyf, DE, (bB GQ), dp, dZ, eT, jd, rK, nm, seval]
   refine dktA (zoq _ _ _ o47) ?_
   refine aV (fun tm => tm 2 = .ptr 0 0 ∧ tm 3 = .ptr 1 0 ∧ tm 6 = .lit (.int .i64 dT) ∧ tm 7 = .lit (.int .i64 dU) ∧ tm 9 = .lit (.int .i64 gg) ∧ tm 62 = .lit (.int .i64 Xp) ∧ True) (by refine ⟨dp, dZ, eT, jd, rK, ?_, trivial⟩ <;> first | (simp only [ua, DE, dp, dZ, eT, jd, rK, nm, seval] <;> rfl) | rfl) ?_
   rintro tm ⟨fL, ed, dj, eu, en, eU, _⟩
   cases DF : (decide ((i64.wrap (Xp + dU)) ≥ dT))
   ·simp only [DF, hs] at h
    simp only [vz, qr, tyf, DE, (bB GQ), fL, ed, dj, eu, en, eU, DF, nm, seval]
    exact ⟨List.length rJ, Nat.lt_succ_self _, by rw [xg]; refine ⟨rJ, gg + 1, rfl, Int.le_trans nX (Int.le_add_one (Int.le_refl _)), eE nX qC, rfl, (show ky + 3 ≤ xh + 20 by omega), ?_, ?_, fL, ed, dj, eu, ?_, h⟩ <;> first | (simp only [ua, DE, fL, ed, dj, eu, en, eU, DF, nm, seval] <;> rfl) | rfl⟩
   simp only [DF, hs] at h
   try simp only [vz, qr, tyf, DE, (bB GQ), fL, ed, dj, eu, en, eU, DF, nm, seval]
   replace h := QO _ h
   try dsimp only at h
   obtain rfl := kF _ h
   exact bl Tryz.results40 rfl
 | succ pj =>
  have QU : (decide (db < 3)) = true := tM nW
  have QV := tN tk nW rI
  simp only [xe, hs, reduceCtorEq] at h
  simp only [vz, qr, tyf, rI, tl, bI, cv, cT, cB, bJ, bR, Ak, Al, nV, QU, QV, nm, seval]
  refine fu (fun tm => tm 2 = .ptr 0 0 ∧ tm 3 = .ptr 1 0 ∧ tm 5 = .ptr 5 0 ∧ tm 6 = .lit (.int .i64 dT) ∧ tm 7 = .lit (.int .i64 dU) ∧ tm 8 = .lit (.int .i64 db) ∧ True) (by refine ⟨bI, cv, cT, cB, bJ, bR, trivial⟩ <;> first | (simp only [ua, tl, bI, cv, cT, cB, bJ, bR, Ak, Al, nV, QU, QV, nm, seval] <;> rfl) | rfl) ?_
  rintro tm ⟨fD, ie, eP, fT, fU, eV, _⟩
  have pk := And.intro rI (And.intro tl (And.intro Ak (And.intro Al (And.intro nV (And.intro QU QV)))))
  cases kO : (db == 0)
  ·simp only [kO, hs] at h
   cases ni : (db == 1)
   ·simp only [ni, hs] at h
    cases rL : (db == 2)
    ·simp only [rL, hs] at h
     exact absurd h QL
    simp only [rL, hs] at h
    simp only [vz, qr, tyf, pk, fD, ie, eP, fT, fU, eV, kO, ni, rL, (fe rL), (hX rL), nm, seval]
    refine fu (fun tm => tm 2 = .ptr 0 0 ∧ tm 3 = .ptr 1 0 ∧ tm 5 = .ptr 5 0 ∧ tm 6 = .lit (.int .i64 (i64.wrap (dT + (if (i64.wrap (ai.a2 * r7.a2.High)) < (i64.wrap (ai.a2 * r7.a2.Low)) then (i64.wrap (ai.a2 * r7.a2.High)) else (i64.wrap (ai.a2 * r7.a2.Low)))))) ∧ tm 7 = .lit (.int .i64 dU) ∧ tm 8 = .lit (.int .i64 db) ∧ True) (by refine ⟨fD, ie, eP, ?_, fU, eV, trivial⟩ <;> first | (simp only [ua, pk, fD, ie, eP, fT, fU, eV, kO, ni, rL, nm, seval] <;> rfl) | rfl) ?_
    rintro tm ⟨gD, iY, gm, eQ, fj, eG, _⟩
    simp only [vz, qr, tyf, pk, kO, ni, rL, (fe rL), (hX rL), gD, iY, gm, eQ, fj, eG, nm, seval]
    exact ⟨pj, Nat.lt_succ_self _, by rw [qB]; refine ⟨pj, db + 1, i64.wrap (dT + (if (i64.wrap (ai.a2 * r7.a2.High)) < (i64.wrap (ai.a2 * r7.a2.Low)) then (i64.wrap (ai.a2 * r7.a2.High)) else (i64.wrap (ai.a2 * r7.a2.Low)))), i64.wrap (dU + (i64.wrap (ae.Off * (if ai.a2 < (i64.wrap (-ai.a2)) then (i64.wrap (-ai.a2)) else ai.a2)))), rfl, iZ tk, ja nW, rfl, (show 10 ≤ ky + 39 by omega), ?_, ?_, ?_, gD, iY, gm, eQ, ?_, ?_, h⟩ <;> first | (simp only [ua, pk, kO, ni, rL, gD, iY, gm, eQ, fj, eG, nm, seval] <;> rfl) | rfl⟩
   simp only [ni, hs] at h
   simp only [vz, qr, tyf, pk, fD, ie, eP, fT, fU, eV, kO, ni, (fg ni), (ia ni), nm, seval]
   refine fu (fun tm => tm 2 = .ptr 0 0 ∧ tm 3 = .ptr 1 0 ∧ tm 5 = .ptr 5 0 ∧ tm 6 = .lit (.int .i64 (i64.wrap (dT + (if (i64.wrap (ai.a1 * r7.a1.High)) < (i64.wrap (ai.a1 * r7.a1.Low)) then (i64.wrap (ai.a1 * r7.a1.High)) else (i64.wrap (ai.a1 * r7.a1.Low)))))) ∧ tm 7 = .lit (.int .i64 dU) ∧ tm 8 = .lit (.int .i64 db) ∧ True) (by refine ⟨fD, ie, eP, ?_, fU, eV, trivial⟩ <;> first | (simp only [ua, pk, fD, ie, eP, fT, fU, eV, kO, ni, nm, seval] <;> rfl) | rfl) ?_
   rintro tm ⟨fN, fx, eJ, eY, gH, iN, _⟩
   simp only [vz, qr, tyf, pk, kO, ni, (fg ni), (ia ni), fN, fx, eJ, eY, gH, iN, nm, seval]
   exact ⟨pj, Nat.lt_succ_self _, by rw [qB]; refine ⟨pj, db + 1, i64.wrap (dT + (if (i64.wrap (ai.a1 * r7.a1.High)) < (i64.wrap (ai.a1 * r7.a1.Low)) then (i64.wrap (ai.a1 * r7.a1.High)) else (i64.wrap (ai.a1 * r7.a1.Low)))), i64.wrap (dU + (i64.wrap (ae.Off * (if ai.a1 < (i64.wrap (-ai.a1)) then (i64.wrap (-ai.a1)) else ai.a1)))), rfl, iZ tk, ja nW, rfl, (show 10 ≤ ky + 39 by omega), ?_, ?_, ?_, fN, fx, eJ, eY, ?_, ?_, h⟩ <;> first | (simp only [ua, pk, kO, ni, fN, fx, eJ, eY, gH, iN, nm, seval] <;> rfl) | rfl⟩
  simp only [kO, hs] at h
  simp only [vz, qr, tyf, pk, fD, ie, eP, fT, fU, eV, kO, (fh kO), (ib kO), nm, seval]
  refine fu (fun tm => tm 2 = .ptr 0 0 ∧ tm 3 = .ptr 1 0 ∧ tm 5 = .ptr 5 0 ∧ tm 6 = .lit (.int .i64 (i64.wrap (dT + (if (i64.wrap (ai.a0 * r7.a0.High)) < (i64.wrap (ai.a0 * r7.a0.Low)) then (i64.wrap (ai.a0 * r7.a0.High)) else (i64.wrap (ai.a0 * r7.a0.Low)))))) ∧ tm 7 = .lit (.int .i64 dU) ∧ tm 8 = .lit (.int .i64 db) ∧ True) (by refine ⟨fD, ie, eP, ?_, fU, eV, trivial⟩ <;> first | (simp only [ua, pk, fD, ie, eP, fT, fU, eV, kO, nm, seval] <;> rfl) | rfl) ?_
  rintro tm ⟨iO, jb, jP, mo, nd, il, _⟩
  simp only [vz, qr, tyf, pk, kO, (fh kO), (ib kO), iO, jb, jP, mo, nd, il, nm, seval]
  exact ⟨pj, Nat.lt_succ_self _, by rw [qB]; refine ⟨pj, db + 1, i64.wrap (dT + (if (i64.wrap (ai.a0 * r7.a0.High)) < (i64.wrap (ai.a0 * r7.a0.Low)) then (i64.wrap (ai.a0 * r7.a0.High)) else (i64.wrap (ai.a0 * r7.a0.Low)))), i64.wrap (dU + (i64.wrap (ae.Off * (if ai.a0 < (i64.wrap (-ai.a0)) then (i64.wrap (-ai.a0)) else ai.a0)))), rfl, iZ tk, ja nW, rfl, (show 10 ≤ ky + 39 by omega), ?_, ?_, ?_, iO, jb, jP, mo, ?_, ?_, h⟩ <;> first | (simp only [ua, pk, kO, iO, jb, jP, mo, nd, il, nm, seval] <;> rfl) | rfl⟩


def dz (x y : Int) : Nat → Int → List Gi
 | 0, _ => []
 | k + 1, c => ⟨x, y, c⟩ :: dz x y k (c + 1)
def dy (x : Int) : Nat → Int → List Gi
 | 0, _ => []
 | k + 1, c => dz x c 5 (-2) ++ dy x k (c + 1)
def dx : Nat → Int → List Gi
 | 0, _ => []
 | k + 1, c => dy c 5 (-2) ++ dx k (c + 1)
theorem QW : DG = some (dx 5 (-2)) := by kernel_rfl
def vLow (d : Gi) (c : Ga) : Int := match nY d c with
 | some v => v.Low
 | none => 0
def vHigh (d : Gi) (c : Ga) : Int := match nY d c with
 | some v => v.High
 | none => 0
theorem xi (d : Gi) (c : Ga) : nY d c = some ⟨vLow d c, vHigh d c⟩ := by kernel_rfl
def dSize (d : Gi) : Int := match xj d with
 | some v => v
 | none => 0
theorem DH (d : Gi) : xj d = some (dSize d) := rfl
def partB (s : Gs) (d : Gi) (p : List Gt) : Bool := p.all fun t => !decide (i64.wrap (vHigh d t.pg + i64.wrap (s.Off * dSize d)) ≥ vLow d (aimS s))
theorem DI (s : Gs) (d : Gi) : ∀ p, fdL s (aimS s) d p = some (partB s d p)
 | [] => rfl
 | t :: p => by
  simp only [fdL, xi, DH, Option.bind_some, DI s d p, partB, List.all_cons]
  cases decide (i64.wrap (vHigh d t.pg + i64.wrap (s.Off * dSize d)) ≥ vLow d (aimS s)) <;> rfl
theorem DJ (s : Gs) : ∀ L, fdirL s (aimS s) L = some (match L.find? fun d => partB s d s.Tins with
  | some d => (d, true)
  | none => (⟨0, 0, 0⟩, false))
 | [] => rfl
 | d :: L => by
  simp only [fdirL, DI, Option.bind_some, DJ s L, List.find?_cons]
  cases partB s d s.Tins <;> rfl
theorem QX (d : Gi) (c : Ga) : GN d c = some (vHigh d c) := by kernel_rfl
def offS (s : Gs) (d : Gi) : Int := i64.wrap (i64.wrap (i64.wrap (0 + i64.wrap (s.Off * (if d.a0 < i64.wrap (-d.a0) then i64.wrap (-d.a0) else d.a0))) + i64.wrap (s.Off * (if d.a1 < i64.wrap (-d.a1) then i64.wrap (-d.a1) else d.a1))) + i64.wrap (s.Off * (if d.a2 < i64.wrap (-d.a2) then i64.wrap (-d.a2) else d.a2)))
theorem QY (s : Gs) (d : Gi) (am : Ga) : xe s d am 3 0 0 0 = some (.go (vLow d am, offS s d)) := by kernel_rfl
theorem size3 (a : Int) (h : -2 ≤ a ∧ a ≤ 2) : ∃ m : Int, (if a < i64.wrap (-a) then i64.wrap (-a) else a) = m ∧ (m = 0 ∨ m = 1 ∨ m = 2) := by
 rw [cF (by omega) (by omega)]
 refine ⟨_, rfl, ?_⟩
 split <;> omega
theorem DK {s : Gs} (hs : ShOk s) {d : Gi} (h0 : -2 ≤ d.a0 ∧ d.a0 ≤ 2) (h1 : -2 ≤ d.a1 ∧ d.a1 ≤ 2) (h2 : -2 ≤ d.a2 ∧ d.a2 ≤ 2) : offS s d = i64.wrap (s.Off * dSize d) := by
 have ho := hs.off
 obtain ⟨m0, e0, k0⟩ := size3 d.a0 h0
 obtain ⟨m1, e1, k1⟩ := size3 d.a1 h1
 obtain ⟨m2, e2, k2⟩ := size3 d.a2 h2
 have hd : dSize d = m0 + m1 + m2 := by
  show i64.wrap (i64.wrap (i64.wrap (0 + (if d.a0 < i64.wrap (-d.a0) then i64.wrap (-d.a0) else d.a0)) + (if d.a1 < i64.wrap (-d.a1) then i64.wrap (-d.a1) else d.a1)) + (if d.a2 < i64.wrap (-d.a2) then i64.wrap (-d.a2) else d.a2)) = _
  rw [e0, e1, e2, cF (n := 0 + m0) (by omega) (by omega), cF (n := 0 + m0 + m1) (by omega) (by omega), cF (by omega) (by omega)]
  omega
 have hm : ∀ m : Int, (m = 0 ∨ m = 1 ∨ m = 2) → 0 ≤ s.Off * m ∧ s.Off * m ≤ 40 := fun m hm => by
  rcases hm with rfl | rfl | rfl <;> omega
 have a0 := hm m0 k0
 have a1 := hm m1 k1
 have a2 := hm m2 k2
 rw [hd]
 unfold offS
 rw [e0, e1, e2, cF (n := s.Off * m0) (by omega) (by omega), cF (n := s.Off * m1) (by omega) (by omega), cF (n := s.Off * m2) (by omega) (by omega), cF (n := 0 + s.Off * m0) (by omega) (by omega), cF (n := 0 + s.Off * m0 + s.Off * m1) (by omega) (by omega)]
 rw [Int.mul_add, Int.mul_add, Int.zero_add]
theorem Xq (s : Gs) {d : Gi} (ho : offS s d = i64.wrap (s.Off * dSize d)) : ∀ (p : List Gt) (c : Int), Ai d (vLow d (aimS s), offS s d) p c = goB (partB s d p)
 | [], c => rfl
 | t :: p, c => by
  have ih := Xq s ho p (c + 1)
  rw [ho] at ih ⊢
  simp only [Ai, QX, Option.bind_some, ih]
  rw [show partB s d (t :: p) = (!decide (i64.wrap (vHigh d t.pg + i64.wrap (s.Off * dSize d)) ≥ vLow d (aimS s)) && partB s d p) from rfl]
  cases decide (i64.wrap (vHigh d t.pg + i64.wrap (s.Off * dSize d)) ≥ vLow d (aimS s)) <;> rfl
theorem QZ {s : Gs} (hs : ShOk s) (h : lenOk s.Tins = true) {d : Gi} (h0 : -2 ≤ d.a0 ∧ d.a0 ≤ 2) (h1 : -2 ≤ d.a1 ∧ d.a1 ≤ 2) (h2 : -2 ≤ d.a2 ∧ d.a2 ≤ 2) : Aj s d = some (partB s d s.Tins) := by
 unfold Aj
 rw [Ra hs, Option.bind_some, show Int.toNat (3 - 0) = 3 from rfl, QY, h, show boundOk 3 = true from rfl]
 simp only [cond_true, aK, Xq s (DK hs h0 h1 h2)]
 cases partB s d s.Tins <;> rfl
def zB (d : Gi) : Bool := d.a0 == 0 && (d.a1 == 0 && (d.a2 == 0))
theorem xk {a : Int} (h : -2 ≤ a ∧ a ≤ 2) : inB (-2) 2 a = true := mr.2 h
theorem Rb {d : Gi} (h0 : -2 ≤ d.a0 ∧ d.a0 ≤ 2) (h1 : -2 ≤ d.a1 ∧ d.a1 ≤ 2) (h2 : -2 ≤ d.a2 ∧ d.a2 ≤ 2) : uz d = some (!zB d) := by
 unfold uz
 rw [show Int.toNat (3 - 0) = 3 from rfl, show boundOk 3 = true from rfl]
 simp only [uy, ru, xk h0, xk h1, xk h2, Option.bind_some, cond_true, cond_false, Int.reduceAdd, Int.reduceBEq, aK]
 rfl
theorem Rc {s : Gs} (hs : ShOk s) {d : Gi} (hz : zB d = true) : partB s d s.Tins = false := by
 have hN := hs.n
 obtain ⟨x, y, z⟩ := d
 simp only [zB, Bool.and_eq_true, beq_iff_eq] at hz
 obtain ⟨rfl, rfl, rfl⟩ := hz
 cases ht : s.Tins with
 | nil => rw [ht] at hN; simp at hN
 | cons t p =>
  have hv : ∀ c : Ga, nY ⟨0, 0, 0⟩ c = some ⟨0, 0⟩ := fun c => by
   unfold nY
   simp only [Int.zero_mul]
   rfl
  have hl : vLow ⟨0, 0, 0⟩ (aimS s) = 0 := by unfold vLow; rw [hv]
  have hh : vHigh ⟨0, 0, 0⟩ t.pg = 0 := by unfold vHigh; rw [hv]
  have hz : dSize ⟨0, 0, 0⟩ = 0 := rfl
  simp only [partB, List.all_cons, hl, hh, hz, Int.mul_zero]
  rfl
def foundP (s : Gs) : Gi × Bool := match (dx 5 (-2)).find? fun d => partB s d s.Tins with
 | some d => (d, true)
 | none => (⟨0, 0, 0⟩, false)
theorem Rd {s : Gs} (h : lenOk s.Tins = true) : Am s = some (cond (sheetB s) ((foundP s).1, cond (foundP s).2 0 5) (⟨0, 0, 0⟩, 2)) := by
 unfold Am
 rw [Q3 h, Option.bind_some]
 cases hb : sheetB s with
 | false => rfl
 | true =>
  unfold GR
  rw [C4 (ShOk.of hb), QW, h]
  simp only [cond_true, Option.bind_some, DJ]
  unfold foundP
  cases (dx 5 (-2)).find? fun d => partB s d s.Tins <;> rfl
def hiI (w : Int) (x : GSpan) : Int := if w * x.Low < w * x.High then w * x.High else w * x.Low
def loI (w : Int) (x : GSpan) : Int := if w * x.High < w * x.Low then w * x.High else w * x.Low
def absW (w : Int) : Int := if w < -w then -w else w
theorem five {w : Int} (h : -2 ≤ w ∧ w ≤ 2) : w = -2 ∨ w = -1 ∨ w = 0 ∨ w = 1 ∨ w = 2 := by omega
theorem hi_ge {w : Int} (h : -2 ≤ w ∧ w ≤ 2) {x : GSpan} {v : Int} (h1 : x.Low ≤ v) (h2 : v ≤ x.High) : w * v ≤ hiI w x := by
 unfold hiI
 rcases five h with rfl | rfl | rfl | rfl | rfl <;> split <;> omega
theorem lo_le {w : Int} (h : -2 ≤ w ∧ w ≤ 2) {x : GSpan} {v : Int} (h1 : x.Low ≤ v) (h2 : v ≤ x.High) : loI w x ≤ w * v := by
 unfold loI
 rcases five h with rfl | rfl | rfl | rfl | rfl <;> split <;> omega
theorem hi_w {w : Int} (h : -2 ≤ w ∧ w ≤ 2) {x : GSpan} (h1 : 0 ≤ x.Low ∧ x.Low ≤ x.High ∧ x.High ≤ 99) : (if i64.wrap (w * x.Low) < i64.wrap (w * x.High) then i64.wrap (w * x.High) else i64.wrap (w * x.Low)) = hiI w x ∧ -200 ≤ hiI w x ∧ hiI w x ≤ 200 := by
 have e : -200 ≤ w * x.Low ∧ w * x.Low ≤ 200 ∧ -200 ≤ w * x.High ∧ w * x.High ≤ 200 := by rcases five h with rfl | rfl | rfl | rfl | rfl <;> omega
 rw [cF (n := w * x.Low) (by omega) (by omega), cF (n := w * x.High) (by omega) (by omega)]
 refine ⟨rfl, ?_⟩
 unfold hiI
 split <;> omega
theorem lo_w {w : Int} (h : -2 ≤ w ∧ w ≤ 2) {x : GSpan} (h1 : 0 ≤ x.Low ∧ x.Low ≤ x.High ∧ x.High ≤ 99) : (if i64.wrap (w * x.High) < i64.wrap (w * x.Low) then i64.wrap (w * x.High) else i64.wrap (w * x.Low)) = loI w x ∧ -200 ≤ loI w x ∧ loI w x ≤ 200 := by
 have e : -200 ≤ w * x.Low ∧ w * x.Low ≤ 200 ∧ -200 ≤ w * x.High ∧ w * x.High ≤ 200 := by rcases five h with rfl | rfl | rfl | rfl | rfl <;> omega
 rw [cF (n := w * x.Low) (by omega) (by omega), cF (n := w * x.High) (by omega) (by omega)]
 refine ⟨rfl, ?_⟩
 unfold loI
 split <;> omega
theorem hi_e {w : Int} (h : -2 ≤ w ∧ w ≤ 2) {x : GSpan} (h1 : 0 ≤ x.Low ∧ x.Low ≤ x.High ∧ x.High ≤ 99) {inst : Decidable (i64.wrap (w * x.Low) < i64.wrap (w * x.High))} : @ite Int (i64.wrap (w * x.Low) < i64.wrap (w * x.High)) inst (i64.wrap (w * x.High)) (i64.wrap (w * x.Low)) = hiI w x := by
 rw [← (hi_w h h1).1]
 congr
theorem lo_e {w : Int} (h : -2 ≤ w ∧ w ≤ 2) {x : GSpan} (h1 : 0 ≤ x.Low ∧ x.Low ≤ x.High ∧ x.High ≤ 99) {inst : Decidable (i64.wrap (w * x.High) < i64.wrap (w * x.Low))} : @ite Int (i64.wrap (w * x.High) < i64.wrap (w * x.Low)) inst (i64.wrap (w * x.High)) (i64.wrap (w * x.Low)) = loI w x := by
 rw [← (lo_w h h1).1]
 congr
theorem abs_e {w : Int} (h : -2 ≤ w ∧ w ≤ 2) {inst : Decidable (w < i64.wrap (-w))} : @ite Int (w < i64.wrap (-w)) inst (i64.wrap (-w)) w = absW w := by
 have e := cF (n := -w) (by omega) (by omega)
 unfold absW
 by_cases k : w < -w
 ·rw [if_pos (e.symm ▸ k), if_pos k, e]
 ·rw [if_neg (e.symm ▸ k), if_neg k]
def SpOk (c : Ga) : Prop := ∀ p, 0 ≤ (selS c p).Low ∧ (selS c p).Low ≤ (selS c p).High ∧ (selS c p).High ≤ 99
def DiOk (d : Gi) : Prop := ∀ p, -2 ≤ selI d p ∧ selI d p ≤ 2
theorem tn {a b c : Int} (h0 : -200 ≤ a ∧ a ≤ 200) (h1 : -200 ≤ b ∧ b ≤ 200) (h2 : -200 ≤ c ∧ c ≤ 200) : i64.wrap (i64.wrap (i64.wrap (0 + a) + b) + c) = a + b + c := by
 rw [cF (n := 0 + a) (by omega) (by omega), cF (n := 0 + a + b) (by omega) (by omega), cF (by omega) (by omega)]
 omega
theorem Re {d : Gi} (hd : DiOk d) {c : Ga} (hc : SpOk c) : vHigh d c = hiI d.a0 c.a0 + hiI d.a1 c.a1 + hiI d.a2 c.a2 := by
 obtain ⟨e0, b0⟩ := hi_w (hd .p0) (hc .p0)
 obtain ⟨e1, b1⟩ := hi_w (hd .p1) (hc .p1)
 obtain ⟨e2, b2⟩ := hi_w (hd .p2) (hc .p2)
 simp only [selS, selI] at e0 e1 e2 b0 b1 b2
 have h := xi d c
 unfold nY at h
 rw [hi_e (w := d.a0) (x := c.a0) (hd .p0) (hc .p0), hi_e (w := d.a1) (x := c.a1) (hd .p1) (hc .p1), hi_e (w := d.a2) (x := c.a2) (hd .p2) (hc .p2), tn b0 b1 b2] at h
 injection h with h
 injection h with _ h
 exact h.symm
theorem Rf {d : Gi} (hd : DiOk d) {c : Ga} (hc : SpOk c) : vLow d c = loI d.a0 c.a0 + loI d.a1 c.a1 + loI d.a2 c.a2 := by
 obtain ⟨e0, b0⟩ := lo_w (hd .p0) (hc .p0)
 obtain ⟨e1, b1⟩ := lo_w (hd .p1) (hc .p1)
 obtain ⟨e2, b2⟩ := lo_w (hd .p2) (hc .p2)
 simp only [selS, selI] at e0 e1 e2 b0 b1 b2
 have h := xi d c
 unfold nY at h
 rw [lo_e (w := d.a0) (x := c.a0) (hd .p0) (hc .p0), lo_e (w := d.a1) (x := c.a1) (hd .p1) (hc .p1), lo_e (w := d.a2) (x := c.a2) (hd .p2) (hc .p2), tn b0 b1 b2] at h
 injection h with h
 injection h with h _
 exact h.symm
theorem DL {d : Gi} (hd : DiOk d) : dSize d = absW d.a0 + absW d.a1 + absW d.a2 := by
 have k : ∀ w : Int, -2 ≤ w ∧ w ≤ 2 → (if w < i64.wrap (-w) then i64.wrap (-w) else w) = absW w ∧ -200 ≤ absW w ∧ absW w ≤ 200 := fun w h => by
  rw [cF (n := -w) (by omega) (by omega)]
  refine ⟨rfl, ?_⟩
  unfold absW
  split <;> omega
 obtain ⟨e0, b0⟩ := k _ (hd .p0)
 obtain ⟨e1, b1⟩ := k _ (hd .p1)
 obtain ⟨e2, b2⟩ := k _ (hd .p2)
 simp only [selI] at e0 e1 e2 b0 b1 b2
 have h := DH d
 unfold xj at h
 rw [abs_e (w := d.a0) (hd .p0), abs_e (w := d.a1) (hd .p1), abs_e (w := d.a2) (hd .p2), tn b0 b1 b2] at h
 injection h with h
 exact h.symm
theorem ShOk.sp {s : Gs} (hs : ShOk s) : SpOk (aimS s) := fun p => by
 rw [Rg]
 have h1 := hs.old p
 have h2 := hs.yrs
 have h3 := hs.fade p
 have h4 := Du (old := selI s.Old p) (y := s.Years.High) (f := (selS s.Fade p).High) h1 (by omega) (by omega)
 have h5 := Du (old := selI s.Old p) (y := s.Years.Low) (f := (selS s.Fade p).Low) h1 (by omega) (by omega)
 have h6 := u3 (old := selI s.Old p) (y := s.Years.Low) (y' := s.Years.High) (f := (selS s.Fade p).Low) (f' := (selS s.Fade p).High) (by omega) h2.2.1 (by omega) (by omega)
 exact ⟨h4.1, h6, by show aI _ _ _ ≤ 99; omega⟩
theorem DM {s : Gs} (hs : ShOk s) {d : Gi} (hd : DiOk d) : partB s d s.Tins = true ↔ ∀ t ∈ s.Tins, hiI d.a0 t.pg.a0 + hiI d.a1 t.pg.a1 + hiI d.a2 t.pg.a2 + s.Off * (absW d.a0 + absW d.a1 + absW d.a2) < loI d.a0 (aimP s .p0) + loI d.a1 (aimP s .p1) + loI d.a2 (aimP s .p2) := by
 unfold partB
 rw [List.all_eq_true]
 refine forall_congr' fun t => forall_congr' fun ht => ?_
 have ho := hs.off
 have h0 := (hi_w (hd .p0) (hs.tin t ht .p0)).2
 have h1 := (hi_w (hd .p1) (hs.tin t ht .p1)).2
 have h2 := (hi_w (hd .p2) (hs.tin t ht .p2)).2
 simp only [selS, selI] at h0 h1 h2
 have hz : ∀ w : Int, -2 ≤ w ∧ w ≤ 2 → 0 ≤ absW w ∧ absW w ≤ 2 := fun w h => by unfold absW; split <;> omega
 have z0 := hz _ (hd .p0)
 have z1 := hz _ (hd .p1)
 have z2 := hz _ (hd .p2)
 simp only [selI] at z0 z1 z2
 have hm := mulR (a := s.Off) (b := absW d.a0 + absW d.a1 + absW d.a2) (A := 20) (B := 6) (by omega) (by omega) (by omega) (by omega)
 rw [Re hd (fun p => hs.tin t ht p), Rf hd hs.sp, DL hd, cF (n := s.Off * _) (by omega) (by omega), cF (by omega) (by omega)]
 rw [Bool.not_eq_true', decide_eq_false_iff_not]
 show ¬ (_ ≤ _) ↔ _
 rw [Int.not_le]
 rfl
theorem Rh {α : Type} {f : α → Int} (w : Int) : ∀ (ms : List Int) (ts : List α), w * dot f ms ts = dot (fun t => w * f t) ms ts
 | [], _ => by simp [dot]
 | _ :: _, [] => by simp [dot]
 | e :: ms, t :: ts => by
  simp only [dot]
  rw [Int.mul_add, Rh w ms ts, Int.mul_left_comm]
theorem xl {α : Type} {f g : α → Int} : ∀ (ms : List Int) (ts : List α), dot f ms ts + dot g ms ts = dot (fun t => f t + g t) ms ts
 | [], _ => by simp [dot]
 | _ :: _, [] => by simp [dot]
 | e :: ms, t :: ts => by
  simp only [dot]
  rw [← xl ms ts, Int.mul_add]
  omega
theorem tq {α : Type} {f g : α → Int} : ∀ (ms : List Int) (ts : List α), (∀ e ∈ ms, 0 ≤ e ∧ e ≤ 8) → (∀ t ∈ ts, f t ≤ g t) → dot f ms ts ≤ dot g ms ts
 | [], _, _, _ => by simp [dot]
 | _ :: _, [], _, _ => by simp [dot]
 | e :: ms, t :: ts, h, h2 => by
  have h1 := h e (List.mem_cons_self ..)
  have ih := tq (f := f) (g := g) ms ts (fun x hx => h x (List.mem_cons_of_mem _ hx)) (fun x hx => h2 x (List.mem_cons_of_mem _ hx))
  have h4 := Int.mul_le_mul_of_nonneg_left (h2 t (List.mem_cons_self ..)) h1.1
  simp only [dot]
  omega
theorem Xr {α : Type} (c : Int) : ∀ (ms : List Int) (ts : List α), ms.length = ts.length → dot (fun _ => c) ms ts = c * sumL ms
 | [], _, _ => by simp [dot, sumL]
 | _ :: _, [], h => by simp at h
 | e :: ms, t :: ts, h => by
  simp only [dot, sumL]
  rw [Xr c ms ts (by simpa using h), Int.mul_add, Int.mul_comm]
theorem xm {s : Gs} (hs : ShOk s) {mix : List Int} (hm : MixOk s mix) (p : P3) {w a : Int} (hw : -2 ≤ w ∧ w ≤ 2) (h1 : (aN s mix p).Low ≤ a) (h2 : a ≤ (aN s mix p).High) : w * a ≤ dot (fun t : Gt => hiI w (selS t.pg p)) mix s.Tins := by
 have hl : w * dot (lowT p) mix s.Tins ≤ dot (fun t : Gt => hiI w (selS t.pg p)) mix s.Tins := by
  rw [Rh]
  exact tq _ _ hm.b fun t ht => hi_ge hw (Int.le_refl _) (hs.tin t ht p).2.1
 have hh : w * dot (highT p) mix s.Tins ≤ dot (fun t : Gt => hiI w (selS t.pg p)) mix s.Tins := by
  rw [Rh]
  exact tq _ _ hm.b fun t ht => hi_ge hw (hs.tin t ht p).2.1 (Int.le_refl _)
 simp only [aN] at h1 h2
 rcases five hw with rfl | rfl | rfl | rfl | rfl <;> omega
theorem xn {s : Gs} (hs : ShOk s) {mix : List Int} (hm : MixOk s mix) (p : P3) {y : Int} (hy : s.Years.Low ≤ y ∧ y ≤ s.Years.High) (h : canB s mix p y = true) : ∃ a v : Int, (aN s mix p).Low ≤ a ∧ a ≤ (aN s mix p).High ∧ (aimP s p).Low ≤ v ∧ v ≤ (aimP s p).High ∧ sumL mix * v - sumL mix * s.Off ≤ a ∧ a ≤ sumL mix * v + sumL mix * s.Off := by
 have h1 := hs.yrs
 have h3 := hs.fade p
 unfold canB at h
 rw [GJ] at h
 obtain ⟨f, f1, f2, f3⟩ := h
 simp only [canT, Bool.and_eq_true, decide_eq_true_eq] at f3
 have hb := (FY hs hm p).2.1
 have hl : (aimP s p).Low ≤ aI (selI s.Old p) y f ∧ aI (selI s.Old p) y f ≤ (aimP s p).High := ⟨u3 (by omega) (by omega) (by omega) (by omega), u3 (by omega) (by omega) (by omega) (by omega)⟩
 have ho := hs.off
 have hso : 0 ≤ sumL mix * s.Off := Int.mul_nonneg (by have := hm.s; omega) (by omega)
 by_cases e : (aN s mix p).Low ≤ sumL mix * aI (selI s.Old p) y f - sumL mix * s.Off
 ·exact ⟨sumL mix * aI (selI s.Old p) y f - sumL mix * s.Off, _, e, f3.1, hl.1, hl.2, Int.le_refl _, by omega⟩
 ·exact ⟨(aN s mix p).Low, _, Int.le_refl _, hb, hl.1, hl.2, by omega, f3.2⟩
theorem lower {S O w a v : Int} {x : GSpan} (hS : 0 ≤ S) (hO : 0 ≤ S * O) (hw : -2 ≤ w ∧ w ≤ 2) (hv : x.Low ≤ v ∧ v ≤ x.High) (h1 : S * v - S * O ≤ a) (h2 : a ≤ S * v + S * O) : S * loI w x - S * O * absW w ≤ w * a := by
 have h3 := Int.mul_le_mul_of_nonneg_left (lo_le hw hv.1 hv.2) hS
 rw [Int.mul_left_comm] at h3
 unfold absW
 rcases five hw with rfl | rfl | rfl | rfl | rfl <;> split <;> omega
theorem Ri {s : Gs} (hs : ShOk s) {d : Gi} (hd : DiOk d) (hp : partB s d s.Tins = true) {mix : List Int} (hm : MixOk s mix) {y : Int} (hy : s.Years.Low ≤ y ∧ y ≤ s.Years.High) : allC s mix y = false := by
 rw [Bool.eq_false_iff]
 intro hc
 simp only [allC, Bool.and_eq_true] at hc
 obtain ⟨a0, v0, l0, u0, m0, n0, x0, y0⟩ := xn hs hm .p0 hy hc.1
 obtain ⟨a1, v1, l1, u1, m1, n1, x1, y1⟩ := xn hs hm .p1 hy hc.2.1
 obtain ⟨a2, v2, l2, u2, m2, n2, x2, y2⟩ := xn hs hm .p2 hy hc.2.2
 have Rj := hd .p0
 have mw := hd .p1
 have mO := hd .p2
 simp only [selI] at Rj mw mO
 have hS := hm.s
 have ho := hs.off
 have hSO : 0 ≤ sumL mix * s.Off := Int.mul_nonneg (by omega) (by omega)
 have q0 := lower (by omega) hSO Rj ⟨m0, n0⟩ x0 y0
 have q1 := lower (by omega) hSO mw ⟨m1, n1⟩ x1 y1
 have q2 := lower (by omega) hSO mO ⟨m2, n2⟩ x2 y2
 have r0 := xm hs hm .p0 Rj l0 u0
 have r1 := xm hs hm .p1 mw l1 u1
 have r2 := xm hs hm .p2 mO l2 u2
 have hpi := (DM hs hd).1 hp
 obtain ⟨L, hL⟩ : ∃ L, L = loI d.a0 (aimP s .p0) + loI d.a1 (aimP s .p1) + loI d.a2 (aimP s .p2) := ⟨_, rfl⟩
 obtain ⟨Z, hZ⟩ : ∃ Z, Z = s.Off * (absW d.a0 + absW d.a1 + absW d.a2) := ⟨_, rfl⟩
 rw [← hL, ← hZ] at hpi
 have r3 : dot (fun t : Gt => hiI d.a0 (selS t.pg .p0)) mix s.Tins + dot (fun t : Gt => hiI d.a1 (selS t.pg .p1)) mix s.Tins + dot (fun t : Gt => hiI d.a2 (selS t.pg .p2)) mix s.Tins ≤ (L - Z - 1) * sumL mix := by
  rw [xl, xl, ← Xr (L - Z - 1) mix s.Tins hm.n]
  refine tq _ _ hm.b fun t ht => ?_
  have := hpi t ht
  simp only [selS]
  omega
 have r4 : sumL mix * L = sumL mix * loI d.a0 (aimP s .p0) + sumL mix * loI d.a1 (aimP s .p1) + sumL mix * loI d.a2 (aimP s .p2) := by rw [hL, Int.mul_add, Int.mul_add]
 have r5 : sumL mix * Z = sumL mix * s.Off * absW d.a0 + sumL mix * s.Off * absW d.a1 + sumL mix * s.Off * absW d.a2 := by rw [hZ, ← Int.mul_assoc, Int.mul_add, Int.mul_add]
 have r6 : (L - Z - 1) * sumL mix = sumL mix * L - sumL mix * Z - sumL mix := by rw [Int.mul_comm, Int.mul_sub, Int.mul_sub, Int.mul_one]
 omega
theorem Rk {s : Gs} (hs : ShOk s) {d : Gi} (hd : DiOk d) (hp : partB s d s.Tins = true) {mix : List Int} (hm : MixOk s mix) : wordI s mix = 1 ∧ ∀ t, TrOk s t → trueB s mix t = false := by
 have hn := fun y hy => Ri hs hd hp hm (y := y) hy
 have hy := hs.yrs
 constructor
 ·unfold wordI
  have h1 : surelyB s mix = false := by
   rw [Bool.eq_false_iff]
   intro h
   have := Rl hs hm h (y := s.Years.Low) ⟨Int.le_refl _, hy.2.1⟩
   rw [hn _ ⟨Int.le_refl _, hy.2.1⟩] at this
   cases this
  have h2 : yearsL s mix = [] := by
   cases hl : yearsL s mix with
   | nil => rfl
   | cons a l =>
    have ha := (xa (A := allC s mix) (yrsN s) s.Years.Low).1 (show a ∈ yearsL s mix from hl ▸ List.mem_cons_self ..)
    have hk : s.Years.Low + (yrsN s : Int) = s.Years.High + 1 := by unfold yrsN; omega
    rw [hn a ⟨ha.1, by omega⟩] at ha
    exact absurd ha.2.2 (by simp)
  rw [h1, h2]
  rfl
 ·intro t ht
  rw [Bool.eq_false_iff]
  intro h
  have := Rm hs hm ht h
  rw [hn _ ht.y] at this
  cases this
theorem dkseenW2 {P : Program} {G : Glob} {f : FuncId} {β γ w c n off nx β' w' c' n' off' : Nat} {tm : Nat → VV} {H : Nat → Option VObj} {df : List VDef} {d : Option Tmp} {K : List Nat → List Nat → St → Prop} {el el' : Option TypeId} {cs cs' args args0 : List VV} {x : VV}
  (hH : H β = some (.cells el cs)) (hoff : off ≤ cs.length) (ht : treeL ((cs.drop off).take (n * w)) = true) (hl : n * w ≤ 1000)
  (hH' : H β' = some (.cells el' cs')) (hoff' : off' ≤ cs'.length) (ht' : treeL ((cs'.drop off').take (n' * w')) = true) (hl' : n' * w' ≤ 1000)
  (hargs : args = [.ref β off n w c, .ref β' off' n' w' c']) (hn : normL [.sl ((cs.drop off).take (n * w)) n false, .sl ((cs'.drop off').take (n' * w')) n' false] = args0) (hp : ad P G f args0 (.tree x)) (hf : x.flat = true) (h : fin d γ tm H nx df (K [β, β'] []) x .none) :
  dcallK P G f args tm H nx df d γ K := by
 subst hargs
 have e0 : ∀ (β off n w c : Nat), (VV.ref β off n w c).tree = false := fun _ _ _ _ _ => rfl
 have e1 : ((cs.drop off).take (n * w)).length ≤ 1000 := by rw [List.length_take]; omega
 have e2 : ((cs'.drop off').take (n' * w')).length ≤ 1000 := by rw [List.length_take]; omega
 obtain ⟨k, hk⟩ : ∃ k, fuelS = k + 1 + 1 + 1 := ⟨99997, rfl⟩
 have ux : 90000 < k := by have : fuelS = 100000 := rfl; omega
 have s1 : sealV H (k + 1 + 1) (.ref β off n w c) = some (.sl ((cs.drop off).take (n * w)) n false) := by
  simp only [sealV, e0, hH, hoff, if_true]
  rw [sL _ (k + 1) ht (by omega)]
  rfl
 have s2 : sealV H (k + 1) (.ref β' off' n' w' c') = some (.sl ((cs'.drop off').take (n' * w')) n' false) := by
  simp only [sealV, e0, hH', hoff', if_true]
  rw [sL _ k ht' (by omega)]
  rfl
 refine dkseen (args1 := [.sl ((cs.drop off).take (n * w)) n false, .sl ((cs'.drop off').take (n' * w')) n' false]) (x := x) ?_ hn hp hf ?_
 ·rw [hk, Xs, s1, Xs, s2]
  rfl
 ·have h3 : nmL H fuelS [.ref β off n w c, .ref β' off' n' w' c'] = [β, β'] := by
   rw [hk, Xt, Xt]
   simp only [nmV, e0, hH, hH']
   rw [Gk _ _ ht, Gk _ _ ht']
   rfl
  rw [h3]
  exact h
end Go.V
end
