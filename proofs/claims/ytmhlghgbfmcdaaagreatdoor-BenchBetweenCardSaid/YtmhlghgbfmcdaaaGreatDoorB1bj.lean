/- Part of a proof. -/
import Derived.Test.YtmhlghgbfmcdaaaGreatDoorB1bi
set_option linter.all false
set_option maxRecDepth 4000
set_option maxHeartbeats 40000000
section
namespace Go.V
open Go Go.Proofs IntKind
def ta (ai : GBk) : Option (Bool) := Option.bind (mz 0 ai.Apprentices 3) (fun r1 => cond (r1) (Option.bind (vt ai.Boards) (fun r2 => cond (r2) (Option.bind (vw ai) (fun r3 => some r3)) (some false))) (some false))
theorem MG (ai : GBk) (R : Bool) (h : ta ai = some R) : ah Tryz.prog G0 67 [.agg (cGBk ai)] (.tree (.lit (.bool R))) := by
 refine ah.runR mixed Tryz.call67 Tryz.func67 rfl (by simp [Tryz.ntmps67]; kernel_rfl) ?_
 obtain ⟨KF, h, kF, kN⟩ := cl h
 simp only [ta] at h
 obtain ⟨r4, o5, h⟩ := optI h kN
 try simp only [hs] at h
 simp only [vz, tyf, nm, seval]
 refine ktA (sk _ _ _ _ o5) ?_
 refine br (fun tm => tm 1 = .ptr 0 0 ∧ tm 5 = .lit (.bool r4) ∧ True) (by refine ⟨?_, ?_, trivial⟩ <;> first | (simp only [ua, nm, seval] <;> rfl) | rfl) ?_
 rintro tm ⟨e6, e7, _⟩
 cases d8 : (r4)
 ·simp only [d8, hs] at h
  try simp only [vz, tyf, e6, e7, d8, nm, seval]
  obtain rfl := kF _ h
  exact aU Tryz.results67 rfl
 simp only [d8, hs] at h
 obtain ⟨r9, fq, h⟩ := optI h kN
 try simp only [hs] at h
 simp only [vz, tyf, e6, e7, d8, nm, seval]
 refine ktA (LW _ _ fq) ?_
 refine br (fun tm => tm 1 = .ptr 0 0 ∧ tm 6 = .lit (.bool true) ∧ tm 9 = .lit (.bool r9) ∧ True) (by refine ⟨e6, ?_, ?_, trivial⟩ <;> first | (simp only [ua, e6, e7, d8, nm, seval] <;> rfl) | rfl) ?_
 rintro tm ⟨bh, cm, bV, _⟩
 cases bp : (r9)
 ·simp only [bp, hs] at h
  try simp only [vz, tyf, d8, bh, cm, bV, bp, nm, seval]
  obtain rfl := kF _ h
  exact aU Tryz.results67 rfl
 simp only [bp, hs] at h
 obtain ⟨wh, dZ, h⟩ := optI h kN
 try simp only [hs] at h
 simp only [vz, tyf, d8, bh, cm, bV, bp, nm, seval]
 refine ktA (Mc _ _ dZ) ?_
 refine br (fun tm => tm 11 = .lit (.bool true) ∧ tm 13 = .lit (.bool wh) ∧ True) (by refine ⟨?_, ?_, trivial⟩ <;> first | (simp only [ua, d8, bh, cm, bV, bp, nm, seval] <;> rfl) | rfl) ?_
 rintro tm ⟨bw, b4, _⟩
 try simp only [vz, tyf, d8, bp, bw, b4, nm, seval]
 obtain rfl := kF _ h
 exact aU Tryz.results67 rfl
def uz (ai : GBk) (xs : Int) (cH : Int) : Option (Bool) := cond (cH == 0) (some true) (Option.bind (getI ai.Strokes xs) (fun x1 => some (!x1.Round)))
theorem OG (ai : GBk) (xs : Int) (cH : Int) (R : Bool) (h : uz ai xs cH = some R) : ah Tryz.prog G0 104 [.agg (cGBk ai), .lit (.int .i64 xs), .lit (.int .i64 cH)] (.tree (.lit (.bool R))) := by
 refine ah.runR mixed Tryz.call104 Tryz.func104 rfl (by simp [Tryz.ntmps104]; kernel_rfl) ?_
 obtain ⟨KF, h, kF, kN⟩ := cl h
 simp only [uz] at h
 cases d2 : (cH == 0)
 ·simp only [d2, hs] at h
  obtain ⟨x3, o4, h⟩ := optI h kN
  try simp only [hs] at h
  try simp only [vz, tyf, d2, (aK o4), nm, seval]
  obtain rfl := kF _ h
  exact aU Tryz.results104 rfl
 simp only [d2, hs] at h
 try simp only [vz, tyf, d2, nm, seval]
 obtain rfl := kF _ h
 exact aU Tryz.results104 rfl
def qV (ai : GBk) : List Int → Int → Option (LOut (Bool) (Unit))
 | [], kh => some (.go ())
 | e0 :: p0, kh => Option.bind (uz ai kh e0) (fun r2 => cond (r2) (qV ai p0 (kh + 1)) (some (.ret false)))
def tc (ai : GBk) (ae : List Int) : Option (Bool) := cond ((List.length ae : Int) != (List.length ai.Strokes : Int)) (some false) (Option.bind (nz 0 ae ai.Apprentices) (fun r1 => cond (r1) (cond (aH ae) (lbind (qV ai ae 0) (fun r4 => some r4) (fun c3 => some true) (fun _ _ => none)) none) (some false)))
theorem MI (ai : GBk) (ae : List Int) (R : Bool) (h : tc ai ae = some R) : ah Tryz.prog G0 68 [.agg (cGBk ai), .sl (aa eI ae) (List.length ae) false] (.tree (.lit (.bool R))) := by
 refine ah.runR mixed Tryz.call68 Tryz.func68 rfl (by simp [Tryz.ntmps68]; kernel_rfl) ?_
 obtain ⟨KF, h, kF, kN⟩ := cl h
 simp only [tc] at h
 cases d5 : ((List.length ae : Int) != (List.length ai.Strokes : Int))
 ·simp only [d5, hs] at h
  obtain ⟨r6, o7, h⟩ := optI h kN
  try simp only [hs] at h
  simp only [vz, tyf, d5, nm, seval]
  refine ktA (zJ _ _ _ _ o7) ?_
  refine br (fun tm => tm 1 = .sl (aa eI ae) (List.length ae) false ∧ tm 2 = .ptr 0 0 ∧ tm 13 = .lit (.bool false) ∧ tm 17 = .lit (.bool r6) ∧ True) (by refine ⟨?_, ?_, ?_, ?_, trivial⟩ <;> first | (simp only [ua, d5, nm, seval] <;> rfl) | rfl) ?_
  rintro tm ⟨e8, e9, aV, bh, _⟩
  cases b9 : (r6)
  ·simp only [b9, hs] at h
   try simp only [vz, tyf, d5, e8, e9, aV, bh, b9, nm, seval]
   obtain rfl := kF _ h
   exact aU Tryz.results68 rfl
  simp only [b9, hs] at h
  cases pP : (aH ae)
  ·simp only [pP, hs] at h
   exact absurd h kN
  simp only [pP, hs] at h
  simp only [vz, tyf, d5, e8, e9, aV, bh, b9, pP, nm, seval]
  obtain ⟨OH, h, Ek, El, OI, Em⟩ := eW h kN
  obtain ⟨OJ, Eo, h⟩ := call2 h
  obtain ⟨OK, pQ⟩ : ∃ I : Nat → St → Prop, I = (fun m st => ∃ (mU : List Int) (bJ : Int), m = List.length mU ∧ 0 ≤ bJ ∧ List.drop (Int.toNat bJ) ae = mU ∧ st.df = [] ∧ 18 ≤ st.nx ∧ st.H 0 = some (.cells (some 25) (cGBk ai)) ∧ st.tm 2 = .ptr 0 0 ∧ st.tm 20 = .sl (aa eI ae) (List.length ae) false ∧ st.tm 21 = .lit (.int .i64 (List.length ae : Int)) ∧ st.tm 22 = .lit (.int .i64 bJ) ∧ OH (OJ mU bJ)) := ⟨_, rfl⟩
  refine loopK mixed (by kernel_rfl) OK (List.length ae) (by rw [pQ]; refine ⟨ae, 0, rfl, Int.le_refl _, rfl, rfl, (show 18 ≤ 18 by omega), ?_, e9, ?_, ?_, ?_, h⟩ <;> first | (simp only [ua, d5, e8, e9, aV, bh, b9, nm, seval] <;> rfl) | rfl) ?_
  rintro m ⟨tm, H, u2, df⟩ hinv
  rw [pQ] at hinv
  obtain ⟨mU, bJ, rfl, jd, ki, hdf, Ep, u3, bS, bw, b4, bG, h⟩ := hinv
  simp only at hdf Ep u3 bS bw b4 bG
  have wi := f7 (m := 18) (b := u2) (by omega)
  subst hdf Eo
  cases mU with
  | nil =>
   have kX : (decide (bJ < (List.length ae : Int))) = false := eL jd ki
   simp only [qV, hs, reduceCtorEq] at h
   replace h := El _ h
   try dsimp only at h
   try simp only [hs] at h
   try simp only [vz, tyf, d5, b9, pP, wi, bS, bw, b4, bG, u3, kX, nm, seval]
   obtain rfl := kF _ h
   exact aU Tryz.results68 rfl
  | cons bV mU =>
   have nB : (decide (bJ < (List.length ae : Int))) = true := eM jd ki
   have lk := cL jd ki
   have nC := eN jd ki pP
   simp only [qV, hs, reduceCtorEq] at h
   obtain ⟨fA, gS, h⟩ := optI h Em
   try simp only [hs] at h
   simp only [vz, tyf, d5, b9, pP, wi, bS, bw, b4, bG, u3, nB, (aI lk), nC, nm, seval]
   refine ktA (OG _ _ _ _ gS) ?_
   refine br (fun tm => tm 2 = .ptr 0 0 ∧ tm 20 = .sl (aa eI ae) (List.length ae) false ∧ tm 21 = .lit (.int .i64 (List.length ae : Int)) ∧ tm 22 = .lit (.int .i64 bJ) ∧ tm 30 = .lit (.bool fA) ∧ True) (by refine ⟨bS, bw, b4, bG, ?_, trivial⟩ <;> first | (simp only [ua, d5, b9, wi, bS, bw, b4, bG, u3, nB, nC, nm, seval] <;> rfl) | rfl) ?_
   rintro tm ⟨ba, du, dc, cM, cN, _⟩
   have wj := And.intro d5 (And.intro b9 (And.intro pP (And.intro wi (And.intro u3 (And.intro nB nC)))))
   cases dW : (fA)
   ·simp only [dW, hs] at h
    try simp only [vz, tyf, wj, (aI lk), ba, du, dc, cM, cN, dW, nm, seval]
    replace h := Ek _ h
    try dsimp only at h
    obtain rfl := kF _ h
    exact aU Tryz.results68 rfl
   simp only [dW, hs] at h
   simp only [vz, tyf, wj, (aI lk), ba, du, dc, cM, cN, dW, nm, seval]
   exact ⟨List.length mU, Nat.lt_succ_self _, by rw [pQ]; refine ⟨mU, bJ + 1, rfl, Int.le_trans jd (Int.le_add_one (Int.le_refl _)), cy jd ki, rfl, (show 18 ≤ u2 + 13 by omega), ?_, ba, du, dc, ?_, (by first | exact h | (simp only [wj, dW]; exact h))⟩ <;> first | (simp only [ua, wj, ba, du, dc, cM, cN, dW, nm, seval] <;> rfl) | rfl⟩
 simp only [d5, hs] at h
 try simp only [vz, tyf, d5, nm, seval]
 obtain rfl := kF _ h
 exact aU Tryz.results68 rfl

def nH  : List GBs → Int → Option (LOut (Bool) (Unit))
 | [], dS => some (.go ())
 | e0 :: p0, dS => cond (decide (dS < 9)) (cond (decide ((List.length e0.Needs : Int) > 8)) (some (.ret false)) (nH p0 (dS + 1))) (some (.go ()))
def v8 (ai : GBk) : Option (Bool) := cond (aH ai.Strokes) (lbind (nH ai.Strokes 0) (fun r2 => some r2) (fun c1 => cond (decide ((List.length ai.Boards : Int) ≤ 5)) (some (decide ((List.length ai.Strokes : Int) ≤ 8))) (some false)) (fun _ _ => none)) none
theorem OL (ai : GBk) (R : Bool) (h : v8 ai = some R) : ah Tryz.prog G0 18 [.agg (cGBk ai)] (.tree (.lit (.bool R))) := by
 refine ah.runR mixed Tryz.call18 Tryz.func18 rfl (by simp [Tryz.ntmps18]; kernel_rfl) ?_
 obtain ⟨KF, h, kF, kN⟩ := cl h
 simp only [v8] at h
 cases g4 : (aH ai.Strokes)
 ·simp only [g4, hs] at h
  exact absurd h kN
 simp only [g4, hs] at h
 simp only [vz, tyf, g4, nm, seval]
 obtain ⟨K3, h, t4, l3, Bp, og⟩ := eW h kN
 obtain ⟨f3, oh, h⟩ := call2 h
 obtain ⟨I3, fv⟩ : ∃ I : Nat → St → Prop, I = (fun m st => ∃ (p3 : List GBs) (ck : Int), m = List.length p3 ∧ 0 ≤ ck ∧ List.drop (Int.toNat ck) ai.Strokes = p3 ∧ st.df = [] ∧ 3 ≤ st.nx ∧ st.H 0 = some (.cells (some 25) (cGBk ai)) ∧ st.tm 1 = .ptr 0 0 ∧ st.tm 3 = .lit (.int .i64 ck) ∧ K3 (f3 p3 ck)) := ⟨_, rfl⟩
 refine loopK mixed (by kernel_rfl) I3 (List.length ai.Strokes) (by rw [fv]; refine ⟨ai.Strokes, 0, rfl, Int.le_refl _, rfl, rfl, (show 3 ≤ 3 by omega), ?_, ?_, ?_, h⟩ <;> first | (simp only [ua, nm, seval] <;> rfl) | rfl) ?_
 rintro m ⟨tm, H, eg, df⟩ hinv
 rw [fv] at hinv
 obtain ⟨p3, ck, rfl, bP, c8, hdf, om, H5, e6, e7, h⟩ := hinv
 simp only at hdf om H5 e6 e7
 have n8 := f7 (m := 3) (b := eg) (by omega)
 subst hdf oh
 cases p3 with
 | nil =>
  have d9 : (decide (ck < (List.length ai.Strokes : Int))) = false := eL bP c8
  simp only [nH, hs, reduceCtorEq] at h
  replace h := l3 _ h
  try dsimp only at h
  try simp only [hs] at h
  cases im : (decide ((List.length ai.Boards : Int) ≤ 5))
  ·simp only [im, hs] at h
   try simp only [vz, tyf, g4, n8, e6, e7, H5, d9, im, nm, seval]
   obtain rfl := kF _ h
   exact aU Tryz.results18 rfl
  simp only [im, hs] at h
  try simp only [vz, tyf, g4, n8, e6, e7, H5, d9, im, nm, seval]
  obtain rfl := kF _ h
  exact aU Tryz.results18 rfl
 | cons e3 p3 =>
  have eZ : (decide (ck < (List.length ai.Strokes : Int))) = true := eM bP c8
  have qW := cL bP c8
  have pR := eN bP c8 g4
  simp only [nH, hs, reduceCtorEq] at h
  cases bp : (decide (ck < 9))
  ·simp only [bp, hs] at h
   replace h := l3 _ h
   try dsimp only at h
   try simp only [hs] at h
   cases ga : (decide ((List.length ai.Boards : Int) ≤ 5))
   ·simp only [ga, hs] at h
    have OM := And.intro g4 (And.intro n8 (And.intro H5 (And.intro eZ (And.intro pR (And.intro bp ga)))))
    try simp only [vz, tyf, OM, e6, e7, (aK qW), nm, seval]
    obtain rfl := kF _ h
    exact aU Tryz.results18 rfl
   simp only [ga, hs] at h
   have ON := And.intro g4 (And.intro n8 (And.intro H5 (And.intro eZ (And.intro pR (And.intro bp ga)))))
   try simp only [vz, tyf, ON, e6, e7, (aK qW), nm, seval]
   obtain rfl := kF _ h
   exact aU Tryz.results18 rfl
  simp only [bp, hs] at h
  cases l6 : (decide ((List.length e3.Needs : Int) > 8))
  ·simp only [l6, hs] at h
   have il := And.intro g4 (And.intro n8 (And.intro H5 (And.intro eZ (And.intro pR (And.intro bp l6)))))
   simp only [vz, tyf, il, e6, e7, (aK qW), nm, seval]
   exact ⟨List.length p3, Nat.lt_succ_self _, by rw [fv]; refine ⟨p3, ck + 1, rfl, Int.le_trans bP (Int.le_add_one (Int.le_refl _)), cy bP c8, rfl, (show 3 ≤ eg + 20 by omega), ?_, e6, ?_, (by first | exact h | (simp only [il]; exact h))⟩ <;> first | (simp only [ua, il, e6, e7, nm, seval] <;> rfl) | rfl⟩
  simp only [l6, hs] at h
  have OO := And.intro g4 (And.intro n8 (And.intro H5 (And.intro eZ (And.intro pR (And.intro bp l6)))))
  try simp only [vz, tyf, OO, e6, e7, (aK qW), nm, seval]
  replace h := t4 _ h
  try dsimp only at h
  obtain rfl := kF _ h
  exact aU Tryz.results18 rfl
def ig (je : Int) (dT : Int) (dx : Int) : Option (Bool) := cond (decide (je ≥ dT)) (some (decide (je ≤ dx))) (some false)
theorem kE (je : Int) (dT : Int) (dx : Int) (R : Bool) (h : ig je dT dx = some R) : ah Tryz.prog G0 73 [.lit (.int .i64 je), .lit (.int .i64 dT), .lit (.int .i64 dx)] (.tree (.lit (.bool R))) := by
 refine ah.runR mixed Tryz.call73 Tryz.func73 rfl (by simp [Tryz.ntmps73]; kernel_rfl) ?_
 obtain ⟨KF, h, kF, kN⟩ := cl h
 simp only [ig] at h
 cases d1 : (decide (je ≥ dT))
 ·simp only [d1, hs] at h
  try simp only [vz, tyf, d1, nm, seval]
  obtain rfl := kF _ h
  exact aU Tryz.results73 rfl
 simp only [d1, hs] at h
 try simp only [vz, tyf, d1, nm, seval]
 obtain rfl := kF _ h
 exact aU Tryz.results73 rfl
def pS (aY : Int) (x1 : GBs) : List Int → Int → Option (LOut (Bool) (Unit))
 | [], cC => some (.go ())
 | e0 :: p0, cC => Option.bind (ig e0 0 (i64.wrap (aY - 1))) (fun r5 => cond (r5) (cond (decide (cC > 0)) (Option.bind (getI x1.Needs (i64.wrap (cC - 1))) (fun x6 => cond (decide (e0 ≤ x6)) (some (.ret false)) (pS aY x1 p0 (cC + 1)))) (pS aY x1 p0 (cC + 1))) (some (.ret false)))
def u4 (ai : GBk) (aY : Int) : Option (Bool) := Option.bind (getI ai.Strokes aY) (fun x1 => Option.bind (ig x1.Board 0 (i64.wrap ((List.length ai.Boards : Int) - 1))) (fun r2 => cond (r2) (Option.bind (ig x1.Hours.Low 1 6) (fun r3 => cond (r3) (Option.bind (ig x1.Hours.High x1.Hours.Low 6) (fun r4 => cond (r4) (cond (aH x1.Needs) (lbind (pS aY x1 x1.Needs 0) (fun r8 => some r8) (fun c7 => some true) (fun _ _ => none)) none) (some false))) (some false))) (some false)))
theorem OP (ai : GBk) (aY : Int) (R : Bool) (h : u4 ai aY = some R) : ah Tryz.prog G0 74 [.agg (cGBk ai), .lit (.int .i64 aY)] (.tree (.lit (.bool R))) := by
 refine ah.runR mixed Tryz.call74 Tryz.func74 rfl (by simp [Tryz.ntmps74]; kernel_rfl) ?_
 obtain ⟨KF, h, kF, kN⟩ := cl h
 simp only [u4] at h
 obtain ⟨x9, fq, h⟩ := optI h kN
 try simp only [hs] at h
 obtain ⟨l9, vO, h⟩ := optI h kN
 try simp only [hs] at h
 simp only [vz, tyf, (aK fq), nm, seval]
 refine ktA (kE _ _ _ _ vO) ?_
 refine br (fun tm => tm 1 = .lit (.int .i64 aY) ∧ tm 5 = .ptr 7 0 ∧ tm 18 = .lit (.bool l9) ∧ True) (by refine ⟨?_, ?_, ?_, trivial⟩ <;> first | (simp only [ua, nm, seval] <;> rfl) | rfl) ?_
 rintro tm ⟨bV, cn, dy, _⟩
 cases gM : (l9)
 ·simp only [gM, hs] at h
  try simp only [vz, tyf, (aK fq), bV, cn, dy, gM, nm, seval]
  obtain rfl := kF _ h
  exact aU Tryz.results74 rfl
 simp only [gM, hs] at h
 obtain ⟨lp, zX, h⟩ := optI h kN
 try simp only [hs] at h
 simp only [vz, tyf, (aK fq), bV, cn, dy, gM, nm, seval]
 refine ktA (kE _ _ _ _ zX) ?_
 refine br (fun tm => tm 1 = .lit (.int .i64 aY) ∧ tm 5 = .ptr 7 0 ∧ tm 20 = .lit (.bool false) ∧ tm 24 = .lit (.bool lp) ∧ True) (by refine ⟨bV, cn, ?_, ?_, trivial⟩ <;> first | (simp only [ua, bV, cn, dy, gM, nm, seval] <;> rfl) | rfl) ?_
 rintro tm ⟨bG, eX, hX, cW, _⟩
 cases gb : (lp)
 ·simp only [gb, hs] at h
  try simp only [vz, tyf, (aK fq), gM, bG, eX, hX, cW, gb, nm, seval]
  obtain rfl := kF _ h
  exact aU Tryz.results74 rfl
 simp only [gb, hs] at h
 obtain ⟨nA, qs, h⟩ := optI h kN
 try simp only [hs] at h
 simp only [vz, tyf, (aK fq), gM, bG, eX, hX, cW, gb, nm, seval]
 refine ktA (kE _ _ _ _ qs) ?_
 refine br (fun tm => tm 1 = .lit (.int .i64 aY) ∧ tm 5 = .ptr 7 0 ∧ tm 27 = .lit (.bool false) ∧ tm 34 = .lit (.bool nA) ∧ True) (by refine ⟨bG, eX, ?_, ?_, trivial⟩ <;> first | (simp only [ua, gM, bG, eX, hX, cW, gb, nm, seval] <;> rfl) | rfl) ?_
 rintro tm ⟨cv, ba, du, dc, _⟩
 cases mg : (nA)
 ·simp only [mg, hs] at h
  try simp only [vz, tyf, (aK fq), gM, gb, cv, ba, du, dc, mg, nm, seval]
  obtain rfl := kF _ h
  exact aU Tryz.results74 rfl
 simp only [mg, hs] at h
 cases pT : (aH x9.Needs)
 ·simp only [pT, hs] at h
  exact absurd h kN
 simp only [pT, hs] at h
 simp only [vz, tyf, (aK fq), gM, gb, cv, ba, du, dc, mg, pT, nm, seval]
 obtain ⟨OQ, h, u5, Er, OR, u6⟩ := eW h kN
 obtain ⟨OS, Es, h⟩ := call2 h
 obtain ⟨OT, mh⟩ : ∃ I : Nat → St → Prop, I = (fun m st => ∃ (kK : List Int) (bM : Int), m = List.length kK ∧ 0 ≤ bM ∧ List.drop (Int.toNat bM) x9.Needs = kK ∧ st.df = [] ∧ 35 ≤ st.nx ∧ st.H 7 = some (.cells (some 49) (cGBs x9)) ∧ st.tm 1 = .lit (.int .i64 aY) ∧ st.tm 5 = .ptr 7 0 ∧ st.tm 6 = .lit (.int .i64 bM) ∧ OQ (OS kK bM)) := ⟨_, rfl⟩
 refine loopK mixed (by kernel_rfl) OT (List.length x9.Needs) (by rw [mh]; refine ⟨x9.Needs, 0, rfl, Int.le_refl _, rfl, rfl, (show 35 ≤ 35 by omega), ?_, cv, ba, ?_, h⟩ <;> first | (simp only [ua, gM, gb, cv, ba, du, dc, mg, nm, seval] <;> rfl) | rfl) ?_
 rintro m ⟨tm, H, pU, df⟩ hinv
 rw [mh] at hinv
 obtain ⟨kK, bM, rfl, fN, jf, hdf, Et, u7, fZ, gw, gW, h⟩ := hinv
 simp only at hdf Et u7 fZ gw gW
 have wm := f7 (m := 35) (b := pU) (by omega)
 subst hdf Es
 cases kK with
 | nil =>
  have OU : (decide (bM < (List.length x9.Needs : Int))) = false := eL fN jf
  simp only [pS, hs, reduceCtorEq] at h
  replace h := Er _ h
  try dsimp only at h
  try simp only [hs] at h
  try simp only [vz, tyf, (aK fq), gM, gb, mg, pT, wm, fZ, gw, gW, u7, OU, nm, seval]
  obtain rfl := kF _ h
  exact aU Tryz.results74 rfl
 | cons cN kK =>
  have Eu : (decide (bM < (List.length x9.Needs : Int))) = true := eM fN jf
  have mA := cL fN jf
  have mP := eN fN jf pT
  simp only [pS, hs, reduceCtorEq] at h
  simp only [vz, tyf, (aK fq), gM, gb, mg, pT, wm, fZ, gw, gW, u7, Eu, (aI mA), mP, nm, seval]
  refine kq (fun tm => tm 1 = .lit (.int .i64 aY) ∧ tm 5 = .ptr 7 0 ∧ tm 6 = .lit (.int .i64 bM) ∧ True) (by refine ⟨fZ, gw, gW, trivial⟩ <;> first | (simp only [ua, gM, gb, mg, wm, fZ, gw, gW, u7, Eu, mP, nm, seval] <;> rfl) | rfl) ?_
  rintro tm ⟨de, di, fp, _⟩
  have kL := And.intro gM (And.intro gb (And.intro mg (And.intro pT (And.intro wm (And.intro u7 (And.intro Eu mP))))))
  obtain ⟨tK, C5, h⟩ := optI h u6
  try simp only [hs] at h
  simp only [vz, tyf, kL, (aK fq), (aI mA), de, di, fp, nm, seval]
  refine dktA (kE _ _ _ _ C5) ?_
  refine br (fun tm => tm 1 = .lit (.int .i64 aY) ∧ tm 5 = .ptr 7 0 ∧ tm 6 = .lit (.int .i64 bM) ∧ tm 51 = .lit (.bool tK) ∧ True) (by refine ⟨de, di, fp, ?_, trivial⟩ <;> first | (simp only [ua, kL, de, di, fp, nm, seval] <;> rfl) | rfl) ?_
  rintro tm ⟨dA, d4, f8, fU, _⟩
  cases gZ : (tK)
  ·simp only [gZ, hs] at h
   try simp only [vz, tyf, kL, (aK fq), (aI mA), dA, d4, f8, fU, gZ, nm, seval]
   replace h := u5 _ h
   try dsimp only at h
   obtain rfl := kF _ h
   exact aU Tryz.results74 rfl
  simp only [gZ, hs] at h
  cases b3 : (decide (bM > 0))
  ·simp only [b3, hs] at h
   simp only [vz, tyf, kL, (aK fq), (aI mA), dA, d4, f8, fU, gZ, b3, nm, seval]
   exact ⟨List.length kK, Nat.lt_succ_self _, by rw [mh]; refine ⟨kK, bM + 1, rfl, Int.le_trans fN (Int.le_add_one (Int.le_refl _)), cy fN jf, rfl, (show 35 ≤ pU + 35 by omega), ?_, dA, d4, ?_, (by first | exact h | (simp only [kL, gZ, b3]; exact h))⟩ <;> first | (simp only [ua, kL, dA, d4, f8, fU, gZ, b3, nm, seval] <;> rfl) | rfl⟩
  simp only [b3, hs] at h
  obtain ⟨OV, vX, h⟩ := optI h u6
  try simp only [hs] at h
  cases qX : (decide (cN ≤ OV))
  ·simp only [qX, hs] at h
   simp only [vz, tyf, kL, (aK fq), (aI mA), dA, d4, f8, fU, gZ, b3, (aI vX), qX, nm, seval]
   exact ⟨List.length kK, Nat.lt_succ_self _, by rw [mh]; refine ⟨kK, bM + 1, rfl, Int.le_trans fN (Int.le_add_one (Int.le_refl _)), cy fN jf, rfl, (show 35 ≤ pU + 35 by omega), ?_, dA, d4, ?_, (by first | exact h | (simp only [kL, gZ, b3, qX]; exact h))⟩ <;> first | (simp only [ua, kL, dA, d4, f8, fU, gZ, b3, qX, nm, seval] <;> rfl) | rfl⟩
  simp only [qX, hs] at h
  try simp only [vz, tyf, kL, (aK fq), (aI mA), dA, d4, f8, fU, gZ, b3, (aI vX), qX, nm, seval]
  replace h := u5 _ h
  try dsimp only at h
  obtain rfl := kF _ h
  exact aU Tryz.results74 rfl
def qY (ai : GBk) : List GBs → Int → Option (LOut (Bool) (Unit))
 | [], pV => some (.go ())
 | e1 :: p1, pV => Option.bind (u4 ai pV) (fun r6 => cond (r6) (qY ai p1 (pV + 1)) (some (.ret false)))
def qZ  : List Int → Int → Option (LOut (Bool) (Unit))
 | [], dS => some (.go ())
 | e0 :: p0, dS => Option.bind (ig e0 0 60) (fun r4 => cond (r4) (qZ p0 (dS + 1)) (some (.ret false)))
def u9 (ai : GBk) : Option (Bool) := Option.bind (ig ai.Apprentices 0 3) (fun r1 => cond (r1) (Option.bind (ig (List.length ai.Boards : Int) 1 3) (fun r2 => cond (r2) (Option.bind (ig (List.length ai.Strokes : Int) 1 6) (fun r3 => cond (r3) (cond (aH ai.Boards) (lbind (qZ ai.Boards 0) (fun r9 => some r9) (fun c5 => cond (aH ai.Strokes) (lbind (qY ai ai.Strokes 0) (fun r8 => some r8) (fun c7 => some true) (fun _ _ => none)) none) (fun _ _ => none)) none) (some false))) (some false))) (some false))
theorem OW (ai : GBk) (R : Bool) (h : u9 ai = some R) : ah Tryz.prog G0 24 [.agg (cGBk ai)] (.tree (.lit (.bool R))) := by
 refine ah.runR mixed Tryz.call24 Tryz.func24 rfl (by simp [Tryz.ntmps24]; kernel_rfl) ?_
 obtain ⟨KF, h, kF, kN⟩ := cl h
 simp only [u9] at h
 obtain ⟨vW, OX, h⟩ := optI h kN
 try simp only [hs] at h
 simp only [vz, tyf, nm, seval]
 refine ktA (kE _ _ _ _ OX) ?_
 refine br (fun tm => tm 1 = .ptr 0 0 ∧ tm 7 = .lit (.bool vW) ∧ True) (by refine ⟨?_, ?_, trivial⟩ <;> first | (simp only [ua, nm, seval] <;> rfl) | rfl) ?_
 rintro tm ⟨cm, bV, _⟩
 cases bp : (vW)
 ·simp only [bp, hs] at h
  try simp only [vz, tyf, cm, bV, bp, nm, seval]
  obtain rfl := kF _ h
  exact aU Tryz.results24 rfl
 simp only [bp, hs] at h
 obtain ⟨wh, dZ, h⟩ := optI h kN
 try simp only [hs] at h
 simp only [vz, tyf, cm, bV, bp, nm, seval]
 refine ktA (kE _ _ _ _ dZ) ?_
 refine br (fun tm => tm 1 = .ptr 0 0 ∧ tm 9 = .lit (.bool false) ∧ tm 13 = .lit (.bool wh) ∧ True) (by refine ⟨cm, ?_, ?_, trivial⟩ <;> first | (simp only [ua, cm, bV, bp, nm, seval] <;> rfl) | rfl) ?_
 rintro tm ⟨bw, b4, bG, _⟩
 cases dz : (wh)
 ·simp only [dz, hs] at h
  try simp only [vz, tyf, bp, bw, b4, bG, dz, nm, seval]
  obtain rfl := kF _ h
  exact aU Tryz.results24 rfl
 simp only [dz, hs] at h
 obtain ⟨s6, mD, h⟩ := optI h kN
 try simp only [hs] at h
 simp only [vz, tyf, bp, bw, b4, bG, dz, nm, seval]
 refine ktA (kE _ _ _ _ mD) ?_
 refine br (fun tm => tm 1 = .ptr 0 0 ∧ tm 16 = .lit (.bool false) ∧ tm 20 = .lit (.bool s6) ∧ True) (by refine ⟨bw, ?_, ?_, trivial⟩ <;> first | (simp only [ua, bp, bw, b4, bG, dz, nm, seval] <;> rfl) | rfl) ?_
 rintro tm ⟨cb, bA, bN, _⟩
 cases db : (s6)
 ·simp only [db, hs] at h
  try simp only [vz, tyf, bp, dz, cb, bA, bN, db, nm, seval]
  obtain rfl := kF _ h
  exact aU Tryz.results24 rfl
 simp only [db, hs] at h
 cases fE : (aH ai.Boards)
 ·simp only [fE, hs] at h
  exact absurd h kN
 simp only [fE, hs] at h
 simp only [vz, tyf, bp, dz, cb, bA, bN, db, fE, nm, seval]
 obtain ⟨OY, h, Ev, Ew, OZ, Ex⟩ := eW h kN
 obtain ⟨Pa, Ey, h⟩ := call2 h
 obtain ⟨Pb, pW⟩ : ∃ I : Nat → St → Prop, I = (fun m st => ∃ (mV : List Int) (cI : Int), m = List.length mV ∧ 0 ≤ cI ∧ List.drop (Int.toNat cI) ai.Boards = mV ∧ st.df = [] ∧ 21 ≤ st.nx ∧ st.H 0 = some (.cells (some 25) (cGBk ai)) ∧ st.tm 1 = .ptr 0 0 ∧ st.tm 3 = .lit (.int .i64 cI) ∧ OY (Pa mV cI)) := ⟨_, rfl⟩
 refine loopK mixed (by kernel_rfl) Pb (List.length ai.Boards) (by rw [pW]; refine ⟨ai.Boards, 0, rfl, Int.le_refl _, rfl, rfl, (show 21 ≤ 21 by omega), ?_, cb, ?_, h⟩ <;> first | (simp only [ua, bp, dz, cb, bA, bN, db, nm, seval] <;> rfl) | rfl) ?_
 rintro m ⟨tm, H, gN, df⟩ hinv
 rw [pW] at hinv
 obtain ⟨mV, cI, rfl, jg, kj, hdf, Ez, fu, cM, cN, h⟩ := hinv
 simp only at hdf Ez fu cM cN
 have mi := f7 (m := 21) (b := gN) (by omega)
 subst hdf Ey
 cases mV with
 | nil =>
  have dW : (decide (cI < (List.length ai.Boards : Int))) = false := eL jg kj
  simp only [qZ, hs, reduceCtorEq] at h
  replace h := Ew _ h
  try dsimp only at h
  try simp only [hs] at h
  cases gj : (aH ai.Strokes)
  ·simp only [gj, hs] at h
   exact absurd h kN
  simp only [gj, hs] at h
  simp only [vz, tyf, bp, dz, db, fE, mi, cM, cN, fu, dW, gj, nm, seval]
  obtain ⟨Pc, h, E0, E1, Pd, E2⟩ := eW h kN
  obtain ⟨Pe, E3, h⟩ := call2 h
  obtain ⟨Pf, pX⟩ : ∃ I : Nat → St → Prop, I = (fun m st => ∃ (mW : List GBs) (cJ : Int), m = List.length mW ∧ 0 ≤ cJ ∧ List.drop (Int.toNat cJ) ai.Strokes = mW ∧ st.df = [] ∧ gN + 6 ≤ st.nx ∧ st.H 0 = some (.cells (some 25) (cGBk ai)) ∧ st.tm 1 = .ptr 0 0 ∧ st.tm 4 = .lit (.int .i64 cJ) ∧ Pc (Pe mW cJ)) := ⟨_, rfl⟩
  refine loopK mixed (by kernel_rfl) Pf (List.length ai.Strokes) (by rw [pX]; refine ⟨ai.Strokes, 0, rfl, Int.le_refl _, rfl, rfl, (show gN + 6 ≤ gN + 6 by omega), ?_, cM, ?_, h⟩ <;> first | (simp only [ua, bp, dz, db, mi, cM, cN, fu, dW, nm, seval] <;> rfl) | rfl) ?_
  rintro m ⟨tm, H, pY, df⟩ hinv
  rw [pX] at hinv
  obtain ⟨mW, cJ, rfl, jh, kl, hdf, E4, uA, uB, ku, h⟩ := hinv
  simp only at hdf E4 uA uB ku
  have wo := f7 (m := 21) (b := pY) (by omega)
  have wq := vy (a := gN) (m := 6) (b := pY) (by omega)
  subst hdf E3
  cases mW with
  | nil =>
   have Pg : (decide (cJ < (List.length ai.Strokes : Int))) = false := eL jh kl
   simp only [qY, hs, reduceCtorEq] at h
   replace h := E1 _ h
   try dsimp only at h
   try simp only [hs] at h
   try simp only [vz, tyf, bp, dz, db, fE, mi, dW, gj, wo, wq, uB, ku, uA, Pg, nm, seval]
   obtain rfl := kF _ h
   exact aU Tryz.results24 rfl
  | cons fZ mW =>
   have E5 : (decide (cJ < (List.length ai.Strokes : Int))) = true := eM jh kl
   have E6 := cL jh kl
   have E7 := eN jh kl gj
   simp only [qY, hs, reduceCtorEq] at h
   obtain ⟨Kg, Ph, h⟩ := optI h E2
   try simp only [hs] at h
   simp only [vz, tyf, bp, dz, db, fE, mi, dW, gj, wo, wq, uB, ku, uA, E5, (aK E6), E7, nm, seval]
   refine ktA (OP _ _ _ Ph) ?_
   refine br (fun tm => tm 1 = .ptr 0 0 ∧ tm 4 = .lit (.int .i64 cJ) ∧ tm 46 = .lit (.bool Kg) ∧ True) (by refine ⟨uB, ku, ?_, trivial⟩ <;> first | (simp only [ua, bp, dz, db, mi, dW, wo, wq, uB, ku, uA, E5, E7, nm, seval] <;> rfl) | rfl) ?_
   rintro tm ⟨ll, dA, d4, _⟩
   have wt := And.intro bp (And.intro dz (And.intro db (And.intro fE (And.intro mi (And.intro dW (And.intro gj (And.intro wo (And.intro wq (And.intro uA (And.intro E5 E7))))))))))
   cases ra : (Kg)
   ·simp only [ra, hs] at h
    try simp only [vz, tyf, wt, (aK E6), ll, dA, d4, ra, nm, seval]
    replace h := E0 _ h
    try dsimp only at h
    obtain rfl := kF _ h
    exact aU Tryz.results24 rfl
   simp only [ra, hs] at h
   simp only [vz, tyf, wt, (aK E6), ll, dA, d4, ra, nm, seval]
   exact ⟨List.length mW, Nat.lt_succ_self _, by rw [pX]; refine ⟨mW, cJ + 1, rfl, Int.le_trans jh (Int.le_add_one (Int.le_refl _)), cy jh kl, rfl, (show gN + 6 ≤ pY + 12 by omega), ?_, ll, ?_, (by first | exact h | (simp only [wt, ra]; exact h))⟩ <;> first | (simp only [ua, wt, ll, dA, d4, ra, nm, seval] <;> rfl) | rfl⟩
 | cons ba mV =>
  have gZ : (decide (cI < (List.length ai.Boards : Int))) = true := eM jg kj
  have E8 := cL jg kj
  have E9 := eN jg kj fE
  simp only [qZ, hs, reduceCtorEq] at h
  obtain ⟨Kh, Pj, h⟩ := optI h Ex
  try simp only [hs] at h
  simp only [vz, tyf, bp, dz, db, fE, mi, cM, cN, fu, gZ, (aI E8), E9, nm, seval]
  refine ktA (kE _ _ _ _ Pj) ?_
  refine br (fun tm => tm 1 = .ptr 0 0 ∧ tm 3 = .lit (.int .i64 cI) ∧ tm 35 = .lit (.bool Kh) ∧ True) (by refine ⟨cM, cN, ?_, trivial⟩ <;> first | (simp only [ua, bp, dz, db, mi, cM, cN, fu, gZ, E9, nm, seval] <;> rfl) | rfl) ?_
  rintro tm ⟨kJ, lA, mS, _⟩
  have wu := And.intro bp (And.intro dz (And.intro db (And.intro fE (And.intro mi (And.intro fu (And.intro gZ E9))))))
  cases bH : (Kh)
  ·simp only [bH, hs] at h
   try simp only [vz, tyf, wu, (aI E8), kJ, lA, mS, bH, nm, seval]
   replace h := Ev _ h
   try dsimp only at h
   obtain rfl := kF _ h
   exact aU Tryz.results24 rfl
  simp only [bH, hs] at h
  simp only [vz, tyf, wu, (aI E8), kJ, lA, mS, bH, nm, seval]
  exact ⟨List.length mV, Nat.lt_succ_self _, by rw [pW]; refine ⟨mV, cI + 1, rfl, Int.le_trans jg (Int.le_add_one (Int.le_refl _)), cy jg kj, rfl, (show 21 ≤ gN + 15 by omega), ?_, kJ, ?_, (by first | exact h | (simp only [wu, bH]; exact h))⟩ <;> first | (simp only [ua, wu, kJ, lA, mS, bH, nm, seval] <;> rfl) | rfl⟩
def q9 (ai : GBk) : Option (Bool) := Option.bind (v8 ai) (fun r1 => cond (r1) (Option.bind (u9 ai) (fun r2 => some r2)) (some false))
theorem Om (ai : GBk) (R : Bool) (h : q9 ai = some R) : ah Tryz.prog G0 30 [.agg (cGBk ai)] (.tree (.lit (.bool R))) := by
 refine ah.runR mixed Tryz.call30 Tryz.func30 rfl (by simp [Tryz.ntmps30]; kernel_rfl) ?_
 obtain ⟨KF, h, kF, kN⟩ := cl h
 simp only [q9] at h
 obtain ⟨r3, o4, h⟩ := optI h kN
 try simp only [hs] at h
 simp only [vz, tyf, nm, seval]
 refine ktA (OL _ _ o4) ?_
 refine br (fun tm => tm 1 = .ptr 0 0 ∧ tm 4 = .lit (.bool r3) ∧ True) (by refine ⟨?_, ?_, trivial⟩ <;> first | (simp only [ua, nm, seval] <;> rfl) | rfl) ?_
 rintro tm ⟨e5, e6, _⟩
 cases d7 : (r3)
 ·simp only [d7, hs] at h
  try simp only [vz, tyf, e5, e6, d7, nm, seval]
  obtain rfl := kF _ h
  exact aU Tryz.results30 rfl
 simp only [d7, hs] at h
 obtain ⟨r8, o9, h⟩ := optI h kN
 try simp only [hs] at h
 simp only [vz, tyf, e5, e6, d7, nm, seval]
 refine ktA (OW _ _ o9) ?_
 refine br (fun tm => tm 5 = .lit (.bool true) ∧ tm 7 = .lit (.bool r8) ∧ True) (by refine ⟨?_, ?_, trivial⟩ <;> first | (simp only [ua, e5, e6, d7, nm, seval] <;> rfl) | rfl) ?_
 rintro tm ⟨aV, bh, _⟩
 try simp only [vz, tyf, d7, aV, bh, nm, seval]
 obtain rfl := kF _ h
 exact aU Tryz.results30 rfl
def tI (bD : List Int) : Option (Bool) := some (decide ((List.length bD : Int) ≤ 9))
theorem JC (bD : List Int) (R : Bool) (h : tI bD = some R) : ah Tryz.prog G0 19 [.sl (aa eI bD) (List.length bD) false] (.tree (.lit (.bool R))) := by
 refine ah.runR mixed Tryz.call19 Tryz.func19 rfl (by simp [Tryz.ntmps19]; kernel_rfl) ?_
 obtain ⟨KF, h, kF, kN⟩ := cl h
 simp only [tI] at h
 try simp only [vz, tyf, nm, seval]
 obtain rfl := kF _ h
 exact aU Tryz.results19 rfl
def pZ (ai : GBk) : List Int → Int → Option (LOut (Bool) (Unit))
 | [], bO => some (.go ())
 | e0 :: p0, bO => Option.bind (ig e0 0 ai.Apprentices) (fun r1 => cond (r1) (Option.bind (getI ai.Strokes bO) (fun x2 => cond (x2.Round) (cond (e0 != 0) (some (.ret false)) (pZ ai p0 (bO + 1))) (pZ ai p0 (bO + 1)))) (some (.ret false)))
def tJ (ai : GBk) (bF : List Int) : Option (Bool) := cond ((List.length bF : Int) != (List.length ai.Strokes : Int)) (some false) (cond (aH bF) (lbind (pZ ai bF 0) (fun r4 => some r4) (fun c3 => some true) (fun _ _ => none)) none)
theorem On (ai : GBk) (bF : List Int) (R : Bool) (h : tJ ai bF = some R) : ah Tryz.prog G0 25 [.agg (cGBk ai), .sl (aa eI bF) (List.length bF) false] (.tree (.lit (.bool R))) := by
 refine ah.runR mixed Tryz.call25 Tryz.func25 rfl (by simp [Tryz.ntmps25]; kernel_rfl) ?_
 obtain ⟨KF, h, kF, kN⟩ := cl h
 simp only [tJ] at h
 cases d5 : ((List.length bF : Int) != (List.length ai.Strokes : Int))
 ·simp only [d5, hs] at h
  cases g7 : (aH bF)
  ·simp only [g7, hs] at h
   exact absurd h kN
  simp only [g7, hs] at h
  simp only [vz, tyf, d5, g7, nm, seval]
  obtain ⟨K6, h, qK, tw, IP, kC⟩ := eW h kN
  obtain ⟨f6, tx, h⟩ := call2 h
  obtain ⟨I6, ju⟩ : ∃ I : Nat → St → Prop, I = (fun m st => ∃ (p6 : List Int) (b6 : Int), m = List.length p6 ∧ 0 ≤ b6 ∧ List.drop (Int.toNat b6) bF = p6 ∧ st.df = [] ∧ 9 ≤ st.nx ∧ st.H 0 = some (.cells (some 25) (cGBk ai)) ∧ st.tm 1 = .sl (aa eI bF) (List.length bF) false ∧ st.tm 2 = .ptr 0 0 ∧ st.tm 5 = .lit (.int .i64 b6) ∧ K6 (f6 p6 b6)) := ⟨_, rfl⟩
  refine loopK mixed (by kernel_rfl) I6 (List.length bF) (by rw [ju]; refine ⟨bF, 0, rfl, Int.le_refl _, rfl, rfl, (show 9 ≤ 9 by omega), ?_, ?_, ?_, ?_, h⟩ <;> first | (simp only [ua, d5, nm, seval] <;> rfl) | rfl) ?_
  rintro m ⟨tm, H, kD, df⟩ hinv
  rw [ju] at hinv
  obtain ⟨p6, b6, rfl, gv, jv, hdf, tz, H8, e9, aV, bh, h⟩ := hinv
  simp only at hdf tz H8 e9 aV bh
  have dt := f7 (m := 9) (b := kD) (by omega)
  subst hdf tx
  cases p6 with
  | nil =>
   have eh : (decide (b6 < (List.length bF : Int))) = false := eL gv jv
   simp only [pZ, hs, reduceCtorEq] at h
   replace h := tw _ h
   try dsimp only at h
   try simp only [hs] at h
   try simp only [vz, tyf, d5, g7, dt, e9, aV, bh, H8, eh, nm, seval]
   obtain rfl := kF _ h
   exact aU Tryz.results25 rfl
  | cons e6 p6 =>
   have bp : (decide (b6 < (List.length bF : Int))) = true := eM gv jv
   have dZ := cL gv jv
   have ij := eN gv jv g7
   simp only [pZ, hs, reduceCtorEq] at h
   simp only [vz, tyf, d5, g7, dt, e9, aV, bh, H8, bp, (aI dZ), ij, nm, seval]
   refine kq (fun tm => tm 1 = .sl (aa eI bF) (List.length bF) false ∧ tm 2 = .ptr 0 0 ∧ tm 5 = .lit (.int .i64 b6) ∧ True) (by refine ⟨e9, aV, bh, trivial⟩ <;> first | (simp only [ua, d5, dt, e9, aV, bh, H8, bp, ij, nm, seval] <;> rfl) | rfl) ?_
   rintro tm ⟨bw, b4, bG, _⟩
   obtain ⟨jq, jr, h⟩ := optI h kC
   try simp only [hs] at h
   simp only [vz, tyf, d5, g7, dt, H8, bp, (aI dZ), ij, bw, b4, bG, nm, seval]
   refine dktA (kE _ _ _ _ jr) ?_
   refine br (fun tm => tm 1 = .sl (aa eI bF) (List.length bF) false ∧ tm 2 = .ptr 0 0 ∧ tm 5 = .lit (.int .i64 b6) ∧ tm 24 = .lit (.bool jq) ∧ True) (by refine ⟨bw, b4, bG, ?_, trivial⟩ <;> first | (simp only [ua, d5, dt, H8, bp, ij, bw, b4, bG, nm, seval] <;> rfl) | rfl) ?_
   rintro tm ⟨cW, cb, bA, bN, _⟩
   cases db : (jq)
   ·simp only [db, hs] at h
    have mO := And.intro d5 (And.intro g7 (And.intro dt (And.intro H8 (And.intro bp (And.intro ij db)))))
    try simp only [vz, tyf, mO, (aI dZ), cW, cb, bA, bN, nm, seval]
    replace h := qK _ h
    try dsimp only at h
    obtain rfl := kF _ h
    exact aU Tryz.results25 rfl
   simp only [db, hs] at h
   have mj := And.intro d5 (And.intro g7 (And.intro dt (And.intro H8 (And.intro bp (And.intro ij db)))))
   obtain ⟨Pk, EA, h⟩ := optI h kC
   try simp only [hs] at h
   cases km : (Pk.Round)
   ·simp only [km, hs] at h
    simp only [vz, tyf, mj, (aI dZ), cW, cb, bA, bN, (aK EA), km, nm, seval]
    exact ⟨List.length p6, Nat.lt_succ_self _, by rw [ju]; refine ⟨p6, b6 + 1, rfl, Int.le_trans gv (Int.le_add_one (Int.le_refl _)), cy gv jv, rfl, (show 9 ≤ kD + 30 by omega), ?_, cW, cb, ?_, (by first | exact h | (simp only [mj, km]; exact h))⟩ <;> first | (simp only [ua, mj, cW, cb, bA, bN, km, nm, seval] <;> rfl) | rfl | (simp only [ua, tyf, mj, cW, cb, bA, bN, km, nm, seval] <;> rfl)⟩
   simp only [km, hs] at h
   cases qa : (e6 != 0)
   ·simp only [qa, hs] at h
    simp only [vz, tyf, mj, (aI dZ), cW, cb, bA, bN, (aK EA), km, qa, nm, seval]
    exact ⟨List.length p6, Nat.lt_succ_self _, by rw [ju]; refine ⟨p6, b6 + 1, rfl, Int.le_trans gv (Int.le_add_one (Int.le_refl _)), cy gv jv, rfl, (show 9 ≤ kD + 30 by omega), ?_, cW, cb, ?_, (by first | exact h | (simp only [mj, km, qa]; exact h))⟩ <;> first | (simp only [ua, mj, cW, cb, bA, bN, km, qa, nm, seval] <;> rfl) | rfl | (simp only [ua, tyf, mj, cW, cb, bA, bN, km, qa, nm, seval] <;> rfl)⟩
   simp only [qa, hs] at h
   try simp only [vz, tyf, mj, (aI dZ), cW, cb, bA, bN, (aK EA), km, qa, nm, seval]
   replace h := qK _ h
   try dsimp only at h
   obtain rfl := kF _ h
   exact aU Tryz.results25 rfl
 simp only [d5, hs] at h
 try simp only [vz, tyf, d5, nm, seval]
 obtain rfl := kF _ h
 exact aU Tryz.results25 rfl


theorem EB (a n b : Int) : mz a n b = some (inB a b n) := csome _ _
theorem qU (n a b : Int) : ig n a b = some (inB a b n) := csome _ _
theorem Ki (a b : Int) : ∀ (p : List Int) (c : Int), ql a b p c = goB (p.all (inB a b))
 | [], _ => rfl
 | e :: p, c => by simp only [ql, EB, Option.bind_some, Ki a b p, List.all_cons, mw]
theorem EC {l : List Int} (hl : l.length < 9223372036854775808) (a b : Int) : nz a l b = some (l.all (inB a b)) := by
 unfold nz
 rw [fQ hl, cond_true, Ki, kU]
 exact csome _ _ ▸ by cases l.all (inB a b) <;> rfl
def adjB : List Int → Bool
 | a :: b :: l => decide (a < b) && adjB (b :: l)
 | _ => true
theorem Kj {ns : List Int} (hn : ns.length < 9223372036854775808) : ∀ (p : List Int) (c a : Int), 1 ≤ c → ns.drop (c - 1).toNat = a :: p → qo ns p c = goB (adjB (a :: p))
 | [], _, _, _, _ => rfl
 | e :: p, c, a, hc, hd => by
  have h1 := cL (by omega) hd
  have hb := (nw h1).2
  have h2 := cy (by omega) hd
  simp only [qo]
  rw [j6 (by omega) (by omega), h1, Option.bind_some, Kj hn p (c + 1) e (by omega) (by rw [← h2]; congr 1; omega)]
  have ea : adjB (a :: e :: p) = (decide (a < e) && adjB (e :: p)) := rfl
  rw [ea, mw]
  by_cases h : e ≤ a
  ·rw [decide_eq_true h, decide_eq_false (Int.not_lt.2 h)]; rfl
  ·rw [decide_eq_false h, decide_eq_true (Int.not_le.1 h)]; rfl
theorem ED {l : List Int} (hl : l.length < 9223372036854775808) (a b : Int) : sq a l b = some (adjB l && l.all (inB a b)) := by
 unfold sq
 have hle : leB 0 1 = true := by decide
 rw [fQ hl, cond_true, hle, cond_true, EC hl]
 cases l with
 | nil => rfl
 | cons x p =>
  have := Kj hl p 1 x (Int.le_refl _) rfl
  simp only [Int.reduceToNat, List.drop_succ_cons, List.drop_zero]
  rw [this, kU, Option.bind_some]
  cases adjB (x :: p) <;> rfl
def strokeB (nb : Nat) (n : Int) (s : GBs) : Bool := inB 0 ((nb : Int) - 1) s.Board && ((inB 1 6 s.Hours.Low && inB s.Hours.Low 6 s.Hours.High) && (s.Needs.all (inB 0 (n - 1)) && adjB s.Needs))
def strokesB (nb : Nat) : Int → List GBs → Bool
 | _, [] => true
 | c, s :: l => strokeB nb c s && strokesB nb (c + 1) l
def benchB (b : GBk) : Bool := inB 0 3 b.Apprentices && ((inB 1 3 b.Boards.length && b.Boards.all (inB 0 60)) && (inB 1 6 b.Strokes.length && strokesB b.Boards.length 0 b.Strokes))
structure Len (b : GBk) : Prop where
 bo : b.Boards.length < 9223372036854775808
 st : b.Strokes.length < 9223372036854775808
 nd : ∀ s ∈ b.Strokes, s.Needs.length < 9223372036854775808
theorem EF (a b : Int) (x : GSpan) : so a x b = some (inB a b x.Low && inB x.Low b x.High) := by
 unfold so inB
 by_cases h1 : a ≤ x.Low <;> by_cases h2 : x.Low ≤ x.High <;> by_cases h3 : x.High ≤ b <;> by_cases h4 : x.Low ≤ b <;> simp [h1, h2, h3, h4] <;> omega
theorem Kk {b : GBk} (hb : b.Boards.length < 9223372036854775808) : ∀ (p : List GBs) (c : Int), 0 ≤ c → c + p.length < 9223372036854775808 → (∀ s ∈ p, s.Needs.length < 9223372036854775808) → qt b p c = goB (strokesB b.Boards.length c p)
 | [], _, _, _, _ => rfl
 | s :: p, c, h0, h1, h2 => by
  simp only [List.length_cons] at h1
  have hs := h2 s (List.mem_cons_self ..)
  simp only [qt, vu, EB, Option.bind_some, EF]
  rw [j6 (by omega) (by omega), j6 (by omega) (by omega), ED hs, Kk hb p (c + 1) (by omega) (by omega) (fun s hs => h2 s (List.mem_cons_of_mem _ hs))]
  simp only [strokesB, strokeB, mw, Option.bind_some]
  cases inB 0 ((b.Boards.length : Int) - 1) s.Board <;> cases inB 1 6 s.Hours.Low <;> cases inB s.Hours.Low 6 s.Hours.High <;> cases s.Needs.all (inB 0 (c - 1)) <;> cases adjB s.Needs <;> rfl
theorem AZ {b : GBk} (h : Len b) : ta b = some (benchB b) := by
 unfold ta benchB vt vw
 simp only [EB, Option.bind_some, EC h.bo]
 rw [fQ h.st, cond_true, Kk h.bo b.Strokes 0 (Int.le_refl _) (by have := h.st; omega) h.nd, kU]
 cases inB 0 3 b.Apprentices <;> cases inB 1 3 (b.Boards.length : Int) <;> cases b.Boards.all (inB 0 60) <;> cases inB 1 6 (b.Strokes.length : Int) <;> cases strokesB b.Boards.length 0 b.Strokes <;> rfl
def adjF (a : Option Int) : List Int → Bool
 | [] => true
 | e :: l => (match a with | some x => decide (x < e) | none => true) && adjF (some e) l
theorem Kl : ∀ (l : List Int) (a : Int), adjF (some a) l = adjB (a :: l)
 | [], _ => rfl
 | e :: l, a => by unfold adjF adjB; rw [Kl l e]
theorem EG (l : List Int) : adjF none l = adjB l := by
 cases l with
 | nil => rfl
 | cons e l => unfold adjF; rw [Kl l e]; rfl
theorem Km {n : Int} (hn : -9223372036854775807 ≤ n) (EH : n < 9223372036854775808) {s : GBs} (hl : s.Needs.length < 9223372036854775808) : ∀ (p : List Int) (c : Int) (a : Option Int), 0 ≤ c → s.Needs.drop c.toNat = p → (c = 0 ∧ a = none ∨ 0 < c ∧ getI s.Needs (c - 1) = a ∧ a ≠ none) →
  pS n s p c = goB (p.all (inB 0 (n - 1)) && adjF a p)
 | [], _, _, _, _, _ => rfl
 | e :: p, c, a, h0, hd, ha => by
  have h1 := cL h0 hd
  have hb := (nw h1).2
  simp only [pS, qU, Option.bind_some]
  rw [j6 (by omega) (by omega), Km hn EH hl p (c + 1) (some e) (by omega) (cy h0 hd) (.inr ⟨by omega, by rw [show c + 1 - 1 = c by omega]; exact h1, by simp⟩)]
  simp only [List.all_cons, adjF]
  rcases ha with ⟨rfl, rfl⟩ | ⟨hc, ha, hne⟩
  ·cases inB 0 (n - 1) e <;> cases p.all (inB 0 (n - 1)) <;> cases adjF (some e) p <;> rfl
  ·rw [j6 (by omega) (by omega), ha, decide_eq_true (show c > 0 from hc)]
   cases a with
   | none => exact absurd rfl hne
   | some x =>
    simp only [cond_true, Option.bind_some]
    by_cases h : e ≤ x
    ·rw [decide_eq_true h, decide_eq_false (Int.not_lt.2 h)]
     cases inB 0 (n - 1) e <;> simp [goB]
    ·rw [decide_eq_false h, decide_eq_true (Int.not_le.1 h)]
     cases inB 0 (n - 1) e <;> cases p.all (inB 0 (n - 1)) <;> cases adjF (some e) p <;> rfl
theorem Pl {b : GBk} (h : Len b) {n : Int} {s : GBs} (hs : getI b.Strokes n = some s) : u4 b n = some (strokeB b.Boards.length n s) := by
 have hb := nw hs
 have hst := h.st
 have hl := h.nd s (zE hs)
 have hbo := h.bo
 unfold u4 strokeB
 simp only [hs, Option.bind_some, qU]
 rw [j6 (by omega) (by omega), fQ hl, cond_true, Km (by omega) (by omega) hl s.Needs 0 none (Int.le_refl _) rfl (.inl ⟨rfl, rfl⟩), kU, EG]
 cases inB 0 ((b.Boards.length : Int) - 1) s.Board <;> cases inB 1 6 s.Hours.Low <;> cases inB s.Hours.Low 6 s.Hours.High <;> cases s.Needs.all (inB 0 (n - 1)) <;> cases adjB s.Needs <;> rfl
theorem Kn : ∀ (p : List Int) (c : Int), qZ p c = goB (p.all (inB 0 60))
 | [], _ => rfl
 | e :: p, c => by simp only [qZ, qU, Option.bind_some, Kn p, List.all_cons, mw]
theorem Ko {b : GBk} (h : Len b) : ∀ (p : List GBs) (c : Int), 0 ≤ c → b.Strokes.drop c.toNat = p → qY b p c = goB (strokesB b.Boards.length c p)
 | [], _, _, _ => rfl
 | s :: p, c, h0, hd => by
  simp only [qY, Pl h (cL h0 hd), Option.bind_some, Ko h p (c + 1) (by omega) (cy h0 hd), strokesB, mw]
theorem zY {b : GBk} (h : Len b) : u9 b = some (benchB b) := by
 unfold u9 benchB
 simp only [qU, Option.bind_some]
 rw [fQ h.bo, fQ h.st, Kn, Ko h b.Strokes 0 (Int.le_refl _) rfl, kU, kU]
 cases inB 0 3 b.Apprentices <;> cases inB 1 3 (b.Boards.length : Int) <;> cases b.Boards.all (inB 0 60) <;> cases inB 1 6 (b.Strokes.length : Int) <;> cases strokesB b.Boards.length 0 b.Strokes <;> rfl
def planL (a : Int) : List GBs → List Int → Bool
 | s :: ss, h :: hs => (inB 0 a h && (h == 0 || !s.Round)) && planL a ss hs
 | _, _ => true
def planB (b : GBk) (pl : List Int) : Bool := decide (pl.length = b.Strokes.length) && planL b.Apprentices b.Strokes pl
def mayL : List GBs → List Int → Bool
 | s :: ss, h :: hs => (h == 0 || !s.Round) && mayL ss hs
 | _, _ => true
theorem Kp {a : Int} : ∀ (ss : List GBs) (hs : List Int), hs.length = ss.length → planL a ss hs = (hs.all (inB 0 a) && mayL ss hs)
 | [], [], _ => rfl
 | s :: ss, h :: hs, e => by
  simp only [planL, mayL, List.all_cons, Kp ss hs (by simpa using e)]
  cases inB 0 a h <;> cases hs.all (inB 0 a) <;> cases (h == 0 || !s.Round) <;> simp
theorem EI {b : GBk} {n h : Int} {s : GBs} (hs : getI b.Strokes n = some s) : uz b n h = some (h == 0 || !s.Round) := by
 unfold uz
 cases h == 0 <;> simp [hs]
theorem Kq {b : GBk} : ∀ (p : List Int) (c : Int) (ss : List GBs), 0 ≤ c → b.Strokes.drop c.toNat = ss → p.length = ss.length → qV b p c = goB (mayL ss p)
 | [], _, [], _, _, _ => rfl
 | h :: p, c, s :: ss, h0, hd, hl => by
  simp only [qV, EI (cL h0 hd), Option.bind_some, Kq p (c + 1) ss (by omega) (cy h0 hd) (by simpa using hl), mayL, mw]
theorem Ba {b : GBk} (h : Len b) (pl : List Int) : tc b pl = some (planB b pl) := by
 have hst := h.st
 unfold tc planB
 by_cases e : pl.length = b.Strokes.length
 ·have e1 : ((pl.length : Int) != (b.Strokes.length : Int)) = false := by simp [e]
  rw [e1, cond_false, EC (by omega), decide_eq_true e, Kp _ _ e, Option.bind_some, fQ (by omega), cond_true, Kq pl 0 b.Strokes (Int.le_refl _) rfl e, kU]
  cases pl.all (inB 0 b.Apprentices) <;> cases mayL b.Strokes pl <;> rfl
 ·have e1 : ((pl.length : Int) != (b.Strokes.length : Int)) = true := by simp; omega
  rw [e1, cond_true, decide_eq_false e]; rfl
theorem Ks {b : GBk} : ∀ (p : List Int) (c : Int) (ss : List GBs), 0 ≤ c → b.Strokes.drop c.toNat = ss → p.length = ss.length → pZ b p c = goB (planL b.Apprentices ss p)
 | [], _, [], _, _, _ => rfl
 | h :: p, c, s :: ss, h0, hd, hl => by
  simp only [pZ, qU, cL h0 hd, Option.bind_some, Ks p (c + 1) ss (by omega) (cy h0 hd) (by simpa using hl), planL, mw]
  have e : (h != 0) = !(h == 0) := rfl
  rw [e]
  cases inB 0 b.Apprentices h <;> cases s.Round <;> cases h == 0 <;> rfl
theorem D2 {b : GBk} (h : Len b) (pl : List Int) : tJ b pl = some (planB b pl) := by
 have hst := h.st
 unfold tJ planB
 by_cases e : pl.length = b.Strokes.length
 ·have e1 : ((pl.length : Int) != (b.Strokes.length : Int)) = false := by simp [e]
  rw [e1, cond_false, decide_eq_true e, fQ (by omega), cond_true, Ks pl 0 b.Strokes (Int.le_refl _) rfl e, kU]
  cases planL b.Apprentices b.Strokes pl <;> rfl
 ·have e1 : ((pl.length : Int) != (b.Strokes.length : Int)) = true := by simp; omega
  rw [e1, cond_true, decide_eq_false e]; rfl
structure BOk (b : GBk) : Prop where
 ap : 0 ≤ b.Apprentices ∧ b.Apprentices ≤ 3
 nb : 1 ≤ b.Boards.length ∧ b.Boards.length ≤ 3
 bo : ∀ x ∈ b.Boards, 0 ≤ x ∧ x ≤ 60
 ns : 1 ≤ b.Strokes.length ∧ b.Strokes.length ≤ 6
 st : ∀ (i : Nat) s, b.Strokes[i]? = some s → strokeB b.Boards.length i s = true
theorem Kt {nb : Nat} : ∀ (p : List GBs) (c : Int), strokesB nb c p = true ↔ ∀ (i : Nat) s, p[i]? = some s → strokeB nb (c + i) s = true
 | [], c => by simp [strokesB]
 | s :: p, c => by
  simp only [strokesB, Bool.and_eq_true, Kt p]
  constructor
  ·rintro ⟨h1, h2⟩ i x hx
   cases i with
   | zero => simp at hx; subst hx; simpa using h1
   | succ i => have := h2 i x (by simpa using hx); rw [show c + (i + 1 : Nat) = c + 1 + i by omega]; exact this
  ·intro h
   refine ⟨by have := h 0 s rfl; simpa using this, fun i x hx => ?_⟩
   have := h (i + 1) x (by simpa using hx)
   rw [show c + (i + 1 : Nat) = c + 1 + i by omega] at this
   exact this
theorem v9 {b : GBk} : benchB b = true ↔ BOk b := by
 unfold benchB
 simp only [Bool.and_eq_true, vr, List.all_eq_true, Kt]
 constructor
 ·rintro ⟨h1, ⟨h2, h3⟩, h4, h5⟩
  exact ⟨h1, by omega, h3, by omega, fun i s hs => by have := h5 i s hs; simpa using this⟩
 ·rintro ⟨h1, h2, h3, h4, h5⟩
  exact ⟨h1, ⟨by omega, h3⟩, by omega, fun i s hs => by have := h5 i s hs; simpa using this⟩
structure SOk (nb : Nat) (n : Int) (s : GBs) : Prop where
 bo : 0 ≤ s.Board ∧ s.Board < nb
 hr : 1 ≤ s.Hours.Low ∧ s.Hours.Low ≤ s.Hours.High ∧ s.Hours.High ≤ 6
 nd : ∀ k ∈ s.Needs, 0 ≤ k ∧ k < n
 ad : adjB s.Needs = true
theorem JO {nb : Nat} {n : Int} {s : GBs} : strokeB nb n s = true ↔ SOk nb n s := by
 unfold strokeB
 simp only [Bool.and_eq_true, vr, List.all_eq_true]
 constructor
 ·rintro ⟨h1, ⟨h2, h3⟩, h4, h5⟩
  exact ⟨by omega, by omega, fun k hk => by have := h4 k hk; omega, h5⟩
 ·rintro ⟨h1, h2, h3, h4⟩
  exact ⟨by omega, ⟨by omega, by omega⟩, fun k hk => by have := h3 k hk; omega, h4⟩
theorem BOk.s {b : GBk} (h : BOk b) {i : Nat} {s : GBs} (hs : b.Strokes[i]? = some s) : SOk b.Boards.length i s := JO.1 (h.st i s hs)
structure POk (b : GBk) (pl : List Int) : Prop where
 len : pl.length = b.Strokes.length
 may : ∀ (i : Nat) s h, b.Strokes[i]? = some s → pl[i]? = some h → (0 ≤ h ∧ h ≤ b.Apprentices) ∧ (h = 0 ∨ s.Round = false)
theorem EJ {a : Int} : ∀ (ss : List GBs) (hs : List Int), hs.length = ss.length → (planL a ss hs = true ↔ ∀ (i : Nat) s h, ss[i]? = some s → hs[i]? = some h → (0 ≤ h ∧ h ≤ a) ∧ (h = 0 ∨ s.Round = false))
 | [], [], _ => by simp [planL]
 | s :: ss, h :: hs, e => by
  simp only [planL, Bool.and_eq_true, EJ ss hs (by simpa using e), vr, Bool.or_eq_true, beq_iff_eq, Bool.not_eq_true']
  constructor
  ·rintro ⟨h1, h2⟩ i x y hx hy
   cases i with
   | zero => simp at hx hy; subst hx hy; exact h1
   | succ i => exact h2 i x y (by simpa using hx) (by simpa using hy)
  ·intro hh
   exact ⟨hh 0 s h rfl rfl, fun i x y hx hy => hh (i + 1) x y (by simpa using hx) (by simpa using hy)⟩
theorem vM {b : GBk} {pl : List Int} : planB b pl = true ↔ POk b pl := by
 unfold planB
 simp only [Bool.and_eq_true, decide_eq_true_eq]
 constructor
 ·rintro ⟨h1, h2⟩; exact ⟨h1, (EJ _ _ h1).1 h2⟩
 ·rintro ⟨h1, h2⟩; exact ⟨h1, (EJ _ _ h1).2 h2⟩
def aO (k : GBe) : Value := .agg ⟨[.int .i64 k.stroke, .int .i64 k.hours]⟩
def bW (a b : GBe) : Bool := ((a.stroke == b.stroke) && ((a.hours == b.hours) && true))
def cw (n : Int) : VV := .lit (.int .i64 n)
theorem mX (a b : GBe) : aA Tryz.prog (Op.equal 152 (aO a) (aO b)) = some (bW a b) := by
 unfold Op.equal
 exact Cr 5 152 _ _ _ (by kernel_rfl) 9995
theorem mY (b : Bool) (k : GBe) : aA Tryz.prog (Instr.checkKey b 10000 152 (aO k)) = some () := by
 cases b <;> kernel_rfl
theorem jC (a b : GBe) (h : bW a b = true) : a = b := by
 obtain ⟨astroke, ahours⟩ := a
 obtain ⟨bstroke, bhours⟩ := b
 simp only [bW, Bool.and_true, Bool.and_eq_true, beq_iff_eq] at h
 simp only [h]
theorem uC (a : GBe) : Instr.sameBits 10000 (aO a) (aO a) = true := by
 simp [aO, Instr.sameBits]
theorem Pm : ((Tryz.prog.info? 3).bind (·.zero)).map ofVal2 = some (cw 0) := by kernel_rfl
theorem mZ (k : GBe) : VV.val? (.agg [.lit (.int .i64 k.stroke), .lit (.int .i64 k.hours)]) = some (aO k) := rfl
theorem sF {β : Nat} (l : List (GBe × Int)) (k : GBe) (H : Nat → Option VObj) (hb : H β = some (.map (encM aO cw l))) : vlookup Tryz.prog H 90 (.mp β) (.agg [.lit (.int .i64 k.stroke), .lit (.int .i64 k.hours)]) true = some (.tup [.lit (.int .i64 (mapGet bW 0 l k)), .lit (.bool (mapHas bW l k))]) :=
 OB Tryz.underlying90 Tryz.underlying152 mX mY Pm (mZ k) hb
theorem sG {β : Nat} (l : List (GBe × Int)) (k : GBe) (n : Int) (H : Nat → Option VObj) (hb : H β = some (.map (encM aO cw l))) : vmapUpdate Tryz.prog H 90 (.mp β) (.agg [.lit (.int .i64 k.stroke), .lit (.int .i64 k.hours)]) (.lit (.int .i64 n)) = some (.upd β (.map (encM aO cw (mapSet bW l k n)))) :=
 D8 Tryz.underlying90 Tryz.underlying152 mX mY jC uC (mZ k) hb
theorem EK {c : VV} {cs : List VV} : vload Tryz.prog 90 (c :: cs) = some c := by
 have h1 : aggT Tryz.prog 90 = some false := by kernel_rfl
 simp [vload, vpart, h1]
theorem EL : szT Tryz.prog 90 = some 1 := by kernel_rfl
theorem uD : vzl Tryz.prog 90 = some [.lit (.map none)] := by kernel_rfl
def mqr := And.intro (And.intro @DI @DJ) True.intro
def mqt := And.intro (And.intro @EK @EL) @uD
def nI (rc : GBk → (List Int) → Int → Int → (List (GBe × Int)) → Option ((Int) × List (GBe × Int))) (xb : GBk) (xp : List Int) (xs : Int) (xh : Int) (l0 : List (GBe × Int)) : Nat → Int → Option (LOut ((Int) × List (GBe × Int)) (Int))
 | 0, _ => none
 | k0 + 1, bI => cond (decide (bI ≥ 0)) (Option.bind (getI xp bI) (fun x1 => Option.bind (getI xp xs) (fun x2 => cond (x1 == x2) (Option.bind (rc xb xp bI xh l0) (fun r3 => some (.ret (r3.1, r3.2)))) (nI rc xb xp xs xh l0 k0 (i64.wrap (bI - 1)))))) (some (.go bI))
def sy (rc : GBk → (List Int) → Int → Int → (List (GBe × Int)) → Option ((Int) × List (GBe × Int))) (xb : GBk) (xp : List Int) (xs : Int) (xh : Int) (l0 : List (GBe × Int)) : Option ((Int) × List (GBe × Int)) := lbind (nI rc xb xp xs xh l0 1000000 (i64.wrap (xs - 1))) (fun r5 => some r5) (fun c4 => some (0, l0)) (fun _ _ => none)
theorem Mj (rc : GBk → (List Int) → Int → Int → (List (GBe × Int)) → Option ((Int) × List (GBe × Int))) (rc_ok : ∀ (xb : GBk) (xp : List Int) (xs : Int) (xh : Int) (l0 : List (GBe × Int)) (R : (Int) × List (GBe × Int)), rc xb xp xs xh l0 = some R → VUpd Tryz.prog G0 118 (fun β => [.agg [.lit (.int .i64 xb.Apprentices), .sl (aa eI xb.Boards) (List.length xb.Boards) false, .sl (aa cGBs xb.Strokes) (List.length xb.Strokes) false, .sl (aa eI xp) (List.length xp) false, .mp β], .lit (.int .i64 xs), .lit (.int .i64 xh)]) (encM aO cw l0) (encM aO cw R.2) (fun _ => .lit (.int .i64 R.1))) (xb : GBk) (xp : List Int) (xs : Int) (xh : Int) (l0 : List (GBe × Int)) (R : (Int) × List (GBe × Int)) (h : sy rc xb xp xs xh l0 = some R) : VUpd Tryz.prog G0 108 (fun β => [.agg [.lit (.int .i64 xb.Apprentices), .sl (aa eI xb.Boards) (List.length xb.Boards) false, .sl (aa cGBs xb.Strokes) (List.length xb.Strokes) false, .sl (aa eI xp) (List.length xp) false, .mp β], .lit (.int .i64 xs), .lit (.int .i64 xh)]) (encM aO cw l0) (encM aO cw R.2) (fun _ => .lit (.int .i64 R.1)) := by
 intro bd nx hlt
 have aS := kz (β := bd) (nx := nx) hlt
 refine ar.run mixed Tryz.call108 Tryz.func108 rfl (by simp [Tryz.ntmps108]; kernel_rfl) ?_
 obtain ⟨KF, h, kF, kN⟩ := cl h
 simp only [sy] at h
 simp only [vz, mq, mqm, vsi, tyf, mqt, aS, nm, seval]
 obtain ⟨K6, h, qK, tw, IP, kC⟩ := eW h kN
 obtain ⟨f6, tx, h⟩ := call2 h
 obtain ⟨I6, ju⟩ : ∃ I : Nat → St → Prop, I = (fun m st => ∃ (p6 : Nat) (ji : Int), p6 = m ∧ st.df = [] ∧ nx + 5 ≤ st.nx ∧ st.H bd = some (.map (encM aO cw l0)) ∧ st.H nx = some (.cells (some 92) ((cGBk xb) ++ [.sl (aa eI xp) (List.length xp) false] ++ [.mp bd])) ∧ st.tm 1 = .lit (.int .i64 xs) ∧ st.tm 2 = .lit (.int .i64 xh) ∧ st.tm 3 = .ptr nx 0 ∧ st.tm 7 = .lit (.int .i64 ji) ∧ K6 (f6 p6 ji)) := ⟨_, rfl⟩
 refine loopK mixed (by kernel_rfl) I6 1000000 (by rw [ju]; refine ⟨1000000, i64.wrap (xs - 1), rfl, rfl, (show nx + 5 ≤ nx + 5 by omega), ?_, ?_, ?_, ?_, ?_, ?_, h⟩ <;> first | (simp only [ua, bT, aS, nm, seval] <;> rfl) | rfl) ?_
 rintro m ⟨tm, H, kD, df⟩ hinv
 rw [ju] at hinv
 obtain ⟨p6, ji, rfl, hdf, tz, H7, H8, e9, aV, bh, cm, h⟩ := hinv
 simp only at hdf tz H7 H8 e9 aV bh cm
 have qb := vy (a := nx) (m := 5) (b := kD) (by omega)
 have qc := kz (β := bd) (nx := kD) (by omega)
 subst hdf tx
 cases p6 with
 | zero =>
  simp only [nI, hs, reduceCtorEq] at h
  exact absurd h kC
 | succ p6 =>
  simp only [nI, hs, reduceCtorEq] at h
  cases ga : (decide (ji ≥ 0))
  ·simp only [ga, hs] at h
   replace h := tw _ h
   try dsimp only at h
   try simp only [hs] at h
   try simp only [vz, mq, mqm, vsi, tyf, mqt, aS, qb, qc, e9, aV, bh, cm, H7, H8, ga, nm, seval]
   refine dU (x := (.lit (.int .i64 0))) (by first | (simp only [Tryz.results108, resV, resL, resV1, dX, dY, uw, cr, tyf, mqt, aS, qb, qc, H7, H8, ga, nm, seval] <;> rfl) | rfl) ?_
   obtain rfl := kF _ h
   refine ⟨(by first | rfl | assumption | (simp only [bf, bg, aS, qb, qc, H7, H8, nm, seval] <;> rfl)), ?_⟩
   exact sq_of (lq (by simp only [tre, tytre, mqr, Bool.and_self]) rfl)
  simp only [ga, hs] at h
  simp only [vz, mq, mqm, vsi, tyf, mqt, aS, qb, qc, e9, aV, bh, cm, H7, H8, ga, nm, seval]
  refine kq (fun tm => tm 1 = .lit (.int .i64 xs) ∧ tm 2 = .lit (.int .i64 xh) ∧ tm 3 = .ptr nx 0 ∧ tm 7 = .lit (.int .i64 ji) ∧ True) (by refine ⟨e9, aV, bh, cm, trivial⟩ <;> first | (simp only [ua, bT, aS, qb, qc, e9, aV, bh, cm, H7, H8, ga, nm, seval] <;> rfl) | rfl) ?_
  rintro tm ⟨bS, bw, b4, bG, _⟩
  obtain ⟨IQ, jr, h⟩ := optI h kC
  try simp only [hs] at h
  obtain ⟨vU, gP, h⟩ := optI h kC
  try simp only [hs] at h
  cases dV : (IQ == vU)
  ·simp only [dV, hs] at h
   have EM := And.intro aS (And.intro qb (And.intro qc (And.intro H7 (And.intro H8 (And.intro ga dV)))))
   simp only [vz, mq, mqm, vsi, tyf, mqt, EM, bS, bw, b4, bG, (aI jr), (aI gP), nm, seval]
   exact ⟨p6, Nat.lt_succ_self _, by rw [ju]; refine ⟨p6, i64.wrap (ji - 1), rfl, rfl, (show nx + 5 ≤ kD + 16 by omega), ?_, ?_, bS, bw, b4, ?_, (by first | exact h | (simp only [EM]; exact h))⟩ <;> first | (simp only [ua, bT, EM, bS, bw, b4, bG, nm, seval] <;> rfl) | rfl⟩
  simp only [dV, hs] at h
  have rb := And.intro aS (And.intro qb (And.intro qc (And.intro H7 (And.intro H8 (And.intro ga dV)))))
  obtain ⟨EN, Pn, h⟩ := optI h kC
  try simp only [hs] at h
  simp only [vz, mq, mqm, vsi, tyf, mqt, rb, bS, bw, b4, bG, (aI jr), (aI gP), nm, seval]
  refine kupd (VUpd.at (β := bd) (y := (fun _ => .lit (.int .i64 EN.1))) (rc_ok _ _ _ _ _ _ Pn) (by omega) (by first | rfl | assumption | (simp only [bf, bg, rb, nm, seval] <;> rfl)) (by first | rfl | (simp only [nrm, tynrm, @d6, @gi] <;> rfl)) (gT (fun _ => rfl) _)) ?_
  refine ib (fun tm => tm 28 = .lit (.int .i64 EN.1) ∧ True) (by refine ⟨?_, trivial⟩ <;> first | (simp only [ua, bT, rb, bS, bw, b4, bG, nm, seval] <;> rfl) | rfl) ?_
  rintro tm ⟨dc, _⟩
  try simp only [vz, mq, mqm, vsi, tyf, mqt, rb, (aI jr), (aI gP), dc, nm, seval]
  refine dU (x := (.lit (.int .i64 EN.1))) (by first | (simp only [Tryz.results108, resV, resL, resV1, dX, dY, uw, cr, tyf, mqt, rb, (aI jr), (aI gP), nm, seval] <;> rfl) | rfl) ?_
  replace h := qK _ h
  try dsimp only at h
  obtain rfl := kF _ h
  refine ⟨(by first | rfl | assumption | (simp only [bf, bg, rb, nm, seval] <;> rfl)), ?_⟩
  exact sq_of (lq (by simp only [tre, tytre, mqr, Bool.and_self]) rfl)
def qA  : List Int → Int → Int → Option (LOut (Int) (Int))
 | [], uE, dS => some (.go dS)
 | e0 :: p0, uE, dS => qA p0 (uE + 1) (if dS < e0 then e0 else dS)
def mC (aR : List Int) : Option (Int) := cond (aH aR) (lbind (qA aR 0 0) (fun r2 => some r2) (fun c1 => some c1) (fun _ _ => none)) none
theorem v5 (aR : List Int) (R : Int) (h : mC aR = some R) : ah Tryz.prog G0 105 [.sl (aa eI aR) (List.length aR) false] (.tree (.lit (.int .i64 R))) := by
 refine ah.runR mixed Tryz.call105 Tryz.func105 rfl (by simp [Tryz.ntmps105]; kernel_rfl) ?_
 obtain ⟨KF, h, kF, kN⟩ := cl h
 simp only [mC] at h
 cases g4 : (aH aR)
 ·simp only [g4, hs] at h
  exact absurd h kN
 simp only [g4, hs] at h
 simp only [vz, tyf, g4, nm, seval]
 obtain ⟨K3, h, t4, l3, Bp, og⟩ := eW h kN
 obtain ⟨f3, oh, h⟩ := call3 h
 obtain ⟨I3, fv⟩ : ∃ I : Nat → St → Prop, I = (fun m st => ∃ (p3 : List Int) (fO : Int) (ck : Int), m = List.length p3 ∧ 0 ≤ fO ∧ List.drop (Int.toNat fO) aR = p3 ∧ st.df = [] ∧ 5 ≤ st.nx ∧ st.tm 6 = .sl (aa eI aR) (List.length aR) false ∧ st.tm 7 = .lit (.int .i64 (List.length aR : Int)) ∧ st.tm 3 = .lit (.int .i64 ck) ∧ st.tm 8 = .lit (.int .i64 fO) ∧ K3 (f3 p3 fO ck)) := ⟨_, rfl⟩
 refine loopK mixed (by kernel_rfl) I3 (List.length aR) (by rw [fv]; refine ⟨aR, 0, 0, rfl, Int.le_refl _, rfl, rfl, (show 5 ≤ 5 by omega), ?_, ?_, ?_, ?_, h⟩ <;> first | (simp only [ua, nm, seval] <;> rfl) | rfl) ?_
 rintro m ⟨tm, H, eg, df⟩ hinv
 rw [fv] at hinv
 obtain ⟨p3, fO, ck, rfl, bP, c8, hdf, om, e5, e6, e7, e8, h⟩ := hinv
 simp only at hdf om e5 e6 e7 e8
 have n9 := f7 (m := 5) (b := eg) (by omega)
 subst hdf oh
 cases p3 with
 | nil =>
  have im : (decide (fO < (List.length aR : Int))) = false := eL bP c8
  simp only [qA, hs, reduceCtorEq] at h
  replace h := l3 _ h
  try dsimp only at h
  try simp only [hs] at h
  try simp only [vz, tyf, g4, n9, e5, e6, e7, e8, im, nm, seval]
  refine dU (x := (.lit (.int .i64 ck))) (by first | (simp only [Tryz.results105, resV, resL, resV1, dX, dY, uw, cr, tyf, g4, n9, im, nm, seval] <;> rfl) | rfl) ?_
  obtain rfl := kF _ h
  refine jk ?_ ?_
  ·simp only [tre, tytre, Bool.and_self]
  ·first | (simp only [outV, uw, jB, cr, tyf, nrm, tynrm, g4, n9, e5, e6, e7, e8, im, nm, seval] <;> rfl) | rfl
 | cons e3 p3 =>
  have eZ : (decide (fO < (List.length aR : Int))) = true := eM bP c8
  have qW := cL bP c8
  have pR := eN bP c8 g4
  simp only [qA, hs, reduceCtorEq] at h
  simp only [vz, tyf, g4, n9, e5, e6, e7, e8, eZ, (aI qW), pR, nm, seval]
  exact ⟨List.length p3, Nat.lt_succ_self _, by rw [fv]; refine ⟨p3, fO + 1, (if ck < e3 then e3 else ck), rfl, Int.le_trans bP (Int.le_add_one (Int.le_refl _)), cy bP c8, rfl, (show 5 ≤ eg + 10 by omega), e5, e6, ?_, ?_, (by first | exact h | (simp only [eZ]; exact h))⟩ <;> first | (simp only [ua, n9, e5, e6, e7, e8, eZ, pR, nm, seval] <;> rfl) | rfl⟩
end Go.V
end
