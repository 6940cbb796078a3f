/- Part of a proof. -/
import Derived.Test.YtekhjalgmlflpaaGreatDoorKbe
set_option linter.all false
set_option maxRecDepth 4000
set_option maxHeartbeats 40000000
section
set_option maxRecDepth 100000
namespace Go.V
open Go Go.Proofs IntKind
def Ww (x : Gs) : Prop := lenOk x.Tins = true
def Wx (x : Gu) : Prop := lenOk x.Tins = true
section
variable {P : Program} (jg : P.underlying 3 = some (.int .i64)) (dD : P.underlying 22 = some (.array 3 3)) {Wy : Array Field} (dE : P.underlying 24 = some (.struct Wy)) (dF : Wy.toList.map Field.type = [3, 3]) (dG : P.underlying 25 = some (.array 3 24)) {Wz : Array Field} (dH : P.underlying 94 = some (.struct Wz)) (dI : Wz.toList.map Field.type = [25]) (dJ : P.underlying 26 = some (.slice 94)) {W5 : Array Field} (dK : P.underlying 28 = some (.struct W5)) (dL : W5.toList.map Field.type = [22, 25, 24, 3, 26]) (dM : P.underlying 29 = some (.slice 3)) (dN : P.underlying 40 = some (.slice 22)) {W6 : Array Field} (dO : P.underlying 42 = some (.struct W6)) (dP : W6.toList.map Field.type = [40, 3, 22])
include jg dD dE dF dG dH dI dJ dK dL dM dN dO dP
theorem gd_3 {n : Nat} : Dec P (n + 1) 3 eI (fun _ => True) := Pp jg
theorem gd_22 {n : Nat} : Dec P (n + 2) 22 cGi (fun _ => True) := by
 intro xs h
 obtain ⟨yss, hf, rfl⟩ := W7 (n := n + 1) (ts := [3, 3, 3]) dD rfl h
 match yss, hf with
 | [y0, y1, y2], ⟨h0, h1, h2, _⟩ =>
  obtain ⟨x0, r0, e0⟩ := gd_3 jg dD dE dF dG dH dI dJ dK dL dM dN dO dP (n := n + 0) _ h0
  obtain ⟨x1, r1, e1⟩ := gd_3 jg dD dE dF dG dH dI dJ dK dL dM dN dO dP (n := n + 0) _ h1
  obtain ⟨x2, r2, e2⟩ := gd_3 jg dD dE dF dG dH dI dJ dK dL dM dN dO dP (n := n + 0) _ h2
  exact ⟨⟨x0, x1, x2⟩, trivial, by simp only [List.flatten_cons, List.flatten_nil, List.append_nil, sX, e0, e1, e2, eI, rX, eB, eS, eSl, wF, List.cons_append, List.nil_append]⟩
theorem gd_24 {n : Nat} : Dec P (n + 2) 24 aF (fun _ => True) := by
 intro xs h
 obtain ⟨yss, hf, rfl⟩ := G1 (n := n + 1) (ts := [3, 3]) dE dF h
 match yss, hf with
 | [y0, y1], ⟨h0, h1, _⟩ =>
  obtain ⟨x0, r0, e0⟩ := gd_3 jg dD dE dF dG dH dI dJ dK dL dM dN dO dP (n := n + 0) _ h0
  obtain ⟨x1, r1, e1⟩ := gd_3 jg dD dE dF dG dH dI dJ dK dL dM dN dO dP (n := n + 0) _ h1
  exact ⟨⟨x0, x1⟩, trivial, by simp only [List.flatten_cons, List.flatten_nil, List.append_nil, sX, e0, e1, eI, rX, eB, eS, eSl, ui, List.cons_append, List.nil_append]⟩
theorem gd_25 {n : Nat} : Dec P (n + 3) 25 cGa (fun _ => True) := by
 intro xs h
 obtain ⟨yss, hf, rfl⟩ := W7 (n := n + 2) (ts := [24, 24, 24]) dG rfl h
 match yss, hf with
 | [y0, y1, y2], ⟨h0, h1, h2, _⟩ =>
  obtain ⟨x0, r0, e0⟩ := gd_24 jg dD dE dF dG dH dI dJ dK dL dM dN dO dP (n := n + 0) _ h0
  obtain ⟨x1, r1, e1⟩ := gd_24 jg dD dE dF dG dH dI dJ dK dL dM dN dO dP (n := n + 0) _ h1
  obtain ⟨x2, r2, e2⟩ := gd_24 jg dD dE dF dG dH dI dJ dK dL dM dN dO dP (n := n + 0) _ h2
  exact ⟨⟨x0, x1, x2⟩, trivial, by simp only [List.flatten_cons, List.flatten_nil, List.append_nil, sX, e0, e1, e2, eI, rX, eB, eS, eSl, wG, ui, List.cons_append, List.nil_append]⟩
theorem gd_94 {n : Nat} : Dec P (n + 4) 94 cGt (fun _ => True) := by
 intro xs h
 obtain ⟨yss, hf, rfl⟩ := G1 (n := n + 3) (ts := [25]) dH dI h
 match yss, hf with
 | [y0], ⟨h0, _⟩ =>
  obtain ⟨x0, r0, e0⟩ := gd_25 jg dD dE dF dG dH dI dJ dK dL dM dN dO dP (n := n + 0) _ h0
  exact ⟨⟨x0⟩, trivial, by simp only [List.flatten_cons, List.flatten_nil, List.append_nil, sX, e0, eI, rX, eB, eS, eSl, wG, ui, zO, List.cons_append, List.nil_append]⟩
theorem gd_26 {n : Nat} : Dec P (n + 5) 26 (eSl cGt) (fun l => lenOk l = true ∧ ∀ x ∈ l, True) := Pq dJ (gd_94 jg dD dE dF dG dH dI dJ dK dL dM dN dO dP (n := n))
theorem gd_28 {n : Nat} : Dec P (n + 6) 28 cGs (Ww) := by
 intro xs h
 obtain ⟨yss, hf, rfl⟩ := G1 (n := n + 5) (ts := [22, 25, 24, 3, 26]) dK dL h
 match yss, hf with
 | [y0, y1, y2, y3, y4], ⟨h0, h1, h2, h3, h4, _⟩ =>
  obtain ⟨x0, r0, e0⟩ := gd_22 jg dD dE dF dG dH dI dJ dK dL dM dN dO dP (n := n + 3) _ h0
  obtain ⟨x1, r1, e1⟩ := gd_25 jg dD dE dF dG dH dI dJ dK dL dM dN dO dP (n := n + 2) _ h1
  obtain ⟨x2, r2, e2⟩ := gd_24 jg dD dE dF dG dH dI dJ dK dL dM dN dO dP (n := n + 3) _ h2
  obtain ⟨x3, r3, e3⟩ := gd_3 jg dD dE dF dG dH dI dJ dK dL dM dN dO dP (n := n + 4) _ h3
  obtain ⟨x4, r4, e4⟩ := gd_26 jg dD dE dF dG dH dI dJ dK dL dM dN dO dP (n := n + 0) _ h4
  exact ⟨⟨x0, x1, x2, x3, x4⟩, r4.1, by simp only [List.flatten_cons, List.flatten_nil, List.append_nil, sX, e0, e1, e2, e3, e4, eI, rX, eB, eS, eSl, wG, wF, ui, CY, List.cons_append, List.nil_append]⟩
theorem gd_29 {n : Nat} : Dec P (n + 2) 29 (eSl eI) (fun l => lenOk l = true ∧ ∀ x ∈ l, True) := Pq dM (gd_3 jg dD dE dF dG dH dI dJ dK dL dM dN dO dP (n := n))
theorem gd_40 {n : Nat} : Dec P (n + 3) 40 (eSl cGi) (fun l => lenOk l = true ∧ ∀ x ∈ l, True) := Pq dN (gd_22 jg dD dE dF dG dH dI dJ dK dL dM dN dO dP (n := n))
theorem gd_42 {n : Nat} : Dec P (n + 4) 42 cGu (Wx) := by
 intro xs h
 obtain ⟨yss, hf, rfl⟩ := G1 (n := n + 3) (ts := [40, 3, 22]) dO dP h
 match yss, hf with
 | [y0, y1, y2], ⟨h0, h1, h2, _⟩ =>
  obtain ⟨x0, r0, e0⟩ := gd_40 jg dD dE dF dG dH dI dJ dK dL dM dN dO dP (n := n + 0) _ h0
  obtain ⟨x1, r1, e1⟩ := gd_3 jg dD dE dF dG dH dI dJ dK dL dM dN dO dP (n := n + 2) _ h1
  obtain ⟨x2, r2, e2⟩ := gd_22 jg dD dE dF dG dH dI dJ dK dL dM dN dO dP (n := n + 1) _ h2
  exact ⟨⟨x0, x1, x2⟩, r0.1, by simp only [List.flatten_cons, List.flatten_nil, List.append_nil, sX, e0, e1, e2, eI, rX, eB, eS, eSl, wF, CZ, List.cons_append, List.nil_append]⟩
end
theorem Ik {n : Nat} : Dec Tryz.prog (n + 2) 22 cGi (fun _ => True) := gd_22 Tryz.underlying3 Tryz.underlying22 Tryz.underlying24 (by kernel_rfl) Tryz.underlying25 Tryz.underlying94 (by kernel_rfl) Tryz.underlying26 Tryz.underlying28 (by kernel_rfl) Tryz.underlying29 Tryz.underlying40 Tryz.underlying42 (by kernel_rfl)
theorem Ie {n : Nat} : Dec Tryz.prog (n + 6) 28 cGs (Ww) := gd_28 Tryz.underlying3 Tryz.underlying22 Tryz.underlying24 (by kernel_rfl) Tryz.underlying25 Tryz.underlying94 (by kernel_rfl) Tryz.underlying26 Tryz.underlying28 (by kernel_rfl) Tryz.underlying29 Tryz.underlying40 Tryz.underlying42 (by kernel_rfl)
theorem Ih {n : Nat} : Dec Tryz.prog (n + 2) 29 (eSl eI) (fun l => lenOk l = true ∧ ∀ x ∈ l, True) := gd_29 Tryz.underlying3 Tryz.underlying22 Tryz.underlying24 (by kernel_rfl) Tryz.underlying25 Tryz.underlying94 (by kernel_rfl) Tryz.underlying26 Tryz.underlying28 (by kernel_rfl) Tryz.underlying29 Tryz.underlying40 Tryz.underlying42 (by kernel_rfl)
theorem Ii {n : Nat} : Dec Tryz.prog (n + 4) 42 cGu (Wx) := gd_42 Tryz.underlying3 Tryz.underlying22 Tryz.underlying24 (by kernel_rfl) Tryz.underlying25 Tryz.underlying94 (by kernel_rfl) Tryz.underlying26 Tryz.underlying28 (by kernel_rfl) Tryz.underlying29 Tryz.underlying40 Tryz.underlying42 (by kernel_rfl)
end Go.V
end
section
namespace Go.V
open Go Go.Proofs IntKind
def goB (b : Bool) : Option (LOut Bool Unit) := cond b (some (.go ())) (some (.ret false))
theorem qi (a b : Bool) : goB (a && b) = cond a (goB b) (some (.ret false)) := by cases a <;> rfl
theorem cnot {α : Type} (a : Bool) (x y : α) : cond (!a) x y = cond a y x := by cases a <;> rfl
theorem csome (a b : Bool) : cond a (some b) (some false) = some (a && b) := by cases a <;> rfl
theorem vW {X : Type} (b : Bool) (kr : Bool → Option X) (kg : Unit → Option X) (kb : Nat → Unit → Option X) : aK (goB b) kr kg kb = cond b (kg ()) (kr false) := by cases b <;> rfl
def inB (a b n : Int) : Bool := decide (a ≤ n) && decide (n ≤ b)
theorem mr {a b n : Int} : inB a b n = true ↔ a ≤ n ∧ n ≤ b := by simp [inB]
theorem cF {n : Int} (h1 : -9223372036854775808 ≤ n) (h2 : n < 9223372036854775808) : i64.wrap n = n := IntWalk.i64_in _ (by omega)
theorem sJ {α : Type} {xs : List α} (h : xs.length < 9223372036854775808) : lenOk xs = true := by simpa [lenOk] using h
theorem Ps {α : Type} {xs : List α} {i : Int} {x : α} (h : getI xs i = some x) : 0 ≤ i ∧ i < xs.length := ⟨(CJ h).1, (CJ h).2.1⟩
theorem mulR {a b A B : Int} (h1 : 0 ≤ a) (h2 : a ≤ A) (h3 : 0 ≤ b) (h4 : b ≤ B) : 0 ≤ a * b ∧ a * b ≤ A * B :=
 ⟨Int.mul_nonneg h1 h3, Int.mul_le_mul h2 h4 h3 (Int.le_trans h1 h2)⟩
end Go.V
end
section
namespace Go.V
def ea : Option Bool → Bool | none => true | some b => b
def eo : Option Bool → Bool | none => false | some b => b
end Go.V
end
section
namespace Go.V
open Go Go.Proofs IntKind
def qn (aG : Int) (nR : Int) (aU : Int) : Option (Bool) := cond (decide (aG ≤ nR)) (some (decide (nR ≤ aU))) (some false)
theorem uj (aG : Int) (nR : Int) (aU : Int) (R : Bool) (h : qn aG nR aU = some R) : ad Tryz.prog G0 92 [.lit (.int .i64 aG), .lit (.int .i64 nR), .lit (.int .i64 aU)] (.tree (.lit (.bool R))) := by
 refine ad.runR mixed Tryz.call92 Tryz.func92 rfl (by simp [Tryz.ntmps92]; kernel_rfl) ?_
 obtain ⟨KF, h, kF, kN⟩ := cQ h
 simp only [qn] at h
 cases d1 : (decide (aG ≤ nR))
 ·simp only [d1, hs] at h
  try simp only [vz, tyf, d1, nm, seval]
  obtain rfl := kF _ h
  exact bl Tryz.results92 rfl
 simp only [d1, hs] at h
 try simp only [vz, tyf, d1, nm, seval]
 obtain rfl := kF _ h
 exact bl Tryz.results92 rfl
def zP (aG : Int) (aU : Int) : List Int → Int → Option (LOut (Bool) (Unit))
 | [], bS => some (.go ())
 | e0 :: p0, bS => Option.bind (qn aG e0 aU) (fun r1 => cond (r1) (zP aG aU p0 (bS + 1)) (some (.ret false)))
def zQ (aG : Int) (aq : List Int) (aU : Int) : Option (Bool) := cond (lenOk aq) (aK (zP aG aU aq 0) (fun r3 => some r3) (fun c2 => some true) (fun _ _ => none)) none
theorem W8 (aG : Int) (aq : List Int) (aU : Int) (R : Bool) (h : zQ aG aq aU = some R) : ad Tryz.prog G0 89 [.lit (.int .i64 aG), .sl (aa eI aq) (List.length aq) false, .lit (.int .i64 aU)] (.tree (.lit (.bool R))) := by
 refine ad.runR mixed Tryz.call89 Tryz.func89 rfl (by simp [Tryz.ntmps89]; kernel_rfl) ?_
 obtain ⟨KF, h, kF, kN⟩ := cQ h
 simp only [zQ] at h
 cases g5 : (lenOk aq)
 ·simp only [g5, hs] at h
  exact absurd h kN
 simp only [g5, hs] at h
 simp only [vz, tyf, g5, nm, seval]
 obtain ⟨K4, h, wH, rD, G2, qo⟩ := eO h kN
 obtain ⟨f4, sY, h⟩ := call2 h
 obtain ⟨I4, jr⟩ : ∃ I : Nat → St → Prop, I = (fun m st => ∃ (p4 : List Int) (aZ : Int), m = List.length p4 ∧ 0 ≤ aZ ∧ List.drop (Int.toNat aZ) aq = p4 ∧ st.df = [] ∧ 4 ≤ st.nx ∧ st.tm 0 = .lit (.int .i64 aG) ∧ st.tm 2 = .lit (.int .i64 aU) ∧ st.tm 9 = .sl (aa eI aq) (List.length aq) false ∧ st.tm 10 = .lit (.int .i64 (List.length aq : Int)) ∧ st.tm 11 = .lit (.int .i64 aZ) ∧ K4 (f4 p4 aZ)) := ⟨_, rfl⟩
 refine loopK mixed (by kernel_rfl) I4 (List.length aq) (by rw [jr]; refine ⟨aq, 0, rfl, Int.le_refl _, rfl, rfl, (show 4 ≤ 4 by omega), ?_, ?_, ?_, ?_, ?_, h⟩ <;> first | (simp only [ua, nm, seval] <;> rfl) | rfl) ?_
 rintro m ⟨tm, H, kM, df⟩ hinv
 rw [jr] at hinv
 obtain ⟨p4, aZ, rfl, eg, fQ, hdf, sZ, e6, e7, e8, e9, aW, h⟩ := hinv
 simp only at hdf sZ e6 e7 e8 e9 aW
 have fP := eN (m := 4) (b := kM) (by omega)
 subst hdf sY
 cases p4 with
 | nil =>
  have fk : (decide (aZ < (List.length aq : Int))) = false := iG eg fQ
  simp only [zP, hs, reduceCtorEq] at h
  replace h := rD _ h
  try dsimp only at h
  try simp only [hs] at h
  try simp only [vz, tyf, g5, fP, e6, e7, e8, e9, aW, fk, nm, seval]
  obtain rfl := kF _ h
  exact bl Tryz.results89 rfl
 | cons e4 p4 =>
  have cV : (decide (aZ < (List.length aq : Int))) = true := iH eg fQ
  have nQ := fp eg fQ
  have iM := iI eg fQ g5
  simp only [zP, hs, reduceCtorEq] at h
  obtain ⟨jO, jf, h⟩ := optI h qo
  try simp only [hs] at h
  simp only [vz, tyf, g5, fP, e6, e7, e8, e9, aW, cV, (bp nQ), iM, nm, seval]
  refine ktA (uj _ _ _ _ jf) ?_
  refine aV (fun tm => tm 0 = .lit (.int .i64 aG) ∧ tm 2 = .lit (.int .i64 aU) ∧ tm 9 = .sl (aa eI aq) (List.length aq) false ∧ tm 10 = .lit (.int .i64 (List.length aq : Int)) ∧ tm 11 = .lit (.int .i64 aZ) ∧ tm 18 = .lit (.bool jO) ∧ True) (by refine ⟨e6, e7, e8, e9, aW, ?_, trivial⟩ <;> first | (simp only [ua, fP, e6, e7, e8, e9, aW, cV, iM, nm, seval] <;> rfl) | rfl) ?_
  rintro tm ⟨cv, cT, cB, bJ, bR, bz, _⟩
  cases dY : (jO)
  ·simp only [dY, hs] at h
   try simp only [vz, tyf, g5, fP, cV, (bp nQ), iM, cv, cT, cB, bJ, bR, bz, dY, nm, seval]
   replace h := wH _ h
   try dsimp only at h
   obtain rfl := kF _ h
   exact bl Tryz.results89 rfl
  simp only [dY, hs] at h
  simp only [vz, tyf, g5, fP, cV, (bp nQ), iM, cv, cT, cB, bJ, bR, bz, dY, nm, seval]
  exact ⟨List.length p4, Nat.lt_succ_self _, by rw [jr]; refine ⟨p4, aZ + 1, rfl, Int.le_trans eg (Int.le_add_one (Int.le_refl _)), eE eg fQ, rfl, (show 4 ≤ kM + 11 by omega), cv, cT, cB, bJ, ?_, h⟩ <;> first | (simp only [ua, fP, cV, iM, cv, cT, cB, bJ, bR, bz, dY, nm, seval] <;> rfl) | rfl⟩
def zR (aG : Int) (jG : GSpan) (aU : Int) : Option (Bool) := cond (decide (aG ≤ jG.Low)) (cond (decide (jG.Low ≤ jG.High)) (some (decide (jG.High ≤ aU))) (some false)) (some false)
theorem W9 (aG : Int) (jG : GSpan) (aU : Int) (R : Bool) (h : zR aG jG aU = some R) : ad Tryz.prog G0 91 [.lit (.int .i64 aG), .agg (aF jG), .lit (.int .i64 aU)] (.tree (.lit (.bool R))) := by
 refine ad.runR mixed Tryz.call91 Tryz.func91 rfl (by simp [Tryz.ntmps91]; kernel_rfl) ?_
 obtain ⟨KF, h, kF, kN⟩ := cQ h
 simp only [zR] at h
 cases d1 : (decide (aG ≤ jG.Low))
 ·simp only [d1, hs] at h
  try simp only [vz, tyf, d1, nm, seval]
  obtain rfl := kF _ h
  exact bl Tryz.results91 rfl
 simp only [d1, hs] at h
 cases d2 : (decide (jG.Low ≤ jG.High))
 ·simp only [d2, hs] at h
  try simp only [vz, tyf, d1, d2, nm, seval]
  obtain rfl := kF _ h
  exact bl Tryz.results91 rfl
 simp only [d2, hs] at h
 try simp only [vz, tyf, d1, d2, nm, seval]
 obtain rfl := kF _ h
 exact bl Tryz.results91 rfl
def zS (aG : Int) (aU : Int) : List GSpan → Int → Option (LOut (Bool) (Unit))
 | [], bS => some (.go ())
 | e0 :: p0, bS => Option.bind (zR aG e0 aU) (fun r1 => cond (r1) (zS aG aU p0 (bS + 1)) (some (.ret false)))
def wI (aG : Int) (bh : List GSpan) (aU : Int) : Option (Bool) := cond (lenOk bh) (aK (zS aG aU bh 0) (fun r3 => some r3) (fun c2 => some true) (fun _ _ => none)) none
theorem WA (aG : Int) (bh : List GSpan) (aU : Int) (R : Bool) (h : wI aG bh aU = some R) : ad Tryz.prog G0 90 [.lit (.int .i64 aG), .sl (aa aF bh) (List.length bh) false, .lit (.int .i64 aU)] (.tree (.lit (.bool R))) := by
 refine ad.runR mixed Tryz.call90 Tryz.func90 rfl (by simp [Tryz.ntmps90]; kernel_rfl) ?_
 obtain ⟨KF, h, kF, kN⟩ := cQ h
 simp only [wI] at h
 cases g5 : (lenOk bh)
 ·simp only [g5, hs] at h
  exact absurd h kN
 simp only [g5, hs] at h
 simp only [vz, tyf, g5, nm, seval]
 obtain ⟨K4, h, wH, rD, G2, qo⟩ := eO h kN
 obtain ⟨f4, sY, h⟩ := call2 h
 obtain ⟨I4, jr⟩ : ∃ I : Nat → St → Prop, I = (fun m st => ∃ (p4 : List GSpan) (aZ : Int), m = List.length p4 ∧ 0 ≤ aZ ∧ List.drop (Int.toNat aZ) bh = p4 ∧ st.df = [] ∧ 4 ≤ st.nx ∧ st.tm 0 = .lit (.int .i64 aG) ∧ st.tm 2 = .lit (.int .i64 aU) ∧ st.tm 9 = .sl (aa aF bh) (List.length bh) false ∧ st.tm 10 = .lit (.int .i64 (List.length bh : Int)) ∧ st.tm 11 = .lit (.int .i64 aZ) ∧ K4 (f4 p4 aZ)) := ⟨_, rfl⟩
 refine loopK mixed (by kernel_rfl) I4 (List.length bh) (by rw [jr]; refine ⟨bh, 0, rfl, Int.le_refl _, rfl, rfl, (show 4 ≤ 4 by omega), ?_, ?_, ?_, ?_, ?_, h⟩ <;> first | (simp only [ua, nm, seval] <;> rfl) | rfl) ?_
 rintro m ⟨tm, H, kM, df⟩ hinv
 rw [jr] at hinv
 obtain ⟨p4, aZ, rfl, eg, fQ, hdf, sZ, e6, e7, e8, e9, aW, h⟩ := hinv
 simp only at hdf sZ e6 e7 e8 e9 aW
 have fP := eN (m := 4) (b := kM) (by omega)
 subst hdf sY
 cases p4 with
 | nil =>
  have fk : (decide (aZ < (List.length bh : Int))) = false := iG eg fQ
  simp only [zS, hs, reduceCtorEq] at h
  replace h := rD _ h
  try dsimp only at h
  try simp only [hs] at h
  try simp only [vz, tyf, g5, fP, e6, e7, e8, e9, aW, fk, nm, seval]
  obtain rfl := kF _ h
  exact bl Tryz.results90 rfl
 | cons e4 p4 =>
  have cV : (decide (aZ < (List.length bh : Int))) = true := iH eg fQ
  have nQ := fp eg fQ
  have iM := iI eg fQ g5
  simp only [zS, hs, reduceCtorEq] at h
  obtain ⟨jO, jf, h⟩ := optI h qo
  try simp only [hs] at h
  simp only [vz, tyf, g5, fP, e6, e7, e8, e9, aW, cV, (qp nQ), iM, nm, seval]
  refine ktA (W9 _ _ _ _ jf) ?_
  refine aV (fun tm => tm 0 = .lit (.int .i64 aG) ∧ tm 2 = .lit (.int .i64 aU) ∧ tm 9 = .sl (aa aF bh) (List.length bh) false ∧ tm 10 = .lit (.int .i64 (List.length bh : Int)) ∧ tm 11 = .lit (.int .i64 aZ) ∧ tm 18 = .lit (.bool jO) ∧ True) (by refine ⟨e6, e7, e8, e9, aW, ?_, trivial⟩ <;> first | (simp only [ua, fP, e6, e7, e8, e9, aW, cV, iM, nm, seval] <;> rfl) | rfl) ?_
  rintro tm ⟨cv, cT, cB, bJ, bR, bz, _⟩
  cases dY : (jO)
  ·simp only [dY, hs] at h
   try simp only [vz, tyf, g5, fP, cV, (qp nQ), iM, cv, cT, cB, bJ, bR, bz, dY, nm, seval]
   replace h := wH _ h
   try dsimp only at h
   obtain rfl := kF _ h
   exact bl Tryz.results90 rfl
  simp only [dY, hs] at h
  simp only [vz, tyf, g5, fP, cV, (qp nQ), iM, cv, cT, cB, bJ, bR, bz, dY, nm, seval]
  exact ⟨List.length p4, Nat.lt_succ_self _, by rw [jr]; refine ⟨p4, aZ + 1, rfl, Int.le_trans eg (Int.le_add_one (Int.le_refl _)), eE eg fQ, rfl, (show 4 ≤ kM + 12 by omega), cv, cT, cB, bJ, ?_, h⟩ <;> first | (simp only [ua, fP, cV, iM, cv, cT, cB, bJ, bR, bz, dY, nm, seval] <;> rfl) | rfl⟩
def zT  : List Gt → Int → Option (LOut (Bool) (Unit))
 | [], bS => some (.go ())
 | e0 :: p0, bS => Option.bind (wI 0 ([e0.pg.a0, e0.pg.a1, e0.pg.a2]) 99) (fun r2 => cond (r2) (zT p0 (bS + 1)) (some (.ret false)))
def G3 (bk : List Gt) : Option (Bool) := Option.bind (qn 1 (List.length bk : Int) 4) (fun r1 => cond (r1) (cond (lenOk bk) (aK (zT bk 0) (fun r4 => some r4) (fun c3 => some true) (fun _ _ => none)) none) (some false))
theorem zns (bk : List Gt) (R : Bool) (h : G3 bk = some R) : ad Tryz.prog G0 93 [.sl (aa cGt bk) (List.length bk) false] (.tree (.lit (.bool R))) := by
 refine ad.runR mixed Tryz.call93 Tryz.func93 rfl (by simp [Tryz.ntmps93]; kernel_rfl) ?_
 obtain ⟨KF, h, kF, kN⟩ := cQ h
 simp only [G3] at h
 obtain ⟨r5, o6, h⟩ := optI h kN
 try simp only [hs] at h
 simp only [vz, tyf, nm, seval]
 refine ktA (uj _ _ _ _ o6) ?_
 refine aV (fun tm => tm 0 = .sl (aa cGt bk) (List.length bk) false ∧ tm 7 = .lit (.bool r5) ∧ True) (by refine ⟨?_, ?_, trivial⟩ <;> first | (simp only [ua, nm, seval] <;> rfl) | rfl) ?_
 rintro tm ⟨e7, e8, _⟩
 cases d9 : (r5)
 ·simp only [d9, hs] at h
  try simp only [vz, tyf, e7, e8, d9, nm, seval]
  obtain rfl := kF _ h
  exact bl Tryz.results93 rfl
 simp only [d9, hs] at h
 cases nP : (lenOk bk)
 ·simp only [nP, hs] at h
  exact absurd h kN
 simp only [nP, hs] at h
 simp only [vz, tyf, e7, e8, d9, nP, nm, seval]
 obtain ⟨K10, h, Pt, Pu, kB10, Pv⟩ := eO h kN
 obtain ⟨f10, Pw, h⟩ := call2 h
 obtain ⟨I10, wJ⟩ : ∃ I : Nat → St → Prop, I = (fun m st => ∃ (uk : List Gt) (eK : Int), m = List.length uk ∧ 0 ≤ eK ∧ List.drop (Int.toNat eK) bk = uk ∧ st.df = [] ∧ 8 ≤ st.nx ∧ st.tm 9 = .sl (aa cGt bk) (List.length bk) false ∧ st.tm 10 = .lit (.int .i64 (List.length bk : Int)) ∧ st.tm 11 = .lit (.int .i64 eK) ∧ K10 (f10 uk eK)) := ⟨_, rfl⟩
 refine loopK mixed (by kernel_rfl) I10 (List.length bk) (by rw [wJ]; refine ⟨bk, 0, rfl, Int.le_refl _, rfl, rfl, (show 8 ≤ 8 by omega), ?_, ?_, ?_, h⟩ <;> first | (simp only [ua, e7, e8, d9, nm, seval] <;> rfl) | rfl) ?_
 rintro m ⟨tm, H, Da, df⟩ hinv
 rw [wJ] at hinv
 obtain ⟨uk, eK, rfl, nS, qq, hdf, Px, aY, bd, bg, h⟩ := hinv
 simp only at hdf Px aY bd bg
 have fE := eN (m := 8) (b := Da) (by omega)
 subst hdf Pw
 cases uk with
 | nil =>
  have cG : (decide (eK < (List.length bk : Int))) = false := iG nS qq
  simp only [zT, hs, reduceCtorEq] at h
  replace h := Pu _ h
  try dsimp only at h
  try simp only [hs] at h
  try simp only [vz, tyf, d9, nP, fE, aY, bd, bg, cG, nm, seval]
  obtain rfl := kF _ h
  exact bl Tryz.results93 rfl
 | cons aW uk =>
  have cL : (decide (eK < (List.length bk : Int))) = true := iH nS qq
  have iT := fp nS qq
  have ta := iI nS qq nP
  simp only [zT, hs, reduceCtorEq] at h
  try simp only [vz, tyf, d9, nP, fE, aY, bd, bg, cL, (bB iT), ta, nm, seval]
  refine k_slA (n := 3) (w := 2) (off := 0) (cs := cGt aW) (el := some 94) Tryz.underlying25 (by kernel_rfl) (by first | (simp only [nu, nw, nv, mQ, d9, nP, fE, aY, bd, bg, cL, (bB iT), ta, nm, seval] <;> rfl) | rfl) (by first | rfl | assumption | (simp only [bG, fm, fE, nm, seval] <;> rfl)) (by decide) (Nat.le_of_ble_eq_true rfl) ?_
  obtain ⟨oR, BZ, h⟩ := optI h Pv
  try simp only [hs] at h
  simp only [vz, tyf, d9, nP, fE, aY, bd, bg, cL, (bB iT), ta, nm, seval]
  refine kseen (args0 := [.lit (.int .i64 0), .sl (aa aF ([aW.pg.a0, aW.pg.a1, aW.pg.a2])) (List.length ([aW.pg.a0, aW.pg.a1, aW.pg.a2])) false, .lit (.int .i64 99)]) (by simp only [List.map_cons, List.map_nil, List.drop_succ_cons, List.drop_zero, List.take_succ_cons, List.take_zero, List.length_cons, List.length_nil, cA, bG, fm, cr, tyf, nrm, av, d9, nP, fE, aY, bd, bg, cL, (bB iT), ta, nm, seval] <;> rfl) (by simp only [List.map_cons, List.map_nil, List.drop_succ_cons, List.drop_zero, List.take_succ_cons, List.take_zero, List.length_cons, List.length_nil, cA, bG, fm, cr, tyf, nrm, av, d9, nP, fE, aY, bd, bg, cL, (bB iT), ta, nm, seval]; simp only [tre, au, Bool.and_self]) (WA _ _ _ _ BZ) (by first | rfl | simp only [VV.flat, flatL, Bool.and_self]) ?_
  refine aV (fun tm => tm 9 = .sl (aa cGt bk) (List.length bk) false ∧ tm 10 = .lit (.int .i64 (List.length bk : Int)) ∧ tm 11 = .lit (.int .i64 eK) ∧ tm 17 = .lit (.bool oR) ∧ True) (by refine ⟨aY, bd, bg, ?_, trivial⟩ <;> first | (simp only [ua, d9, fE, aY, bd, bg, cL, ta, nm, seval] <;> rfl) | rfl) ?_
  rintro tm ⟨bR, bz, cS, cq, _⟩
  cases dC : (oR)
  ·simp only [dC, hs] at h
   try simp only [vz, tyf, d9, nP, fE, cL, (bB iT), ta, bR, bz, cS, cq, dC, nm, seval]
   replace h := Pt _ h
   try dsimp only at h
   obtain rfl := kF _ h
   exact bl Tryz.results93 rfl
  simp only [dC, hs] at h
  simp only [vz, tyf, d9, nP, fE, cL, (bB iT), ta, bR, bz, cS, cq, dC, nm, seval]
  exact ⟨List.length uk, Nat.lt_succ_self _, by rw [wJ]; refine ⟨uk, eK + 1, rfl, Int.le_trans nS (Int.le_add_one (Int.le_refl _)), eE nS qq, rfl, (show 8 ≤ Da + 11 by omega), bR, bz, ?_, h⟩ <;> first | (simp only [ua, d9, fE, cL, ta, bR, bz, cS, cq, dC, nm, seval] <;> rfl) | rfl⟩
def my (ae : Gs) : Option (Bool) := Option.bind (zQ 0 ([ae.Old.a0, ae.Old.a1, ae.Old.a2]) 99) (fun r1 => cond (r1) (Option.bind (wI 0 ([ae.Fade.a0, ae.Fade.a1, ae.Fade.a2]) 9) (fun r2 => cond (r2) (Option.bind (zR 0 ae.Years 20) (fun r3 => cond (r3) (Option.bind (qn 1 ae.Off 20) (fun r4 => cond (r4) (Option.bind (G3 ae.Tins) (fun r5 => some r5)) (some false))) (some false))) (some false))) (some false))
theorem wA (ae : Gs) (R : Bool) (h : my ae = some R) : ad Tryz.prog G0 60 [.agg (cGs ae)] (.tree (.lit (.bool R))) := by
 refine ad.runR mixed Tryz.call60 Tryz.func60 rfl (by simp [Tryz.ntmps60]; kernel_rfl) ?_
 obtain ⟨KF, h, kF, kN⟩ := cQ h
 simp only [my] at h
 try simp only [vz, tyf, nm, seval]
 refine k_slA (n := 3) (w := 1) (off := 0) (cs := cGs ae) (el := some 28) Tryz.underlying22 (by kernel_rfl) (by first | (simp only [nu, nw, nv, mQ, nm, seval] <;> rfl) | rfl) (by first | rfl | assumption | (simp only [bG, fm, nm, seval] <;> rfl)) (by decide) (Nat.le_of_ble_eq_true rfl) ?_
 obtain ⟨r6, o7, h⟩ := optI h kN
 try simp only [hs] at h
 simp only [vz, tyf, nm, seval]
 refine kseen (args0 := [.lit (.int .i64 0), .sl (aa eI ([ae.Old.a0, ae.Old.a1, ae.Old.a2])) (List.length ([ae.Old.a0, ae.Old.a1, ae.Old.a2])) false, .lit (.int .i64 99)]) (by simp only [List.map_cons, List.map_nil, List.drop_succ_cons, List.drop_zero, List.take_succ_cons, List.take_zero, List.length_cons, List.length_nil, cA, bG, fm, cr, tyf, nrm, av, nm, seval] <;> rfl) (by simp only [List.map_cons, List.map_nil, List.drop_succ_cons, List.drop_zero, List.take_succ_cons, List.take_zero, List.length_cons, List.length_nil, cA, bG, fm, cr, tyf, nrm, av, nm, seval]; simp only [tre, au, Bool.and_self]) (W8 _ _ _ _ o7) (by first | rfl | simp only [VV.flat, flatL, Bool.and_self]) ?_
 refine aV (fun tm => tm 1 = .ptr 0 0 ∧ tm 5 = .lit (.bool r6) ∧ True) (by refine ⟨?_, ?_, trivial⟩ <;> first | (simp only [ua, nm, seval] <;> rfl) | rfl) ?_
 rintro tm ⟨e8, e9, _⟩
 cases bX : (r6)
 ·simp only [bX, hs] at h
  try simp only [vz, tyf, e8, e9, bX, nm, seval]
  obtain rfl := kF _ h
  exact bl Tryz.results60 rfl
 simp only [bX, hs] at h
 try simp only [vz, tyf, e8, e9, bX, nm, seval]
 refine k_slA (n := 3) (w := 2) (off := 3) (cs := cGs ae) (el := some 28) Tryz.underlying25 (by kernel_rfl) (by first | (simp only [nu, nw, nv, mQ, e8, e9, bX, nm, seval] <;> rfl) | rfl) (by first | rfl | assumption | (simp only [bG, fm, nm, seval] <;> rfl)) (by decide) (Nat.le_of_ble_eq_true rfl) ?_
 obtain ⟨dW, pO, h⟩ := optI h kN
 try simp only [hs] at h
 simp only [vz, tyf, e8, e9, bX, nm, seval]
 refine kseen (args0 := [.lit (.int .i64 0), .sl (aa aF ([ae.Fade.a0, ae.Fade.a1, ae.Fade.a2])) (List.length ([ae.Fade.a0, ae.Fade.a1, ae.Fade.a2])) false, .lit (.int .i64 9)]) (by simp only [List.map_cons, List.map_nil, List.drop_succ_cons, List.drop_zero, List.take_succ_cons, List.take_zero, List.length_cons, List.length_nil, cA, bG, fm, cr, tyf, nrm, av, e8, e9, bX, nm, seval] <;> rfl) (by simp only [List.map_cons, List.map_nil, List.drop_succ_cons, List.drop_zero, List.take_succ_cons, List.take_zero, List.length_cons, List.length_nil, cA, bG, fm, cr, tyf, nrm, av, e8, e9, bX, nm, seval]; simp only [tre, au, Bool.and_self]) (WA _ _ _ _ pO) (by first | rfl | simp only [VV.flat, flatL, Bool.and_self]) ?_
 refine aV (fun tm => tm 1 = .ptr 0 0 ∧ tm 6 = .lit (.bool true) ∧ tm 9 = .lit (.bool dW) ∧ True) (by refine ⟨e8, ?_, ?_, trivial⟩ <;> first | (simp only [ua, e8, e9, bX, nm, seval] <;> rfl) | rfl) ?_
 rintro tm ⟨bd, bg, bK, _⟩
 cases cG : (dW)
 ·simp only [cG, hs] at h
  try simp only [vz, tyf, bX, bd, bg, bK, cG, nm, seval]
  obtain rfl := kF _ h
  exact bl Tryz.results60 rfl
 simp only [cG, hs] at h
 obtain ⟨zU, G4, h⟩ := optI h kN
 try simp only [hs] at h
 simp only [vz, tyf, bX, bd, bg, bK, cG, nm, seval]
 refine ktA (W9 _ _ _ _ G4) ?_
 refine aV (fun tm => tm 1 = .ptr 0 0 ∧ tm 11 = .lit (.bool true) ∧ tm 14 = .lit (.bool zU) ∧ True) (by refine ⟨bd, ?_, ?_, trivial⟩ <;> first | (simp only [ua, bX, bd, bg, bK, cG, nm, seval] <;> rfl) | rfl) ?_
 rintro tm ⟨cT, cB, bJ, _⟩
 cases gJ : (zU)
 ·simp only [gJ, hs] at h
  try simp only [vz, tyf, bX, cG, cT, cB, bJ, gJ, nm, seval]
  obtain rfl := kF _ h
  exact bl Tryz.results60 rfl
 simp only [gJ, hs] at h
 obtain ⟨wK, Db, h⟩ := optI h kN
 try simp only [hs] at h
 simp only [vz, tyf, bX, cG, cT, cB, bJ, gJ, nm, seval]
 refine ktA (uj _ _ _ _ Db) ?_
 refine aV (fun tm => tm 1 = .ptr 0 0 ∧ tm 16 = .lit (.bool true) ∧ tm 19 = .lit (.bool wK) ∧ True) (by refine ⟨cT, ?_, ?_, trivial⟩ <;> first | (simp only [ua, bX, cG, cT, cB, bJ, gJ, nm, seval] <;> rfl) | rfl) ?_
 rintro tm ⟨cq, da, cn, _⟩
 cases gL : (wK)
 ·simp only [gL, hs] at h
  try simp only [vz, tyf, bX, cG, gJ, cq, da, cn, gL, nm, seval]
  obtain rfl := kF _ h
  exact bl Tryz.results60 rfl
 simp only [gL, hs] at h
 obtain ⟨Py, Pz, h⟩ := optI h kN
 try simp only [hs] at h
 simp only [vz, tyf, bX, cG, gJ, cq, da, cn, gL, nm, seval]
 refine ktA (zns _ _ Pz) ?_
 refine aV (fun tm => tm 21 = .lit (.bool true) ∧ tm 24 = .lit (.bool Py) ∧ True) (by refine ⟨?_, ?_, trivial⟩ <;> first | (simp only [ua, bX, cG, gJ, cq, da, cn, gL, nm, seval] <;> rfl) | rfl) ?_
 rintro tm ⟨cE, fC, _⟩
 try simp only [vz, tyf, bX, cG, gJ, gL, cE, fC, nm, seval]
 obtain rfl := kF _ h
 exact bl Tryz.results60 rfl
def wL  : List Int → Int → Int → Option (LOut (Int) (Int))
 | [], i9, cj => some (.go cj)
 | e0 :: p0, i9, cj => wL p0 (i9 + 1) (i64.wrap (cj + e0))
def uZ (aC : List Int) : Option (Int) := cond (lenOk aC) (aK (wL aC 0 0) (fun r2 => some r2) (fun c1 => some c1) (fun _ _ => none)) none
theorem Ng (aC : List Int) (R : Int) (h : uZ aC = some R) : ad Tryz.prog G0 95 [.sl (aa eI aC) (List.length aC) false] (.tree (.lit (.int .i64 R))) := by
 refine ad.runR mixed Tryz.call95 Tryz.func95 rfl (by simp [Tryz.ntmps95]; kernel_rfl) ?_
 obtain ⟨KF, h, kF, kN⟩ := cQ h
 simp only [uZ] at h
 cases g4 : (lenOk aC)
 ·simp only [g4, hs] at h
  exact absurd h kN
 simp only [g4, hs] at h
 simp only [vz, tyf, g4, nm, seval]
 obtain ⟨K3, h, BU, rl, FR, v5⟩ := eO h kN
 obtain ⟨f3, ss, h⟩ := call3 h
 obtain ⟨I3, jc⟩ : ∃ I : Nat → St → Prop, I = (fun m st => ∃ (p3 : List Int) (fz : Int) (cR : Int), m = List.length p3 ∧ 0 ≤ fz ∧ List.drop (Int.toNat fz) aC = p3 ∧ st.df = [] ∧ 5 ≤ st.nx ∧ st.tm 6 = .sl (aa eI aC) (List.length aC) false ∧ st.tm 7 = .lit (.int .i64 (List.length aC : Int)) ∧ st.tm 3 = .lit (.int .i64 cR) ∧ st.tm 8 = .lit (.int .i64 fz) ∧ K3 (f3 p3 fz cR)) := ⟨_, rfl⟩
 refine loopK mixed (by kernel_rfl) I3 (List.length aC) (by rw [jc]; refine ⟨aC, 0, 0, rfl, Int.le_refl _, rfl, rfl, (show 5 ≤ 5 by omega), ?_, ?_, ?_, ?_, h⟩ <;> first | (simp only [ua, nm, seval] <;> rfl) | rfl) ?_
 rintro m ⟨tm, H, gF, df⟩ hinv
 rw [jc] at hinv
 obtain ⟨p3, fz, cR, rfl, ec, eW, hdf, su, e5, e6, e7, e8, h⟩ := hinv
 simp only at hdf su e5 e6 e7 e8
 have n9 := eN (m := 5) (b := gF) (by omega)
 subst hdf ss
 cases p3 with
 | nil =>
  have bX : (decide (fz < (List.length aC : Int))) = false := iG ec eW
  simp only [wL, hs, reduceCtorEq] at h
  replace h := rl _ h
  try dsimp only at h
  try simp only [hs] at h
  try simp only [vz, tyf, g4, n9, e5, e6, e7, e8, bX, nm, seval]
  refine bP (x := (.lit (.int .i64 cR))) (by first | (simp only [Tryz.results95, resV, resL, ar, bV, bU, uw, cr, tyf, g4, n9, bX, nm, seval] <;> rfl) | rfl) ?_
  obtain rfl := kF _ h
  refine bZ ?_ ?_
  ·simp only [tre, au, Bool.and_self]
  ·first | (simp only [outV, uw, cA, cr, tyf, nrm, av, g4, n9, e5, e6, e7, e8, bX, nm, seval] <;> rfl) | rfl
 | cons e3 p3 =>
  have lp : (decide (fz < (List.length aC : Int))) = true := iH ec eW
  have kL := fp ec eW
  have lq := iI ec eW g4
  simp only [wL, hs, reduceCtorEq] at h
  simp only [vz, tyf, g4, n9, e5, e6, e7, e8, lp, (bp kL), lq, nm, seval]
  exact ⟨List.length p3, Nat.lt_succ_self _, by rw [jc]; refine ⟨p3, fz + 1, i64.wrap (cR + e3), rfl, Int.le_trans ec (Int.le_add_one (Int.le_refl _)), eE ec eW, rfl, (show 5 ≤ gF + 10 by omega), e5, e6, ?_, ?_, h⟩ <;> first | (simp only [ua, n9, e5, e6, e7, e8, lp, lq, nm, seval] <;> rfl) | rfl⟩
def zV (ae : Gs) (an : List Int) : Option (Bool) := cond ((List.length an : Int) == (List.length ae.Tins : Int)) (Option.bind (zQ 0 an 8) (fun r1 => cond (r1) (Option.bind (uZ an) (fun r2 => Option.bind (qn 1 r2 8) (fun r3 => some r3))) (some false))) (some false)
theorem WB (ae : Gs) (an : List Int) (R : Bool) (h : zV ae an = some R) : ad Tryz.prog G0 62 [.agg (cGs ae), .sl (aa eI an) (List.length an) false] (.tree (.lit (.bool R))) := by
 refine ad.runR mixed Tryz.call62 Tryz.func62 rfl (by simp [Tryz.ntmps62]; kernel_rfl) ?_
 obtain ⟨KF, h, kF, kN⟩ := cQ h
 simp only [zV] at h
 cases d4 : ((List.length an : Int) == (List.length ae.Tins : Int))
 ·simp only [d4, hs] at h
  try simp only [vz, tyf, d4, nm, seval]
  obtain rfl := kF _ h
  exact bl Tryz.results62 rfl
 simp only [d4, hs] at h
 obtain ⟨r5, o6, h⟩ := optI h kN
 try simp only [hs] at h
 simp only [vz, tyf, d4, nm, seval]
 refine ktA (W8 _ _ _ _ o6) ?_
 refine aV (fun tm => tm 1 = .sl (aa eI an) (List.length an) false ∧ tm 11 = .lit (.bool true) ∧ tm 13 = .lit (.bool r5) ∧ True) (by refine ⟨?_, ?_, ?_, trivial⟩ <;> first | (simp only [ua, d4, nm, seval] <;> rfl) | rfl) ?_
 rintro tm ⟨e7, e8, e9, _⟩
 cases bX : (r5)
 ·simp only [bX, hs] at h
  try simp only [vz, tyf, d4, e7, e8, e9, bX, nm, seval]
  obtain rfl := kF _ h
  exact bl Tryz.results62 rfl
 simp only [bX, hs] at h
 obtain ⟨dW, pO, h⟩ := optI h kN
 try simp only [hs] at h
 simp only [vz, tyf, d4, e7, e8, e9, bX, nm, seval]
 refine ktA (Ng _ _ pO) ?_
 refine aV (fun tm => tm 15 = .lit (.bool true) ∧ tm 17 = .lit (.int .i64 dW) ∧ True) (by refine ⟨?_, ?_, trivial⟩ <;> first | (simp only [ua, d4, e7, e8, e9, bX, nm, seval] <;> rfl) | rfl) ?_
 rintro tm ⟨bd, bg, _⟩
 obtain ⟨oQ, v8, h⟩ := optI h kN
 try simp only [hs] at h
 simp only [vz, tyf, d4, bX, bd, bg, nm, seval]
 refine ktA (uj _ _ _ _ v8) ?_
 refine aV (fun tm => tm 15 = .lit (.bool true) ∧ tm 18 = .lit (.bool oQ) ∧ True) (by refine ⟨bd, ?_, trivial⟩ <;> first | (simp only [ua, d4, bX, bd, bg, nm, seval] <;> rfl) | rfl) ?_
 rintro tm ⟨bI, cv, _⟩
 try simp only [vz, tyf, d4, bX, bI, cv, nm, seval]
 obtain rfl := kF _ h
 exact bl Tryz.results62 rfl
def z9 (cO : Ga) (aq : Gi) : Option (Bool) := Option.bind (qn cO.a0.Low aq.a0 cO.a0.High) (fun r1 => cond (r1) (Option.bind (qn cO.a1.Low aq.a1 cO.a1.High) (fun r2 => cond (r2) (Option.bind (qn cO.a2.Low aq.a2 cO.a2.High) (fun r3 => cond (r3) (some true) (some false))) (some false))) (some false))
theorem WC (cO : Ga) (aq : Gi) (R : Bool) (h : z9 cO aq = some R) : ad Tryz.prog G0 98 [.agg (cGa cO), .agg (cGi aq)] (.tree (.lit (.bool R))) := by
 refine ad.runR mixed Tryz.call98 Tryz.func98 rfl (by simp [Tryz.ntmps98]; kernel_rfl) ?_
 obtain ⟨KF, h, kF, kN⟩ := cQ h
 simp only [z9] at h
 simp only [vz, tyf, nm, seval]
 refine pv mixed (by kernel_rfl) 4 ?_
 simp only [vz, tyf, nm, seval]
 refine fu (fun tm => tm 2 = .ptr 0 0 ∧ tm 5 = .lit (.int .i64 0) ∧ tm 6 = .lit (.int .i64 aq.a0) ∧ tm 7 = .agg (cGi aq) ∧ tm 8 = .lit (.int .i64 0) ∧ True) (by refine ⟨?_, ?_, ?_, ?_, ?_, trivial⟩ <;> first | (simp only [ua, nm, seval] <;> rfl) | rfl) ?_
 rintro tm ⟨e4, e5, e6, e7, e8, _⟩
 obtain ⟨r9, vb, h⟩ := optI h kN
 try simp only [hs] at h
 simp only [vz, tyf, e4, e5, e6, e7, e8, nm, seval]
 refine dktA (uj _ _ _ _ vb) ?_
 refine aV (fun tm => tm 2 = .ptr 0 0 ∧ tm 7 = .agg (cGi aq) ∧ tm 8 = .lit (.int .i64 0) ∧ tm 21 = .lit (.bool r9) ∧ True) (by refine ⟨e4, e7, e8, ?_, trivial⟩ <;> first | (simp only [ua, e4, e5, e6, e7, e8, nm, seval] <;> rfl) | rfl) ?_
 rintro tm ⟨aX, aY, bd, bg, _⟩
 cases bu : (r9)
 ·simp only [bu, hs] at h
  try simp only [vz, tyf, aX, aY, bd, bg, bu, nm, seval]
  obtain rfl := kF _ h
  exact bl Tryz.results98 rfl
 simp only [bu, hs] at h
 simp only [vz, tyf, aX, aY, bd, bg, bu, nm, seval]
 refine fu (fun tm => tm 2 = .ptr 0 0 ∧ tm 5 = .lit (.int .i64 1) ∧ tm 6 = .lit (.int .i64 aq.a1) ∧ tm 7 = .agg (cGi aq) ∧ tm 8 = .lit (.int .i64 1) ∧ True) (by refine ⟨aX, ?_, ?_, aY, ?_, trivial⟩ <;> first | (simp only [ua, aX, aY, bd, bg, bu, nm, seval] <;> rfl) | rfl) ?_
 rintro tm ⟨bw, bI, cv, cT, cB, _⟩
 obtain ⟨ma, se, h⟩ := optI h kN
 try simp only [hs] at h
 simp only [vz, tyf, bu, bw, bI, cv, cT, cB, nm, seval]
 refine dktA (uj _ _ _ _ se) ?_
 refine aV (fun tm => tm 2 = .ptr 0 0 ∧ tm 7 = .agg (cGi aq) ∧ tm 8 = .lit (.int .i64 1) ∧ tm 21 = .lit (.bool ma) ∧ True) (by refine ⟨bw, cT, cB, ?_, trivial⟩ <;> first | (simp only [ua, bu, bw, bI, cv, cT, cB, nm, seval] <;> rfl) | rfl) ?_
 rintro tm ⟨bz, cS, cq, da, _⟩
 cases j7 : (ma)
 ·simp only [j7, hs] at h
  try simp only [vz, tyf, bu, bz, cS, cq, da, j7, nm, seval]
  obtain rfl := kF _ h
  exact bl Tryz.results98 rfl
 simp only [j7, hs] at h
 simp only [vz, tyf, bu, bz, cS, cq, da, j7, nm, seval]
 refine fu (fun tm => tm 2 = .ptr 0 0 ∧ tm 5 = .lit (.int .i64 2) ∧ tm 6 = .lit (.int .i64 aq.a2) ∧ tm 7 = .agg (cGi aq) ∧ tm 8 = .lit (.int .i64 2) ∧ True) (by refine ⟨bz, ?_, ?_, cS, ?_, trivial⟩ <;> first | (simp only [ua, bu, bz, cS, cq, da, j7, nm, seval] <;> rfl) | rfl) ?_
 rintro tm ⟨bA, bW, cC, cE, fC, _⟩
 obtain ⟨Dc, P0, h⟩ := optI h kN
 try simp only [hs] at h
 simp only [vz, tyf, bu, j7, bA, bW, cC, cE, fC, nm, seval]
 refine dktA (uj _ _ _ _ P0) ?_
 refine aV (fun tm => tm 2 = .ptr 0 0 ∧ tm 7 = .agg (cGi aq) ∧ tm 8 = .lit (.int .i64 2) ∧ tm 21 = .lit (.bool Dc) ∧ True) (by refine ⟨bA, cE, fC, ?_, trivial⟩ <;> first | (simp only [ua, bu, j7, bA, bW, cC, cE, fC, nm, seval] <;> rfl) | rfl) ?_
 rintro tm ⟨gk, eh, fy, cY, _⟩
 cases G5 : (Dc)
 ·simp only [G5, hs] at h
  try simp only [vz, tyf, bu, j7, gk, eh, fy, cY, G5, nm, seval]
  obtain rfl := kF _ h
  exact bl Tryz.results98 rfl
 simp only [G5, hs] at h
 try simp only [vz, tyf, bu, j7, gk, eh, fy, cY, G5, nm, seval]
 obtain rfl := kF _ h
 exact bl Tryz.results98 rfl
def zC (ae : Gs) : List Gi → Int → Option (LOut (Bool) (Unit))
 | [], qt => some (.go ())
 | e0 :: p0, qt => Option.bind (getI ae.Tins qt) (fun x3 => Option.bind (z9 x3.pg e0) (fun r4 => cond (r4) (zC ae p0 (qt + 1)) (some (.ret false))))
def Cv (ae : Gs) (bj : Gu) : Option (Bool) := cond ((List.length bj.Tins : Int) != (List.length ae.Tins : Int)) (some false) (Option.bind (qn ae.Years.Low bj.Years ae.Years.High) (fun r1 => cond (r1) (Option.bind (z9 ae.Fade bj.Fade) (fun r2 => cond (r2) (cond (lenOk bj.Tins) (aK (zC ae bj.Tins 0) (fun r6 => some r6) (fun c5 => some true) (fun _ _ => none)) none) (some false))) (some false)))
theorem zlz (ae : Gs) (bj : Gu) (R : Bool) (h : Cv ae bj = some R) : ad Tryz.prog G0 66 [.agg (cGs ae), .agg (cGu bj)] (.tree (.lit (.bool R))) := by
 refine ad.runR mixed Tryz.call66 Tryz.func66 rfl (by simp [Tryz.ntmps66]; kernel_rfl) ?_
 obtain ⟨KF, h, kF, kN⟩ := cQ h
 simp only [Cv] at h
 cases d7 : ((List.length bj.Tins : Int) != (List.length ae.Tins : Int))
 ·simp only [d7, hs] at h
  obtain ⟨r8, o9, h⟩ := optI h kN
  try simp only [hs] at h
  simp only [vz, tyf, d7, nm, seval]
  refine ktA (uj _ _ _ _ o9) ?_
  refine aV (fun tm => tm 2 = .ptr 0 0 ∧ tm 3 = .ptr 1 0 ∧ tm 14 = .lit (.bool false) ∧ tm 23 = .lit (.bool r8) ∧ True) (by refine ⟨?_, ?_, ?_, ?_, trivial⟩ <;> first | (simp only [ua, d7, nm, seval] <;> rfl) | rfl) ?_
  rintro tm ⟨aW, aX, aY, bd, _⟩
  cases bH : (r8)
  ·simp only [bH, hs] at h
   try simp only [vz, tyf, d7, aW, aX, aY, bd, bH, nm, seval]
   obtain rfl := kF _ h
   exact bl Tryz.results66 rfl
  simp only [bH, hs] at h
  obtain ⟨oQ, v8, h⟩ := optI h kN
  try simp only [hs] at h
  simp only [vz, tyf, d7, aW, aX, aY, bd, bH, nm, seval]
  refine ktA (WC _ _ _ v8) ?_
  refine aV (fun tm => tm 2 = .ptr 0 0 ∧ tm 3 = .ptr 1 0 ∧ tm 26 = .lit (.bool false) ∧ tm 31 = .lit (.bool oQ) ∧ True) (by refine ⟨aW, aX, ?_, ?_, trivial⟩ <;> first | (simp only [ua, d7, aW, aX, aY, bd, bH, nm, seval] <;> rfl) | rfl) ?_
  rintro tm ⟨bI, cv, cT, cB, _⟩
  cases fa : (oQ)
  ·simp only [fa, hs] at h
   try simp only [vz, tyf, d7, bH, bI, cv, cT, cB, fa, nm, seval]
   obtain rfl := kF _ h
   exact bl Tryz.results66 rfl
  simp only [fa, hs] at h
  cases wM : (lenOk bj.Tins)
  ·simp only [wM, hs] at h
   exact absurd h kN
  simp only [wM, hs] at h
  simp only [vz, tyf, d7, bH, bI, cv, cT, cB, fa, wM, nm, seval]
  obtain ⟨K22, h, P1, P2, kB22, Dd⟩ := eO h kN
  obtain ⟨De, P4, h⟩ := call2 h
  obtain ⟨I22, wN⟩ : ∃ I : Nat → St → Prop, I = (fun m st => ∃ (rE : List Gi) (dt : Int), m = List.length rE ∧ 0 ≤ dt ∧ List.drop (Int.toNat dt) bj.Tins = rE ∧ st.df = [] ∧ 34 ≤ st.nx ∧ st.H 0 = some (.cells (some 28) (cGs ae)) ∧ st.tm 2 = .ptr 0 0 ∧ st.tm 35 = .sl (aa cGi bj.Tins) (List.length bj.Tins) false ∧ st.tm 36 = .lit (.int .i64 (List.length bj.Tins : Int)) ∧ st.tm 37 = .lit (.int .i64 dt) ∧ K22 (De rE dt)) := ⟨_, rfl⟩
  refine loopK mixed (by kernel_rfl) I22 (List.length bj.Tins) (by rw [wN]; refine ⟨bj.Tins, 0, rfl, Int.le_refl _, rfl, rfl, (show 34 ≤ 34 by omega), ?_, bI, ?_, ?_, ?_, h⟩ <;> first | (simp only [ua, d7, bH, bI, cv, cT, cB, fa, nm, seval] <;> rfl) | rfl) ?_
  rintro m ⟨tm, H, wO, df⟩ hinv
  rw [wN] at hinv
  obtain ⟨rE, dt, rfl, nT, qu, hdf, P5, Df, cq, da, cn, bA, h⟩ := hinv
  simp only at hdf P5 Df cq da cn bA
  have G6 := eN (m := 34) (b := wO) (by omega)
  subst hdf P4
  cases rE with
  | nil =>
   have d30 : (decide (dt < (List.length bj.Tins : Int))) = false := iG nT qu
   simp only [zC, hs, reduceCtorEq] at h
   replace h := P2 _ h
   try dsimp only at h
   try simp only [hs] at h
   try simp only [vz, tyf, d7, bH, fa, wM, G6, cq, da, cn, bA, Df, d30, nm, seval]
   obtain rfl := kF _ h
   exact bl Tryz.results66 rfl
  | cons bR rE =>
   have iE : (decide (dt < (List.length bj.Tins : Int))) = true := iH nT qu
   have tJ := fp nT qu
   have P6 := iI nT qu wM
   simp only [zC, hs, reduceCtorEq] at h
   simp only [vz, tyf, d7, bH, fa, wM, G6, cq, da, cn, bA, Df, iE, (cl tJ), P6, nm, seval]
   refine fu (fun tm => tm 2 = .ptr 0 0 ∧ tm 5 = .lit (.int .i64 dt) ∧ tm 6 = .ptr (wO + 4) 0 ∧ tm 35 = .sl (aa cGi bj.Tins) (List.length bj.Tins) false ∧ tm 36 = .lit (.int .i64 (List.length bj.Tins : Int)) ∧ tm 37 = .lit (.int .i64 dt) ∧ True) (by refine ⟨cq, ?_, ?_, da, cn, bA, trivial⟩ <;> first | (simp only [ua, d7, bH, fa, G6, cq, da, cn, bA, Df, iE, P6, nm, seval] <;> rfl) | rfl) ?_
   rintro tm ⟨fF, gk, eh, fy, cY, di, _⟩
   have Dg := And.intro d7 (And.intro bH (And.intro fa (And.intro wM (And.intro G6 (And.intro Df (And.intro iE P6))))))
   obtain ⟨x41, P7, h⟩ := optI h Dd
   try simp only [hs] at h
   obtain ⟨Dh, P8, h⟩ := optI h Dd
   try simp only [hs] at h
   simp only [vz, tyf, Dg, (cl tJ), fF, gk, eh, fy, cY, di, (bB P7), nm, seval]
   refine dktA (WC _ _ _ P8) ?_
   refine aV (fun tm => tm 2 = .ptr 0 0 ∧ tm 35 = .sl (aa cGi bj.Tins) (List.length bj.Tins) false ∧ tm 36 = .lit (.int .i64 (List.length bj.Tins : Int)) ∧ tm 37 = .lit (.int .i64 dt) ∧ tm 49 = .lit (.bool Dh) ∧ True) (by refine ⟨fF, fy, cY, di, ?_, trivial⟩ <;> first | (simp only [ua, Dg, fF, gk, eh, fy, cY, di, nm, seval] <;> rfl) | rfl) ?_
   rintro tm ⟨lr, fY, fV, fL, ed, _⟩
   cases ez : (Dh)
   ·simp only [ez, hs] at h
    try simp only [vz, tyf, Dg, (cl tJ), (bB P7), lr, fY, fV, fL, ed, ez, nm, seval]
    replace h := P1 _ h
    try dsimp only at h
    obtain rfl := kF _ h
    exact bl Tryz.results66 rfl
   simp only [ez, hs] at h
   simp only [vz, tyf, Dg, (cl tJ), (bB P7), lr, fY, fV, fL, ed, ez, nm, seval]
   exact ⟨List.length rE, Nat.lt_succ_self _, by rw [wN]; refine ⟨rE, dt + 1, rfl, Int.le_trans nT (Int.le_add_one (Int.le_refl _)), eE nT qu, rfl, (show 34 ≤ wO + 18 by omega), ?_, lr, fY, fV, ?_, h⟩ <;> first | (simp only [ua, Dg, lr, fY, fV, fL, ed, ez, nm, seval] <;> rfl) | rfl⟩
 simp only [d7, hs] at h
 try simp only [vz, tyf, d7, nm, seval]
 obtain rfl := kF _ h
 exact bl Tryz.results66 rfl
def tc (ah : Gm) (xpg : Int) : List Int → Int → Int → Option (LOut (Int) (Int))
 | [], bS, bx => some (.go bx)
 | e0 :: p0, bS, bx => Option.bind (getI ah.sh.Tins bS) (fun x1 => cond (xpg == 0) (tc ah xpg p0 (bS + 1) (i64.wrap (bx + (i64.wrap (e0 * x1.pg.a0.Low))))) (cond (xpg == 1) (tc ah xpg p0 (bS + 1) (i64.wrap (bx + (i64.wrap (e0 * x1.pg.a1.Low))))) (cond (xpg == 2) (tc ah xpg p0 (bS + 1) (i64.wrap (bx + (i64.wrap (e0 * x1.pg.a2.Low))))) (none))))
def wP (ah : Gm) (xpg : Int) : Option (Int) := cond (lenOk ah.mix) (aK (tc ah xpg ah.mix 0 0) (fun r3 => some r3) (fun c2 => some c2) (fun _ _ => none)) none
theorem P9 (ah : Gm) (xpg : Int) (R : Int) (h : wP ah xpg = some R) : ad Tryz.prog G0 96 [.agg (cGm ah), .lit (.int .i64 xpg)] (.tree (.lit (.int .i64 R))) := by
 refine ad.runR mixed Tryz.call96 Tryz.func96 rfl (by simp [Tryz.ntmps96]; kernel_rfl) ?_
 obtain ⟨KF, h, kF, kN⟩ := cQ h
 simp only [wP] at h
 cases g5 : (lenOk ah.mix)
 ·simp only [g5, hs] at h
  exact absurd h kN
 simp only [g5, hs] at h
 simp only [vz, tyf, g5, nm, seval]
 obtain ⟨K4, h, wH, rD, G2, qo⟩ := eO h kN
 obtain ⟨f4, sY, h⟩ := call3 h
 obtain ⟨I4, jr⟩ : ∃ I : Nat → St → Prop, I = (fun m st => ∃ (p4 : List Int) (aZ : Int) (cX : Int), m = List.length p4 ∧ 0 ≤ aZ ∧ List.drop (Int.toNat aZ) ah.mix = p4 ∧ st.df = [] ∧ 7 ≤ st.nx ∧ st.H 0 = some (.cells (some 89) (cGm ah)) ∧ st.tm 1 = .lit (.int .i64 xpg) ∧ st.tm 2 = .ptr 0 0 ∧ st.tm 9 = .sl (aa eI ah.mix) (List.length ah.mix) false ∧ st.tm 10 = .lit (.int .i64 (List.length ah.mix : Int)) ∧ st.tm 5 = .lit (.int .i64 cX) ∧ st.tm 11 = .lit (.int .i64 aZ) ∧ K4 (f4 p4 aZ cX)) := ⟨_, rfl⟩
 refine loopK mixed (by kernel_rfl) I4 (List.length ah.mix) (by rw [jr]; refine ⟨ah.mix, 0, 0, rfl, Int.le_refl _, rfl, rfl, (show 7 ≤ 7 by omega), ?_, ?_, ?_, ?_, ?_, ?_, ?_, h⟩ <;> first | (simp only [ua, nm, seval] <;> rfl) | rfl) ?_
 rintro m ⟨tm, H, kM, df⟩ hinv
 rw [jr] at hinv
 obtain ⟨p4, aZ, cX, rfl, eg, fQ, hdf, sZ, H6, e7, e8, e9, aW, aX, aY, h⟩ := hinv
 simp only at hdf sZ H6 e7 e8 e9 aW aX aY
 have mB := eN (m := 7) (b := kM) (by omega)
 subst hdf sY
 cases p4 with
 | nil =>
  have bH : (decide (aZ < (List.length ah.mix : Int))) = false := iG eg fQ
  simp only [tc, hs, reduceCtorEq] at h
  replace h := rD _ h
  try dsimp only at h
  try simp only [hs] at h
  try simp only [vz, tyf, g5, mB, e7, e8, e9, aW, aX, aY, H6, bH, nm, seval]
  refine bP (x := (.lit (.int .i64 cX))) (by first | (simp only [Tryz.results96, resV, resL, ar, bV, bU, uw, cr, tyf, g5, mB, H6, bH, nm, seval] <;> rfl) | rfl) ?_
  obtain rfl := kF _ h
  refine bZ ?_ ?_
  ·simp only [tre, au, Bool.and_self]
  ·first | (simp only [outV, uw, cA, cr, tyf, nrm, av, g5, mB, e7, e8, e9, aW, aX, aY, H6, bH, nm, seval] <;> rfl) | rfl
 | cons e4 p4 =>
  have bu : (decide (aZ < (List.length ah.mix : Int))) = true := iH eg fQ
  have jf := fp eg fQ
  have jX := iI eg fQ g5
  simp only [tc, hs, reduceCtorEq] at h
  obtain ⟨td, iT, h⟩ := optI h qo
  try simp only [hs] at h
  cases cw : (xpg == 0)
  ·simp only [cw, hs] at h
   cases fa : (xpg == 1)
   ·simp only [fa, hs] at h
    have jY := And.intro g5 (And.intro mB (And.intro H6 (And.intro bu (And.intro jX (And.intro cw fa)))))
    cases gS : (xpg == 2)
    ·simp only [gS, hs] at h
     exact absurd h qo
    simp only [gS, hs] at h
    simp only [vz, tyf, jY, e7, e8, e9, aW, aX, aY, (bp jf), (bB iT), gS, (si gS), nm, seval]
    exact ⟨List.length p4, Nat.lt_succ_self _, by rw [jr]; refine ⟨p4, aZ + 1, i64.wrap (cX + (i64.wrap (e4 * td.pg.a2.Low))), rfl, Int.le_trans eg (Int.le_add_one (Int.le_refl _)), eE eg fQ, rfl, (show 7 ≤ kM + 23 by omega), ?_, e7, e8, e9, aW, ?_, ?_, h⟩ <;> first | (simp only [ua, jY, e7, e8, e9, aW, aX, aY, gS, nm, seval] <;> rfl) | rfl⟩
   simp only [fa, hs] at h
   have Di := And.intro g5 (And.intro mB (And.intro H6 (And.intro bu (And.intro jX (And.intro cw fa)))))
   simp only [vz, tyf, Di, e7, e8, e9, aW, aX, aY, (bp jf), (bB iT), (sk fa), nm, seval]
   exact ⟨List.length p4, Nat.lt_succ_self _, by rw [jr]; refine ⟨p4, aZ + 1, i64.wrap (cX + (i64.wrap (e4 * td.pg.a1.Low))), rfl, Int.le_trans eg (Int.le_add_one (Int.le_refl _)), eE eg fQ, rfl, (show 7 ≤ kM + 23 by omega), ?_, e7, e8, e9, aW, ?_, ?_, h⟩ <;> first | (simp only [ua, Di, e7, e8, e9, aW, aX, aY, nm, seval] <;> rfl) | rfl⟩
  simp only [cw, hs] at h
  simp only [vz, tyf, g5, mB, e7, e8, e9, aW, aX, aY, H6, bu, (bp jf), jX, (bB iT), cw, (sq cw), nm, seval]
  exact ⟨List.length p4, Nat.lt_succ_self _, by rw [jr]; refine ⟨p4, aZ + 1, i64.wrap (cX + (i64.wrap (e4 * td.pg.a0.Low))), rfl, Int.le_trans eg (Int.le_add_one (Int.le_refl _)), eE eg fQ, rfl, (show 7 ≤ kM + 23 by omega), ?_, e7, e8, e9, aW, ?_, ?_, h⟩ <;> first | (simp only [ua, mB, e7, e8, e9, aW, aX, aY, H6, bu, jX, cw, nm, seval] <;> rfl) | rfl⟩
def te (ah : Gm) (xpg : Int) : List Int → Int → Int → Option (LOut (Int) (Int))
 | [], bS, bx => some (.go bx)
 | e0 :: p0, bS, bx => Option.bind (getI ah.sh.Tins bS) (fun x1 => cond (xpg == 0) (te ah xpg p0 (bS + 1) (i64.wrap (bx + (i64.wrap (e0 * x1.pg.a0.High))))) (cond (xpg == 1) (te ah xpg p0 (bS + 1) (i64.wrap (bx + (i64.wrap (e0 * x1.pg.a1.High))))) (cond (xpg == 2) (te ah xpg p0 (bS + 1) (i64.wrap (bx + (i64.wrap (e0 * x1.pg.a2.High))))) (none))))
def wQ (ah : Gm) (xpg : Int) : Option (Int) := cond (lenOk ah.mix) (aK (te ah xpg ah.mix 0 0) (fun r3 => some r3) (fun c2 => some c2) (fun _ _ => none)) none
theorem PA (ah : Gm) (xpg : Int) (R : Int) (h : wQ ah xpg = some R) : ad Tryz.prog G0 97 [.agg (cGm ah), .lit (.int .i64 xpg)] (.tree (.lit (.int .i64 R))) := by
 refine ad.runR mixed Tryz.call97 Tryz.func97 rfl (by simp [Tryz.ntmps97]; kernel_rfl) ?_
 obtain ⟨KF, h, kF, kN⟩ := cQ h
 simp only [wQ] at h
 cases g5 : (lenOk ah.mix)
 ·simp only [g5, hs] at h
  exact absurd h kN
 simp only [g5, hs] at h
 simp only [vz, tyf, g5, nm, seval]
 obtain ⟨K4, h, wH, rD, G2, qo⟩ := eO h kN
 obtain ⟨f4, sY, h⟩ := call3 h
 obtain ⟨I4, jr⟩ : ∃ I : Nat → St → Prop, I = (fun m st => ∃ (p4 : List Int) (aZ : Int) (cX : Int), m = List.length p4 ∧ 0 ≤ aZ ∧ List.drop (Int.toNat aZ) ah.mix = p4 ∧ st.df = [] ∧ 7 ≤ st.nx ∧ st.H 0 = some (.cells (some 89) (cGm ah)) ∧ st.tm 1 = .lit (.int .i64 xpg) ∧ st.tm 2 = .ptr 0 0 ∧ st.tm 9 = .sl (aa eI ah.mix) (List.length ah.mix) false ∧ st.tm 10 = .lit (.int .i64 (List.length ah.mix : Int)) ∧ st.tm 5 = .lit (.int .i64 cX) ∧ st.tm 11 = .lit (.int .i64 aZ) ∧ K4 (f4 p4 aZ cX)) := ⟨_, rfl⟩
 refine loopK mixed (by kernel_rfl) I4 (List.length ah.mix) (by rw [jr]; refine ⟨ah.mix, 0, 0, rfl, Int.le_refl _, rfl, rfl, (show 7 ≤ 7 by omega), ?_, ?_, ?_, ?_, ?_, ?_, ?_, h⟩ <;> first | (simp only [ua, nm, seval] <;> rfl) | rfl) ?_
 rintro m ⟨tm, H, kM, df⟩ hinv
 rw [jr] at hinv
 obtain ⟨p4, aZ, cX, rfl, eg, fQ, hdf, sZ, H6, e7, e8, e9, aW, aX, aY, h⟩ := hinv
 simp only at hdf sZ H6 e7 e8 e9 aW aX aY
 have mB := eN (m := 7) (b := kM) (by omega)
 subst hdf sY
 cases p4 with
 | nil =>
  have bH : (decide (aZ < (List.length ah.mix : Int))) = false := iG eg fQ
  simp only [te, hs, reduceCtorEq] at h
  replace h := rD _ h
  try dsimp only at h
  try simp only [hs] at h
  try simp only [vz, tyf, g5, mB, e7, e8, e9, aW, aX, aY, H6, bH, nm, seval]
  refine bP (x := (.lit (.int .i64 cX))) (by first | (simp only [Tryz.results97, resV, resL, ar, bV, bU, uw, cr, tyf, g5, mB, H6, bH, nm, seval] <;> rfl) | rfl) ?_
  obtain rfl := kF _ h
  refine bZ ?_ ?_
  ·simp only [tre, au, Bool.and_self]
  ·first | (simp only [outV, uw, cA, cr, tyf, nrm, av, g5, mB, e7, e8, e9, aW, aX, aY, H6, bH, nm, seval] <;> rfl) | rfl
 | cons e4 p4 =>
  have bu : (decide (aZ < (List.length ah.mix : Int))) = true := iH eg fQ
  have jf := fp eg fQ
  have jX := iI eg fQ g5
  simp only [te, hs, reduceCtorEq] at h
  obtain ⟨td, iT, h⟩ := optI h qo
  try simp only [hs] at h
  cases cw : (xpg == 0)
  ·simp only [cw, hs] at h
   cases fa : (xpg == 1)
   ·simp only [fa, hs] at h
    have jY := And.intro g5 (And.intro mB (And.intro H6 (And.intro bu (And.intro jX (And.intro cw fa)))))
    cases gS : (xpg == 2)
    ·simp only [gS, hs] at h
     exact absurd h qo
    simp only [gS, hs] at h
    simp only [vz, tyf, jY, e7, e8, e9, aW, aX, aY, (bp jf), (bB iT), gS, (si gS), nm, seval]
    exact ⟨List.length p4, Nat.lt_succ_self _, by rw [jr]; refine ⟨p4, aZ + 1, i64.wrap (cX + (i64.wrap (e4 * td.pg.a2.High))), rfl, Int.le_trans eg (Int.le_add_one (Int.le_refl _)), eE eg fQ, rfl, (show 7 ≤ kM + 23 by omega), ?_, e7, e8, e9, aW, ?_, ?_, h⟩ <;> first | (simp only [ua, jY, e7, e8, e9, aW, aX, aY, gS, nm, seval] <;> rfl) | rfl⟩
   simp only [fa, hs] at h
   have Di := And.intro g5 (And.intro mB (And.intro H6 (And.intro bu (And.intro jX (And.intro cw fa)))))
   simp only [vz, tyf, Di, e7, e8, e9, aW, aX, aY, (bp jf), (bB iT), (sk fa), nm, seval]
   exact ⟨List.length p4, Nat.lt_succ_self _, by rw [jr]; refine ⟨p4, aZ + 1, i64.wrap (cX + (i64.wrap (e4 * td.pg.a1.High))), rfl, Int.le_trans eg (Int.le_add_one (Int.le_refl _)), eE eg fQ, rfl, (show 7 ≤ kM + 23 by omega), ?_, e7, e8, e9, aW, ?_, ?_, h⟩ <;> first | (simp only [ua, Di, e7, e8, e9, aW, aX, aY, nm, seval] <;> rfl) | rfl⟩
  simp only [cw, hs] at h
  simp only [vz, tyf, g5, mB, e7, e8, e9, aW, aX, aY, H6, bu, (bp jf), jX, (bB iT), cw, (sq cw), nm, seval]
  exact ⟨List.length p4, Nat.lt_succ_self _, by rw [jr]; refine ⟨p4, aZ + 1, i64.wrap (cX + (i64.wrap (e4 * td.pg.a0.High))), rfl, Int.le_trans eg (Int.le_add_one (Int.le_refl _)), eE eg fQ, rfl, (show 7 ≤ kM + 23 by omega), ?_, e7, e8, e9, aW, ?_, ?_, h⟩ <;> first | (simp only [ua, mB, e7, e8, e9, aW, aX, aY, H6, bu, jX, cw, nm, seval] <;> rfl) | rfl⟩
def zW (ah : Gm) : Option (Ga) := Option.bind (wP ah 0) (fun r1 => Option.bind (wQ ah 0) (fun r2 => Option.bind (wP ah 1) (fun r3 => Option.bind (wQ ah 1) (fun r4 => Option.bind (wP ah 2) (fun r5 => Option.bind (wQ ah 2) (fun r6 => some (Ga.mk (GSpan.mk r1 r2) (GSpan.mk r3 r4) (GSpan.mk r5 r6))))))))
theorem WD (ah : Gm) (R : Ga) (h : zW ah = some R) : ad Tryz.prog G0 63 [.agg (cGm ah)] (.tree (.agg (cGa R))) := by
 refine ad.runR mixed Tryz.call63 Tryz.func63 rfl (by simp [Tryz.ntmps63]; kernel_rfl) ?_
 obtain ⟨KF, h, kF, kN⟩ := cQ h
 simp only [zW] at h
 simp only [vz, tyf, nm, seval]
 refine pv mixed (by kernel_rfl) 4 ?_
 simp only [vz, tyf, nm, seval]
 refine mZ (fun tm => tm 2 = .ptr 1 0 ∧ tm 3 = .ptr 7 0 ∧ tm 4 = .ptr 9 0 ∧ tm 5 = .lit (.int .i64 0) ∧ tm 11 = .lit (.int .i64 0) ∧ True) (by refine ⟨?_, ?_, ?_, ?_, ?_, trivial⟩ <;> first | (simp only [ua, nm, seval] <;> rfl) | rfl) ?_
 rintro tm ⟨e7, e8, e9, aW, aX, _⟩
 obtain ⟨iJ, kL, h⟩ := optI h kN
 try simp only [hs] at h
 simp only [vz, tyf, e7, e8, e9, aW, aX, nm, seval]
 refine dktA (P9 _ _ _ kL) ?_
 refine aV (fun tm => tm 2 = .ptr 1 0 ∧ tm 3 = .ptr 7 0 ∧ tm 4 = .ptr 9 0 ∧ tm 5 = .lit (.int .i64 0) ∧ tm 11 = .lit (.int .i64 0) ∧ tm 14 = .lit (.int .i64 0) ∧ tm 18 = .lit (.int .i64 iJ) ∧ True) (by refine ⟨e7, e8, e9, aW, aX, ?_, ?_, trivial⟩ <;> first | (simp only [ua, e7, e8, e9, aW, aX, nm, seval] <;> rfl) | rfl) ?_
 rintro tm ⟨bg, bK, bw, bI, cv, cT, cB, _⟩
 obtain ⟨ma, se, h⟩ := optI h kN
 try simp only [hs] at h
 simp only [vz, tyf, bg, bK, bw, bI, cv, cT, cB, nm, seval]
 refine dktA (PA _ _ _ se) ?_
 refine aV (fun tm => tm 2 = .ptr 1 0 ∧ tm 3 = .ptr 7 0 ∧ tm 4 = .ptr 9 0 ∧ tm 11 = .lit (.int .i64 0) ∧ tm 14 = .lit (.int .i64 0) ∧ tm 18 = .lit (.int .i64 iJ) ∧ tm 22 = .lit (.int .i64 ma) ∧ True) (by refine ⟨bg, bK, bw, cv, cT, cB, ?_, trivial⟩ <;> first | (simp only [ua, bg, bK, bw, bI, cv, cT, cB, nm, seval] <;> rfl) | rfl) ?_
 rintro tm ⟨bz, cS, cq, da, cn, bA, bW, _⟩
 simp only [vz, tyf, bz, cS, cq, da, cn, bA, bW, nm, seval]
 refine jS ⟨?_, ?_⟩
 ·simp only [jT, jU, eA, jV, and_true, true_and]
  repeat' (first | exact trivial | refine And.intro ?_ ?_ | rw [eA] | rw [jW] | exact Or.inl (by decide +kernel) | exact Or.inl (by dsimp only; decide +kernel) | (refine Or.inr ⟨?_, ?_⟩ <;> simp; done) | (refine Or.inr ⟨?_, ?_⟩ <;> simp <;> omega) | (refine Or.inr ⟨?_, ?_⟩ <;> simp [VEff.wr] <;> omega))
 simp only [vz, tyf, bz, cS, cq, da, cn, bA, bW, nm, seval]
 refine mZ (fun tm => tm 2 = .ptr 1 0 ∧ tm 3 = .ptr 7 0 ∧ tm 4 = .ptr 9 0 ∧ tm 5 = .lit (.int .i64 1) ∧ tm 11 = .lit (.int .i64 1) ∧ True) (by refine ⟨bz, cS, cq, ?_, ?_, trivial⟩ <;> first | (simp only [ua, bz, cS, cq, da, cn, bA, bW, nm, seval] <;> rfl) | rfl) ?_
 rintro tm ⟨cC, cE, fC, iS, fF, _⟩
 obtain ⟨PB, o36, h⟩ := optI h kN
 try simp only [hs] at h
 simp only [vz, tyf, cC, cE, fC, iS, fF, nm, seval]
 refine dktA (P9 _ _ _ o36) ?_
 refine aV (fun tm => tm 2 = .ptr 1 0 ∧ tm 3 = .ptr 7 0 ∧ tm 4 = .ptr 9 0 ∧ tm 5 = .lit (.int .i64 1) ∧ tm 11 = .lit (.int .i64 1) ∧ tm 14 = .lit (.int .i64 1) ∧ tm 18 = .lit (.int .i64 PB) ∧ True) (by refine ⟨cC, cE, fC, iS, fF, ?_, ?_, trivial⟩ <;> first | (simp only [ua, cC, cE, fC, iS, fF, nm, seval] <;> rfl) | rfl) ?_
 rintro tm ⟨fy, cY, di, dp, dZ, eT, jd, _⟩
 obtain ⟨sG, Ct, h⟩ := optI h kN
 try simp only [hs] at h
 simp only [vz, tyf, fy, cY, di, dp, dZ, eT, jd, nm, seval]
 refine dktA (PA _ _ _ Ct) ?_
 refine aV (fun tm => tm 2 = .ptr 1 0 ∧ tm 3 = .ptr 7 0 ∧ tm 4 = .ptr 9 0 ∧ tm 11 = .lit (.int .i64 1) ∧ tm 14 = .lit (.int .i64 1) ∧ tm 18 = .lit (.int .i64 PB) ∧ tm 22 = .lit (.int .i64 sG) ∧ True) (by refine ⟨fy, cY, di, dZ, eT, jd, ?_, trivial⟩ <;> first | (simp only [ua, fy, cY, di, dp, dZ, eT, jd, nm, seval] <;> rfl) | rfl) ?_
 rintro tm ⟨fY, fV, fL, ed, dj, eu, en, _⟩
 simp only [vz, tyf, fY, fV, fL, ed, dj, eu, en, nm, seval]
 refine jS ⟨?_, ?_⟩
 ·simp only [jT, jU, eA, jV, and_true, true_and]
  repeat' (first | exact trivial | refine And.intro ?_ ?_ | rw [eA] | rw [jW] | exact Or.inl (by decide +kernel) | exact Or.inl (by dsimp only; decide +kernel) | (refine Or.inr ⟨?_, ?_⟩ <;> simp; done) | (refine Or.inr ⟨?_, ?_⟩ <;> simp <;> omega) | (refine Or.inr ⟨?_, ?_⟩ <;> simp [VEff.wr] <;> omega))
 simp only [vz, tyf, fY, fV, fL, ed, dj, eu, en, nm, seval]
 refine mZ (fun tm => tm 2 = .ptr 1 0 ∧ tm 3 = .ptr 7 0 ∧ tm 4 = .ptr 9 0 ∧ tm 5 = .lit (.int .i64 2) ∧ tm 11 = .lit (.int .i64 2) ∧ True) (by refine ⟨fY, fV, fL, ?_, ?_, trivial⟩ <;> first | (simp only [ua, fY, fV, fL, ed, dj, eu, en, nm, seval] <;> rfl) | rfl) ?_
 rintro tm ⟨eU, ff, gO, iL, fD, _⟩
 obtain ⟨PC, o59, h⟩ := optI h kN
 try simp only [hs] at h
 simp only [vz, tyf, eU, ff, gO, iL, fD, nm, seval]
 refine dktA (P9 _ _ _ o59) ?_
 refine aV (fun tm => tm 2 = .ptr 1 0 ∧ tm 3 = .ptr 7 0 ∧ tm 4 = .ptr 9 0 ∧ tm 5 = .lit (.int .i64 2) ∧ tm 11 = .lit (.int .i64 2) ∧ tm 14 = .lit (.int .i64 2) ∧ tm 18 = .lit (.int .i64 PC) ∧ True) (by refine ⟨eU, ff, gO, iL, fD, ?_, ?_, trivial⟩ <;> first | (simp only [ua, eU, ff, gO, iL, fD, nm, seval] <;> rfl) | rfl) ?_
 rintro tm ⟨fT, fU, eV, i7, gE, gI, gY, _⟩
 obtain ⟨WE, o68, h⟩ := optI h kN
 try simp only [hs] at h
 simp only [vz, tyf, fT, fU, eV, i7, gE, gI, gY, nm, seval]
 refine dktA (PA _ _ _ o68) ?_
 refine aV (fun tm => tm 2 = .ptr 1 0 ∧ tm 3 = .ptr 7 0 ∧ tm 4 = .ptr 9 0 ∧ tm 11 = .lit (.int .i64 2) ∧ tm 14 = .lit (.int .i64 2) ∧ tm 18 = .lit (.int .i64 PC) ∧ tm 22 = .lit (.int .i64 WE) ∧ True) (by refine ⟨fT, fU, eV, gE, gI, gY, ?_, trivial⟩ <;> first | (simp only [ua, fT, fU, eV, i7, gE, gI, gY, nm, seval] <;> rfl) | rfl) ?_
 rintro tm ⟨gm, eQ, fj, eG, fN, fx, eJ, _⟩
 simp only [vz, tyf, gm, eQ, fj, eG, fN, fx, eJ, nm, seval]
 refine jS ⟨?_, ?_⟩
 ·simp only [jT, jU, eA, jV, and_true, true_and]
  repeat' (first | exact trivial | refine And.intro ?_ ?_ | rw [eA] | rw [jW] | exact Or.inl (by decide +kernel) | exact Or.inl (by dsimp only; decide +kernel) | (refine Or.inr ⟨?_, ?_⟩ <;> simp; done) | (refine Or.inr ⟨?_, ?_⟩ <;> simp <;> omega) | (refine Or.inr ⟨?_, ?_⟩ <;> simp [VEff.wr] <;> omega))
 try simp only [vz, tyf, gm, eQ, fj, eG, fN, fx, eJ, nm, seval]
 refine bP (x := (.agg ([.lit (.int .i64 iJ)] ++ [.lit (.int .i64 ma)] ++ [.lit (.int .i64 PB)] ++ [.lit (.int .i64 sG)] ++ [.lit (.int .i64 PC)] ++ [.lit (.int .i64 WE)]))) (by first | (simp only [Tryz.results63, resV, resL, ar, bV, bU, uw, cr, tyf, gm, eQ, fj, eG, fN, fx, eJ, nm, seval] <;> rfl) | rfl) ?_
 obtain rfl := kF _ h
 refine bZ ?_ ?_
 ·simp only [tre, au, Bool.and_self]
 ·first | (simp only [outV, uw, cA, cr, tyf, nrm, av, gm, eQ, fj, eG, fN, fx, eJ, nm, seval] <;> rfl) | rfl

def lR (gB : Int) (aD : Int) (eL : Int) : Option (Int) := some (if 0 < (i64.wrap (gB - (i64.wrap (aD * eL)))) then (i64.wrap (gB - (i64.wrap (aD * eL)))) else 0)
theorem sP (gB : Int) (aD : Int) (eL : Int) (R : Int) (h : lR gB aD eL = some R) : ad Tryz.prog G0 94 [.lit (.int .i64 gB), .lit (.int .i64 aD), .lit (.int .i64 eL)] (.tree (.lit (.int .i64 R))) := by
 refine ad.runR mixed Tryz.call94 Tryz.func94 rfl (by simp [Tryz.ntmps94]; kernel_rfl) ?_
 obtain ⟨KF, h, kF, kN⟩ := cQ h
 simp only [lR] at h
 try simp only [vz, tyf, nm, seval]
 refine bP (x := (.lit (.int .i64 (if 0 < (i64.wrap (gB - (i64.wrap (aD * eL)))) then (i64.wrap (gB - (i64.wrap (aD * eL)))) else 0)))) (by first | (simp only [Tryz.results94, resV, resL, ar, bV, bU, uw, cr, tyf, nm, seval] <;> rfl) | rfl) ?_
 obtain rfl := kF _ h
 refine bZ ?_ ?_
 ·simp only [tre, au, Bool.and_self]
 ·first | (simp only [outV, uw, cA, cr, tyf, nrm, av, nm, seval] <;> rfl) | rfl
def tf (ae : Gs) : Option (Ga) := Option.bind (lR ae.Old.a0 ae.Years.High ae.Fade.a0.High) (fun r1 => Option.bind (lR ae.Old.a0 ae.Years.Low ae.Fade.a0.Low) (fun r2 => Option.bind (lR ae.Old.a1 ae.Years.High ae.Fade.a1.High) (fun r3 => Option.bind (lR ae.Old.a1 ae.Years.Low ae.Fade.a1.Low) (fun r4 => Option.bind (lR ae.Old.a2 ae.Years.High ae.Fade.a2.High) (fun r5 => Option.bind (lR ae.Old.a2 ae.Years.Low ae.Fade.a2.Low) (fun r6 => some (Ga.mk (GSpan.mk r1 r2) (GSpan.mk r3 r4) (GSpan.mk r5 r6))))))))
theorem G7 (ae : Gs) (R : Ga) (h : tf ae = some R) : ad Tryz.prog G0 61 [.agg (cGs ae)] (.tree (.agg (cGa R))) := by
 refine ad.runR mixed Tryz.call61 Tryz.func61 rfl (by simp [Tryz.ntmps61]; kernel_rfl) ?_
 obtain ⟨KF, h, kF, kN⟩ := cQ h
 simp only [tf] at h
 simp only [vz, tyf, nm, seval]
 refine pv mixed (by kernel_rfl) 4 ?_
 simp only [vz, tyf, nm, seval]
 refine mZ (fun tm => tm 1 = .ptr 0 0 ∧ tm 2 = .ptr 1 0 ∧ tm 3 = .ptr 2 0 ∧ tm 4 = .lit (.int .i64 0) ∧ tm 5 = .lit (.int .i64 ae.Old.a0) ∧ tm 6 = .ptr 15 0 ∧ tm 8 = .agg (cGi ae.Old) ∧ tm 9 = .lit (.int .i64 0) ∧ True) (by refine ⟨?_, ?_, ?_, ?_, ?_, ?_, ?_, ?_, trivial⟩ <;> first | (simp only [ua, nm, seval] <;> rfl) | rfl) ?_
 rintro tm ⟨e7, e8, e9, aW, aX, aY, bd, bg, _⟩
 obtain ⟨oQ, v8, h⟩ := optI h kN
 try simp only [hs] at h
 simp only [vz, tyf, e7, e8, e9, aW, aX, aY, bd, bg, nm, seval]
 refine dktA (sP _ _ _ _ v8) ?_
 refine aV (fun tm => tm 1 = .ptr 0 0 ∧ tm 2 = .ptr 1 0 ∧ tm 3 = .ptr 2 0 ∧ tm 5 = .lit (.int .i64 ae.Old.a0) ∧ tm 6 = .ptr 15 0 ∧ tm 8 = .agg (cGi ae.Old) ∧ tm 9 = .lit (.int .i64 0) ∧ tm 17 = .lit (.int .i64 0) ∧ tm 24 = .lit (.int .i64 oQ) ∧ True) (by refine ⟨e7, e8, e9, aX, aY, bd, bg, ?_, ?_, trivial⟩ <;> first | (simp only [ua, e7, e8, e9, aW, aX, aY, bd, bg, nm, seval] <;> rfl) | rfl) ?_
 rintro tm ⟨bI, cv, cT, cB, bJ, bR, bz, cS, cq, _⟩
 obtain ⟨pC, vd, h⟩ := optI h kN
 try simp only [hs] at h
 simp only [vz, tyf, bI, cv, cT, cB, bJ, bR, bz, cS, cq, nm, seval]
 refine dktA (sP _ _ _ _ vd) ?_
 refine aV (fun tm => tm 1 = .ptr 0 0 ∧ tm 2 = .ptr 1 0 ∧ tm 3 = .ptr 2 0 ∧ tm 8 = .agg (cGi ae.Old) ∧ tm 9 = .lit (.int .i64 0) ∧ tm 17 = .lit (.int .i64 0) ∧ tm 24 = .lit (.int .i64 oQ) ∧ tm 31 = .lit (.int .i64 pC) ∧ True) (by refine ⟨bI, cv, cT, bR, bz, cS, cq, ?_, trivial⟩ <;> first | (simp only [ua, bI, cv, cT, cB, bJ, bR, bz, cS, cq, nm, seval] <;> rfl) | rfl) ?_
 rintro tm ⟨bA, bW, cC, cE, fC, iS, fF, gk, _⟩
 simp only [vz, tyf, bA, bW, cC, cE, fC, iS, fF, gk, nm, seval]
 refine jS ⟨?_, ?_⟩
 ·simp only [jT, jU, eA, jV, and_true, true_and]
  repeat' (first | exact trivial | refine And.intro ?_ ?_ | rw [eA] | rw [jW] | exact Or.inl (by decide +kernel) | exact Or.inl (by dsimp only; decide +kernel) | (refine Or.inr ⟨?_, ?_⟩ <;> simp; done) | (refine Or.inr ⟨?_, ?_⟩ <;> simp <;> omega) | (refine Or.inr ⟨?_, ?_⟩ <;> simp [VEff.wr] <;> omega))
 simp only [vz, tyf, bA, bW, cC, cE, fC, iS, fF, gk, nm, seval]
 refine mZ (fun tm => tm 1 = .ptr 0 0 ∧ tm 2 = .ptr 1 0 ∧ tm 3 = .ptr 2 0 ∧ tm 4 = .lit (.int .i64 1) ∧ tm 5 = .lit (.int .i64 ae.Old.a1) ∧ tm 6 = .ptr 46 0 ∧ tm 8 = .agg (cGi ae.Old) ∧ tm 9 = .lit (.int .i64 1) ∧ True) (by refine ⟨bA, bW, cC, ?_, ?_, ?_, cE, ?_, trivial⟩ <;> first | (simp only [ua, bA, bW, cC, cE, fC, iS, fF, gk, nm, seval] <;> rfl) | rfl) ?_
 rintro tm ⟨eh, fy, cY, di, dp, dZ, eT, jd, _⟩
 obtain ⟨sG, Ct, h⟩ := optI h kN
 try simp only [hs] at h
 simp only [vz, tyf, eh, fy, cY, di, dp, dZ, eT, jd, nm, seval]
 refine dktA (sP _ _ _ _ Ct) ?_
 refine aV (fun tm => tm 1 = .ptr 0 0 ∧ tm 2 = .ptr 1 0 ∧ tm 3 = .ptr 2 0 ∧ tm 5 = .lit (.int .i64 ae.Old.a1) ∧ tm 6 = .ptr 46 0 ∧ tm 8 = .agg (cGi ae.Old) ∧ tm 9 = .lit (.int .i64 1) ∧ tm 17 = .lit (.int .i64 1) ∧ tm 24 = .lit (.int .i64 sG) ∧ True) (by refine ⟨eh, fy, cY, dp, dZ, eT, jd, ?_, ?_, trivial⟩ <;> first | (simp only [ua, eh, fy, cY, di, dp, dZ, eT, jd, nm, seval] <;> rfl) | rfl) ?_
 rintro tm ⟨fY, fV, fL, ed, dj, eu, en, eU, ff, _⟩
 obtain ⟨WG, o56, h⟩ := optI h kN
 try simp only [hs] at h
 simp only [vz, tyf, fY, fV, fL, ed, dj, eu, en, eU, ff, nm, seval]
 refine dktA (sP _ _ _ _ o56) ?_
 refine aV (fun tm => tm 1 = .ptr 0 0 ∧ tm 2 = .ptr 1 0 ∧ tm 3 = .ptr 2 0 ∧ tm 8 = .agg (cGi ae.Old) ∧ tm 9 = .lit (.int .i64 1) ∧ tm 17 = .lit (.int .i64 1) ∧ tm 24 = .lit (.int .i64 sG) ∧ tm 31 = .lit (.int .i64 WG) ∧ True) (by refine ⟨fY, fV, fL, eu, en, eU, ff, ?_, trivial⟩ <;> first | (simp only [ua, fY, fV, fL, ed, dj, eu, en, eU, ff, nm, seval] <;> rfl) | rfl) ?_
 rintro tm ⟨fD, ie, eP, fT, fU, eV, i7, gE, _⟩
 simp only [vz, tyf, fD, ie, eP, fT, fU, eV, i7, gE, nm, seval]
 refine jS ⟨?_, ?_⟩
 ·simp only [jT, jU, eA, jV, and_true, true_and]
  repeat' (first | exact trivial | refine And.intro ?_ ?_ | rw [eA] | rw [jW] | exact Or.inl (by decide +kernel) | exact Or.inl (by dsimp only; decide +kernel) | (refine Or.inr ⟨?_, ?_⟩ <;> simp; done) | (refine Or.inr ⟨?_, ?_⟩ <;> simp <;> omega) | (refine Or.inr ⟨?_, ?_⟩ <;> simp [VEff.wr] <;> omega))
 simp only [vz, tyf, fD, ie, eP, fT, fU, eV, i7, gE, nm, seval]
 refine mZ (fun tm => tm 1 = .ptr 0 0 ∧ tm 2 = .ptr 1 0 ∧ tm 3 = .ptr 2 0 ∧ tm 4 = .lit (.int .i64 2) ∧ tm 5 = .lit (.int .i64 ae.Old.a2) ∧ tm 6 = .ptr 77 0 ∧ tm 8 = .agg (cGi ae.Old) ∧ tm 9 = .lit (.int .i64 2) ∧ True) (by refine ⟨fD, ie, eP, ?_, ?_, ?_, fT, ?_, trivial⟩ <;> first | (simp only [ua, fD, ie, eP, fT, fU, eV, i7, gE, nm, seval] <;> rfl) | rfl) ?_
 rintro tm ⟨gI, gY, gD, iY, gm, eQ, fj, eG, _⟩
 obtain ⟨PD, o74, h⟩ := optI h kN
 try simp only [hs] at h
 simp only [vz, tyf, gI, gY, gD, iY, gm, eQ, fj, eG, nm, seval]
 refine dktA (sP _ _ _ _ o74) ?_
 refine aV (fun tm => tm 1 = .ptr 0 0 ∧ tm 2 = .ptr 1 0 ∧ tm 3 = .ptr 2 0 ∧ tm 5 = .lit (.int .i64 ae.Old.a2) ∧ tm 6 = .ptr 77 0 ∧ tm 8 = .agg (cGi ae.Old) ∧ tm 9 = .lit (.int .i64 2) ∧ tm 17 = .lit (.int .i64 2) ∧ tm 24 = .lit (.int .i64 PD) ∧ True) (by refine ⟨gI, gY, gD, gm, eQ, fj, eG, ?_, ?_, trivial⟩ <;> first | (simp only [ua, gI, gY, gD, iY, gm, eQ, fj, eG, nm, seval] <;> rfl) | rfl) ?_
 rintro tm ⟨eJ, eY, gH, iN, iO, jb, jP, mo, nd, _⟩
 obtain ⟨BH, Nu, h⟩ := optI h kN
 try simp only [hs] at h
 simp only [vz, tyf, eJ, eY, gH, iN, iO, jb, jP, mo, nd, nm, seval]
 refine dktA (sP _ _ _ _ Nu) ?_
 refine aV (fun tm => tm 1 = .ptr 0 0 ∧ tm 2 = .ptr 1 0 ∧ tm 3 = .ptr 2 0 ∧ tm 8 = .agg (cGi ae.Old) ∧ tm 9 = .lit (.int .i64 2) ∧ tm 17 = .lit (.int .i64 2) ∧ tm 24 = .lit (.int .i64 PD) ∧ tm 31 = .lit (.int .i64 BH) ∧ True) (by refine ⟨eJ, eY, gH, jb, jP, mo, nd, ?_, trivial⟩ <;> first | (simp only [ua, eJ, eY, gH, iN, iO, jb, jP, mo, nd, nm, seval] <;> rfl) | rfl) ?_
 rintro tm ⟨fH, hY, kj, mi, nf, lj, kR, iP, _⟩
 simp only [vz, tyf, fH, hY, kj, mi, nf, lj, kR, iP, nm, seval]
 refine jS ⟨?_, ?_⟩
 ·simp only [jT, jU, eA, jV, and_true, true_and]
  repeat' (first | exact trivial | refine And.intro ?_ ?_ | rw [eA] | rw [jW] | exact Or.inl (by decide +kernel) | exact Or.inl (by dsimp only; decide +kernel) | (refine Or.inr ⟨?_, ?_⟩ <;> simp; done) | (refine Or.inr ⟨?_, ?_⟩ <;> simp <;> omega) | (refine Or.inr ⟨?_, ?_⟩ <;> simp [VEff.wr] <;> omega))
 try simp only [vz, tyf, fH, hY, kj, mi, nf, lj, kR, iP, nm, seval]
 refine bP (x := (.agg ([.lit (.int .i64 oQ)] ++ [.lit (.int .i64 pC)] ++ [.lit (.int .i64 sG)] ++ [.lit (.int .i64 WG)] ++ [.lit (.int .i64 PD)] ++ [.lit (.int .i64 BH)]))) (by first | (simp only [Tryz.results61, resV, resL, ar, bV, bU, uw, cr, tyf, fH, hY, kj, mi, nf, lj, kR, iP, nm, seval] <;> rfl) | rfl) ?_
 obtain rfl := kF _ h
 refine bZ ?_ ?_
 ·simp only [tre, au, Bool.and_self]
 ·first | (simp only [outV, uw, cA, cr, tyf, nrm, av, fH, hY, kj, mi, nf, lj, kR, iP, nm, seval] <;> rfl) | rfl

end Go.V
end
