/- Part of a proof. -/
import Derived.Test.YtlkognggeadanaaGreatDoorWbh
set_option linter.all false
set_option maxRecDepth 4000
set_option maxHeartbeats 40000000
section
namespace Go.V
open Go Go.Proofs IntKind
def Dec (P : Program) (n : Nat) (t : TypeId) {α : Type} (enc : α → List VV) (R : α → Prop) : Prop := ∀ xs, ShapeT P n t xs → ∃ x : α, R x ∧ normL xs = enc x
theorem PI {P : Program} {n : Nat} {t : TypeId} (hu : P.underlying t = some (.int .i64)) : Dec P (n + 1) t eI (fun _ => True) := by
 intro xs h
 simp only [ShapeT, hu] at h
 obtain ⟨i, _, rfl⟩ := h
 exact ⟨i, trivial, by simp only [wW, wX, VU, eI]⟩
theorem PJ {P : Program} {n : Nat} {t : TypeId} (hu : P.underlying t = some .bool) : Dec P (n + 1) t eB (fun _ => True) := by
 intro xs h
 simp only [ShapeT, hu] at h
 obtain ⟨b, rfl⟩ := h
 exact ⟨b, trivial, by simp only [wW, wX, Hy, eB]⟩
theorem De {P : Program} {n : Nat} {t : TypeId} {α : Type} {enc : α → List VV} {R : α → Prop} (h : Dec P n t enc R) : ∀ yss : List (List VV), (∀ ys ∈ yss, ShapeT P n t ys) → ∃ l : List α, l.length = yss.length ∧ (∀ x ∈ l, R x) ∧ normL yss.flatten = ad enc l
 | [], _ => ⟨[], rfl, fun _ hx => (by cases hx), rfl⟩
 | ys :: yss, hs => by
  obtain ⟨x, hx, e⟩ := h ys (hs ys (List.mem_cons_self ..))
  obtain ⟨l, h1, h2, h3⟩ := De h yss (fun y hy => hs y (List.mem_cons_of_mem _ hy))
  refine ⟨x :: l, by simp [h1], fun y hy => ?_, by rw [List.flatten_cons, tJ, e, h3, gb]⟩
  rcases List.mem_cons.1 hy with rfl | hy
  ·exact hx
  ·exact h2 y hy
theorem G4 {P : Program} {n : Nat} {t e : TypeId} {α : Type} {enc : α → List VV} {R : α → Prop} (hu : P.underlying t = some (.slice e)) (h : Dec P n e enc R) : Dec P (n + 1) t (fun l : List α => [.sl (ad enc l) l.length false]) (fun l => lenOk l = true ∧ ∀ x ∈ l, R x) := by
 intro xs hs
 simp only [ShapeT, hu] at hs
 rcases hs with rfl | ⟨yss, hl, hall, rfl⟩
 ·exact ⟨[], ⟨rfl, fun _ hx => (by cases hx)⟩, by simp only [wW, wX, VS]; rfl⟩
 ·obtain ⟨l, h1, h2, h3⟩ := De h yss hall
  refine ⟨l, ⟨?_, h2⟩, by simp only [wW, wX, BW, h3, h1]⟩
  have : maxLen = 9223372036854775807 := by decide
  unfold lenOk
  exact decide_eq_true (by omega)
theorem PK {P : Program} {n : Nat} {t : TypeId} {fs : Array Field} {xs : List VV} (hu : P.underlying t = some (.struct fs)) (h : ShapeT P (n + 1) t xs) : ∃ yss, FieldsS (ShapeT P n) fs.toList yss ∧ xs = yss.flatten := by
 simp only [ShapeT, hu] at h
 exact h
def TypesS (S : TypeId → List VV → Prop) : List TypeId → List (List VV) → Prop
 | [], [] => True
 | t :: ts, ys :: yss => S t ys ∧ TypesS S ts yss
 | _, _ => False
theorem Df {S : TypeId → List VV → Prop} : ∀ (fs : List Field) (yss : List (List VV)), FieldsS S fs yss → TypesS S (fs.map Field.type) yss
 | [], [], _ => trivial
 | f :: fs, ys :: yss, ⟨h1, h2⟩ => ⟨h1, Df fs yss h2⟩
 | [], _ :: _, h => h
 | _ :: _, [], h => h
theorem z9 {P : Program} {n : Nat} {t : TypeId} {fs : Array Field} {ts : List TypeId} {xs : List VV} (hu : P.underlying t = some (.struct fs)) (ht : fs.toList.map Field.type = ts) (h : ShapeT P (n + 1) t xs) : ∃ yss, TypesS (ShapeT P n) ts yss ∧ xs = yss.flatten := by
 obtain ⟨yss, h1, h2⟩ := PK hu h
 exact ⟨yss, ht ▸ Df _ _ h1, h2⟩
theorem FU {P : Program} {n : Nat} {t : TypeId} {ts : List TypeId} {xs : List VV} (h : ArgsS P n (t :: ts) xs) : ∃ x xs', xs = x :: xs' ∧ ArgS P n t x ∧ ArgsS P n ts xs' := by
 match xs, h with
 | x :: xs', h => exact ⟨x, xs', rfl, h.1, h.2⟩
theorem LM {P : Program} {n : Nat} {xs : List VV} (h : ArgsS P n [] xs) : xs = [] := by
 match xs, h with
 | [], _ => rfl
theorem VR {P : Program} {n : Nat} {t : TypeId} {fs : Array Field} {x : VV} {α : Type} {enc : α → List VV} {R : α → Prop} (hu : P.underlying t = some (.struct fs)) (hd : Dec P n t enc R) (h : ArgS P n t x) : ∃ s, R s ∧ normV x = .agg (enc s) := by
 obtain ⟨ys, h1, h2⟩ := h
 rw [hu] at h2
 obtain rfl : x = .agg ys := h2
 obtain ⟨s, hs, e⟩ := hd ys h1
 exact ⟨s, hs, by rw [VT, e]⟩
theorem BQ {P : Program} {n : Nat} {t : TypeId} {d : TypeDesc} {x : VV} {α : Type} {enc : α → List VV} {R : α → Prop} (hu : P.underlying t = some d) (hn : (∀ fs, d ≠ .struct fs) ∧ ∀ m e, d ≠ .array m e) (hd : Dec P n t enc R) (h : ArgS P n t x) : ∃ s, R s ∧ [normV x] = enc s := by
 obtain ⟨ys, h1, h2⟩ := h
 rw [hu] at h2
 have h3 : ys = [x] := by
  cases d <;> first | exact h2 | exact absurd rfl (hn.1 _) | exact absurd rfl (hn.2 _ _)
 subst h3
 obtain ⟨s, hs, e⟩ := hd _ h1
 exact ⟨s, hs, by rw [← e, wW, wX]⟩
end Go.V
end
section
set_option maxRecDepth 100000
namespace Go.V
open Go Go.Proofs IntKind
def PL (x : GLw) : Prop := lenOk x.Signs = true ∧ lenOk x.Cuts = true
def WQ (x : GLs) : Prop := lenOk x.Widths = true ∧ lenOk x.Pairs = true ∧ lenOk x.Words = true ∧ ∀ y ∈ x.Words, PL y
def WR (x : GLx) : Prop := lenOk x.Out = true ∧ lenOk x.Ends = true
section
variable {P : Program} (gz : P.underlying 3 = some (.int .i64)) (d4 : P.underlying 22 = some (.slice 3)) {WS : Array Field} (d6 : P.underlying 25 = some (.struct WS)) (dA : WS.toList.map Field.type = [3, 3]) {Dg : Array Field} (bF : P.underlying 108 = some (.struct Dg)) (bG : Dg.toList.map Field.type = [3, 3, 25]) (dB : P.underlying 23 = some (.slice 108)) (iz : P.underlying 4 = some (.bool)) {WT : Array Field} (dC : P.underlying 79 = some (.struct WT)) (dD : WT.toList.map Field.type = [22, 22, 4]) (dE : P.underlying 26 = some (.slice 79)) {WU : Array Field} (dF : P.underlying 28 = some (.struct WU)) (dG : WU.toList.map Field.type = [22, 23, 25, 25, 3, 26, 3, 3]) {Dh : Array Field} (bH : P.underlying 100 = some (.struct Dh)) (bI : Dh.toList.map Field.type = [3, 3]) (dH : P.underlying 29 = some (.slice 100)) {WV : Array Field} (dI : P.underlying 31 = some (.struct WV)) (dJ : WV.toList.map Field.type = [22, 29])
include gz d4 d6 dA bF bG dB iz dC dD dE dF dG bH bI dH dI dJ
theorem gd_3 {n : Nat} : Dec P (n + 1) 3 eI (fun _ => True) := PI gz
theorem gd_22 {n : Nat} : Dec P (n + 2) 22 (eSl eI) (fun l => lenOk l = true ∧ ∀ x ∈ l, True) := G4 d4 (gd_3 gz d4 d6 dA bF bG dB iz dC dD dE dF dG bH bI dH dI dJ (n := n))
theorem gd_25 {n : Nat} : Dec P (n + 2) 25 cGSpan (fun _ => True) := by
 intro xs h
 obtain ⟨yss, hf, rfl⟩ := z9 (n := n + 1) (ts := [3, 3]) d6 dA h
 match yss, hf with
 | [y0, y1], ⟨h0, h1, _⟩ =>
  obtain ⟨x0, r0, e0⟩ := gd_3 gz d4 d6 dA bF bG dB iz dC dD dE dF dG bH bI dH dI dJ (n := n + 0) _ h0
  obtain ⟨x1, r1, e1⟩ := gd_3 gz d4 d6 dA bF bG dB iz dC dD dE dF dG bH bI dH dI dJ (n := n + 0) _ h1
  exact ⟨⟨x0, x1⟩, trivial, by simp only [List.flatten_cons, List.flatten_nil, List.append_nil, tJ, e0, e1, eI, tf, eB, eS, eSl, xG, List.cons_append, List.nil_append]⟩
theorem PM {n : Nat} : Dec P (n + 3) 108 cGLp (fun _ => True) := by
 intro xs h
 obtain ⟨yss, hf, rfl⟩ := z9 (n := n + 2) (ts := [3, 3, 25]) bF bG h
 match yss, hf with
 | [y0, y1, y2], ⟨h0, h1, h2, _⟩ =>
  obtain ⟨x0, r0, e0⟩ := gd_3 gz d4 d6 dA bF bG dB iz dC dD dE dF dG bH bI dH dI dJ (n := n + 1) _ h0
  obtain ⟨x1, r1, e1⟩ := gd_3 gz d4 d6 dA bF bG dB iz dC dD dE dF dG bH bI dH dI dJ (n := n + 1) _ h1
  obtain ⟨x2, r2, e2⟩ := gd_25 gz d4 d6 dA bF bG dB iz dC dD dE dF dG bH bI dH dI dJ (n := n + 0) _ h2
  exact ⟨⟨x0, x1, x2⟩, trivial, by simp only [List.flatten_cons, List.flatten_nil, List.append_nil, tJ, e0, e1, e2, eI, tf, eB, eS, eSl, Di, xG, List.cons_append, List.nil_append]⟩
theorem gd_23 {n : Nat} : Dec P (n + 4) 23 (eSl cGLp) (fun l => lenOk l = true ∧ ∀ x ∈ l, True) := G4 dB (PM gz d4 d6 dA bF bG dB iz dC dD dE dF dG bH bI dH dI dJ (n := n))
theorem gd_4 {n : Nat} : Dec P (n + 1) 4 eB (fun _ => True) := PJ iz
theorem gd_79 {n : Nat} : Dec P (n + 3) 79 cGLw (PL) := by
 intro xs h
 obtain ⟨yss, hf, rfl⟩ := z9 (n := n + 2) (ts := [22, 22, 4]) dC dD h
 match yss, hf with
 | [y0, y1, y2], ⟨h0, h1, h2, _⟩ =>
  obtain ⟨x0, r0, e0⟩ := gd_22 gz d4 d6 dA bF bG dB iz dC dD dE dF dG bH bI dH dI dJ (n := n + 0) _ h0
  obtain ⟨x1, r1, e1⟩ := gd_22 gz d4 d6 dA bF bG dB iz dC dD dE dF dG bH bI dH dI dJ (n := n + 0) _ h1
  obtain ⟨x2, r2, e2⟩ := gd_4 gz d4 d6 dA bF bG dB iz dC dD dE dF dG bH bI dH dI dJ (n := n + 1) _ h2
  exact ⟨⟨x0, x1, x2⟩, ⟨r0.1, r1.1⟩, by simp only [List.flatten_cons, List.flatten_nil, List.append_nil, tJ, e0, e1, e2, eI, tf, eB, eS, eSl, Dj, List.cons_append, List.nil_append]⟩
theorem gd_26 {n : Nat} : Dec P (n + 4) 26 (eSl cGLw) (fun l => lenOk l = true ∧ ∀ x ∈ l, PL x) := G4 dE (gd_79 gz d4 d6 dA bF bG dB iz dC dD dE dF dG bH bI dH dI dJ (n := n))
theorem gd_28 {n : Nat} : Dec P (n + 5) 28 cGLs (WQ) := by
 intro xs h
 obtain ⟨yss, hf, rfl⟩ := z9 (n := n + 4) (ts := [22, 23, 25, 25, 3, 26, 3, 3]) dF dG h
 match yss, hf with
 | [y0, y1, y2, y3, y4, y5, y6, y7], ⟨h0, h1, h2, h3, h4, h5, h6, h7, _⟩ =>
  obtain ⟨x0, r0, e0⟩ := gd_22 gz d4 d6 dA bF bG dB iz dC dD dE dF dG bH bI dH dI dJ (n := n + 2) _ h0
  obtain ⟨x1, r1, e1⟩ := gd_23 gz d4 d6 dA bF bG dB iz dC dD dE dF dG bH bI dH dI dJ (n := n + 0) _ h1
  obtain ⟨x2, r2, e2⟩ := gd_25 gz d4 d6 dA bF bG dB iz dC dD dE dF dG bH bI dH dI dJ (n := n + 2) _ h2
  obtain ⟨x3, r3, e3⟩ := gd_25 gz d4 d6 dA bF bG dB iz dC dD dE dF dG bH bI dH dI dJ (n := n + 2) _ h3
  obtain ⟨x4, r4, e4⟩ := gd_3 gz d4 d6 dA bF bG dB iz dC dD dE dF dG bH bI dH dI dJ (n := n + 3) _ h4
  obtain ⟨x5, r5, e5⟩ := gd_26 gz d4 d6 dA bF bG dB iz dC dD dE dF dG bH bI dH dI dJ (n := n + 0) _ h5
  obtain ⟨x6, r6, e6⟩ := gd_3 gz d4 d6 dA bF bG dB iz dC dD dE dF dG bH bI dH dI dJ (n := n + 3) _ h6
  obtain ⟨x7, r7, e7⟩ := gd_3 gz d4 d6 dA bF bG dB iz dC dD dE dF dG bH bI dH dI dJ (n := n + 3) _ h7
  exact ⟨⟨x0, x1, x2, x3, x4, x5, x6, x7⟩, ⟨r0.1, r1.1, r5.1, r5.2⟩, by simp only [List.flatten_cons, List.flatten_nil, List.append_nil, tJ, e0, e1, e2, e3, e4, e5, e6, e7, eI, tf, eB, eS, eSl, Dk, xG, List.cons_append, List.nil_append]⟩
theorem PN {n : Nat} : Dec P (n + 2) 100 cGLe (fun _ => True) := by
 intro xs h
 obtain ⟨yss, hf, rfl⟩ := z9 (n := n + 1) (ts := [3, 3]) bH bI h
 match yss, hf with
 | [y0, y1], ⟨h0, h1, _⟩ =>
  obtain ⟨x0, r0, e0⟩ := gd_3 gz d4 d6 dA bF bG dB iz dC dD dE dF dG bH bI dH dI dJ (n := n + 0) _ h0
  obtain ⟨x1, r1, e1⟩ := gd_3 gz d4 d6 dA bF bG dB iz dC dD dE dF dG bH bI dH dI dJ (n := n + 0) _ h1
  exact ⟨⟨x0, x1⟩, trivial, by simp only [List.flatten_cons, List.flatten_nil, List.append_nil, tJ, e0, e1, eI, tf, eB, eS, eSl, zA, List.cons_append, List.nil_append]⟩
theorem gd_29 {n : Nat} : Dec P (n + 3) 29 (eSl cGLe) (fun l => lenOk l = true ∧ ∀ x ∈ l, True) := G4 dH (PN gz d4 d6 dA bF bG dB iz dC dD dE dF dG bH bI dH dI dJ (n := n))
theorem gd_31 {n : Nat} : Dec P (n + 4) 31 cGLx (WR) := by
 intro xs h
 obtain ⟨yss, hf, rfl⟩ := z9 (n := n + 3) (ts := [22, 29]) dI dJ h
 match yss, hf with
 | [y0, y1], ⟨h0, h1, _⟩ =>
  obtain ⟨x0, r0, e0⟩ := gd_22 gz d4 d6 dA bF bG dB iz dC dD dE dF dG bH bI dH dI dJ (n := n + 1) _ h0
  obtain ⟨x1, r1, e1⟩ := gd_29 gz d4 d6 dA bF bG dB iz dC dD dE dF dG bH bI dH dI dJ (n := n + 0) _ h1
  exact ⟨⟨x0, x1⟩, ⟨r0.1, r1.1⟩, by simp only [List.flatten_cons, List.flatten_nil, List.append_nil, tJ, e0, e1, eI, tf, eB, eS, eSl, Dl, List.cons_append, List.nil_append]⟩
end
theorem dec_3 {n : Nat} : Dec Tryz.prog (n + 1) 3 eI (fun _ => True) := gd_3 Tryz.underlying3 Tryz.underlying22 Tryz.underlying25 (by kernel_rfl) Tryz.underlying108 (by kernel_rfl) Tryz.underlying23 Tryz.underlying4 Tryz.underlying79 (by kernel_rfl) Tryz.underlying26 Tryz.underlying28 (by kernel_rfl) Tryz.underlying100 (by kernel_rfl) Tryz.underlying29 Tryz.underlying31 (by kernel_rfl)
theorem LK {n : Nat} : Dec Tryz.prog (n + 5) 28 cGLs (WQ) := gd_28 Tryz.underlying3 Tryz.underlying22 Tryz.underlying25 (by kernel_rfl) Tryz.underlying108 (by kernel_rfl) Tryz.underlying23 Tryz.underlying4 Tryz.underlying79 (by kernel_rfl) Tryz.underlying26 Tryz.underlying28 (by kernel_rfl) Tryz.underlying100 (by kernel_rfl) Tryz.underlying29 Tryz.underlying31 (by kernel_rfl)
theorem LL {n : Nat} : Dec Tryz.prog (n + 4) 31 cGLx (WR) := gd_31 Tryz.underlying3 Tryz.underlying22 Tryz.underlying25 (by kernel_rfl) Tryz.underlying108 (by kernel_rfl) Tryz.underlying23 Tryz.underlying4 Tryz.underlying79 (by kernel_rfl) Tryz.underlying26 Tryz.underlying28 (by kernel_rfl) Tryz.underlying100 (by kernel_rfl) Tryz.underlying29 Tryz.underlying31 (by kernel_rfl)
end Go.V
end
section
namespace Go.V
open Go Go.Proofs IntKind
def goB (b : Bool) : Option (LOut Bool Unit) := cond b (some (.go ())) (some (.ret false))
theorem mF (a b : Bool) : goB (a && b) = cond a (goB b) (some (.ret false)) := by cases a <;> rfl
theorem cnot {α : Type} (a : Bool) (x y : α) : cond (!a) x y = cond a y x := by cases a <;> rfl
theorem cand {α : Type} (a b : Bool) (x y : α) : cond (a && b) x y = cond a (cond b x y) y := by cases a <;> rfl
theorem csome (a b : Bool) : cond a (some b) (some false) = some (a && b) := by cases a <;> rfl
theorem vm {X : Type} (b : Bool) (kr : Bool → Option X) (kg : Unit → Option X) (kb : Nat → Unit → Option X) : lbind (goB b) kr kg kb = cond b (kg ()) (kr false) := by cases b <;> rfl
def inB (a b n : Int) : Bool := decide (a ≤ n) && decide (n ≤ b)
theorem tM {a b n : Int} : inB a b n = true ↔ a ≤ n ∧ n ≤ b := by simp [inB]
theorem kO {n : Int} (h1 : -9223372036854775808 ≤ n) (h2 : n < 9223372036854775808) : i64.wrap n = n := IntWalk.i64_in _ (by omega)
theorem wC {α : Type} {xs : List α} (h : lenOk xs = true) : xs.length < 9223372036854775808 := by simpa [lenOk] using h
theorem pa {α : Type} {xs : List α} (h : xs.length < 9223372036854775808) : lenOk xs = true := by simpa [lenOk] using h
theorem WK {α : Type} {xs : List α} {i : Int} (h0 : 0 ≤ i) (h1 : i < xs.length) : ∃ x, getI xs i = some x ∧ x ∈ xs := by
 unfold getI
 rw [if_pos h0]
 have h : i.toNat < xs.length := by omega
 exact ⟨xs[i.toNat], List.getElem?_eq_getElem h, List.getElem_mem h⟩
theorem PO {α : Type} {xs : List α} {i : Int} {x : α} (h : getI xs i = some x) : x ∈ xs := by
 unfold getI at h
 split at h
 ·exact List.mem_of_getElem? h
 ·cases h
theorem PQ {α : Type} {xs : List α} {i : Int} {x : α} (h : getI xs i = some x) : 0 ≤ i ∧ i < xs.length := ⟨(vb h).1, (vb h).2.1⟩
theorem Lc {α : Type} {xs : List α} (h : 1 ≤ xs.length) (h2 : xs.length < 9223372036854775808) : getI xs (i64.wrap ((xs.length : Int) - 1)) = xs.getLast? := by
 rw [kO (by omega) (by omega)]
 unfold getI
 rw [if_pos (by omega), List.getLast?_eq_getElem?]
 congr 1
 omega
theorem mulR {a b A B : Int} (h1 : 0 ≤ a) (h2 : a ≤ A) (h3 : 0 ≤ b) (h4 : b ≤ B) : 0 ≤ a * b ∧ a * b ≤ A * B :=
 ⟨Int.mul_nonneg h1 h3, Int.mul_le_mul h2 h4 h3 (Int.le_trans h1 h2)⟩
def oc (aP : Int) (eJ : Int) (bf : Int) : Option (Bool) := cond (decide (aP ≤ eJ)) (some (decide (eJ ≤ bf))) (some false)
theorem tq (aP : Int) (eJ : Int) (bf : Int) (R : Bool) (h : oc aP eJ bf = some R) : ag Tryz.prog G0 112 [.lit (.int .i64 aP), .lit (.int .i64 eJ), .lit (.int .i64 bf)] (.tree (.lit (.bool R))) := by
 refine ag.runR mixed Tryz.call112 Tryz.func112 rfl (by simp [Tryz.ntmps112]; kernel_rfl) ?_
 obtain ⟨KF, h, kF, kN⟩ := dZ h
 simp only [oc] at h
 cases d1 : (decide (aP ≤ eJ))
 ·simp only [d1, hs] at h
  try simp only [vz, tyf, d1, nm, seval]
  obtain rfl := kF _ h
  exact bd Tryz.results112 rfl
 simp only [d1, hs] at h
 try simp only [vz, tyf, d1, nm, seval]
 obtain rfl := kF _ h
 exact bd Tryz.results112 rfl
def yY (aP : Int) (bf : Int) : List Int → Int → Option (LOut (Bool) (Unit))
 | [], iA => some (.go ())
 | e0 :: p0, iA => Option.bind (oc aP e0 bf) (fun r1 => cond (r1) (yY aP bf p0 (iA + 1)) (some (.ret false)))
def wB (aP : Int) (ai : List Int) (bf : Int) : Option (Bool) := cond (lenOk ai) (lbind (yY aP bf ai 0) (fun r3 => some r3) (fun c2 => some true) (fun _ _ => none)) none
theorem PR (aP : Int) (ai : List Int) (bf : Int) (R : Bool) (h : wB aP ai bf = some R) : ag Tryz.prog G0 147 [.lit (.int .i64 aP), .sl (ad eI ai) (List.length ai) false, .lit (.int .i64 bf)] (.tree (.lit (.bool R))) := by
 refine ag.runR mixed Tryz.call147 Tryz.func147 rfl (by simp [Tryz.ntmps147]; kernel_rfl) ?_
 obtain ⟨KF, h, kF, kN⟩ := dZ h
 simp only [wB] at h
 cases g5 : (lenOk ai)
 ·simp only [g5, hs] at h
  exact absurd h kN
 simp only [g5, hs] at h
 simp only [vz, tyf, g5, nm, seval]
 obtain ⟨K4, h, Vc, KB, YY, FF⟩ := fP h kN
 obtain ⟨f4, KC, h⟩ := call2 h
 obtain ⟨I4, wx⟩ : ∃ I : Nat → St → Prop, I = (fun m st => ∃ (p4 : List Int) (gQ : Int), m = List.length p4 ∧ 0 ≤ gQ ∧ List.drop (Int.toNat gQ) ai = p4 ∧ st.df = [] ∧ 4 ≤ st.nx ∧ st.tm 0 = .lit (.int .i64 aP) ∧ st.tm 2 = .lit (.int .i64 bf) ∧ st.tm 9 = .sl (ad eI ai) (List.length ai) false ∧ st.tm 10 = .lit (.int .i64 (List.length ai : Int)) ∧ st.tm 11 = .lit (.int .i64 gQ) ∧ K4 (f4 p4 gQ)) := ⟨_, rfl⟩
 refine loopK mixed (by kernel_rfl) I4 (List.length ai) (by rw [wx]; refine ⟨ai, 0, rfl, Int.le_refl _, rfl, rfl, (show 4 ≤ 4 by omega), ?_, ?_, ?_, ?_, ?_, h⟩ <;> first | (simp only [ua, nm, seval] <;> rfl) | rfl) ?_
 rintro m ⟨tm, H, AY, df⟩ hinv
 rw [wx] at hinv
 obtain ⟨p4, gQ, rfl, zB, Dm, hdf, KD, e6, e7, e8, e9, bj, h⟩ := hinv
 simp only at hdf KD e6 e7 e8 e9 bj
 have mM := fO (m := 4) (b := AY) (by omega)
 subst hdf KC
 cases p4 with
 | nil =>
  have bD : (decide (gQ < (List.length ai : Int))) = false := eZ zB Dm
  simp only [yY, hs, reduceCtorEq] at h
  replace h := KB _ h
  try dsimp only at h
  try simp only [hs] at h
  try simp only [vz, tyf, g5, mM, e6, e7, e8, e9, bj, bD, nm, seval]
  obtain rfl := kF _ h
  exact bd Tryz.results147 rfl
 | cons e4 p4 =>
  have bB : (decide (gQ < (List.length ai : Int))) = true := eY zB Dm
  have oD := dY zB Dm
  have oE := fa zB Dm g5
  simp only [yY, hs, reduceCtorEq] at h
  obtain ⟨vC, CV, h⟩ := optI h FF
  try simp only [hs] at h
  simp only [vz, tyf, g5, mM, e6, e7, e8, e9, bj, bB, (au oD), oE, nm, seval]
  refine ktA (tq _ _ _ _ CV) ?_
  refine bt (fun tm => tm 0 = .lit (.int .i64 aP) ∧ tm 2 = .lit (.int .i64 bf) ∧ tm 9 = .sl (ad eI ai) (List.length ai) false ∧ tm 10 = .lit (.int .i64 (List.length ai : Int)) ∧ tm 11 = .lit (.int .i64 gQ) ∧ tm 18 = .lit (.bool vC) ∧ True) (by refine ⟨e6, e7, e8, e9, bj, ?_, trivial⟩ <;> first | (simp only [ua, mM, e6, e7, e8, e9, bj, bB, oE, nm, seval] <;> rfl) | rfl) ?_
  rintro tm ⟨bT, db, gR, eE, cE, dw, _⟩
  cases mD : (vC)
  ·simp only [mD, hs] at h
   try simp only [vz, tyf, g5, mM, bB, (au oD), oE, bT, db, gR, eE, cE, dw, mD, nm, seval]
   replace h := Vc _ h
   try dsimp only at h
   obtain rfl := kF _ h
   exact bd Tryz.results147 rfl
  simp only [mD, hs] at h
  simp only [vz, tyf, g5, mM, bB, (au oD), oE, bT, db, gR, eE, cE, dw, mD, nm, seval]
  exact ⟨List.length p4, Nat.lt_succ_self _, by rw [wx]; refine ⟨p4, gQ + 1, rfl, Int.le_trans zB (Int.le_add_one (Int.le_refl _)), bJ zB Dm, rfl, (show 4 ≤ AY + 11 by omega), bT, db, gR, eE, ?_, (by first | exact h | (simp only [bB, mD]; exact h))⟩ <;> first | (simp only [ua, mM, bB, oE, bT, db, gR, eE, cE, dw, mD, nm, seval] <;> rfl) | rfl⟩
def Bk (cI : List Int) : Option (Bool) := Option.bind (oc 1 (List.length cI : Int) 6) (fun r1 => cond (r1) (Option.bind (wB 1 cI 20) (fun r2 => some r2)) (some false))
theorem zjq (cI : List Int) (R : Bool) (h : Bk cI = some R) : ag Tryz.prog G0 109 [.sl (ad eI cI) (List.length cI) false] (.tree (.lit (.bool R))) := by
 refine ag.runR mixed Tryz.call109 Tryz.func109 rfl (by simp [Tryz.ntmps109]; kernel_rfl) ?_
 obtain ⟨KF, h, kF, kN⟩ := dZ h
 simp only [Bk] at h
 obtain ⟨r3, o4, h⟩ := optI h kN
 try simp only [hs] at h
 simp only [vz, tyf, nm, seval]
 refine ktA (tq _ _ _ _ o4) ?_
 refine bt (fun tm => tm 0 = .sl (ad eI cI) (List.length cI) false ∧ tm 5 = .lit (.bool r3) ∧ True) (by refine ⟨?_, ?_, trivial⟩ <;> first | (simp only [ua, nm, seval] <;> rfl) | rfl) ?_
 rintro tm ⟨e5, e6, _⟩
 cases d7 : (r3)
 ·simp only [d7, hs] at h
  try simp only [vz, tyf, e5, e6, d7, nm, seval]
  obtain rfl := kF _ h
  exact bd Tryz.results109 rfl
 simp only [d7, hs] at h
 obtain ⟨r8, o9, h⟩ := optI h kN
 try simp only [hs] at h
 simp only [vz, tyf, e5, e6, d7, nm, seval]
 refine ktA (PR _ _ _ _ o9) ?_
 refine bt (fun tm => tm 6 = .lit (.bool true) ∧ tm 8 = .lit (.bool r8) ∧ True) (by refine ⟨?_, ?_, trivial⟩ <;> first | (simp only [ua, e5, e6, d7, nm, seval] <;> rfl) | rfl) ?_
 rintro tm ⟨bj, bm, _⟩
 try simp only [vz, tyf, d7, bj, bm, nm, seval]
 obtain rfl := kF _ h
 exact bd Tryz.results109 rfl
def w9 (aP : Int) (bp : GSpan) (bf : Int) : Option (Bool) := cond (decide (aP ≤ bp.Low)) (cond (decide (bp.Low ≤ bp.High)) (some (decide (bp.High ≤ bf))) (some false)) (some false)
theorem PS (aP : Int) (bp : GSpan) (bf : Int) (R : Bool) (h : w9 aP bp bf = some R) : ag Tryz.prog G0 111 [.lit (.int .i64 aP), .agg (cGSpan bp), .lit (.int .i64 bf)] (.tree (.lit (.bool R))) := by
 refine ag.runR mixed Tryz.call111 Tryz.func111 rfl (by simp [Tryz.ntmps111]; kernel_rfl) ?_
 obtain ⟨KF, h, kF, kN⟩ := dZ h
 simp only [w9] at h
 cases d1 : (decide (aP ≤ bp.Low))
 ·simp only [d1, hs] at h
  try simp only [vz, tyf, d1, nm, seval]
  obtain rfl := kF _ h
  exact bd Tryz.results111 rfl
 simp only [d1, hs] at h
 cases d2 : (decide (bp.Low ≤ bp.High))
 ·simp only [d2, hs] at h
  try simp only [vz, tyf, d1, d2, nm, seval]
  obtain rfl := kF _ h
  exact bd Tryz.results111 rfl
 simp only [d2, hs] at h
 try simp only [vz, tyf, d1, d2, nm, seval]
 obtain rfl := kF _ h
 exact bd Tryz.results111 rfl
def Bf (ec : Int) : Option (Bool) := some (ec != ec)
theorem WW (ec : Int) (R : Bool) (h : Bf ec = some R) : ag Tryz.prog G0 154 [.lit (.int .i64 ec)] (.tree (.lit (.bool R))) := by
 refine ag.runR mixed Tryz.call154 Tryz.func154 rfl (by simp [Tryz.ntmps154]; kernel_rfl) ?_
 obtain ⟨KF, h, kF, kN⟩ := dZ h
 simp only [Bf] at h
 try simp only [vz, tyf, nm, seval]
 obtain rfl := kF _ h
 exact bd Tryz.results154 rfl
def zf (ec : Int) (jT : Int) : Option (Int) := Option.bind (Bf ec) (fun r1 => Option.bind (Bf jT) (fun r2 => cond (r1) (cond (r2) (some 0) (some (-1))) (cond (r2) (some 1) (cond (decide (ec < jT)) (some (-1)) (cond (decide (ec > jT)) (some 1) (some 0))))))
theorem WX (ec : Int) (jT : Int) (R : Int) (h : zf ec jT = some R) : ag Tryz.prog G0 125 [.lit (.int .i64 ec), .lit (.int .i64 jT)] (.tree (.lit (.int .i64 R))) := by
 refine ag.runR mixed Tryz.call125 Tryz.func125 rfl (by simp [Tryz.ntmps125]; kernel_rfl) ?_
 obtain ⟨KF, h, kF, kN⟩ := dZ h
 simp only [zf] at h
 obtain ⟨r3, o4, h⟩ := optI h kN
 try simp only [hs] at h
 simp only [vz, tyf, nm, seval]
 refine ktA (WW _ _ o4) ?_
 refine bt (fun tm => tm 0 = .lit (.int .i64 ec) ∧ tm 1 = .lit (.int .i64 jT) ∧ tm 8 = .lit (.bool r3) ∧ True) (by refine ⟨?_, ?_, ?_, trivial⟩ <;> first | (simp only [ua, nm, seval] <;> rfl) | rfl) ?_
 rintro tm ⟨e5, e6, e7, _⟩
 obtain ⟨r8, o9, h⟩ := optI h kN
 try simp only [hs] at h
 simp only [vz, tyf, e5, e6, e7, nm, seval]
 refine ktA (WW _ _ o9) ?_
 refine bt (fun tm => tm 0 = .lit (.int .i64 ec) ∧ tm 1 = .lit (.int .i64 jT) ∧ tm 5 = .lit (.bool r3) ∧ tm 10 = .lit (.bool r8) ∧ True) (by refine ⟨e5, e6, ?_, ?_, trivial⟩ <;> first | (simp only [ua, e5, e6, e7, nm, seval] <;> rfl) | rfl) ?_
 rintro tm ⟨bj, bm, bU, bA, _⟩
 cases bQ : (r3)
 ·simp only [bQ, hs] at h
  cases eG : (r8)
  ·simp only [eG, hs] at h
   cases gY : (decide (ec < jT))
   ·simp only [gY, hs] at h
    cases fA : (decide (ec > jT))
    ·simp only [fA, hs] at h
     try simp only [vz, tyf, bj, bm, bU, bA, bQ, eG, gY, fA, nm, seval]
     refine dX (x := (.lit (.int .i64 0))) (by first | (simp only [Tryz.results125, resV, resL, aV, dP, dQ, uw, cr, tyf, bQ, eG, gY, fA, nm, seval] <;> rfl) | rfl) ?_
     obtain rfl := kF _ h
     refine dV ?_ ?_
     ·simp only [tre, aF, Bool.and_self]
     ·first | (simp only [outV, uw, eK, cr, tyf, nrm, aE, bj, bm, bU, bA, bQ, eG, gY, fA, nm, seval] <;> rfl) | rfl
    simp only [fA, hs] at h
    try simp only [vz, tyf, bj, bm, bU, bA, bQ, eG, gY, fA, nm, seval]
    refine dX (x := (.lit (.int .i64 1))) (by first | (simp only [Tryz.results125, resV, resL, aV, dP, dQ, uw, cr, tyf, bQ, eG, gY, fA, nm, seval] <;> rfl) | rfl) ?_
    obtain rfl := kF _ h
    refine dV ?_ ?_
    ·simp only [tre, aF, Bool.and_self]
    ·first | (simp only [outV, uw, eK, cr, tyf, nrm, aE, bj, bm, bU, bA, bQ, eG, gY, fA, nm, seval] <;> rfl) | rfl
   simp only [gY, hs] at h
   try simp only [vz, tyf, bj, bm, bU, bA, bQ, eG, gY, nm, seval]
   refine dX (x := (.lit (.int .i64 (-1)))) (by first | (simp only [Tryz.results125, resV, resL, aV, dP, dQ, uw, cr, tyf, bQ, eG, gY, nm, seval] <;> rfl) | rfl) ?_
   obtain rfl := kF _ h
   refine dV ?_ ?_
   ·simp only [tre, aF, Bool.and_self]
   ·first | (simp only [outV, uw, eK, cr, tyf, nrm, aE, bj, bm, bU, bA, bQ, eG, gY, nm, seval] <;> rfl) | rfl
  simp only [eG, hs] at h
  try simp only [vz, tyf, bj, bm, bU, bA, bQ, eG, nm, seval]
  refine dX (x := (.lit (.int .i64 1))) (by first | (simp only [Tryz.results125, resV, resL, aV, dP, dQ, uw, cr, tyf, bQ, eG, nm, seval] <;> rfl) | rfl) ?_
  obtain rfl := kF _ h
  refine dV ?_ ?_
  ·simp only [tre, aF, Bool.and_self]
  ·first | (simp only [outV, uw, eK, cr, tyf, nrm, aE, bj, bm, bU, bA, bQ, eG, nm, seval] <;> rfl) | rfl
 simp only [bQ, hs] at h
 cases k7 : (r8)
 ·simp only [k7, hs] at h
  try simp only [vz, tyf, bj, bm, bU, bA, bQ, k7, nm, seval]
  refine dX (x := (.lit (.int .i64 (-1)))) (by first | (simp only [Tryz.results125, resV, resL, aV, dP, dQ, uw, cr, tyf, bQ, k7, nm, seval] <;> rfl) | rfl) ?_
  obtain rfl := kF _ h
  refine dV ?_ ?_
  ·simp only [tre, aF, Bool.and_self]
  ·first | (simp only [outV, uw, eK, cr, tyf, nrm, aE, bj, bm, bU, bA, bQ, k7, nm, seval] <;> rfl) | rfl
 simp only [k7, hs] at h
 try simp only [vz, tyf, bj, bm, bU, bA, bQ, k7, nm, seval]
 refine dX (x := (.lit (.int .i64 0))) (by first | (simp only [Tryz.results125, resV, resL, aV, dP, dQ, uw, cr, tyf, bQ, k7, nm, seval] <;> rfl) | rfl) ?_
 obtain rfl := kF _ h
 refine dV ?_ ?_
 ·simp only [tre, aF, Bool.and_self]
 ·first | (simp only [outV, uw, eK, cr, tyf, nrm, aE, bj, bm, bU, bA, bQ, k7, nm, seval] <;> rfl) | rfl
def Bh  : List Int → Int → Option (LOut (Int) (Unit))
 | [], hY => some (.go ())
 | e0 :: p0, hY => cond (e0 != 0) (some (.ret e0)) (Bh p0 (hY + 1))
def Bg (bP : List Int) : Option (Int) := cond (lenOk bP) (lbind (Bh bP 0) (fun r2 => some r2) (fun c1 => some 0) (fun _ _ => none)) none
theorem zpi (bP : List Int) (R : Int) (h : Bg bP = some R) : ag Tryz.prog G0 124 [.sl (ad eI bP) (List.length bP) false] (.tree (.lit (.int .i64 R))) := by
 refine ag.runR mixed Tryz.call124 Tryz.func124 rfl (by simp [Tryz.ntmps124]; kernel_rfl) ?_
 obtain ⟨KF, h, kF, kN⟩ := dZ h
 simp only [Bg] at h
 cases g4 : (lenOk bP)
 ·simp only [g4, hs] at h
  exact absurd h kN
 simp only [g4, hs] at h
 simp only [vz, tyf, g4, nm, seval]
 obtain ⟨K3, h, qV, qz, AS, AT⟩ := fP h kN
 obtain ⟨f3, qW, h⟩ := call2 h
 obtain ⟨I3, ji⟩ : ∃ I : Nat → St → Prop, I = (fun m st => ∃ (p3 : List Int) (bO : Int), m = List.length p3 ∧ 0 ≤ bO ∧ List.drop (Int.toNat bO) bP = p3 ∧ st.df = [] ∧ 5 ≤ st.nx ∧ st.tm 3 = .lit (.int .i64 0) ∧ st.tm 6 = .sl (ad eI bP) (List.length bP) false ∧ st.tm 7 = .lit (.int .i64 (List.length bP : Int)) ∧ st.tm 8 = .lit (.int .i64 bO) ∧ K3 (f3 p3 bO)) := ⟨_, rfl⟩
 refine loopK mixed (by kernel_rfl) I3 (List.length bP) (by rw [ji]; refine ⟨bP, 0, rfl, Int.le_refl _, rfl, rfl, (show 5 ≤ 5 by omega), ?_, ?_, ?_, ?_, h⟩ <;> first | (simp only [ua, nm, seval] <;> rfl) | rfl) ?_
 rintro m ⟨tm, H, lQ, df⟩ hinv
 rw [ji] at hinv
 obtain ⟨p3, bO, rfl, eP, fE, hdf, qX, e5, e6, e7, e8, h⟩ := hinv
 simp only at hdf qX e5 e6 e7 e8
 have n9 := fO (m := 5) (b := lQ) (by omega)
 subst hdf qW
 cases p3 with
 | nil =>
  have cw : (decide (bO < (List.length bP : Int))) = false := eZ eP fE
  simp only [Bh, hs, reduceCtorEq] at h
  replace h := qz _ h
  try dsimp only at h
  try simp only [hs] at h
  try simp only [vz, tyf, g4, n9, e5, e6, e7, e8, cw, nm, seval]
  refine dX (x := (.lit (.int .i64 0))) (by first | (simp only [Tryz.results124, resV, resL, aV, dP, dQ, uw, cr, tyf, g4, n9, cw, nm, seval] <;> rfl) | rfl) ?_
  obtain rfl := kF _ h
  refine dV ?_ ?_
  ·simp only [tre, aF, Bool.and_self]
  ·first | (simp only [outV, uw, eK, cr, tyf, nrm, aE, g4, n9, e5, e6, e7, e8, cw, nm, seval] <;> rfl) | rfl
 | cons e3 p3 =>
  have fF : (decide (bO < (List.length bP : Int))) = true := eY eP fE
  have pJ := dY eP fE
  have ou := fa eP fE g4
  simp only [Bh, hs, reduceCtorEq] at h
  cases bQ : (e3 != 0)
  ·simp only [bQ, hs] at h
   simp only [vz, tyf, g4, n9, e5, e6, e7, e8, fF, (au pJ), ou, bQ, nm, seval]
   exact ⟨List.length p3, Nat.lt_succ_self _, by rw [ji]; refine ⟨p3, bO + 1, rfl, Int.le_trans eP (Int.le_add_one (Int.le_refl _)), bJ eP fE, rfl, (show 5 ≤ lQ + 9 by omega), e5, e6, e7, ?_, (by first | exact h | (simp only [fF, bQ]; exact h))⟩ <;> first | (simp only [ua, n9, e5, e6, e7, e8, fF, ou, bQ, nm, seval] <;> rfl) | rfl⟩
  simp only [bQ, hs] at h
  try simp only [vz, tyf, g4, n9, e5, e6, e7, e8, fF, (au pJ), ou, bQ, nm, seval]
  refine dX (x := (.lit (.int .i64 e3))) (by first | (simp only [Tryz.results124, resV, resL, aV, dP, dQ, uw, cr, tyf, g4, n9, fF, (au pJ), ou, bQ, nm, seval] <;> rfl) | rfl) ?_
  replace h := qV _ h
  try dsimp only at h
  obtain rfl := kF _ h
  refine dV ?_ ?_
  ·simp only [tre, aF, Bool.and_self]
  ·first | (simp only [outV, uw, eK, cr, tyf, nrm, aE, g4, n9, e5, e6, e7, e8, fF, (au pJ), ou, bQ, nm, seval] <;> rfl) | rfl
def Bi (gC : GLp) (gD : GLp) : Option (Int) := Option.bind (zf gC.Left gD.Left) (fun r1 => Option.bind (zf gC.Right gD.Right) (fun r2 => Option.bind (Bg ([r1, r2])) (fun r3 => some r3)))
theorem zil (gC : GLp) (gD : GLp) (R : Int) (h : Bi gC gD = some R) : ag Tryz.prog G0 148 [.agg (cGLp gC), .agg (cGLp gD)] (.tree (.lit (.int .i64 R))) := by
 refine ag.runR mixed Tryz.call148 Tryz.func148 rfl (by simp [Tryz.ntmps148]; kernel_rfl) ?_
 obtain ⟨KF, h, kF, kN⟩ := dZ h
 simp only [Bi] at h
 simp only [vz, tyf, nm, seval]
 refine F5 (fun tm => tm 2 = .ptr 0 0 ∧ tm 3 = .ptr 1 0 ∧ True) (by refine ⟨?_, ?_, trivial⟩ <;> first | (simp only [ua, nm, seval] <;> rfl) | rfl) ?_
 rintro tm ⟨e4, e5, _⟩
 obtain ⟨r6, o7, h⟩ := optI h kN
 try simp only [hs] at h
 simp only [vz, tyf, e4, e5, nm, seval]
 refine dktA (WX _ _ _ o7) ?_
 refine bt (fun tm => tm 2 = .ptr 0 0 ∧ tm 3 = .ptr 1 0 ∧ tm 9 = .lit (.int .i64 r6) ∧ True) (by refine ⟨e4, e5, ?_, trivial⟩ <;> first | (simp only [ua, e4, e5, nm, seval] <;> rfl) | rfl) ?_
 rintro tm ⟨e8, e9, bj, _⟩
 obtain ⟨qx, jE, h⟩ := optI h kN
 try simp only [hs] at h
 simp only [vz, tyf, e8, e9, bj, nm, seval]
 refine dktA (WX _ _ _ jE) ?_
 refine bt (fun tm => tm 9 = .lit (.int .i64 r6) ∧ tm 14 = .lit (.int .i64 qx) ∧ True) (by refine ⟨bj, ?_, trivial⟩ <;> first | (simp only [ua, e8, e9, bj, nm, seval] <;> rfl) | rfl) ?_
 rintro tm ⟨bA, cL, _⟩
 obtain ⟨wy, iW, h⟩ := optI h kN
 try simp only [hs] at h
 simp only [vz, tyf, bA, cL, nm, seval]
 refine dkseen1 (w := 1) (enc := eI) (xs := ([r6, qx])) (el := (some 3)) ⟨eI_ok.tree, eI_ok.norm⟩ (fun _ => rfl) (by simp only [List.length_cons, List.length_nil]; decide) (by simp only [cq, ct, lq, nm, seval] <;> rfl) (zpi _ _ iW) (by first | rfl | simp only [VV.flat, flatL, Bool.and_self]) ?_
 refine bt (fun tm => tm 16 = .lit (.int .i64 wy) ∧ True) (by refine ⟨?_, trivial⟩ <;> first | (simp only [ua, bA, cL, nm, seval] <;> rfl) | rfl) ?_
 rintro tm ⟨dv, _⟩
 simp only [vz, tyf, dv, nm, seval]
 refine Gy ⟨?_, ?_⟩
 ·simp only [G3, G2, vD, Gz, and_true, true_and]
  repeat' (first | exact trivial | refine And.intro ?_ ?_ | rw [vD] | rw [G1] | exact Or.inl (by decide +kernel) | exact Or.inl (by dsimp only; decide +kernel) | (refine Or.inr ⟨?_, ?_⟩ <;> simp; done) | (refine Or.inr ⟨?_, ?_⟩ <;> simp <;> omega) | (refine Or.inr ⟨?_, ?_⟩ <;> simp [VEff.wr] <;> omega))
 try simp only [vz, tyf, dv, nm, seval]
 refine dX (x := (.lit (.int .i64 wy))) (by first | (simp only [Tryz.results148, resV, resL, aV, dP, dQ, uw, cr, tyf, nm, seval] <;> rfl) | rfl) ?_
 obtain rfl := kF _ h
 refine dV ?_ ?_
 ·simp only [tre, aF, Bool.and_self]
 ·first | (simp only [outV, uw, eK, cr, tyf, nrm, aE, dv, nm, seval] <;> rfl) | rfl
def tI (ar : List GLp) (aQ : Int) : List GLp → Int → Option (LOut (Bool) (Unit))
 | [], dz => some (.go ())
 | e0 :: p0, dz => Option.bind (oc 0 e0.Left (i64.wrap (aQ - 1))) (fun r1 => cond (r1) (Option.bind (oc 0 e0.Right (i64.wrap (aQ - 1))) (fun r2 => cond (r2) (Option.bind (w9 0 e0.Space 9) (fun r3 => cond (r3) (cond (decide (dz > 0)) (Option.bind (getI ar (i64.wrap (dz - 1))) (fun x4 => Option.bind (Bi x4 e0) (fun r5 => cond (decide (r5 ≥ 0)) (some (.ret false)) (tI ar aQ p0 (dz + 1))))) (tI ar aQ p0 (dz + 1))) (some (.ret false)))) (some (.ret false)))) (some (.ret false)))
def Bj (ar : List GLp) (aQ : Int) : Option (Bool) := cond (decide ((List.length ar : Int) > 6)) (some false) (cond (lenOk ar) (lbind (tI ar aQ ar 0) (fun r7 => some r7) (fun c6 => some true) (fun _ _ => none)) none)
theorem zkb (ar : List GLp) (aQ : Int) (R : Bool) (h : Bj ar aQ = some R) : ag Tryz.prog G0 110 [.sl (ad cGLp ar) (List.length ar) false, .lit (.int .i64 aQ)] (.tree (.lit (.bool R))) := by
 refine ag.runR mixed Tryz.call110 Tryz.func110 rfl (by simp [Tryz.ntmps110]; kernel_rfl) ?_
 obtain ⟨KF, h, kF, kN⟩ := dZ h
 simp only [Bj] at h
 cases d8 : (decide ((List.length ar : Int) > 6))
 ·simp only [d8, hs] at h
  cases ja : (lenOk ar)
  ·simp only [ja, hs] at h
   exact absurd h kN
  simp only [ja, hs] at h
  simp only [vz, tyf, d8, ja, nm, seval]
  obtain ⟨K9, h, zC, PT, kB9, xH⟩ := fP h kN
  obtain ⟨f9, PU, h⟩ := call2 h
  obtain ⟨I9, vE⟩ : ∃ I : Nat → St → Prop, I = (fun m st => ∃ (p9 : List GLp) (cV : Int), m = List.length p9 ∧ 0 ≤ cV ∧ List.drop (Int.toNat cV) ar = p9 ∧ st.df = [] ∧ 7 ≤ st.nx ∧ st.tm 0 = .sl (ad cGLp ar) (List.length ar) false ∧ st.tm 1 = .lit (.int .i64 aQ) ∧ st.tm 10 = .sl (ad cGLp ar) (List.length ar) false ∧ st.tm 11 = .lit (.int .i64 (List.length ar : Int)) ∧ st.tm 12 = .lit (.int .i64 cV) ∧ K9 (f9 p9 cV)) := ⟨_, rfl⟩
  refine loopK mixed (by kernel_rfl) I9 (List.length ar) (by rw [vE]; refine ⟨ar, 0, rfl, Int.le_refl _, rfl, rfl, (show 7 ≤ 7 by omega), ?_, ?_, ?_, ?_, ?_, h⟩ <;> first | (simp only [ua, d8, nm, seval] <;> rfl) | rfl) ?_
  rintro m ⟨tm, H, mN, df⟩ hinv
  rw [vE] at hinv
  obtain ⟨p9, cV, rfl, nz, qE, hdf, PV, bm, bU, bA, cL, dO, h⟩ := hinv
  simp only at hdf PV bm bU bA cL dO
  have jw := fO (m := 7) (b := mN) (by omega)
  subst hdf PU
  cases p9 with
  | nil =>
   have fA : (decide (cV < (List.length ar : Int))) = false := eZ nz qE
   simp only [tI, hs, reduceCtorEq] at h
   replace h := PT _ h
   try dsimp only at h
   try simp only [hs] at h
   try simp only [vz, tyf, d8, ja, jw, bm, bU, bA, cL, dO, fA, nm, seval]
   obtain rfl := kF _ h
   exact bd Tryz.results110 rfl
  | cons e9 p9 =>
   have k7 : (decide (cV < (List.length ar : Int))) = true := eY nz qE
   have mO := dY nz qE
   have xI := fa nz qE ja
   simp only [tI, hs, reduceCtorEq] at h
   obtain ⟨te, B8, h⟩ := optI h xH
   try simp only [hs] at h
   simp only [vz, tyf, d8, ja, jw, bm, bU, bA, cL, dO, k7, (cB mO), xI, nm, seval]
   refine ktA (tq _ _ _ _ B8) ?_
   refine bt (fun tm => tm 0 = .sl (ad cGLp ar) (List.length ar) false ∧ tm 1 = .lit (.int .i64 aQ) ∧ tm 5 = .lit (.int .i64 cV) ∧ tm 6 = .ptr (mN + 4) 0 ∧ tm 10 = .sl (ad cGLp ar) (List.length ar) false ∧ tm 11 = .lit (.int .i64 (List.length ar : Int)) ∧ tm 12 = .lit (.int .i64 cV) ∧ tm 21 = .lit (.bool te) ∧ True) (by refine ⟨bm, bU, ?_, ?_, bA, cL, dO, ?_, trivial⟩ <;> first | (simp only [ua, d8, jw, bm, bU, bA, cL, dO, k7, xI, nm, seval] <;> rfl) | rfl) ?_
   rintro tm ⟨dw, cN, cM, cy, cO, eu, gn, bS, _⟩
   cases im : (te)
   ·simp only [im, hs] at h
    try simp only [vz, tyf, d8, ja, jw, k7, (cB mO), xI, dw, cN, cM, cy, cO, eu, gn, bS, im, nm, seval]
    replace h := zC _ h
    try dsimp only at h
    obtain rfl := kF _ h
    exact bd Tryz.results110 rfl
   simp only [im, hs] at h
   obtain ⟨lE, tO, h⟩ := optI h xH
   try simp only [hs] at h
   simp only [vz, tyf, d8, ja, jw, k7, (cB mO), xI, dw, cN, cM, cy, cO, eu, gn, bS, im, nm, seval]
   refine ktA (tq _ _ _ _ tO) ?_
   refine bt (fun tm => tm 0 = .sl (ad cGLp ar) (List.length ar) false ∧ tm 1 = .lit (.int .i64 aQ) ∧ tm 5 = .lit (.int .i64 cV) ∧ tm 6 = .ptr (mN + 4) 0 ∧ tm 10 = .sl (ad cGLp ar) (List.length ar) false ∧ tm 11 = .lit (.int .i64 (List.length ar : Int)) ∧ tm 12 = .lit (.int .i64 cV) ∧ tm 23 = .lit (.bool false) ∧ tm 28 = .lit (.bool lE) ∧ True) (by refine ⟨dw, cN, cM, cy, cO, eu, gn, ?_, ?_, trivial⟩ <;> first | (simp only [ua, d8, jw, k7, xI, dw, cN, cM, cy, cO, eu, gn, bS, im, nm, seval] <;> rfl) | rfl) ?_
   rintro tm ⟨fu, iu, dj, cF, cb, cm, ck, bR, bC, _⟩
   cases qF : (lE)
   ·simp only [qF, hs] at h
    have b44 := And.intro d8 (And.intro ja (And.intro jw (And.intro k7 (And.intro xI (And.intro im qF)))))
    try simp only [vz, tyf, b44, (cB mO), fu, iu, dj, cF, cb, cm, ck, bR, bC, nm, seval]
    replace h := zC _ h
    try dsimp only at h
    obtain rfl := kF _ h
    exact bd Tryz.results110 rfl
   simp only [qF, hs] at h
   have mP := And.intro d8 (And.intro ja (And.intro jw (And.intro k7 (And.intro xI (And.intro im qF)))))
   obtain ⟨WY, yH, h⟩ := optI h xH
   try simp only [hs] at h
   simp only [vz, tyf, mP, (cB mO), fu, iu, dj, cF, cb, cm, ck, bR, bC, nm, seval]
   refine ktA (PS _ _ _ _ yH) ?_
   refine bt (fun tm => tm 0 = .sl (ad cGLp ar) (List.length ar) false ∧ tm 1 = .lit (.int .i64 aQ) ∧ tm 5 = .lit (.int .i64 cV) ∧ tm 6 = .ptr (mN + 4) 0 ∧ tm 10 = .sl (ad cGLp ar) (List.length ar) false ∧ tm 11 = .lit (.int .i64 (List.length ar : Int)) ∧ tm 12 = .lit (.int .i64 cV) ∧ tm 31 = .lit (.bool false) ∧ tm 34 = .lit (.bool WY) ∧ True) (by refine ⟨fu, iu, dj, cF, cb, cm, ck, ?_, ?_, trivial⟩ <;> first | (simp only [ua, mP, fu, iu, dj, cF, cb, cm, ck, bR, bC, nm, seval] <;> rfl) | rfl) ?_
   rintro tm ⟨iv, gu, jD, jK, m6, qG, iX, lB, lO, _⟩
   cases oF : (WY)
   ·simp only [oF, hs] at h
    try simp only [vz, tyf, mP, (cB mO), iv, gu, jD, jK, m6, qG, iX, lB, lO, oF, nm, seval]
    replace h := zC _ h
    try dsimp only at h
    obtain rfl := kF _ h
    exact bd Tryz.results110 rfl
   simp only [oF, hs] at h
   simp only [vz, tyf, mP, (cB mO), iv, gu, jD, jK, m6, qG, iX, lB, lO, oF, nm, seval]
   refine kl (fun tm => tm 0 = .sl (ad cGLp ar) (List.length ar) false ∧ tm 1 = .lit (.int .i64 aQ) ∧ tm 5 = .lit (.int .i64 cV) ∧ tm 6 = .ptr (mN + 4) 0 ∧ tm 10 = .sl (ad cGLp ar) (List.length ar) false ∧ tm 11 = .lit (.int .i64 (List.length ar : Int)) ∧ tm 12 = .lit (.int .i64 cV) ∧ True) (by refine ⟨iv, gu, jD, jK, m6, qG, iX, trivial⟩ <;> first | (simp only [ua, mP, iv, gu, jD, jK, m6, qG, iX, lB, lO, oF, nm, seval] <;> rfl) | rfl) ?_
   rintro tm ⟨l9, lW, nj, nk, fx, f2, gp, _⟩
   cases m7 : (decide (cV > 0))
   ·simp only [m7, hs] at h
    simp only [vz, tyf, mP, (cB mO), oF, l9, lW, nj, nk, fx, f2, gp, m7, nm, seval]
    exact ⟨List.length p9, Nat.lt_succ_self _, by rw [vE]; refine ⟨p9, cV + 1, rfl, Int.le_trans nz (Int.le_add_one (Int.le_refl _)), bJ nz qE, rfl, (show 7 ≤ mN + 41 by omega), l9, lW, fx, f2, ?_, (by first | exact h | (simp only [mP, oF, m7]; exact h))⟩ <;> first | (simp only [ua, mP, oF, l9, lW, nj, nk, fx, f2, gp, m7, nm, seval] <;> rfl) | rfl⟩
   simp only [m7, hs] at h
   obtain ⟨x66, CP, h⟩ := optI h xH
   try simp only [hs] at h
   obtain ⟨AO, Kx, h⟩ := optI h xH
   try simp only [hs] at h
   simp only [vz, tyf, mP, (cB mO), oF, l9, lW, nj, nk, fx, f2, gp, m7, (cB CP), nm, seval]
   refine dktA (zil _ _ _ Kx) ?_
   refine bt (fun tm => tm 0 = .sl (ad cGLp ar) (List.length ar) false ∧ tm 1 = .lit (.int .i64 aQ) ∧ tm 10 = .sl (ad cGLp ar) (List.length ar) false ∧ tm 11 = .lit (.int .i64 (List.length ar : Int)) ∧ tm 12 = .lit (.int .i64 cV) ∧ tm 39 = .lit (.bool true) ∧ tm 46 = .lit (.int .i64 AO) ∧ True) (by refine ⟨l9, lW, fx, f2, gp, ?_, ?_, trivial⟩ <;> first | (simp only [ua, mP, oF, l9, lW, nj, nk, fx, f2, gp, m7, nm, seval] <;> rfl) | rfl) ?_
   rintro tm ⟨fc, lA, kL, oA, ia, iw, fD, _⟩
   cases zD : (decide (AO ≥ 0))
   ·simp only [zD, hs] at h
    simp only [vz, tyf, mP, (cB mO), oF, m7, (cB CP), fc, lA, kL, oA, ia, iw, fD, zD, nm, seval]
    exact ⟨List.length p9, Nat.lt_succ_self _, by rw [vE]; refine ⟨p9, cV + 1, rfl, Int.le_trans nz (Int.le_add_one (Int.le_refl _)), bJ nz qE, rfl, (show 7 ≤ mN + 41 by omega), fc, lA, kL, oA, ?_, (by first | exact h | (simp only [mP, oF, m7, zD]; exact h))⟩ <;> first | (simp only [ua, mP, oF, m7, fc, lA, kL, oA, ia, iw, fD, zD, nm, seval] <;> rfl) | rfl⟩
   simp only [zD, hs] at h
   try simp only [vz, tyf, mP, (cB mO), oF, m7, (cB CP), fc, lA, kL, oA, ia, iw, fD, zD, nm, seval]
   replace h := zC _ h
   try dsimp only at h
   obtain rfl := kF _ h
   exact bd Tryz.results110 rfl
 simp only [d8, hs] at h
 try simp only [vz, tyf, d8, nm, seval]
 obtain rfl := kF _ h
 exact bd Tryz.results110 rfl
def zb (ai : List Int) : List Int → Int → Option (LOut (Bool) (Unit))
 | [], xJ => some (.go ())
 | e0 :: p0, xJ => Option.bind (getI ai (i64.wrap (xJ - 1))) (fun x1 => cond (decide (e0 ≤ x1)) (some (.ret false)) (zb ai p0 (xJ + 1)))
def zc (aP : Int) (ai : List Int) (bf : Int) : Option (Bool) := cond (lenOk ai) (cond (leB 0 1) (lbind (zb ai (List.drop (Int.toNat 1) ai) 1) (fun r4 => some r4) (fun c2 => Option.bind (wB aP ai bf) (fun r3 => some r3)) (fun _ _ => none)) none) none
theorem WC (aP : Int) (ai : List Int) (bf : Int) (R : Bool) (h : zc aP ai bf = some R) : ag Tryz.prog G0 149 [.lit (.int .i64 aP), .sl (ad eI ai) (List.length ai) false, .lit (.int .i64 bf)] (.tree (.lit (.bool R))) := by
 refine ag.runR mixed Tryz.call149 Tryz.func149 rfl (by simp [Tryz.ntmps149]; kernel_rfl) ?_
 obtain ⟨KF, h, kF, kN⟩ := dZ h
 simp only [zc] at h
 cases g6 : (lenOk ai)
 ·simp only [g6, hs] at h
  exact absurd h kN
 simp only [g6, hs] at h
 cases g7 : (leB 0 1)
 ·simp only [g7, hs] at h
  exact absurd h kN
 simp only [g7, hs] at h
 simp only [vz, tyf, g6, g7, nm, seval]
 obtain ⟨K5, h, P7, P8, kB5, Gw⟩ := fP h kN
 obtain ⟨f5, P9, h⟩ := call2 h
 obtain ⟨I5, xE⟩ : ∃ I : Nat → St → Prop, I = (fun m st => ∃ (p5 : List Int) (lr : Int), m = List.length p5 ∧ 0 ≤ lr ∧ List.drop (Int.toNat lr) ai = p5 ∧ st.df = [] ∧ 2 ≤ st.nx ∧ st.tm 0 = .lit (.int .i64 aP) ∧ st.tm 1 = .sl (ad eI ai) (List.length ai) false ∧ st.tm 2 = .lit (.int .i64 bf) ∧ st.tm 7 = .lit (.int .i64 lr) ∧ K5 (f5 p5 lr)) := ⟨_, rfl⟩
 refine loopK mixed (by kernel_rfl) I5 (List.length (List.drop (Int.toNat 1) ai)) (by rw [xE]; refine ⟨List.drop (Int.toNat 1) ai, 1, rfl, of_decide_eq_true g7, rfl, rfl, (show 2 ≤ 2 by omega), ?_, ?_, ?_, ?_, h⟩ <;> first | (simp only [ua, nm, seval] <;> rfl) | rfl) ?_
 rintro m ⟨tm, H, CU, df⟩ hinv
 rw [xE] at hinv
 obtain ⟨p5, lr, rfl, pO, rN, hdf, PA, e8, e9, bj, bm, h⟩ := hinv
 simp only at hdf PA e8 e9 bj bm
 have il := fO (m := 2) (b := CU) (by omega)
 subst hdf P9
 cases p5 with
 | nil =>
  have bB : (decide (lr < (List.length ai : Int))) = false := eZ pO rN
  simp only [zb, hs, reduceCtorEq] at h
  replace h := P8 _ h
  try dsimp only at h
  try simp only [hs] at h
  obtain ⟨td, oD, h⟩ := optI h kN
  try simp only [hs] at h
  simp only [vz, tyf, g6, g7, il, e8, e9, bj, bm, bB, nm, seval]
  refine ktA (PR _ _ _ _ oD) ?_
  refine bt (fun tm => tm 27 = .lit (.bool td) ∧ True) (by refine ⟨?_, trivial⟩ <;> first | (simp only [ua, il, e8, e9, bj, bm, bB, nm, seval] <;> rfl) | rfl) ?_
  rintro tm ⟨dM, _⟩
  try simp only [vz, tyf, g6, g7, il, bB, dM, nm, seval]
  obtain rfl := kF _ h
  exact bd Tryz.results149 rfl
 | cons e5 p5 =>
  have fA : (decide (lr < (List.length ai : Int))) = true := eY pO rN
  have Be := dY pO rN
  have Dn := fa pO rN g6
  simp only [zb, hs, reduceCtorEq] at h
  simp only [vz, tyf, g6, g7, il, e8, e9, bj, bm, fA, (au Be), Dn, nm, seval]
  refine kl (fun tm => tm 0 = .lit (.int .i64 aP) ∧ tm 1 = .sl (ad eI ai) (List.length ai) false ∧ tm 2 = .lit (.int .i64 bf) ∧ tm 7 = .lit (.int .i64 lr) ∧ True) (by refine ⟨e8, e9, bj, bm, trivial⟩ <;> first | (simp only [ua, il, e8, e9, bj, bm, fA, Dn, nm, seval] <;> rfl) | rfl) ?_
  rintro tm ⟨gR, eE, cE, dw, _⟩
  obtain ⟨x24, vd, h⟩ := optI h Gw
  try simp only [hs] at h
  cases qA : (decide (e5 ≤ x24))
  ·simp only [qA, hs] at h
   simp only [vz, tyf, g6, g7, il, fA, (au Be), Dn, gR, eE, cE, dw, (au vd), qA, nm, seval]
   exact ⟨List.length p5, Nat.lt_succ_self _, by rw [xE]; refine ⟨p5, lr + 1, rfl, Int.le_trans pO (Int.le_add_one (Int.le_refl _)), bJ pO rN, rfl, (show 2 ≤ CU + 17 by omega), gR, eE, cE, ?_, (by first | exact h | (simp only [fA, qA]; exact h))⟩ <;> first | (simp only [ua, il, fA, Dn, gR, eE, cE, dw, qA, nm, seval] <;> rfl) | rfl⟩
  simp only [qA, hs] at h
  try simp only [vz, tyf, g6, g7, il, fA, (au Be), Dn, gR, eE, cE, dw, (au vd), qA, nm, seval]
  replace h := P7 _ h
  try dsimp only at h
  obtain rfl := kF _ h
  exact bd Tryz.results149 rfl
def ze (aQ : Int) : List GLw → Int → Option (LOut (Bool) (Unit))
 | [], iB => some (.go ())
 | e0 :: p0, iB => Option.bind (oc 1 (List.length e0.Signs : Int) 6) (fun r2 => cond (r2) (Option.bind (wB 0 e0.Signs (i64.wrap (aQ - 1))) (fun r3 => cond (r3) (Option.bind (zc 1 e0.Cuts (i64.wrap ((List.length e0.Signs : Int) - 1))) (fun r4 => cond (r4) (ze aQ p0 (iB + 1)) (some (.ret false)))) (some (.ret false)))) (some (.ret false)))
def Bl (aT : List GLw) (aQ : Int) : Option (Bool) := Option.bind (oc 1 (List.length aT : Int) 4) (fun r1 => cond (r1) (cond (lenOk aT) (lbind (ze aQ aT 0) (fun r6 => some r6) (fun c5 => some true) (fun _ _ => none)) none) (some false))
theorem zjw (aT : List GLw) (aQ : Int) (R : Bool) (h : Bl aT aQ = some R) : ag Tryz.prog G0 113 [.sl (ad cGLw aT) (List.length aT) false, .lit (.int .i64 aQ)] (.tree (.lit (.bool R))) := by
 refine ag.runR mixed Tryz.call113 Tryz.func113 rfl (by simp [Tryz.ntmps113]; kernel_rfl) ?_
 obtain ⟨KF, h, kF, kN⟩ := dZ h
 simp only [Bl] at h
 obtain ⟨r7, o8, h⟩ := optI h kN
 try simp only [hs] at h
 simp only [vz, tyf, nm, seval]
 refine ktA (tq _ _ _ _ o8) ?_
 refine bt (fun tm => tm 0 = .sl (ad cGLw aT) (List.length aT) false ∧ tm 1 = .lit (.int .i64 aQ) ∧ tm 10 = .lit (.bool r7) ∧ True) (by refine ⟨?_, ?_, ?_, trivial⟩ <;> first | (simp only [ua, nm, seval] <;> rfl) | rfl) ?_
 rintro tm ⟨e9, bj, bm, _⟩
 cases bD : (r7)
 ·simp only [bD, hs] at h
  try simp only [vz, tyf, e9, bj, bm, bD, nm, seval]
  obtain rfl := kF _ h
  exact bd Tryz.results113 rfl
 simp only [bD, hs] at h
 cases lF : (lenOk aT)
 ·simp only [lF, hs] at h
  exact absurd h kN
 simp only [lF, hs] at h
 simp only [vz, tyf, e9, bj, bm, bD, lF, nm, seval]
 obtain ⟨Pu, h, rG, xv, Pv, rH⟩ := fP h kN
 obtain ⟨Pw, xw, h⟩ := call2 h
 obtain ⟨Px, nt⟩ : ∃ I : Nat → St → Prop, I = (fun m st => ∃ (md : List GLw) (ej : Int), m = List.length md ∧ 0 ≤ ej ∧ List.drop (Int.toNat ej) aT = md ∧ st.df = [] ∧ 8 ≤ st.nx ∧ st.tm 1 = .lit (.int .i64 aQ) ∧ st.tm 12 = .sl (ad cGLw aT) (List.length aT) false ∧ st.tm 13 = .lit (.int .i64 (List.length aT : Int)) ∧ st.tm 14 = .lit (.int .i64 ej) ∧ Pu (Pw md ej)) := ⟨_, rfl⟩
 refine loopK mixed (by kernel_rfl) Px (List.length aT) (by rw [nt]; refine ⟨aT, 0, rfl, Int.le_refl _, rfl, rfl, (show 8 ≤ 8 by omega), bj, ?_, ?_, ?_, h⟩ <;> first | (simp only [ua, e9, bj, bm, bD, nm, seval] <;> rfl) | rfl) ?_
 rintro m ⟨tm, H, nu, df⟩ hinv
 rw [nt] at hinv
 obtain ⟨md, ej, rfl, hU, jt, hdf, xx, dO, dM, dv, bT, h⟩ := hinv
 simp only at hdf xx dO dM dv bT
 have mi := fO (m := 8) (b := nu) (by omega)
 subst hdf xw
 cases md with
 | nil =>
  have cg : (decide (ej < (List.length aT : Int))) = false := eZ hU jt
  simp only [ze, hs, reduceCtorEq] at h
  replace h := xv _ h
  try dsimp only at h
  try simp only [hs] at h
  try simp only [vz, tyf, bD, lF, mi, dO, dM, dv, bT, cg, nm, seval]
  obtain rfl := kF _ h
  exact bd Tryz.results113 rfl
 | cons bA md =>
  have fR : (decide (ej < (List.length aT : Int))) = true := eY hU jt
  have lG := dY hU jt
  have qH := fa hU jt lF
  simp only [ze, hs, reduceCtorEq] at h
  obtain ⟨AE, vd, h⟩ := optI h rH
  try simp only [hs] at h
  simp only [vz, tyf, bD, lF, mi, dO, dM, dv, bT, fR, (aH lG), qH, nm, seval]
  refine ktA (tq _ _ _ _ vd) ?_
  refine bt (fun tm => tm 1 = .lit (.int .i64 aQ) ∧ tm 6 = .ptr (nu + 3) 0 ∧ tm 7 = .lit (.int .i64 (List.length bA.Signs : Int)) ∧ tm 12 = .sl (ad cGLw aT) (List.length aT) false ∧ tm 13 = .lit (.int .i64 (List.length aT : Int)) ∧ tm 14 = .lit (.int .i64 ej) ∧ tm 22 = .lit (.bool AE) ∧ True) (by refine ⟨dO, ?_, ?_, dM, dv, bT, ?_, trivial⟩ <;> first | (simp only [ua, bD, mi, dO, dM, dv, bT, fR, qH, nm, seval] <;> rfl) | rfl) ?_
  rintro tm ⟨cy, cO, eu, gn, bS, pb, lM, _⟩
  cases xK : (AE)
  ·simp only [xK, hs] at h
   try simp only [vz, tyf, bD, lF, mi, fR, (aH lG), qH, cy, cO, eu, gn, bS, pb, lM, xK, nm, seval]
   replace h := rG _ h
   try dsimp only at h
   obtain rfl := kF _ h
   exact bd Tryz.results113 rfl
  simp only [xK, hs] at h
  obtain ⟨AF, Kg, h⟩ := optI h rH
  try simp only [hs] at h
  simp only [vz, tyf, bD, lF, mi, fR, (aH lG), qH, cy, cO, eu, gn, bS, pb, lM, xK, nm, seval]
  refine ktA (PR _ _ _ _ Kg) ?_
  refine bt (fun tm => tm 1 = .lit (.int .i64 aQ) ∧ tm 6 = .ptr (nu + 3) 0 ∧ tm 7 = .lit (.int .i64 (List.length bA.Signs : Int)) ∧ tm 12 = .sl (ad cGLw aT) (List.length aT) false ∧ tm 13 = .lit (.int .i64 (List.length aT : Int)) ∧ tm 14 = .lit (.int .i64 ej) ∧ tm 24 = .lit (.bool false) ∧ tm 29 = .lit (.bool AF) ∧ True) (by refine ⟨cy, cO, eu, gn, bS, pb, ?_, ?_, trivial⟩ <;> first | (simp only [ua, bD, mi, fR, qH, cy, cO, eu, gn, bS, pb, lM, xK, nm, seval] <;> rfl) | rfl) ?_
  rintro tm ⟨dj, cF, cb, cm, ck, bR, bC, cn, _⟩
  cases vk : (AF)
  ·simp only [vk, hs] at h
   have mP := And.intro bD (And.intro lF (And.intro mi (And.intro fR (And.intro qH (And.intro xK vk)))))
   try simp only [vz, tyf, mP, (aH lG), dj, cF, cb, cm, ck, bR, bC, cn, nm, seval]
   replace h := rG _ h
   try dsimp only at h
   obtain rfl := kF _ h
   exact bd Tryz.results113 rfl
  simp only [vk, hs] at h
  have zE := And.intro bD (And.intro lF (And.intro mi (And.intro fR (And.intro qH (And.intro xK vk)))))
  obtain ⟨WZ, zF, h⟩ := optI h rH
  try simp only [hs] at h
  simp only [vz, tyf, zE, (aH lG), dj, cF, cb, cm, ck, bR, bC, cn, nm, seval]
  refine ktA (WC _ _ _ _ zF) ?_
  refine bt (fun tm => tm 1 = .lit (.int .i64 aQ) ∧ tm 12 = .sl (ad cGLw aT) (List.length aT) false ∧ tm 13 = .lit (.int .i64 (List.length aT : Int)) ∧ tm 14 = .lit (.int .i64 ej) ∧ tm 32 = .lit (.bool false) ∧ tm 37 = .lit (.bool WZ) ∧ True) (by refine ⟨dj, cm, ck, bR, ?_, ?_, trivial⟩ <;> first | (simp only [ua, zE, dj, cF, cb, cm, ck, bR, bC, cn, nm, seval] <;> rfl) | rfl) ?_
  rintro tm ⟨gu, jD, jK, m6, qG, iX, _⟩
  cases zG : (WZ)
  ·simp only [zG, hs] at h
   try simp only [vz, tyf, zE, (aH lG), gu, jD, jK, m6, qG, iX, zG, nm, seval]
   replace h := rG _ h
   try dsimp only at h
   obtain rfl := kF _ h
   exact bd Tryz.results113 rfl
  simp only [zG, hs] at h
  simp only [vz, tyf, zE, (aH lG), gu, jD, jK, m6, qG, iX, zG, nm, seval]
  exact ⟨List.length md, Nat.lt_succ_self _, by rw [nt]; refine ⟨md, ej + 1, rfl, Int.le_trans hU (Int.le_add_one (Int.le_refl _)), bJ hU jt, rfl, (show 8 ≤ nu + 30 by omega), gu, jD, jK, ?_, (by first | exact h | (simp only [zE, zG]; exact h))⟩ <;> first | (simp only [ua, zE, gu, jD, jK, m6, qG, iX, zG, nm, seval] <;> rfl) | rfl⟩
def vn (ae : GLs) : Option (Bool) := Option.bind (Bk ae.Widths) (fun r1 => cond (r1) (Option.bind (Bj ae.Pairs (List.length ae.Widths : Int)) (fun r2 => cond (r2) (Option.bind (w9 0 ae.Other 9) (fun r3 => cond (r3) (Option.bind (w9 0 ae.Gap 20) (fun r4 => cond (r4) (Option.bind (oc 1 ae.Hyphen 20) (fun r5 => cond (r5) (Option.bind (Bl ae.Words (List.length ae.Widths : Int)) (fun r6 => cond (r6) (Option.bind (oc 1 ae.Wide 400) (fun r7 => cond (r7) (Option.bind (oc 1 ae.Rows 3) (fun r8 => some r8)) (some false))) (some false))) (some false))) (some false))) (some false))) (some false))) (some false))
theorem Ls (ae : GLs) (R : Bool) (h : vn ae = some R) : ag Tryz.prog G0 68 [.agg (cGLs ae)] (.tree (.lit (.bool R))) := by
 refine ag.runR mixed Tryz.call68 Tryz.func68 rfl (by simp [Tryz.ntmps68]; kernel_rfl) ?_
 obtain ⟨KF, h, kF, kN⟩ := dZ h
 simp only [vn] at h
 obtain ⟨r9, Ke, h⟩ := optI h kN
 try simp only [hs] at h
 simp only [vz, tyf, nm, seval]
 refine ktA (zjq _ _ Ke) ?_
 refine bt (fun tm => tm 1 = .ptr 0 0 ∧ tm 5 = .lit (.bool r9) ∧ True) (by refine ⟨?_, ?_, trivial⟩ <;> first | (simp only [ua, nm, seval] <;> rfl) | rfl) ?_
 rintro tm ⟨bm, bU, _⟩
 cases bB : (r9)
 ·simp only [bB, hs] at h
  try simp only [vz, tyf, bm, bU, bB, nm, seval]
  obtain rfl := kF _ h
  exact bd Tryz.results68 rfl
 simp only [bB, hs] at h
 obtain ⟨td, oD, h⟩ := optI h kN
 try simp only [hs] at h
 simp only [vz, tyf, bm, bU, bB, nm, seval]
 refine ktA (zkb _ _ _ oD) ?_
 refine bt (fun tm => tm 1 = .ptr 0 0 ∧ tm 6 = .lit (.bool true) ∧ tm 12 = .lit (.bool td) ∧ True) (by refine ⟨bm, ?_, ?_, trivial⟩ <;> first | (simp only [ua, bm, bU, bB, nm, seval] <;> rfl) | rfl) ?_
 rintro tm ⟨dM, dv, bT, _⟩
 cases fS : (td)
 ·simp only [fS, hs] at h
  try simp only [vz, tyf, bB, dM, dv, bT, fS, nm, seval]
  obtain rfl := kF _ h
  exact bd Tryz.results68 rfl
 simp only [fS, hs] at h
 obtain ⟨vh, jj, h⟩ := optI h kN
 try simp only [hs] at h
 simp only [vz, tyf, bB, dM, dv, bT, fS, nm, seval]
 refine ktA (PS _ _ _ _ jj) ?_
 refine bt (fun tm => tm 1 = .ptr 0 0 ∧ tm 14 = .lit (.bool true) ∧ tm 17 = .lit (.bool vh) ∧ True) (by refine ⟨dM, ?_, ?_, trivial⟩ <;> first | (simp only [ua, bB, dM, dv, bT, fS, nm, seval] <;> rfl) | rfl) ?_
 rintro tm ⟨cE, dw, cN, _⟩
 cases k8 : (vh)
 ·simp only [k8, hs] at h
  try simp only [vz, tyf, bB, fS, cE, dw, cN, k8, nm, seval]
  obtain rfl := kF _ h
  exact bd Tryz.results68 rfl
 simp only [k8, hs] at h
 obtain ⟨G5, PW, h⟩ := optI h kN
 try simp only [hs] at h
 simp only [vz, tyf, bB, fS, cE, dw, cN, k8, nm, seval]
 refine ktA (PS _ _ _ _ PW) ?_
 refine bt (fun tm => tm 1 = .ptr 0 0 ∧ tm 19 = .lit (.bool true) ∧ tm 22 = .lit (.bool G5) ∧ True) (by refine ⟨cE, ?_, ?_, trivial⟩ <;> first | (simp only [ua, bB, fS, cE, dw, cN, k8, nm, seval] <;> rfl) | rfl) ?_
 rintro tm ⟨eu, gn, bS, _⟩
 cases im : (G5)
 ·simp only [im, hs] at h
  try simp only [vz, tyf, bB, fS, k8, eu, gn, bS, im, nm, seval]
  obtain rfl := kF _ h
  exact bd Tryz.results68 rfl
 simp only [im, hs] at h
 obtain ⟨lE, tO, h⟩ := optI h kN
 try simp only [hs] at h
 simp only [vz, tyf, bB, fS, k8, eu, gn, bS, im, nm, seval]
 refine ktA (tq _ _ _ _ tO) ?_
 refine bt (fun tm => tm 1 = .ptr 0 0 ∧ tm 24 = .lit (.bool true) ∧ tm 27 = .lit (.bool lE) ∧ True) (by refine ⟨eu, ?_, ?_, trivial⟩ <;> first | (simp only [ua, bB, fS, k8, eu, gn, bS, im, nm, seval] <;> rfl) | rfl) ?_
 rintro tm ⟨fu, iu, dj, _⟩
 cases tt : (lE)
 ·simp only [tt, hs] at h
  try simp only [vz, tyf, bB, fS, k8, im, fu, iu, dj, tt, nm, seval]
  obtain rfl := kF _ h
  exact bd Tryz.results68 rfl
 simp only [tt, hs] at h
 obtain ⟨Xa, o39, h⟩ := optI h kN
 try simp only [hs] at h
 simp only [vz, tyf, bB, fS, k8, im, fu, iu, dj, tt, nm, seval]
 refine ktA (zjw _ _ _ o39) ?_
 refine bt (fun tm => tm 1 = .ptr 0 0 ∧ tm 29 = .lit (.bool true) ∧ tm 35 = .lit (.bool Xa) ∧ True) (by refine ⟨fu, ?_, ?_, trivial⟩ <;> first | (simp only [ua, bB, fS, k8, im, fu, iu, dj, tt, nm, seval] <;> rfl) | rfl) ?_
 rintro tm ⟨ck, bR, bC, _⟩
 cases qF : (Xa)
 ·simp only [qF, hs] at h
  try simp only [vz, tyf, bB, fS, k8, im, tt, ck, bR, bC, qF, nm, seval]
  obtain rfl := kF _ h
  exact bd Tryz.results68 rfl
 simp only [qF, hs] at h
 obtain ⟨Xb, o45, h⟩ := optI h kN
 try simp only [hs] at h
 simp only [vz, tyf, bB, fS, k8, im, tt, ck, bR, bC, qF, nm, seval]
 refine ktA (tq _ _ _ _ o45) ?_
 refine bt (fun tm => tm 1 = .ptr 0 0 ∧ tm 37 = .lit (.bool true) ∧ tm 40 = .lit (.bool Xb) ∧ True) (by refine ⟨ck, ?_, ?_, trivial⟩ <;> first | (simp only [ua, bB, fS, k8, im, tt, ck, bR, bC, qF, nm, seval] <;> rfl) | rfl) ?_
 rintro tm ⟨gT, jL, iv, _⟩
 cases nX : (Xb)
 ·simp only [nX, hs] at h
  have b50 := And.intro bB (And.intro fS (And.intro k8 (And.intro im (And.intro tt (And.intro qF nX)))))
  try simp only [vz, tyf, b50, gT, jL, iv, nm, seval]
  obtain rfl := kF _ h
  exact bd Tryz.results68 rfl
 simp only [nX, hs] at h
 have gE := And.intro bB (And.intro fS (And.intro k8 (And.intro im (And.intro tt (And.intro qF nX)))))
 obtain ⟨w7, Ba, h⟩ := optI h kN
 try simp only [hs] at h
 simp only [vz, tyf, gE, gT, jL, iv, nm, seval]
 refine ktA (tq _ _ _ _ Ba) ?_
 refine bt (fun tm => tm 42 = .lit (.bool true) ∧ tm 45 = .lit (.bool w7) ∧ True) (by refine ⟨?_, ?_, trivial⟩ <;> first | (simp only [ua, gE, gT, jL, iv, nm, seval] <;> rfl) | rfl) ?_
 rintro tm ⟨iX, lB, _⟩
 try simp only [vz, tyf, gE, iX, lB, nm, seval]
 obtain rfl := kF _ h
 exact bd Tryz.results68 rfl
def l8 (eF : Int) (jx : Int) (jb : Int) : Option (Bool) := cond (decide (eF ≥ jx)) (some (decide (eF ≤ jb))) (some false)
theorem nW (eF : Int) (jx : Int) (jb : Int) (R : Bool) (h : l8 eF jx jb = some R) : ag Tryz.prog G0 73 [.lit (.int .i64 eF), .lit (.int .i64 jx), .lit (.int .i64 jb)] (.tree (.lit (.bool R))) := by
 refine ag.runR mixed Tryz.call73 Tryz.func73 rfl (by simp [Tryz.ntmps73]; kernel_rfl) ?_
 obtain ⟨KF, h, kF, kN⟩ := dZ h
 simp only [l8] at h
 cases d1 : (decide (eF ≥ jx))
 ·simp only [d1, hs] at h
  try simp only [vz, tyf, d1, nm, seval]
  obtain rfl := kF _ h
  exact bd Tryz.results73 rfl
 simp only [d1, hs] at h
 try simp only [vz, tyf, d1, nm, seval]
 obtain rfl := kF _ h
 exact bd Tryz.results73 rfl
def we (ae : GLs) (eJ : Int) : Option (Bool) := Option.bind (l8 eJ 0 (i64.wrap ((List.length ae.Widths : Int) - 1))) (fun r1 => some r1)
theorem Kf (ae : GLs) (eJ : Int) (R : Bool) (h : we ae eJ = some R) : ag Tryz.prog G0 119 [.agg (cGLs ae), .lit (.int .i64 eJ)] (.tree (.lit (.bool R))) := by
 refine ag.runR mixed Tryz.call119 Tryz.func119 rfl (by simp [Tryz.ntmps119]; kernel_rfl) ?_
 obtain ⟨KF, h, kF, kN⟩ := dZ h
 simp only [we] at h
 obtain ⟨r2, o3, h⟩ := optI h kN
 try simp only [hs] at h
 simp only [vz, tyf, nm, seval]
 refine ktA (nW _ _ _ _ o3) ?_
 refine bt (fun tm => tm 10 = .lit (.bool r2) ∧ True) (by refine ⟨?_, trivial⟩ <;> first | (simp only [ua, nm, seval] <;> rfl) | rfl) ?_
 rintro tm ⟨e4, _⟩
 try simp only [vz, tyf, e4, nm, seval]
 obtain rfl := kF _ h
 exact bd Tryz.results119 rfl
def tH (di : GLw) : List Int → Int → Option (LOut (Bool) (Unit))
 | [], rO => some (.go ())
 | e1 :: p1, rO => Option.bind (l8 e1 1 (i64.wrap ((List.length di.Signs : Int) - 1))) (fun r3 => cond (r3) (cond (decide (rO > 0)) (Option.bind (getI di.Cuts (i64.wrap (rO - 1))) (fun x4 => cond (decide (e1 ≤ x4)) (some (.ret false)) (tH di p1 (rO + 1)))) (tH di p1 (rO + 1))) (some (.ret false)))
def zd (ae : GLs) : List Int → Int → Option (LOut (Bool) (Unit))
 | [], bV => some (.go ())
 | e0 :: p0, bV => Option.bind (we ae e0) (fun r1 => cond (r1) (zd ae p0 (bV + 1)) (some (.ret false)))
def AI (ae : GLs) (di : GLw) : Option (Bool) := cond (lenOk di.Signs) (lbind (zd ae di.Signs 0) (fun r8 => some r8) (fun c2 => cond (lenOk di.Cuts) (lbind (tH di di.Cuts 0) (fun r7 => some r7) (fun c5 => Option.bind (l8 (List.length di.Signs : Int) 1 6) (fun r6 => some r6)) (fun _ _ => none)) none) (fun _ _ => none)) none
theorem YO (ae : GLs) (di : GLw) (R : Bool) (h : AI ae di = some R) : ag Tryz.prog G0 74 [.agg (cGLs ae), .agg (cGLw di)] (.tree (.lit (.bool R))) := by
 refine ag.runR mixed Tryz.call74 Tryz.func74 rfl (by simp [Tryz.ntmps74]; kernel_rfl) ?_
 obtain ⟨KF, h, kF, kN⟩ := dZ h
 simp only [AI] at h
 cases ja : (lenOk di.Signs)
 ·simp only [ja, hs] at h
  exact absurd h kN
 simp only [ja, hs] at h
 simp only [vz, tyf, ja, nm, seval]
 obtain ⟨K9, h, zC, PT, kB9, xH⟩ := fP h kN
 obtain ⟨f9, PU, h⟩ := call2 h
 obtain ⟨I9, vE⟩ : ∃ I : Nat → St → Prop, I = (fun m st => ∃ (p9 : List Int) (jU : Int), m = List.length p9 ∧ 0 ≤ jU ∧ List.drop (Int.toNat jU) di.Signs = p9 ∧ st.df = [] ∧ 4 ≤ st.nx ∧ st.H 0 = some (.cells (some 28) (cGLs ae)) ∧ st.H 1 = some (.cells (some 79) (cGLw di)) ∧ st.tm 2 = .ptr 0 0 ∧ st.tm 3 = .ptr 1 0 ∧ st.tm 5 = .lit (.int .i64 jU) ∧ K9 (f9 p9 jU)) := ⟨_, rfl⟩
 refine loopK mixed (by kernel_rfl) I9 (List.length di.Signs) (by rw [vE]; refine ⟨di.Signs, 0, rfl, Int.le_refl _, rfl, rfl, (show 4 ≤ 4 by omega), ?_, ?_, ?_, ?_, ?_, h⟩ <;> first | (simp only [ua, nm, seval] <;> rfl) | rfl) ?_
 rintro m ⟨tm, H, mN, df⟩ hinv
 rw [vE] at hinv
 obtain ⟨p9, jU, rfl, nz, qE, hdf, PV, lu, lv, bA, cL, dO, h⟩ := hinv
 simp only at hdf PV lu lv bA cL dO
 have jw := fO (m := 4) (b := mN) (by omega)
 subst hdf PU
 cases p9 with
 | nil =>
  have fA : (decide (jU < (List.length di.Signs : Int))) = false := eZ nz qE
  simp only [zd, hs, reduceCtorEq] at h
  replace h := PT _ h
  try dsimp only at h
  try simp only [hs] at h
  cases vF : (lenOk di.Cuts)
  ·simp only [vF, hs] at h
   exact absurd h kN
  simp only [vF, hs] at h
  simp only [vz, tyf, ja, jw, bA, cL, dO, lu, lv, fA, vF, nm, seval]
  obtain ⟨K18, h, Dp, PX, kB18, Dq⟩ := fP h kN
  obtain ⟨f18, PY, h⟩ := call2 h
  obtain ⟨I18, uv⟩ : ∃ I : Nat → St → Prop, I = (fun m st => ∃ (tu : List Int) (fw : Int), m = List.length tu ∧ 0 ≤ fw ∧ List.drop (Int.toNat fw) di.Cuts = tu ∧ st.df = [] ∧ mN + 6 ≤ st.nx ∧ st.H 1 = some (.cells (some 79) (cGLw di)) ∧ st.tm 3 = .ptr 1 0 ∧ st.tm 6 = .lit (.int .i64 fw) ∧ K18 (f18 tu fw)) := ⟨_, rfl⟩
  refine loopK mixed (by kernel_rfl) I18 (List.length di.Cuts) (by rw [uv]; refine ⟨di.Cuts, 0, rfl, Int.le_refl _, rfl, rfl, (show mN + 6 ≤ mN + 6 by omega), ?_, cL, ?_, h⟩ <;> first | (simp only [ua, jw, bA, cL, dO, lu, lv, fA, nm, seval] <;> rfl) | rfl) ?_
  rintro m ⟨tm, H, ux, df⟩ hinv
  rw [uv] at hinv
  obtain ⟨tu, fw, rfl, mj, pP, hdf, PZ, pf, eE, cE, h⟩ := hinv
  simp only at hdf PZ pf eE cE
  have zH := fO (m := 4) (b := ux) (by omega)
  have zI := tA (a := mN) (m := 6) (b := ux) (by omega)
  subst hdf PY
  cases tu with
  | nil =>
   have k8 : (decide (fw < (List.length di.Cuts : Int))) = false := eZ mj pP
   simp only [tH, hs, reduceCtorEq] at h
   replace h := PX _ h
   try dsimp only at h
   try simp only [hs] at h
   obtain ⟨G5, PW, h⟩ := optI h kN
   try simp only [hs] at h
   simp only [vz, tyf, ja, jw, fA, vF, zH, zI, eE, cE, pf, k8, nm, seval]
   refine ktA (nW _ _ _ _ PW) ?_
   refine bt (fun tm => tm 61 = .lit (.bool G5) ∧ True) (by refine ⟨?_, trivial⟩ <;> first | (simp only [ua, jw, fA, zH, zI, eE, cE, pf, k8, nm, seval] <;> rfl) | rfl) ?_
   rintro tm ⟨eu, _⟩
   have z2 := And.intro ja (And.intro jw (And.intro fA (And.intro vF (And.intro zH (And.intro zI (And.intro pf k8))))))
   try simp only [vz, tyf, z2, eu, nm, seval]
   obtain rfl := kF _ h
   exact bd Tryz.results74 rfl
  | cons bT tu =>
   have w5 : (decide (fw < (List.length di.Cuts : Int))) = true := eY mj pP
   have vj := dY mj pP
   have Qa := fa mj pP vF
   simp only [tH, hs, reduceCtorEq] at h
   simp only [vz, tyf, ja, jw, fA, vF, zH, zI, eE, cE, pf, w5, (au vj), Qa, nm, seval]
   refine kl (fun tm => tm 3 = .ptr 1 0 ∧ tm 6 = .lit (.int .i64 fw) ∧ True) (by refine ⟨eE, cE, trivial⟩ <;> first | (simp only [ua, jw, fA, zH, zI, eE, cE, pf, w5, Qa, nm, seval] <;> rfl) | rfl) ?_
   rintro tm ⟨fX, fu, _⟩
   have tv := And.intro ja (And.intro jw (And.intro fA (And.intro vF (And.intro zH (And.intro zI (And.intro pf (And.intro w5 Qa)))))))
   obtain ⟨AM, Ku, h⟩ := optI h Dq
   try simp only [hs] at h
   simp only [vz, tyf, tv, (au vj), fX, fu, nm, seval]
   refine dktA (nW _ _ _ _ Ku) ?_
   refine bt (fun tm => tm 3 = .ptr 1 0 ∧ tm 6 = .lit (.int .i64 fw) ∧ tm 38 = .lit (.bool AM) ∧ True) (by refine ⟨fX, fu, ?_, trivial⟩ <;> first | (simp only [ua, tv, fX, fu, nm, seval] <;> rfl) | rfl) ?_
   rintro tm ⟨cb, cm, ck, _⟩
   cases eC : (AM)
   ·simp only [eC, hs] at h
    try simp only [vz, tyf, tv, (au vj), cb, cm, ck, eC, nm, seval]
    replace h := Dp _ h
    try dsimp only at h
    obtain rfl := kF _ h
    exact bd Tryz.results74 rfl
   simp only [eC, hs] at h
   cases uy : (decide (fw > 0))
   ·simp only [uy, hs] at h
    simp only [vz, tyf, tv, (au vj), cb, cm, ck, eC, uy, nm, seval]
    exact ⟨List.length tu, Nat.lt_succ_self _, by rw [uv]; refine ⟨tu, fw + 1, rfl, Int.le_trans mj (Int.le_add_one (Int.le_refl _)), bJ mj pP, rfl, (show mN + 6 ≤ ux + 37 by omega), ?_, cb, ?_, (by first | exact h | (simp only [tv, eC, uy]; exact h))⟩ <;> first | (simp only [ua, tv, cb, cm, ck, eC, uy, nm, seval] <;> rfl) | rfl⟩
   simp only [uy, hs] at h
   obtain ⟨Xc, xL, h⟩ := optI h Dq
   try simp only [hs] at h
   cases km : (decide (bT ≤ Xc))
   ·simp only [km, hs] at h
    simp only [vz, tyf, tv, (au vj), cb, cm, ck, eC, uy, (au xL), km, nm, seval]
    exact ⟨List.length tu, Nat.lt_succ_self _, by rw [uv]; refine ⟨tu, fw + 1, rfl, Int.le_trans mj (Int.le_add_one (Int.le_refl _)), bJ mj pP, rfl, (show mN + 6 ≤ ux + 37 by omega), ?_, cb, ?_, (by first | exact h | (simp only [tv, eC, uy, km]; exact h))⟩ <;> first | (simp only [ua, tv, cb, cm, ck, eC, uy, km, nm, seval] <;> rfl) | rfl⟩
   simp only [km, hs] at h
   try simp only [vz, tyf, tv, (au vj), cb, cm, ck, eC, uy, (au xL), km, nm, seval]
   replace h := Dp _ h
   try dsimp only at h
   obtain rfl := kF _ h
   exact bd Tryz.results74 rfl
 | cons e9 p9 =>
  have zJ : (decide (jU < (List.length di.Signs : Int))) = true := eY nz qE
  have zF := dY nz qE
  have tw := fa nz qE ja
  simp only [zd, hs, reduceCtorEq] at h
  simp only [vz, tyf, ja, jw, bA, cL, dO, lu, lv, zJ, (au zF), tw, nm, seval]
  refine kl (fun tm => tm 2 = .ptr 0 0 ∧ tm 3 = .ptr 1 0 ∧ tm 5 = .lit (.int .i64 jU) ∧ True) (by refine ⟨bA, cL, dO, trivial⟩ <;> first | (simp only [ua, jw, bA, cL, dO, lu, lv, zJ, tw, nm, seval] <;> rfl) | rfl) ?_
  rintro tm ⟨gu, jD, jK, _⟩
  obtain ⟨w7, Ba, h⟩ := optI h xH
  try simp only [hs] at h
  simp only [vz, tyf, ja, jw, lu, lv, zJ, (au zF), tw, gu, jD, jK, nm, seval]
  refine dktA (Kf _ _ _ Ba) ?_
  refine bt (fun tm => tm 2 = .ptr 0 0 ∧ tm 3 = .ptr 1 0 ∧ tm 5 = .lit (.int .i64 jU) ∧ tm 20 = .lit (.bool w7) ∧ True) (by refine ⟨gu, jD, jK, ?_, trivial⟩ <;> first | (simp only [ua, jw, lu, lv, zJ, tw, gu, jD, jK, nm, seval] <;> rfl) | rfl) ?_
  rintro tm ⟨iX, lB, lO, mZ, _⟩
  cases jv : (w7)
  ·simp only [jv, hs] at h
   have b59 := And.intro ja (And.intro jw (And.intro lu (And.intro lv (And.intro zJ (And.intro tw jv)))))
   try simp only [vz, tyf, b59, (au zF), iX, lB, lO, mZ, nm, seval]
   replace h := zC _ h
   try dsimp only at h
   obtain rfl := kF _ h
   exact bd Tryz.results74 rfl
  simp only [jv, hs] at h
  have Qb := And.intro ja (And.intro jw (And.intro lu (And.intro lv (And.intro zJ (And.intro tw jv)))))
  simp only [vz, tyf, Qb, (au zF), iX, lB, lO, mZ, nm, seval]
  exact ⟨List.length p9, Nat.lt_succ_self _, by rw [vE]; refine ⟨p9, jU + 1, rfl, Int.le_trans nz (Int.le_add_one (Int.le_refl _)), bJ nz qE, rfl, (show 4 ≤ mN + 16 by omega), ?_, ?_, iX, lB, ?_, (by first | exact h | (simp only [Qb]; exact h))⟩ <;> first | (simp only [ua, Qb, iX, lB, lO, mZ, nm, seval] <;> rfl) | rfl⟩
end Go.V
end
