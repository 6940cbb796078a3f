/- Part of a proof. -/
import Derived.Test.YtekhjalgmlflpaaGreatDoorZbg
set_option linter.all false
set_option maxRecDepth 4000
set_option maxHeartbeats 40000000
section
namespace Go.V
open Go Go.Proofs IntKind
def dot {α : Type} (f : α → Int) : List Int → List α → Int
 | m :: ms, t :: ts => m * f t + dot f ms ts
 | _, _ => 0
theorem dot_b {α : Type} {f : α → Int} : ∀ (ms : List Int) (ts : List α), (∀ e ∈ ms, 0 ≤ e ∧ e ≤ 8) → (∀ t ∈ ts, 0 ≤ f t ∧ f t ≤ 99) → 0 ≤ dot f ms ts ∧ dot f ms ts ≤ 99 * sumL ms
 | [], _, _, _ => by simp [dot, sumL]
 | e :: ms, [], h, _ => by
  have := (mZ h).1
  simp only [dot]
  omega
 | e :: ms, t :: ts, h, h2 => by
  have h1 := h e (List.mem_cons_self ..)
  have h3 := h2 t (List.mem_cons_self ..)
  have ih := dot_b ms ts (fun x hx => h x (List.mem_cons_of_mem _ hx)) (fun x hx => h2 x (List.mem_cons_of_mem _ hx))
  have h4 := mulR h1.1 (Int.le_refl e) h3.1 h3.2
  simp only [dot, sumL]
  omega
theorem ya {α β : Type} {f : α → Int} {g : β → Int} : ∀ (ms : List Int) (ts : List α) (us : List β), ts.length = us.length → (∀ e ∈ ms, 0 ≤ e ∧ e ≤ 8) → (∀ (i : Nat) t u, ts[i]? = some t → us[i]? = some u → f t ≤ g u) → dot f ms ts ≤ dot g ms us
 | [], _, _, _, _, _ => by simp [dot]
 | e :: ms, [], [], _, _, _ => by simp [dot]
 | e :: ms, t :: ts, u :: us, hl, h, h2 => by
  have h1 := h e (List.mem_cons_self ..)
  have h3 := h2 0 t u rfl rfl
  have ih := ya ms ts us (by simpa using hl) (fun x hx => h x (List.mem_cons_of_mem _ hx)) (fun i a b ha hb => h2 (i + 1) a b (by simpa using ha) (by simpa using hb))
  have h4 := Int.mul_le_mul_of_nonneg_left h3 h1.1
  simp only [dot]
  omega
 | _ :: _, [], _ :: _, hl, _, _ => by simp at hl
 | _ :: _, _ :: _, [], hl, _, _ => by simp at hl
def lowT (p : P3) (t : Gt) : Int := (selS t.pg p).Low
def highT (p : P3) (t : Gt) : Int := (selS t.pg p).High
theorem yb (x : Gm) (p : P3) : ∀ (ms : List Int) (ts : List Gt) (c acc : Int), 0 ≤ c → List.drop c.toNat x.sh.Tins = ts → ms.length ≤ ts.length → (∀ e ∈ ms, 0 ≤ e ∧ e ≤ 8) → (∀ t ∈ ts, 0 ≤ lowT p t ∧ lowT p t ≤ 99) → 0 ≤ acc → acc + 792 * ms.length ≤ 1000000 →
  qH x p.i ms c acc = some (.go (acc + dot (lowT p) ms ts))
 | [], ts, c, acc, _, _, _, _, _, _, _ => by simp [qH, dot]
 | e :: ms, [], _, _, _, _, hl, _, _, _, _ => by simp at hl
 | e :: ms, t :: ts, c, acc, h0, hd, hl, h, h2, ha, hb => by
  have h1 := h e (List.mem_cons_self ..)
  have h3 := h2 t (List.mem_cons_self ..)
  have h4 := mulR h1.1 h1.2 h3.1 h3.2
  simp only [List.length_cons] at hb hl
  have ih := yb x p ms ts (c + 1) (acc + e * lowT p t) (by omega) (fM h0 hd) (by omega) (fun x hx => h x (List.mem_cons_of_mem _ hx)) (fun x hx => h2 x (List.mem_cons_of_mem _ hx)) (by omega) (by omega)
  simp only [qH, iC h0 hd, Option.bind_some]
  have hw : i64.wrap (acc + i64.wrap (e * lowT p t)) = acc + e * lowT p t := by rw [cB (n := e * lowT p t) (by omega) (by omega), cB (by omega) (by omega)]
  have hg : acc + e * lowT p t + dot (lowT p) ms ts = acc + dot (lowT p) (e :: ms) (t :: ts) := by simp only [dot]; omega
  rw [hg] at ih
  cases p <;> simp only [P3.i, Int.reduceBEq, cond_true, cond_false] <;> simp only [lowT, selS] at hw <;> rw [hw] <;> exact ih
theorem QF (x : Gm) (p : P3) : ∀ (ms : List Int) (ts : List Gt) (c acc : Int), 0 ≤ c → List.drop c.toNat x.sh.Tins = ts → ms.length ≤ ts.length → (∀ e ∈ ms, 0 ≤ e ∧ e ≤ 8) → (∀ t ∈ ts, 0 ≤ highT p t ∧ highT p t ≤ 99) → 0 ≤ acc → acc + 792 * ms.length ≤ 1000000 →
  qI x p.i ms c acc = some (.go (acc + dot (highT p) ms ts))
 | [], ts, c, acc, _, _, _, _, _, _, _ => by simp [qI, dot]
 | e :: ms, [], _, _, _, _, hl, _, _, _, _ => by simp at hl
 | e :: ms, t :: ts, c, acc, h0, hd, hl, h, h2, ha, hb => by
  have h1 := h e (List.mem_cons_self ..)
  have h3 := h2 t (List.mem_cons_self ..)
  have h4 := mulR h1.1 h1.2 h3.1 h3.2
  simp only [List.length_cons] at hb hl
  have ih := QF x p ms ts (c + 1) (acc + e * highT p t) (by omega) (fM h0 hd) (by omega) (fun x hx => h x (List.mem_cons_of_mem _ hx)) (fun x hx => h2 x (List.mem_cons_of_mem _ hx)) (by omega) (by omega)
  simp only [qI, iC h0 hd, Option.bind_some]
  have hw : i64.wrap (acc + i64.wrap (e * highT p t)) = acc + e * highT p t := by rw [cB (n := e * highT p t) (by omega) (by omega), cB (by omega) (by omega)]
  have hg : acc + e * highT p t + dot (highT p) ms ts = acc + dot (highT p) (e :: ms) (t :: ts) := by simp only [dot]; omega
  rw [hg] at ih
  cases p <;> simp only [P3.i, Int.reduceBEq, cond_true, cond_false] <;> simp only [highT, selS] at hw <;> rw [hw] <;> exact ih
theorem ShOk.low {s : Gs} (h : ShOk s) (p : P3) : ∀ t ∈ s.Tins, 0 ≤ lowT p t ∧ lowT p t ≤ 99 := fun t ht => by
 have := h.tin t ht p
 unfold lowT
 omega
theorem ShOk.high {s : Gs} (h : ShOk s) (p : P3) : ∀ t ∈ s.Tins, 0 ≤ highT p t ∧ highT p t ≤ 99 := fun t ht => by
 have := h.tin t ht p
 unfold highT
 omega
def aH (s : Gs) (mix : List Int) (p : P3) : GSpan := ⟨dot (lowT p) mix s.Tins, dot (highT p) mix s.Tins⟩
def sumsS (s : Gs) (mix : List Int) : Ga := ⟨aH s mix .p0, aH s mix .p1, aH s mix .p2⟩
theorem DZ {s : Gs} (hs : ShOk s) {mix : List Int} (hm : MixOk s mix) (p : P3) : tQ ⟨s, mix⟩ p.i = some (dot (lowT p) mix s.Tins) := by
 have hl := hs.n
 have hn := hm.n
 unfold tQ
 rw [s6 (by show mix.length < _; omega)]
 have := yb ⟨s, mix⟩ p mix s.Tins 0 0 (Int.le_refl _) rfl (by omega) hm.b (hs.low p) (Int.le_refl _) (by omega)
 simp only [cond_true]
 rw [this]
 simp [aN]
theorem Ea {s : Gs} (hs : ShOk s) {mix : List Int} (hm : MixOk s mix) (p : P3) : tR ⟨s, mix⟩ p.i = some (dot (highT p) mix s.Tins) := by
 have hl := hs.n
 have hn := hm.n
 unfold tR
 rw [s6 (by show mix.length < _; omega)]
 have := QF ⟨s, mix⟩ p mix s.Tins 0 0 (Int.le_refl _) rfl (by omega) hm.b (hs.high p) (Int.le_refl _) (by omega)
 simp only [cond_true]
 rw [this]
 simp [aN]
theorem tS {s : Gs} (hs : ShOk s) {mix : List Int} (hm : MixOk s mix) : wu ⟨s, mix⟩ = some (sumsS s mix) := by
 unfold wu
 have a0 := DZ hs hm .p0
 have a1 := DZ hs hm .p1
 have a2 := DZ hs hm .p2
 have b0 := Ea hs hm .p0
 have b1 := Ea hs hm .p1
 have b2 := Ea hs hm .p2
 simp only [P3.i] at a0 a1 a2 b0 b1 b2
 rw [a0, a1, a2, b0, b1, b2]
 rfl
theorem Eb {s : Gs} (hs : ShOk s) {mix : List Int} (hm : MixOk s mix) : s7 ⟨s, mix⟩ = some (sumL mix) := by
 have hl := hs.n
 have hn := hm.n
 unfold s7
 rw [yc hm.b (by omega)]
 rfl
def aB (old y f : Int) : Int := if 0 < old - y * f then old - y * f else 0
theorem wv {old y f : Int} (h1 : 0 ≤ old ∧ old ≤ 99) (h2 : 0 ≤ y ∧ y ≤ 20) (h3 : 0 ≤ f ∧ f ≤ 9) : lO old y f = some (aB old y f) := by
 have := mulR h2.1 h2.2 h3.1 h3.2
 unfold lO aB
 rw [cB (n := y * f) (by omega) (by omega), cB (by omega) (by omega)]
theorem tT {old y f : Int} (h1 : 0 ≤ old ∧ old ≤ 99) (h2 : 0 ≤ y) (h3 : 0 ≤ f) : 0 ≤ aB old y f ∧ aB old y f ≤ old := by
 have := Int.mul_nonneg h2 h3
 unfold aB
 split <;> omega
theorem Ec {old y f y' f' : Int} (h2 : 0 ≤ y) (h : y ≤ y') (h3 : 0 ≤ f) (h' : f ≤ f') : aB old y' f' ≤ aB old y f := by
 have h4 : y * f ≤ y' * f' := Int.mul_le_mul h h' h3 (by omega)
 unfold aB
 split <;> split <;> omega
def aimP (s : Gs) (p : P3) : GSpan := ⟨aB (selI s.Old p) s.Years.High (selS s.Fade p).High, aB (selI s.Old p) s.Years.Low (selS s.Fade p).Low⟩
def aimS (s : Gs) : Ga := ⟨aimP s .p0, aimP s .p1, aimP s .p2⟩
theorem Ed {s : Gs} (hs : ShOk s) (p : P3) : lO (selI s.Old p) s.Years.High (selS s.Fade p).High = some (aimP s p).Low := by
 have h1 := hs.old p
 have h2 := hs.yrs
 have h3 := hs.fade p
 exact wv h1 (by omega) (by omega)
theorem Ee {s : Gs} (hs : ShOk s) (p : P3) : lO (selI s.Old p) s.Years.Low (selS s.Fade p).Low = some (aimP s p).High := by
 have h1 := hs.old p
 have h2 := hs.yrs
 have h3 := hs.fade p
 exact wv h1 (by omega) (by omega)
theorem yd {s : Gs} (hs : ShOk s) : qJ s = some (aimS s) := by
 have a0 := Ed hs .p0
 have a1 := Ed hs .p1
 have a2 := Ed hs .p2
 have b0 := Ee hs .p0
 have b1 := Ee hs .p1
 have b2 := Ee hs .p2
 simp only [selI, selS] at a0 a1 a2 b0 b1 b2
 unfold qJ
 rw [a0, a1, a2, b0, b1, b2]
 rfl
theorem Ef {s : Gs} (hs : ShOk s) (p : P3) : 0 ≤ (aimP s p).Low ∧ (aimP s p).Low ≤ (aimP s p).High ∧ (aimP s p).High ≤ 99 := by
 have h1 := hs.old p
 have h2 := hs.yrs
 have h3 := hs.fade p
 have h4 := tT (y := s.Years.High) (f := (selS s.Fade p).High) h1 (by omega) (by omega)
 have h5 := tT (y := s.Years.Low) (f := (selS s.Fade p).Low) h1 (by omega) (by omega)
 have h6 := Ec (old := selI s.Old p) (y := s.Years.Low) (y' := s.Years.High) (f := (selS s.Fade p).Low) (f' := (selS s.Fade p).High) (by omega) (by omega) (by omega) (by omega)
 unfold aimP
 simp only
 omega
theorem qK {s : Gs} (hs : ShOk s) (p : P3) {y f : Int} (h2 : 0 ≤ y ∧ y ≤ 20) (h3 : 0 ≤ f ∧ f ≤ 9) : nd s p.i y f = some (aB (selI s.Old p) y f) := by
 have h1 := hs.old p
 have h := wv h1 h2 h3
 unfold lO at h
 unfold nd
 cases p <;> simp only [P3.i, Int.reduceBEq, cond_true, cond_false] <;> exact h
theorem Eg {s : Gs} (hs : ShOk s) : ye s = some (aimS s) := by
 have hy := hs.yrs
 have f0 := hs.fade .p0
 have f1 := hs.fade .p1
 have f2 := hs.fade .p2
 simp only [selS] at f0 f1 f2
 have a0 := qK hs .p0 (y := s.Years.High) (f := s.Fade.a0.High) (by omega) (by omega)
 have a1 := qK hs .p1 (y := s.Years.High) (f := s.Fade.a1.High) (by omega) (by omega)
 have a2 := qK hs .p2 (y := s.Years.High) (f := s.Fade.a2.High) (by omega) (by omega)
 have b0 := qK hs .p0 (y := s.Years.Low) (f := s.Fade.a0.Low) (by omega) (by omega)
 have b1 := qK hs .p1 (y := s.Years.Low) (f := s.Fade.a1.Low) (by omega) (by omega)
 have b2 := qK hs .p2 (y := s.Years.Low) (f := s.Fade.a2.Low) (by omega) (by omega)
 simp only [P3.i] at a0 a1 a2 b0 b1 b2
 unfold ye
 rw [show Int.toNat (3 - 0) = 3 from rfl, show boundOk 3 = true from rfl]
 simp only [tU, Int.reduceAdd, Int.reduceBEq, cond_true, cond_false, a0, a1, a2, b0, b1, b2, Option.bind_some, aN]
 rfl
theorem Ce (s : Gs) (p : P3) : ∀ (ms : List Int) (ts : List Gt) (c o0 o1 o2 o3 o4 o5 : Int) (A : Int × Int), 0 ≤ c → List.drop c.toNat s.Tins = ts → ms.length ≤ ts.length → (∀ e ∈ ms, 0 ≤ e ∧ e ≤ 8) → (∀ t ∈ ts, 0 ≤ lowT p t ∧ lowT p t ≤ 99) → (∀ t ∈ ts, 0 ≤ highT p t ∧ highT p t ≤ 99) →
  A = (match p with | .p0 => (o0, o1) | .p1 => (o2, o3) | .p2 => (o4, o5)) → 0 ≤ A.1 → 0 ≤ A.2 → A.1 + 792 * ms.length ≤ 1000000 → A.2 + 792 * ms.length ≤ 1000000 →
  qL s p.i ms c o0 o1 o2 o3 o4 o5 = some (.go (match p with
   | .p0 => (o0 + dot (lowT p) ms ts, o1 + dot (highT p) ms ts, o2, o3, o4, o5)
   | .p1 => (o0, o1, o2 + dot (lowT p) ms ts, o3 + dot (highT p) ms ts, o4, o5)
   | .p2 => (o0, o1, o2, o3, o4 + dot (lowT p) ms ts, o5 + dot (highT p) ms ts)))
 | [], ts, c, o0, o1, o2, o3, o4, o5, A, _, _, _, _, _, _, _, _, _, _, _ => by cases p <;> simp [qL, dot]
 | e :: ms, [], _, _, _, _, _, _, _, _, _, _, hl, _, _, _, _, _, _, _, _ => by simp at hl
 | e :: ms, t :: ts, c, o0, o1, o2, o3, o4, o5, A, h0, hd, hl, h, h2, h2', hA, ha, ha', hb, hb' => by
  have h1 := h e (List.mem_cons_self ..)
  have h3 := h2 t (List.mem_cons_self ..)
  have h3' := h2' t (List.mem_cons_self ..)
  have h4 := mulR h1.1 h1.2 h3.1 h3.2
  have h4' := mulR h1.1 h1.2 h3'.1 h3'.2
  simp only [List.length_cons] at hb hb' hl
  simp only [qL, iC h0 hd, Option.bind_some]
  have ih := fun o0 o1 o2 o3 o4 o5 A => Ce s p ms ts (c + 1) o0 o1 o2 o3 o4 o5 A (by omega) (fM h0 hd) (by omega) (fun x hx => h x (List.mem_cons_of_mem _ hx)) (fun x hx => h2 x (List.mem_cons_of_mem _ hx)) (fun x hx => h2' x (List.mem_cons_of_mem _ hx))
  have hw : i64.wrap (A.1 + i64.wrap (e * lowT p t)) = A.1 + e * lowT p t := by rw [cB (n := e * lowT p t) (by omega) (by omega), cB (by omega) (by omega)]
  have hw' : i64.wrap (A.2 + i64.wrap (e * highT p t)) = A.2 + e * highT p t := by rw [cB (n := e * highT p t) (by omega) (by omega), cB (by omega) (by omega)]
  cases p <;> simp only at hA <;> subst hA <;> simp only [P3.i, Int.reduceBEq, cond_true, cond_false] <;> simp only [lowT, highT, selS] at hw hw' ha ha' hb hb' h4 h4' <;> rw [hw, hw']
  ·have := ih (o0 + e * t.pg.a0.Low) (o1 + e * t.pg.a0.High) o2 o3 o4 o5 _ rfl (by simp only; omega) (by simp only; omega) (by simp only; omega) (by simp only; omega)
   simp only [P3.i] at this
   rw [this]
   simp only [dot, lowT, highT, selS, Int.add_assoc]
  ·have := ih o0 o1 (o2 + e * t.pg.a1.Low) (o3 + e * t.pg.a1.High) o4 o5 _ rfl (by simp only; omega) (by simp only; omega) (by simp only; omega) (by simp only; omega)
   simp only [P3.i] at this
   rw [this]
   simp only [dot, lowT, highT, selS, Int.add_assoc]
  ·have := ih o0 o1 o2 o3 (o4 + e * t.pg.a2.Low) (o5 + e * t.pg.a2.High) _ rfl (by simp only; omega) (by simp only; omega) (by simp only; omega) (by simp only; omega)
   simp only [P3.i] at this
   rw [this]
   simp only [dot, lowT, highT, selS, Int.add_assoc]
theorem yf {s : Gs} (hs : ShOk s) {mix : List Int} (hm : MixOk s mix) : wx s mix = some (sumsS s mix) := by
 have hl := hs.n
 have hn := hm.n
 have e0 := Ce s .p0 mix s.Tins 0 0 0 0 0 0 0 (0, 0) (Int.le_refl _) rfl (by omega) hm.b (hs.low _) (hs.high _) rfl (Int.le_refl _) (Int.le_refl _) (by simp only; omega) (by simp only; omega)
 have e1 := fun a b => Ce s .p1 mix s.Tins 0 a b 0 0 0 0 (0, 0) (Int.le_refl _) rfl (by omega) hm.b (hs.low _) (hs.high _) rfl (Int.le_refl _) (Int.le_refl _) (by simp only; omega) (by simp only; omega)
 have e2 := fun a b c d => Ce s .p2 mix s.Tins 0 a b c d 0 0 (0, 0) (Int.le_refl _) rfl (by omega) hm.b (hs.low _) (hs.high _) rfl (Int.le_refl _) (Int.le_refl _) (by simp only; omega) (by simp only; omega)
 simp only [P3.i] at e0 e1 e2
 unfold wx
 rw [show Int.toNat (3 - 0) = 3 from rfl, show boundOk 3 = true from rfl]
 simp only [yg, s6 (show mix.length < 9223372036854775808 by omega), Int.reduceAdd, cond_true, e0, e1, e2, aN, Int.zero_add]
 rfl



end Go.V
end
section
set_option linter.defProp false
namespace Go.V
open Go Go.Proofs IntKind
section
variable {P : Program} {H : Nat → Option VObj} {t : TypeId} {x y : Operand} {k : IntKind} {a b : Int}
theorem Eh (h : (b != 0) = true) : binV P H .quo t x y (.lit (.int k a)) (.lit (.int k b)) = some (.lit (.int k (k.wrap (a.tdiv b)))) := by
 have : b ≠ 0 := by simpa using h
 simp [binV, VV.val?, vbin, ofVal, ofVal2, ofVal1, this]
theorem Ei : unV P .neg (.lit (.int k a)) = some (.lit (.int k (k.wrap (-a)))) := by simp [unV, VV.val?, Op.unary, Op.intArith, jM, ofVal, ofVal2, ofVal1]
def qr := (And.intro @Eh @Ei)
end
end Go.V
end
section
namespace Go.V
open Go Go.Proofs IntKind
def qM (ah : Gm) (xpg : Int) : Option (Int) := Option.bind (wu ah) (fun r1 => cond (xpg == 0) (Option.bind (qJ ah.sh) (fun r2 => Option.bind (s7 ah) (fun r3 => cond ((r3 != 0)) (some (i64.wrap (Int.tdiv (i64.wrap ((i64.wrap ((if (i64.wrap (r1.a0.High - (i64.wrap (r3 * r2.a0.Low)))) < (i64.wrap ((i64.wrap (r3 * r2.a0.High)) - r1.a0.Low)) then (i64.wrap ((i64.wrap (r3 * r2.a0.High)) - r1.a0.Low)) else (i64.wrap (r1.a0.High - (i64.wrap (r3 * r2.a0.Low))))) + r3)) - 1)) r3))) none))) (cond (xpg == 1) (Option.bind (qJ ah.sh) (fun r4 => Option.bind (s7 ah) (fun r5 => cond ((r5 != 0)) (some (i64.wrap (Int.tdiv (i64.wrap ((i64.wrap ((if (i64.wrap (r1.a1.High - (i64.wrap (r5 * r4.a1.Low)))) < (i64.wrap ((i64.wrap (r5 * r4.a1.High)) - r1.a1.Low)) then (i64.wrap ((i64.wrap (r5 * r4.a1.High)) - r1.a1.Low)) else (i64.wrap (r1.a1.High - (i64.wrap (r5 * r4.a1.Low))))) + r5)) - 1)) r5))) none))) (cond (xpg == 2) (Option.bind (qJ ah.sh) (fun r6 => Option.bind (s7 ah) (fun r7 => cond ((r7 != 0)) (some (i64.wrap (Int.tdiv (i64.wrap ((i64.wrap ((if (i64.wrap (r1.a2.High - (i64.wrap (r7 * r6.a2.Low)))) < (i64.wrap ((i64.wrap (r7 * r6.a2.High)) - r1.a2.Low)) then (i64.wrap ((i64.wrap (r7 * r6.a2.High)) - r1.a2.Low)) else (i64.wrap (r1.a2.High - (i64.wrap (r7 * r6.a2.Low))))) + r7)) - 1)) r7))) none))) (none))))
theorem Cf (ah : Gm) (xpg : Int) (R : Int) (h : qM ah xpg = some R) : ad Tryz.prog G0 111 [.agg (cGm ah), .lit (.int .i64 xpg)] (.tree (.lit (.int .i64 R))) := by
 refine ad.runR mixed Tryz.call111 Tryz.func111 rfl (by simp [Tryz.ntmps111]; kernel_rfl) ?_
 obtain ⟨KF, h, kF, kN⟩ := dp h
 simp only [qM] at h
 simp only [vz, qr, tyf, nm, seval]
 refine lP (fun tm => tm 1 = .lit (.int .i64 xpg) ∧ tm 2 = .ptr 0 0 ∧ True) (by refine ⟨?_, ?_, trivial⟩ <;> first | (simp only [ua, nm, seval] <;> rfl) | rfl) ?_
 rintro tm ⟨e8, e9, _⟩
 obtain ⟨dG, wy, h⟩ := optI h kN
 try simp only [hs] at h
 simp only [vz, qr, tyf, e8, e9, nm, seval]
 refine dktA (QG _ _ wy) ?_
 refine aZ (fun tm => tm 1 = .lit (.int .i64 xpg) ∧ tm 2 = .ptr 0 0 ∧ tm 10 = .agg (cGa dG) ∧ True) (by refine ⟨e8, e9, ?_, trivial⟩ <;> first | (simp only [ua, e8, e9, nm, seval] <;> rfl) | rfl) ?_
 rintro tm ⟨aW, ba, bj, _⟩
 cases cm : (xpg == 0)
 ·simp only [cm, hs] at h
  cases cC : (xpg == 1)
  ·simp only [cC, hs] at h
   cases cP : (xpg == 2)
   ·simp only [cP, hs] at h
    exact absurd h kN
   simp only [cP, hs] at h
   obtain ⟨cu, fa, h⟩ := optI h kN
   try simp only [hs] at h
   simp only [vz, qr, tyf, aW, ba, bj, cm, cC, cP, (mJ cP), nm, seval]
   refine dktA (Cg _ _ fa) ?_
   refine aZ (fun tm => tm 1 = .lit (.int .i64 xpg) ∧ tm 2 = .ptr 0 0 ∧ tm 12 = .agg (aK dG.a2) ∧ tm 15 = .agg (cGa cu) ∧ True) (by refine ⟨aW, ba, ?_, ?_, trivial⟩ <;> first | (simp only [ua, aW, ba, bj, cm, cC, cP, nm, seval] <;> rfl) | rfl) ?_
   rintro tm ⟨ck, bz, bK, bD, _⟩
   obtain ⟨ff, wz, h⟩ := optI h kN
   try simp only [hs] at h
   simp only [vz, qr, tyf, cm, cC, cP, (mJ cP), ck, bz, bK, bD, nm, seval]
   refine dktA (Ch _ _ wz) ?_
   refine aZ (fun tm => tm 12 = .agg (aK dG.a2) ∧ tm 17 = .agg (aK cu.a2) ∧ tm 19 = .lit (.int .i64 ff) ∧ True) (by refine ⟨bK, ?_, ?_, trivial⟩ <;> first | (simp only [ua, cm, cC, cP, ck, bz, bK, bD, nm, seval] <;> rfl) | rfl) ?_
   rintro tm ⟨cH, bY, bE, _⟩
   simp only [vz, qr, tyf, cm, cC, cP, (mJ cP), cH, bY, bE, nm, seval]
   refine ja ⟨?_, ?_⟩
   ·simp only [iQ, iR, dy, iS, and_true, true_and]
    repeat' (first | exact trivial | refine And.intro ?_ ?_ | rw [dy] | rw [iT] | exact Or.inl (by decide +kernel) | exact Or.inl (by dsimp only; decide +kernel) | (refine Or.inr ⟨?_, ?_⟩ <;> simp; done) | (refine Or.inr ⟨?_, ?_⟩ <;> simp <;> omega) | (refine Or.inr ⟨?_, ?_⟩ <;> simp [VEff.wr] <;> omega))
   cases oy : ((ff != 0))
   ·simp only [oy, hs] at h
    exact absurd h kN
   simp only [oy, hs] at h
   try simp only [vz, qr, tyf, cm, cC, cP, (mJ cP), cH, bY, bE, oy, nm, seval]
   refine bG (x := (.lit (.int .i64 (i64.wrap (Int.tdiv (i64.wrap ((i64.wrap ((if (i64.wrap (dG.a2.High - (i64.wrap (ff * cu.a2.Low)))) < (i64.wrap ((i64.wrap (ff * cu.a2.High)) - dG.a2.Low)) then (i64.wrap ((i64.wrap (ff * cu.a2.High)) - dG.a2.Low)) else (i64.wrap (dG.a2.High - (i64.wrap (ff * cu.a2.Low))))) + ff)) - 1)) ff))))) (by first | (simp only [Tryz.results111, resV, resL, av, bL, bM, uw, cr, tyf, cm, cC, cP, (mJ cP), oy, nm, seval] <;> rfl) | rfl) ?_
   obtain rfl := kF _ h
   refine bO ?_ ?_
   ·simp only [tre, ar, Bool.and_self]
   ·first | (simp only [outV, uw, bT, cr, tyf, nrm, au, cm, cC, cP, (mJ cP), cH, bY, bE, oy, nm, seval] <;> rfl) | rfl
  simp only [cC, hs] at h
  obtain ⟨fb, yh, h⟩ := optI h kN
  try simp only [hs] at h
  simp only [vz, qr, tyf, aW, ba, bj, cm, cC, (mK cC), nm, seval]
  refine dktA (Cg _ _ yh) ?_
  refine aZ (fun tm => tm 1 = .lit (.int .i64 xpg) ∧ tm 2 = .ptr 0 0 ∧ tm 12 = .agg (aK dG.a1) ∧ tm 15 = .agg (cGa fb) ∧ True) (by refine ⟨aW, ba, ?_, ?_, trivial⟩ <;> first | (simp only [ua, aW, ba, bj, cm, cC, nm, seval] <;> rfl) | rfl) ?_
  rintro tm ⟨cQ, cK, bV, gZ, _⟩
  obtain ⟨nK, Ej, h⟩ := optI h kN
  try simp only [hs] at h
  simp only [vz, qr, tyf, cm, cC, (mK cC), cQ, cK, bV, gZ, nm, seval]
  refine dktA (Ch _ _ Ej) ?_
  refine aZ (fun tm => tm 12 = .agg (aK dG.a1) ∧ tm 17 = .agg (aK fb.a1) ∧ tm 19 = .lit (.int .i64 nK) ∧ True) (by refine ⟨bV, ?_, ?_, trivial⟩ <;> first | (simp only [ua, cm, cC, cQ, cK, bV, gZ, nm, seval] <;> rfl) | rfl) ?_
  rintro tm ⟨dq, cR, cb, _⟩
  simp only [vz, qr, tyf, cm, cC, (mK cC), dq, cR, cb, nm, seval]
  refine ja ⟨?_, ?_⟩
  ·simp only [iQ, iR, dy, iS, and_true, true_and]
   repeat' (first | exact trivial | refine And.intro ?_ ?_ | rw [dy] | rw [iT] | exact Or.inl (by decide +kernel) | exact Or.inl (by dsimp only; decide +kernel) | (refine Or.inr ⟨?_, ?_⟩ <;> simp; done) | (refine Or.inr ⟨?_, ?_⟩ <;> simp <;> omega) | (refine Or.inr ⟨?_, ?_⟩ <;> simp [VEff.wr] <;> omega))
  cases yi : ((nK != 0))
  ·simp only [yi, hs] at h
   exact absurd h kN
  simp only [yi, hs] at h
  try simp only [vz, qr, tyf, cm, cC, (mK cC), dq, cR, cb, yi, nm, seval]
  refine bG (x := (.lit (.int .i64 (i64.wrap (Int.tdiv (i64.wrap ((i64.wrap ((if (i64.wrap (dG.a1.High - (i64.wrap (nK * fb.a1.Low)))) < (i64.wrap ((i64.wrap (nK * fb.a1.High)) - dG.a1.Low)) then (i64.wrap ((i64.wrap (nK * fb.a1.High)) - dG.a1.Low)) else (i64.wrap (dG.a1.High - (i64.wrap (nK * fb.a1.Low))))) + nK)) - 1)) nK))))) (by first | (simp only [Tryz.results111, resV, resL, av, bL, bM, uw, cr, tyf, cm, cC, (mK cC), yi, nm, seval] <;> rfl) | rfl) ?_
  obtain rfl := kF _ h
  refine bO ?_ ?_
  ·simp only [tre, ar, Bool.and_self]
  ·first | (simp only [outV, uw, bT, cr, tyf, nrm, au, cm, cC, (mK cC), dq, cR, cb, yi, nm, seval] <;> rfl) | rfl
 simp only [cm, hs] at h
 obtain ⟨w1, Ub, h⟩ := optI h kN
 try simp only [hs] at h
 simp only [vz, qr, tyf, aW, ba, bj, cm, (mM cm), nm, seval]
 refine dktA (Cg _ _ Ub) ?_
 refine aZ (fun tm => tm 1 = .lit (.int .i64 xpg) ∧ tm 2 = .ptr 0 0 ∧ tm 12 = .agg (aK dG.a0) ∧ tm 15 = .agg (cGa w1) ∧ True) (by refine ⟨aW, ba, ?_, ?_, trivial⟩ <;> first | (simp only [ua, aW, ba, bj, cm, nm, seval] <;> rfl) | rfl) ?_
 rintro tm ⟨jb, jc, eM, ep, _⟩
 obtain ⟨jC, yj, h⟩ := optI h kN
 try simp only [hs] at h
 simp only [vz, qr, tyf, cm, (mM cm), jb, jc, eM, ep, nm, seval]
 refine dktA (Ch _ _ yj) ?_
 refine aZ (fun tm => tm 12 = .agg (aK dG.a0) ∧ tm 17 = .agg (aK w1.a0) ∧ tm 19 = .lit (.int .i64 jC) ∧ True) (by refine ⟨eM, ?_, ?_, trivial⟩ <;> first | (simp only [ua, cm, jb, jc, eM, ep, nm, seval] <;> rfl) | rfl) ?_
 rintro tm ⟨cL, cM, cS, _⟩
 simp only [vz, qr, tyf, cm, (mM cm), cL, cM, cS, nm, seval]
 refine ja ⟨?_, ?_⟩
 ·simp only [iQ, iR, dy, iS, and_true, true_and]
  repeat' (first | exact trivial | refine And.intro ?_ ?_ | rw [dy] | rw [iT] | exact Or.inl (by decide +kernel) | exact Or.inl (by dsimp only; decide +kernel) | (refine Or.inr ⟨?_, ?_⟩ <;> simp; done) | (refine Or.inr ⟨?_, ?_⟩ <;> simp <;> omega) | (refine Or.inr ⟨?_, ?_⟩ <;> simp [VEff.wr] <;> omega))
 cases yk : ((jC != 0))
 ·simp only [yk, hs] at h
  exact absurd h kN
 simp only [yk, hs] at h
 try simp only [vz, qr, tyf, cm, (mM cm), cL, cM, cS, yk, nm, seval]
 refine bG (x := (.lit (.int .i64 (i64.wrap (Int.tdiv (i64.wrap ((i64.wrap ((if (i64.wrap (dG.a0.High - (i64.wrap (jC * w1.a0.Low)))) < (i64.wrap ((i64.wrap (jC * w1.a0.High)) - dG.a0.Low)) then (i64.wrap ((i64.wrap (jC * w1.a0.High)) - dG.a0.Low)) else (i64.wrap (dG.a0.High - (i64.wrap (jC * w1.a0.Low))))) + jC)) - 1)) jC))))) (by first | (simp only [Tryz.results111, resV, resL, av, bL, bM, uw, cr, tyf, cm, (mM cm), yk, nm, seval] <;> rfl) | rfl) ?_
 obtain rfl := kF _ h
 refine bO ?_ ?_
 ·simp only [tre, ar, Bool.and_self]
 ·first | (simp only [outV, uw, bT, cr, tyf, nrm, au, cm, (mM cm), cL, cM, cS, yk, nm, seval] <;> rfl) | rfl
def tV (ah : Gm) (xpg : Int) : Option ((Unit) ⊕ (Unit)) := Option.bind (qM ah xpg) (fun r1 => cond (decide (r1 > ah.sh.Off)) (some (.inr ())) (some (.inl ())))
theorem w2 (ah : Gm) (xpg : Int) (R : (Unit) ⊕ (Unit)) (h : tV ah xpg = some R) : ad Tryz.prog G0 102 [.agg (cGm ah), .lit (.int .i64 xpg)] (presB R (fun r => .tree (.tup [])) (fun e => .panic (.ifc 132 (.agg [])))) := by
 refine ad.runR mixed Tryz.call102 Tryz.func102 rfl (by simp [Tryz.ntmps102]; kernel_rfl) ?_
 obtain ⟨KF, h, kF, kN⟩ := dp h
 simp only [tV] at h
 simp only [vz, tyf, nm, seval]
 refine mN (fun tm => tm 1 = .lit (.int .i64 xpg) ∧ tm 2 = .ptr 0 0 ∧ True) (by refine ⟨?_, ?_, trivial⟩ <;> first | (simp only [ua, nm, seval] <;> rfl) | rfl) ?_
 rintro tm ⟨e2, e3, _⟩
 obtain ⟨r4, o5, h⟩ := optI h kN
 try simp only [hs] at h
 simp only [vz, tyf, e2, e3, nm, seval]
 refine dktA (Cf _ _ _ o5) ?_
 refine aZ (fun tm => tm 2 = .ptr 0 0 ∧ tm 6 = .lit (.int .i64 r4) ∧ True) (by refine ⟨e3, ?_, trivial⟩ <;> first | (simp only [ua, e2, e3, nm, seval] <;> rfl) | rfl) ?_
 rintro tm ⟨e6, e7, _⟩
 cases d8 : (decide (r4 > ah.sh.Off))
 ·simp only [d8, hs] at h
  try simp only [vz, tyf, e6, e7, d8, nm, seval]
  refine ym (x := (.tup [])) (by first | (simp only [Tryz.results102, resV, resL, av, bL, bM, uw, cr, tyf, d8, nm, seval] <;> rfl) | rfl) ?_
  obtain rfl := kF _ h
  refine bO ?_ ?_
  ·simp only [tre, ar, Bool.and_self]
  ·first | (simp only [outV, uw, bT, cr, tyf, nrm, au, e6, e7, d8, nm, seval] <;> rfl) | rfl
 simp only [d8, hs] at h
 simp only [vz, tyf, e6, e7, d8, nm, seval]
 refine Ek ?_
 obtain rfl := kF _ h
 refine El ?_ ?_
 ·simp only [tre, ar, Em, Bool.and_self]
 ·first | (simp only [outV, uw, bT, En, Eo, cr, tyf, nrm, au, e6, e7, d8, nm, seval] <;> rfl) | rfl
def yn (ah : Gm) : Option (Bool) := Option.bind (tV ah 0) (fun r1 => sumB r1 (fun u2 => Option.bind (tV ah 1) (fun r4 => sumB r4 (fun u5 => Option.bind (tV ah 2) (fun r7 => sumB r7 (fun u8 => some true) (fun w9 => some false))) (fun w6 => some false))) (fun w3 => some false))
theorem Uc (ah : Gm) (R : Bool) (h : yn ah = some R) : ad Tryz.prog G0 68 [.agg (cGm ah)] (.tree (.lit (.bool R))) := by
 refine ad.runR mixed Tryz.call68 Tryz.func68 rfl (by simp [Tryz.ntmps68]; kernel_rfl) ?_
 obtain ⟨KF, h, kF, kN⟩ := dp h
 simp only [yn] at h
 simp only [vz, tyf, nm, seval]
 refine qN mixed (by kernel_rfl) 4 ?_
 obtain ⟨dG, wy, h⟩ := optI h kN
 try simp only [hs] at h
 cases dG with
 | inl YS =>
  simp only [hs] at h
  simp only [vz, tyf, nm, seval]
  refine ktA (w2 _ _ _ wy) ?_
  refine aZ (fun tm => tm 1 = .ptr 0 0 ∧ tm 2 = .ptr 1 0 ∧ tm 5 = .lit (.int .i64 0) ∧ True) (by refine ⟨?_, ?_, ?_, trivial⟩ <;> first | (simp only [ua, nm, seval] <;> rfl) | rfl) ?_
  rintro tm ⟨bj, bQ, bu, _⟩
  obtain ⟨Ci, Cj, h⟩ := optI h kN
  try simp only [hs] at h
  cases Ci with
  | inl YT =>
   simp only [hs] at h
   simp only [vz, tyf, bj, bQ, bu, nm, seval]
   refine ktA (w2 _ _ _ Cj) ?_
   refine aZ (fun tm => tm 1 = .ptr 0 0 ∧ tm 2 = .ptr 1 0 ∧ tm 5 = .lit (.int .i64 1) ∧ True) (by refine ⟨bj, bQ, ?_, trivial⟩ <;> first | (simp only [ua, bj, bQ, bu, nm, seval] <;> rfl) | rfl) ?_
   rintro tm ⟨bz, bK, bD, _⟩
   obtain ⟨ff, wz, h⟩ := optI h kN
   try simp only [hs] at h
   cases ff with
   | inl YU =>
    simp only [hs] at h
    simp only [vz, tyf, bz, bK, bD, nm, seval]
    refine ktA (w2 _ _ _ wz) ?_
    refine aZ (fun tm => tm 1 = .ptr 0 0 ∧ tm 2 = .ptr 1 0 ∧ tm 5 = .lit (.int .i64 2) ∧ True) (by refine ⟨bz, bK, ?_, trivial⟩ <;> first | (simp only [ua, bz, bK, bD, nm, seval] <;> rfl) | rfl) ?_
    rintro tm ⟨bE, bA, bN, _⟩
    try simp only [vz, tyf, bE, bA, bN, nm, seval]
    refine Ep ?_
    refine VDeferred.run mixed Tryz.call101 Tryz.func101 rfl (by kernel_rfl) ?_
    try simp only [vz, tyf, nm, seval]
    refine Ck Tryz.results101 ?_
    refine Er (x := (.lit (.bool true))) (by first | (simp only [Tryz.results68, resV, resL, av, bL, bM, uw, cr, tyf, bE, bA, bN, nm, seval] <;> rfl) | rfl) ?_
    obtain rfl := kF _ h
    refine bO ?_ ?_
    ·simp only [tre, ar, Bool.and_self]
    ·first | (simp only [outV, uw, bT, cr, tyf, nrm, au, bE, bA, bN, nm, seval] <;> rfl) | rfl
   | inr Cl =>
    simp only [hs] at h
    simp only [vz, tyf, bz, bK, bD, nm, seval]
    refine kpan (args0 := [.agg (cGm ah), .lit (.int .i64 2)]) (by first | (simp only [nrm, au] <;> rfl) | rfl) (by simp only [tre, ar, Bool.and_self]) (w2 _ _ _ wz) ?_
    try simp only [vz, tyf, bz, bK, bD, nm, seval]
    refine Es ?_
    refine VDeferred.run mixed Tryz.call101 Tryz.func101 rfl (by kernel_rfl) ?_
    try simp only [vz, tyf, nm, seval]
    refine Ck Tryz.results101 ?_
    refine Et (x := (.lit (.bool false))) (by first | (simp only [Tryz.results68, resV, resL, av, bL, bM, uw, cr, tyf, bz, bK, bD, nm, seval] <;> rfl) | rfl) ?_
    obtain rfl := kF _ h
    refine bO ?_ ?_
    ·simp only [tre, ar, Bool.and_self]
    ·first | (simp only [outV, uw, bT, cr, tyf, nrm, au, bz, bK, bD, nm, seval] <;> rfl) | rfl
  | inr YV =>
   simp only [hs] at h
   simp only [vz, tyf, bj, bQ, bu, nm, seval]
   refine kpan (args0 := [.agg (cGm ah), .lit (.int .i64 1)]) (by first | (simp only [nrm, au] <;> rfl) | rfl) (by simp only [tre, ar, Bool.and_self]) (w2 _ _ _ Cj) ?_
   try simp only [vz, tyf, bj, bQ, bu, nm, seval]
   refine Es ?_
   refine VDeferred.run mixed Tryz.call101 Tryz.func101 rfl (by kernel_rfl) ?_
   try simp only [vz, tyf, nm, seval]
   refine Ck Tryz.results101 ?_
   refine Et (x := (.lit (.bool false))) (by first | (simp only [Tryz.results68, resV, resL, av, bL, bM, uw, cr, tyf, bj, bQ, bu, nm, seval] <;> rfl) | rfl) ?_
   obtain rfl := kF _ h
   refine bO ?_ ?_
   ·simp only [tre, ar, Bool.and_self]
   ·first | (simp only [outV, uw, bT, cr, tyf, nrm, au, bj, bQ, bu, nm, seval] <;> rfl) | rfl
 | inr w4 =>
  simp only [hs] at h
  simp only [vz, tyf, nm, seval]
  refine kpan (args0 := [.agg (cGm ah), .lit (.int .i64 0)]) (by first | (simp only [nrm, au] <;> rfl) | rfl) (by simp only [tre, ar, Bool.and_self]) (w2 _ _ _ wy) ?_
  try simp only [vz, tyf, nm, seval]
  refine Es ?_
  refine VDeferred.run mixed Tryz.call101 Tryz.func101 rfl (by kernel_rfl) ?_
  try simp only [vz, tyf, nm, seval]
  refine Ck Tryz.results101 ?_
  refine Et (x := (.lit (.bool false))) (by first | (simp only [Tryz.results68, resV, resL, av, bL, bM, uw, cr, tyf, nm, seval] <;> rfl) | rfl) ?_
  obtain rfl := kF _ h
  refine bO ?_ ?_
  ·simp only [tre, ar, Bool.and_self]
  ·first | (simp only [outV, uw, bT, cr, tyf, nrm, au, nm, seval] <;> rfl) | rfl


def tW (r1 : Ga) (r2 : Ga) (r3 : Int) : Nat → Int → Int → Option (LOut (Int) (Int))
 | 0, d6, bW => some (.go bW)
 | k0 + 1, d6, bW => cond (d6 == 0) (cond ((r3 != 0)) (tW r1 r2 r3 k0 (d6 + 1) (if bW < (i64.wrap (Int.tdiv (i64.wrap ((i64.wrap ((if (i64.wrap (r2.a0.High - (i64.wrap (r3 * r1.a0.Low)))) < (i64.wrap ((i64.wrap (r3 * r1.a0.High)) - r2.a0.Low)) then (i64.wrap ((i64.wrap (r3 * r1.a0.High)) - r2.a0.Low)) else (i64.wrap (r2.a0.High - (i64.wrap (r3 * r1.a0.Low))))) + r3)) - 1)) r3)) then (i64.wrap (Int.tdiv (i64.wrap ((i64.wrap ((if (i64.wrap (r2.a0.High - (i64.wrap (r3 * r1.a0.Low)))) < (i64.wrap ((i64.wrap (r3 * r1.a0.High)) - r2.a0.Low)) then (i64.wrap ((i64.wrap (r3 * r1.a0.High)) - r2.a0.Low)) else (i64.wrap (r2.a0.High - (i64.wrap (r3 * r1.a0.Low))))) + r3)) - 1)) r3)) else bW)) none) (cond (d6 == 1) (cond ((r3 != 0)) (tW r1 r2 r3 k0 (d6 + 1) (if bW < (i64.wrap (Int.tdiv (i64.wrap ((i64.wrap ((if (i64.wrap (r2.a1.High - (i64.wrap (r3 * r1.a1.Low)))) < (i64.wrap ((i64.wrap (r3 * r1.a1.High)) - r2.a1.Low)) then (i64.wrap ((i64.wrap (r3 * r1.a1.High)) - r2.a1.Low)) else (i64.wrap (r2.a1.High - (i64.wrap (r3 * r1.a1.Low))))) + r3)) - 1)) r3)) then (i64.wrap (Int.tdiv (i64.wrap ((i64.wrap ((if (i64.wrap (r2.a1.High - (i64.wrap (r3 * r1.a1.Low)))) < (i64.wrap ((i64.wrap (r3 * r1.a1.High)) - r2.a1.Low)) then (i64.wrap ((i64.wrap (r3 * r1.a1.High)) - r2.a1.Low)) else (i64.wrap (r2.a1.High - (i64.wrap (r3 * r1.a1.Low))))) + r3)) - 1)) r3)) else bW)) none) (cond (d6 == 2) (cond ((r3 != 0)) (tW r1 r2 r3 k0 (d6 + 1) (if bW < (i64.wrap (Int.tdiv (i64.wrap ((i64.wrap ((if (i64.wrap (r2.a2.High - (i64.wrap (r3 * r1.a2.Low)))) < (i64.wrap ((i64.wrap (r3 * r1.a2.High)) - r2.a2.Low)) then (i64.wrap ((i64.wrap (r3 * r1.a2.High)) - r2.a2.Low)) else (i64.wrap (r2.a2.High - (i64.wrap (r3 * r1.a2.Low))))) + r3)) - 1)) r3)) then (i64.wrap (Int.tdiv (i64.wrap ((i64.wrap ((if (i64.wrap (r2.a2.High - (i64.wrap (r3 * r1.a2.Low)))) < (i64.wrap ((i64.wrap (r3 * r1.a2.High)) - r2.a2.Low)) then (i64.wrap ((i64.wrap (r3 * r1.a2.High)) - r2.a2.Low)) else (i64.wrap (r2.a2.High - (i64.wrap (r3 * r1.a2.Low))))) + r3)) - 1)) r3)) else bW)) none) (none)))
def tX (ae : Gs) (aq : List Int) : Option (Int) := Option.bind (ye ae) (fun r1 => Option.bind (wx ae aq) (fun r2 => Option.bind (qO aq) (fun r3 => cond (boundOk 3) (aN (tW r1 r2 r3 (Int.toNat (3 - 0)) 0 0) (fun r5 => some r5) (fun c4 => some c4) (fun _ _ => none)) none)))
theorem Eu (ae : Gs) (aq : List Int) (R : Int) (h : tX ae aq = some R) : ad Tryz.prog G0 72 [.agg (cGs ae), .sl (aa eI aq) (List.length aq) false] (.tree (.lit (.int .i64 R))) := by
 refine ad.runR mixed Tryz.call72 Tryz.func72 rfl (by simp [Tryz.ntmps72]; kernel_rfl) ?_
 obtain ⟨KF, h, kF, kN⟩ := dp h
 simp only [tX] at h
 simp only [vz, qr, tyf, nm, seval]
 refine lP (fun tm => tm 1 = .sl (aa eI aq) (List.length aq) false ∧ tm 2 = .ptr 0 0 ∧ True) (by refine ⟨?_, ?_, trivial⟩ <;> first | (simp only [ua, nm, seval] <;> rfl) | rfl) ?_
 rintro tm ⟨e6, e7, _⟩
 obtain ⟨r8, o9, h⟩ := optI h kN
 try simp only [hs] at h
 simp only [vz, qr, tyf, e6, e7, nm, seval]
 refine dktA (Ud _ _ o9) ?_
 refine aZ (fun tm => tm 1 = .sl (aa eI aq) (List.length aq) false ∧ tm 2 = .ptr 0 0 ∧ tm 12 = .agg (cGa r8) ∧ True) (by refine ⟨e6, e7, ?_, trivial⟩ <;> first | (simp only [ua, e6, e7, nm, seval] <;> rfl) | rfl) ?_
 rintro tm ⟨bm, bg, aW, _⟩
 obtain ⟨fc, s8, h⟩ := optI h kN
 try simp only [hs] at h
 simp only [vz, qr, tyf, bm, bg, aW, nm, seval]
 refine dktA (QH _ _ _ s8) ?_
 refine aZ (fun tm => tm 1 = .sl (aa eI aq) (List.length aq) false ∧ tm 12 = .agg (cGa r8) ∧ tm 15 = .agg (cGa fc) ∧ True) (by refine ⟨bm, aW, ?_, trivial⟩ <;> first | (simp only [ua, bm, bg, aW, nm, seval] <;> rfl) | rfl) ?_
 rintro tm ⟨bQ, bu, bC, _⟩
 obtain ⟨cu, fa, h⟩ := optI h kN
 try simp only [hs] at h
 simp only [vz, qr, tyf, bQ, bu, bC, nm, seval]
 refine dktA (yo _ _ fa) ?_
 refine aZ (fun tm => tm 12 = .agg (cGa r8) ∧ tm 15 = .agg (cGa fc) ∧ tm 17 = .lit (.int .i64 cu) ∧ True) (by refine ⟨bu, bC, ?_, trivial⟩ <;> first | (simp only [ua, bQ, bu, bC, nm, seval] <;> rfl) | rfl) ?_
 rintro tm ⟨ck, bz, bK, _⟩
 simp only [vz, qr, tyf, ck, bz, bK, nm, seval]
 refine ja ⟨?_, ?_⟩
 ·simp only [iQ, iR, dy, iS, and_true, true_and]
  repeat' (first | exact trivial | refine And.intro ?_ ?_ | rw [dy] | rw [iT] | exact Or.inl (by decide +kernel) | exact Or.inl (by dsimp only; decide +kernel) | (refine Or.inr ⟨?_, ?_⟩ <;> simp; done) | (refine Or.inr ⟨?_, ?_⟩ <;> simp <;> omega) | (refine Or.inr ⟨?_, ?_⟩ <;> simp [VEff.wr] <;> omega))
 cases pW : (boundOk 3)
 ·simp only [pW, hs] at h
  exact absurd h kN
 simp only [pW, hs] at h
 simp only [vz, qr, tyf, ck, bz, bK, pW, nm, seval]
 obtain ⟨Ue, h, Uf, Ev, Ug, qP⟩ := fp h kN
 obtain ⟨yp, Ew, h⟩ := call3 h
 obtain ⟨Uh, o8⟩ : ∃ I : Nat → St → Prop, I = (fun m st => ∃ (nL : Nat) (dW : Int) (fq : Int), nL = m ∧ loOk dW = true ∧ Int.toNat (3 - dW) = nL ∧ st.df = [] ∧ 16 ≤ st.nx ∧ st.H 9 = some (.cells (some 25) (cGa r8)) ∧ st.H 10 = some (.cells (some 25) (cGa fc)) ∧ st.tm 5 = .ptr 9 0 ∧ st.tm 6 = .ptr 10 0 ∧ st.tm 7 = .lit (.int .i64 cu) ∧ st.tm 8 = .lit (.int .i64 fq) ∧ st.tm 9 = .lit (.int .i64 dW) ∧ Ue (yp nL dW fq)) := ⟨_, rfl⟩
 refine loopK mixed (by kernel_rfl) Uh (Int.toNat (3 - 0)) (by rw [o8]; refine ⟨Int.toNat (3 - 0), 0, 0, rfl, (by rfl), rfl, rfl, (show 16 ≤ 16 by omega), ?_, ?_, ?_, ?_, ?_, ?_, ?_, h⟩ <;> first | (simp only [ua, ck, bz, bK, nm, seval] <;> rfl) | rfl) ?_
 rintro m ⟨tm, H, qQ, df⟩ hinv
 rw [o8] at hinv
 obtain ⟨nL, dW, fq, rfl, qR, nf, hdf, Ex, s9, mO, bY, bE, bA, bN, bZ, h⟩ := hinv
 simp only at hdf Ex s9 mO bY bE bA bN bZ
 have tY := fu (m := 16) (b := qQ) (by omega)
 subst hdf Ew
 cases nL with
 | zero =>
  have gk : (decide (dW < 3)) = false := Cm nf
  simp only [tW, hs, reduceCtorEq] at h
  replace h := Ev _ h
  try dsimp only at h
  try simp only [hs] at h
  try simp only [vz, qr, tyf, pW, tY, bY, bE, bA, bN, bZ, s9, mO, gk, nm, seval]
  refine bG (x := (.lit (.int .i64 fq))) (by first | (simp only [Tryz.results72, resV, resL, av, bL, bM, uw, cr, tyf, pW, tY, s9, mO, gk, nm, seval] <;> rfl) | rfl) ?_
  obtain rfl := kF _ h
  refine bO ?_ ?_
  ·simp only [tre, ar, Bool.and_self]
  ·first | (simp only [outV, uw, bT, cr, tyf, nrm, au, pW, tY, bY, bE, bA, bN, bZ, s9, mO, gk, nm, seval] <;> rfl) | rfl
 | succ nL =>
  have iU : (decide (dW < 3)) = true := qS nf
  have Cn := Co qR nf pW
  simp only [tW, hs, reduceCtorEq] at h
  simp only [vz, qr, tyf, pW, tY, bY, bE, bA, bN, bZ, s9, mO, iU, Cn, nm, seval]
  refine mN (fun tm => tm 5 = .ptr 9 0 ∧ tm 6 = .ptr 10 0 ∧ tm 7 = .lit (.int .i64 cu) ∧ tm 8 = .lit (.int .i64 fq) ∧ tm 9 = .lit (.int .i64 dW) ∧ True) (by refine ⟨bY, bE, bA, bN, bZ, trivial⟩ <;> first | (simp only [ua, tY, bY, bE, bA, bN, bZ, s9, mO, iU, Cn, nm, seval] <;> rfl) | rfl) ?_
  rintro tm ⟨dP, eu, dq, cR, cb, _⟩
  cases pX : (dW == 0)
  ·simp only [pX, hs] at h
   have tZ := And.intro pW (And.intro tY (And.intro s9 (And.intro mO (And.intro iU (And.intro Cn pX)))))
   cases jD : (dW == 1)
   ·simp only [jD, hs] at h
    cases md : (dW == 2)
    ·simp only [md, hs] at h
     exact absurd h qP
    simp only [md, hs] at h
    cases Ey : ((cu != 0))
    ·simp only [Ey, hs] at h
     exact absurd h qP
    simp only [Ey, hs] at h
    simp only [vz, qr, tyf, tZ, dP, eu, dq, cR, cb, jD, md, (iD md), Ey, nm, seval]
    exact ⟨nL, Nat.lt_succ_self _, by rw [o8]; refine ⟨nL, dW + 1, (if fq < (i64.wrap (Int.tdiv (i64.wrap ((i64.wrap ((if (i64.wrap (fc.a2.High - (i64.wrap (cu * r8.a2.Low)))) < (i64.wrap ((i64.wrap (cu * r8.a2.High)) - fc.a2.Low)) then (i64.wrap ((i64.wrap (cu * r8.a2.High)) - fc.a2.Low)) else (i64.wrap (fc.a2.High - (i64.wrap (cu * r8.a2.Low))))) + cu)) - 1)) cu)) then (i64.wrap (Int.tdiv (i64.wrap ((i64.wrap ((if (i64.wrap (fc.a2.High - (i64.wrap (cu * r8.a2.Low)))) < (i64.wrap ((i64.wrap (cu * r8.a2.High)) - fc.a2.Low)) then (i64.wrap ((i64.wrap (cu * r8.a2.High)) - fc.a2.Low)) else (i64.wrap (fc.a2.High - (i64.wrap (cu * r8.a2.Low))))) + cu)) - 1)) cu)) else fq), rfl, pY qR, pZ nf, rfl, (show 16 ≤ qQ + 38 by omega), ?_, ?_, dP, eu, dq, ?_, ?_, h⟩ <;> first | (simp only [ua, tZ, dP, eu, dq, cR, cb, jD, md, nm, seval] <;> rfl) | rfl⟩
   simp only [jD, hs] at h
   cases Ez : ((cu != 0))
   ·simp only [Ez, hs] at h
    exact absurd h qP
   simp only [Ez, hs] at h
   simp only [vz, qr, tyf, tZ, dP, eu, dq, cR, cb, jD, (iE jD), Ez, nm, seval]
   exact ⟨nL, Nat.lt_succ_self _, by rw [o8]; refine ⟨nL, dW + 1, (if fq < (i64.wrap (Int.tdiv (i64.wrap ((i64.wrap ((if (i64.wrap (fc.a1.High - (i64.wrap (cu * r8.a1.Low)))) < (i64.wrap ((i64.wrap (cu * r8.a1.High)) - fc.a1.Low)) then (i64.wrap ((i64.wrap (cu * r8.a1.High)) - fc.a1.Low)) else (i64.wrap (fc.a1.High - (i64.wrap (cu * r8.a1.Low))))) + cu)) - 1)) cu)) then (i64.wrap (Int.tdiv (i64.wrap ((i64.wrap ((if (i64.wrap (fc.a1.High - (i64.wrap (cu * r8.a1.Low)))) < (i64.wrap ((i64.wrap (cu * r8.a1.High)) - fc.a1.Low)) then (i64.wrap ((i64.wrap (cu * r8.a1.High)) - fc.a1.Low)) else (i64.wrap (fc.a1.High - (i64.wrap (cu * r8.a1.Low))))) + cu)) - 1)) cu)) else fq), rfl, pY qR, pZ nf, rfl, (show 16 ≤ qQ + 38 by omega), ?_, ?_, dP, eu, dq, ?_, ?_, h⟩ <;> first | (simp only [ua, tZ, dP, eu, dq, cR, cb, jD, nm, seval] <;> rfl) | rfl⟩
  simp only [pX, hs] at h
  have qa := And.intro pW (And.intro tY (And.intro s9 (And.intro mO (And.intro iU (And.intro Cn pX)))))
  cases E0 : ((cu != 0))
  ·simp only [E0, hs] at h
   exact absurd h qP
  simp only [E0, hs] at h
  simp only [vz, qr, tyf, qa, dP, eu, dq, cR, cb, (iF pX), E0, nm, seval]
  exact ⟨nL, Nat.lt_succ_self _, by rw [o8]; refine ⟨nL, dW + 1, (if fq < (i64.wrap (Int.tdiv (i64.wrap ((i64.wrap ((if (i64.wrap (fc.a0.High - (i64.wrap (cu * r8.a0.Low)))) < (i64.wrap ((i64.wrap (cu * r8.a0.High)) - fc.a0.Low)) then (i64.wrap ((i64.wrap (cu * r8.a0.High)) - fc.a0.Low)) else (i64.wrap (fc.a0.High - (i64.wrap (cu * r8.a0.Low))))) + cu)) - 1)) cu)) then (i64.wrap (Int.tdiv (i64.wrap ((i64.wrap ((if (i64.wrap (fc.a0.High - (i64.wrap (cu * r8.a0.Low)))) < (i64.wrap ((i64.wrap (cu * r8.a0.High)) - fc.a0.Low)) then (i64.wrap ((i64.wrap (cu * r8.a0.High)) - fc.a0.Low)) else (i64.wrap (fc.a0.High - (i64.wrap (cu * r8.a0.Low))))) + cu)) - 1)) cu)) else fq), rfl, pY qR, pZ nf, rfl, (show 16 ≤ qQ + 38 by omega), ?_, ?_, dP, eu, dq, ?_, ?_, h⟩ <;> first | (simp only [ua, qa, dP, eu, dq, cR, cb, nm, seval] <;> rfl) | rfl⟩
def withinB (c : Ga) (n : Gi) : Bool := inB c.a0.Low c.a0.High n.a0 && (inB c.a1.Low c.a1.High n.a1 && inB c.a2.Low c.a2.High n.a2)
def zipB (f : Ga → Gi → Bool) : List Gi → List Gt → Bool
 | a :: qs, t :: ts => f t.pg a && zipB f qs ts
 | [], [] => true
 | _, _ => false
def truthB (s : Gs) (t : Gu) : Bool := decide (t.Tins.length = s.Tins.length) && (inB s.Years.Low s.Years.High t.Years && (withinB s.Fade t.Fade && zipB withinB t.Tins s.Tins))
theorem yq {f : Ga → Gi → Bool} : ∀ {p : List Gi} {ts : List Gt}, zipB f p ts = true → ∀ (i : Nat) a t, p[i]? = some a → ts[i]? = some t → f t.pg a = true
 | [], _, _, _, _, _, h, _ => by simp at h
 | _ :: _, [], h, _, _, _, _, _ => by cases h
 | a :: p, t :: ts, h, i, a', t', ha, ht => by
  simp only [zipB, Bool.and_eq_true] at h
  cases i with
  | zero =>
   simp only [List.getElem?_cons_zero, Option.some.injEq] at ha ht
   subst ha ht
   exact h.1
  | succ i => exact yq h.2 i a' t' (by simpa using ha) (by simpa using ht)
structure TrOk (s : Gs) (t : Gu) : Prop where
 n : t.Tins.length = s.Tins.length
 y : s.Years.Low ≤ t.Years ∧ t.Years ≤ s.Years.High
 fade : ∀ p, (selS s.Fade p).Low ≤ selI t.Fade p ∧ selI t.Fade p ≤ (selS s.Fade p).High
 tin : ∀ (i : Nat) a c, t.Tins[i]? = some a → s.Tins[i]? = some c → ∀ p, lowT p c ≤ selI a p ∧ selI a p ≤ highT p c
theorem TrOk.of {s : Gs} {t : Gu} (h : truthB s t = true) : TrOk s t := by
 simp only [truthB, Bool.and_eq_true, decide_eq_true_eq, sC] at h
 obtain ⟨h1, h2, h3, h4⟩ := h
 simp only [withinB, Bool.and_eq_true, sC] at h3
 refine ⟨h1, h2, fun p => ?_, fun i a c ha hc p => ?_⟩
 ·cases p
  ·exact h3.1
  ·exact h3.2.1
  ·exact h3.2.2
 ·have := yq h4 i a c ha hc
  simp only [withinB, Bool.and_eq_true, sC] at this
  cases p
  ·exact this.1
  ·exact this.2.1
  ·exact this.2.2
def mostI (s : Gs) (mix : List Int) (p : P3) : Int :=
 if (aH s mix p).High - sumL mix * (aimP s p).Low < sumL mix * (aimP s p).High - (aH s mix p).Low then sumL mix * (aimP s p).High - (aH s mix p).Low else (aH s mix p).High - sumL mix * (aimP s p).Low
def farI (s : Gs) (mix : List Int) (p : P3) : Int := Int.tdiv (mostI s mix p + sumL mix - 1) (sumL mix)
theorem ub {s : Gs} (hs : ShOk s) {mix : List Int} (hm : MixOk s mix) (p : P3) : 0 ≤ (aH s mix p).Low ∧ (aH s mix p).Low ≤ (aH s mix p).High ∧ (aH s mix p).High ≤ 792 := by
 have h1 := dot_b mix s.Tins hm.b (hs.low p)
 have h2 := dot_b mix s.Tins hm.b (hs.high p)
 have h3 := ya (f := lowT p) (g := highT p) mix s.Tins s.Tins rfl hm.b (fun i t u ht hu => by
  rw [ht] at hu
  cases hu
  have := hs.tin t (List.mem_of_getElem? ht) p
  unfold lowT highT
  omega)
 have h4 := hm.s
 unfold aH
 simp only
 omega
theorem uc {s : Gs} (hs : ShOk s) {mix : List Int} (hm : MixOk s mix) (p : P3) : 0 ≤ mostI s mix p ∧ mostI s mix p ≤ 800 ∧ 0 ≤ sumL mix * (aimP s p).Low ∧ sumL mix * (aimP s p).Low ≤ sumL mix * (aimP s p).High ∧ sumL mix * (aimP s p).High ≤ 792 := by
 have h1 := ub hs hm p
 have h2 := Ef hs p
 have h3 := hm.s
 have h4 := mulR (a := sumL mix) (A := 8) (by omega) h3.2 h2.1 (show (aimP s p).Low ≤ 99 by omega)
 have h5 := mulR (a := sumL mix) (A := 8) (by omega) h3.2 (show 0 ≤ (aimP s p).High by omega) h2.2.2
 have h6 := Int.mul_le_mul_of_nonneg_left h2.2.1 (show 0 ≤ sumL mix by omega)
 unfold mostI
 split <;> omega
theorem yr {s : Gs} (hs : ShOk s) {mix : List Int} (hm : MixOk s mix) (p : P3) (k : Int) : farI s mix p ≤ k ↔ mostI s mix p ≤ k * sumL mix := by
 have h1 := (uc hs hm p).1
 have h3 := hm.s
 unfold farI
 rw [Int.tdiv_eq_ediv_of_nonneg (by omega)]
 have h2 := Int.ediv_lt_iff_lt_mul (a := mostI s mix p + sumL mix - 1) (b := k + 1) (c := sumL mix) (by omega)
 rw [Int.add_mul, Int.one_mul] at h2
 omega
theorem E1 {s : Gs} (hs : ShOk s) {mix : List Int} (hm : MixOk s mix) (p : P3) : 0 ≤ farI s mix p ∧ farI s mix p ≤ 800 := by
 have h1 := uc hs hm p
 have h3 := hm.s
 refine ⟨?_, (yr hs hm p 800).2 (by omega)⟩
 unfold farI
 rw [Int.tdiv_eq_ediv_of_nonneg (by omega)]
 exact Int.ediv_nonneg (by omega) (by omega)
theorem yu {s : Gs} (hs : ShOk s) {mix : List Int} (hm : MixOk s mix) (p : P3) : qM ⟨s, mix⟩ p.i = some (farI s mix p) := by
 have h1 := ub hs hm p
 have h2 := uc hs hm p
 have h3 := hm.s
 have h4 := E1 hs hm p
 have hne : (sumL mix != 0) = true := by simp; omega
 have e1 : i64.wrap (sumL mix * (aimP s p).Low) = sumL mix * (aimP s p).Low := cB (by omega) (by omega)
 have e2 : i64.wrap (sumL mix * (aimP s p).High) = sumL mix * (aimP s p).High := cB (by omega) (by omega)
 have e3 : i64.wrap ((aH s mix p).High - sumL mix * (aimP s p).Low) = (aH s mix p).High - sumL mix * (aimP s p).Low := cB (by omega) (by omega)
 have e4 : i64.wrap (sumL mix * (aimP s p).High - (aH s mix p).Low) = sumL mix * (aimP s p).High - (aH s mix p).Low := cB (by omega) (by omega)
 have e5 : i64.wrap (mostI s mix p + sumL mix) = mostI s mix p + sumL mix := cB (by omega) (by omega)
 have e6 : i64.wrap (mostI s mix p + sumL mix - 1) = mostI s mix p + sumL mix - 1 := cB (by omega) (by omega)
 have e7 : i64.wrap (farI s mix p) = farI s mix p := cB (by omega) (by omega)
 have key : some (i64.wrap (Int.tdiv (i64.wrap ((i64.wrap ((if (i64.wrap ((aH s mix p).High - (i64.wrap (sumL mix * (aimP s p).Low)))) < (i64.wrap ((i64.wrap (sumL mix * (aimP s p).High)) - (aH s mix p).Low)) then (i64.wrap ((i64.wrap (sumL mix * (aimP s p).High)) - (aH s mix p).Low)) else (i64.wrap ((aH s mix p).High - (i64.wrap (sumL mix * (aimP s p).Low))))) + sumL mix)) - 1)) (sumL mix))) = some (farI s mix p) := by
  rw [e1, e2, e3, e4]
  show some (i64.wrap (Int.tdiv (i64.wrap ((i64.wrap (mostI s mix p + sumL mix)) - 1)) (sumL mix))) = _
  rw [e5, e6]
  exact congrArg some e7
 unfold qM
 rw [tS hs hm, yd hs, Eb hs hm]
 simp only [Option.bind_some, hne, cond_true]
 cases p <;> simp only [P3.i, Int.reduceBEq, cond_true, cond_false] <;> exact key
def surelyB (s : Gs) (mix : List Int) : Bool := decide (farI s mix .p0 ≤ s.Off) && (decide (farI s mix .p1 ≤ s.Off) && decide (farI s mix .p2 ≤ s.Off))
theorem ud {s : Gs} (hs : ShOk s) {mix : List Int} (hm : MixOk s mix) (p : P3) : tV ⟨s, mix⟩ p.i = some (cond (decide (farI s mix p ≤ s.Off)) (.inl ()) (.inr ())) := by
 unfold tV
 rw [yu hs hm p]
 simp only [Option.bind_some]
 by_cases h : farI s mix p ≤ s.Off
 ·rw [decide_eq_true h, decide_eq_false (by show ¬ farI s mix p > s.Off; omega)]; rfl
 ·rw [decide_eq_false h, decide_eq_true (by show farI s mix p > s.Off; omega)]; rfl
theorem E2 {s : Gs} (hs : ShOk s) {mix : List Int} (hm : MixOk s mix) : yn ⟨s, mix⟩ = some (surelyB s mix) := by
 have m0 := ud hs hm .p0
 have m1 := ud hs hm .p1
 have m2 := ud hs hm .p2
 simp only [P3.i] at m0 m1 m2
 unfold yn surelyB
 rw [m0, m1, m2]
 cases decide (farI s mix .p0 ≤ s.Off) <;> cases decide (farI s mix .p1 ≤ s.Off) <;> cases decide (farI s mix .p2 ≤ s.Off) <;> rfl
theorem E3 {s : Gs} (hs : ShOk s) {mix : List Int} (hm : MixOk s mix) : surelyB s mix = true ↔ ∀ p, mostI s mix p ≤ s.Off * sumL mix := by
 simp only [surelyB, Bool.and_eq_true, decide_eq_true_eq, yr hs hm]
 constructor
 ·rintro ⟨a, b, c⟩ p
  cases p <;> assumption
 ·intro h
  exact ⟨h .p0, h .p1, h .p2⟩
end Go.V
end
section
namespace Go.V
open Go Go.Proofs IntKind
def pairOk (ops : Array Oper) (p q : Nat × List Nat × List Nat) : Prop := aC ops ops.size p.1 q.1 = true ∨ (Indep p q ∧ ∀ o o', ops[p.1]? = some o → ops[q.1]? = some o' → o.apart ops o' = true)
section
variable {P : Program} {G : Glob} {ops : Array Oper} {base : Nat} {Q : VExit → St → Prop} {n : Nat}
theorem QSteps.snoc {m : Nat} {o : Oper} {rd wr : List Nat} {s2 : St} (ho : ops[m]? = some o) : ∀ {l : List Nat} {st s1 : St} {tr : Tr}, QSteps P G ops base l st s1 tr → QStep P G ops base m o s1 s2 rd wr → QSteps P G ops base (l ++ [m]) st s2 (tr ++ [(m, rd, wr)])
 | _, _, _, _, .nil, h => .cons ho h .nil
 | _, _, _, _, .cons ho' hq hs, h => .cons ho' hq (QSteps.snoc ho hs h)
theorem Ui {tr : Tr} {q : Nat × List Nat × List Nat} (h : TraceOk ops tr) (h' : ∀ p ∈ tr, pairOk ops p q) : TraceOk ops (tr ++ [q]) := by
 unfold TraceOk
 rw [List.pairwise_append]
 refine ⟨h, List.pairwise_singleton _ _, fun p hp r hr => ?_⟩
 rw [List.mem_singleton.1 hr]
 exact h' p hp
def vbar (P : Program) (G : Glob) (n : Nat) (ops : Array Oper) (base : Nat) (Q : VExit → St → Prop) (b : Nat) (Nx : List Nat → St → Prop) : Nat → List Nat → St → Tr → Prop
 | 0, fl, st, _ => fl = [] ∧ aS P G n ops base b st (Nx fl) (fun x s => Q (.panic x) s)
 | k + 1, fl, st, tr => aS P G n ops base b st (Nx fl) (fun x s => Q (.panic x) s) ∧ ∀ m ∈ fl, (∀ i ∈ fl, aC ops ops.size i m = false) →
   ∃ o s1 rd wr, ops[m]? = some o ∧ QStep P G ops base m o st s1 rd wr ∧ (∀ p ∈ tr, pairOk ops p (m, rd, wr)) ∧ vbar P G n ops base Q b Nx k (fl.erase m) s1 (tr ++ [(m, rd, wr)])
theorem E4 {b : Nat} {Nx : List Nat → St → Prop} : ∀ (k : Nat) {fl : List Nat} {st : St} {tr tr' : Tr}, vbar P G n ops base Q b Nx k fl st tr → (∀ p ∈ tr', p ∈ tr) → vbar P G n ops base Q b Nx k fl st tr'
 | 0, _, _, _, _, h, _ => h
 | k + 1, _, _, _, _, h, hs => ⟨h.1, fun m hm hb => by
   obtain ⟨o, s1, rd, wr, h1, h2, h3, h4⟩ := h.2 m hm hb
   refine ⟨o, s1, rd, wr, h1, h2, fun p hp => h3 p (hs p hp), E4 k h4 fun p hp => ?_⟩
   rcases List.mem_append.1 hp with hp | hp
   ·exact List.mem_append_left _ (hs p hp)
   ·exact List.mem_append_right _ hp⟩
theorem E5 {b : Nat} {Nx : List Nat → St → Prop} {k : Nat} {fl : List Nat} {st : St} {tr : Tr} (h : vbar P G n ops base Q b Nx k fl st tr) : aS P G n ops base b st (Nx fl) (fun x s => Q (.panic x) s) := by
 cases k with
 | zero => exact h.2
 | succ k => exact h.1
def VF (P : Program) (G : Glob) (n : Nat) (ops : Array Oper) (base : Nat) (Q : VExit → St → Prop) : List (List Nat × Nat) → List Nat → List Nat → St → Prop
 | [], last, fl, st => ∃ lst st' tr, lst.Perm (fl ++ last) ∧ QSteps P G ops base lst st st' tr ∧ TraceOk ops tr ∧ Q .normal st'
 | (l, b) :: rest, last, fl, st => ∃ st' tr k, QSteps P G ops base l st st' tr ∧ TraceOk ops tr ∧ vbar P G n ops base Q b (VF P G n ops base Q rest last) k fl st' tr
theorem Left.perm {listed : Array Bool} {l l' : List Nat} (h : Left ops listed l) (hp : l'.Perm l) : Left ops listed l' :=
 ⟨h.1, hp.nodup_iff.2 h.2.1, fun i => (hp.mem_iff).trans (h.2.2 i)⟩
theorem E6 {ro : Option Nat} {eA : Nat} {c0 : Ctx} {W0 : World} (hback : backOk ops = true) (hdst : dstsOk n ops = true) :
  ∀ (fuel : Nat) (segs : List (List Nat × Nat)) (last fl : List Nat) (listed : Array Bool) (st : St) (c : Ctx) (W : World) (a : Act),
  VF P G n ops base Q segs last fl st → Left ops listed (fl ++ flat segs last) → (fl ++ flat segs last).length ≤ fuel → Closed ops listed → barOk ops segs last = true → base + ops.size ≤ st.nx → eA ≤ base →
  RoOk G c ro → Sim c W → StRep G c W st a → a.tmps.size = n → (∀ i ∈ fl ++ flat segs last, ¬ c.used (base + i)) → Ext c0 W0 c W → (∀ β, c.used β → c0.used β ∨ eA ≤ β) →
  wpAnyIn (Fw ro) 0 P .any ops (Lift G n eA c0 W0 Q) fuel listed a W := by
 intro fuel
 induction fuel with
 | zero =>
  intro segs last fl listed st c W a h hleft hlen hcl hbar hb hn hro s hr hs hf he hu
  cases segs with
  | cons p rest => obtain ⟨l, b⟩ := p; simp [flat] at hlen
  | nil =>
   obtain ⟨lst, st', tr, hp, hq, htr, hQ⟩ := h
   simp only [flat] at hleft hlen hf
   exact E7 hback hdst 0 [] lst listed st c W a ⟨st', tr, hq, htr, hQ⟩ (hleft.perm hp) (by simp only [flat]; rw [hp.length_eq]; exact hlen) hcl rfl hb hn hro s hr hs (fun i hi => hf i (hp.mem_iff.1 hi)) he hu
 | succ fuel ih =>
  intro segs last fl listed st c W a h hleft hlen hcl hbar hb hn hro s hr hs hf he hu
  cases segs with
  | nil =>
   obtain ⟨lst, st', tr, hp, hq, htr, hQ⟩ := h
   simp only [flat] at hleft hlen hf
   exact E7 hback hdst (fuel + 1) [] lst listed st c W a ⟨st', tr, hq, htr, hQ⟩ (hleft.perm hp) (by simp only [flat]; rw [hp.length_eq]; exact hlen) hcl rfl hb hn hro s hr hs (fun i hi => hf i (hp.mem_iff.1 hi)) he hu
  | cons p rest =>
   obtain ⟨l, b⟩ := p
   refine ⟨fun hrd => ?_, fun j hj => ?_⟩
   ·have hnil := E8 hback hleft hrd
    simp [flat] at hnil
   ·have hjl := yv hleft hj
    obtain ⟨hjlt, _, hpre⟩ := Cp hj
    have hjlt' : j < listed.size := by rw [hleft.1]; exact hjlt
    have hno : ∀ i ∈ fl ++ flat ((l, b) :: rest) last, aC ops ops.size i j = false := by
     intro i hi
     cases hbf : aC ops ops.size i j with
     | false => rfl
     | true =>
      have h1 := Cq hcl _ _ _ hpre hbf
      rw [hleft.unlisted hi] at h1
      cases h1
    have hcl' := hcl.set hpre hjlt'
    have hnd := hleft.2.1
    have hlt : ∀ i ∈ fl ++ flat ((l, b) :: rest) last, i < ops.size := fun i hi => ((hleft.2.2 i).1 hi).1
    obtain ⟨st', tr, k, hq, htr, hB⟩ := h
    have quiet : ∀ (o : Oper) (rd wr : List Nat) (s1 : St) (l' fl' : List Nat), ops[j]? = some o → QStep P G ops base j o st s1 rd wr → VF P G n ops base Q ((l', b) :: rest) last fl' s1 → fl' ++ flat ((l', b) :: rest) last = (fl ++ flat ((l, b) :: rest) last).erase j → barOk ops ((l', b) :: rest) last = true →
      wpOpIn (Fw ro) 0 P ops (Lift G n eA c0 W0 Q) j (wpAnyIn (Fw ro) 0 P .any ops (Lift G n eA c0 W0 Q) fuel (listed.setIfInBounds j true)) a W := by
     intro o rd wr s1 l' fl' ho hqj hd' hflat hbar'
     refine yw ho hqj s hr (by rw [hs]; exact oA hdst ho) (hf j hjl) (by omega) ?_
     intro a' W' c' he' hs' hr' hsz hu'
     refine ih ((l', b) :: rest) last fl' _ s1 c' W' a' hd' (by rw [hflat]; exact hleft.set hjl) ?_ hcl' hbar' (by rw [hqj.nx]; exact hb) hn (hro.ext he') hs' hr' (hsz.trans hs) ?_ (he.trans he') ?_
     ·rw [hflat, List.length_erase_of_mem hjl]; omega
     ·intro i hi hbad
      rw [hflat, hnd.mem_erase_iff] at hi
      rcases hu' _ hbad with h | h
      ·exact hf i hi.2 h
      ·exact hi.1 (by omega)
     ·intro β hβ
      rcases hu' β hβ with h | h
      ·exact hu β h
      ·right; omega
    simp only [barOk, Bool.and_eq_true, List.all_eq_true] at hbar
    by_cases hjf : j ∈ fl
    ·have hdis := List.nodup_append.1 hnd
     have hjn : j ∉ l := fun hm => hdis.2.2 j hjf j (by simp [flat, hm]) rfl
     cases k with
     | zero => rw [hB.1] at hjf; cases hjf
     | succ k =>
      obtain ⟨o, sm, rd, wr, ho, hqm, hpo, hB'⟩ := hB.2 j hjf (fun i hi => hno i (List.mem_append_left _ hi))
      obtain ⟨o2, E9, EA, s1, w5, EB, hqj, hqs, oB, hsub, _⟩ := (hq.snoc ho hqm).pull (j := j) (by simp) (Ui htr hpo) (fun i hi => by
       rcases List.mem_append.1 hi with hi | hi
       ·exact hno i (by simp [flat, hi])
       ·rw [List.mem_singleton.1 hi]; exact hno j hjl)
      have el : (l ++ [j]).erase j = l := by rw [List.erase_append_right _ hjn, List.erase_cons_head, List.append_nil]
      rw [el] at hqs
      refine quiet o2 E9 EA s1 l (fl.erase j) EB hqj ⟨sm, w5, k, hqs, oB, E4 k hB' hsub⟩ (List.erase_append_left _ hjf).symm ?_
      simp only [barOk, Bool.and_eq_true, List.all_eq_true]
      exact hbar
    ·have yx : j ∈ flat ((l, b) :: rest) last := by
      rcases List.mem_append.1 hjl with h | h
      ·exact absurd h hjf
      ·exact h
     by_cases hjm : j ∈ l
     ·obtain ⟨o2, E9, EA, s1, w5, EB, hqj, hqs, oB, hsub, _⟩ := hq.pull hjm htr (fun i hi => hno i (by simp [flat, hi]))
      refine quiet o2 E9 EA s1 (l.erase j) fl EB hqj ⟨st', w5, k, hqs, oB, E4 k hB hsub⟩ ?_ ?_
      ·rw [List.erase_append_right _ hjf]
       simp only [flat]
       rw [List.erase_append_left _ hjm]
      ·simp only [barOk, Bool.and_eq_true, List.all_eq_true]
       exact ⟨⟨fun i hi => hbar.1.1 i (List.mem_of_mem_erase hi), hbar.1.2⟩, hbar.2⟩
     ·simp only [flat] at yx
      have hjb : j = b := by
       rcases List.mem_append.1 yx with h | h
       ·exact absurd h hjm
       ·rcases List.mem_cons.1 h with h | h
        ·exact h
        ·have h1 := hbar.1.2 j h
         rw [hno b (by simp [flat])] at h1; cases h1
      subst hjb
      have hlnil : l = [] := by
       cases l with
       | nil => rfl
       | cons i l' =>
        have h1 := hbar.1.1 i (List.mem_cons_self ..)
        rw [hno i (by simp [flat])] at h1; cases h1
      subst hlnil
      cases hq
      have hst := E5 hB
      simp only [flat, List.nil_append] at hf hlt hnd hleft hlen hjl
      refine hst ro c W a _ _ hro s hr hs (hf j hjl) (by omega) ?_ ?_
      ·intro a' W' c' s1 he' hs' hr' hsz hu' hnx hk
       have her : (fl ++ j :: flat rest last).erase j = fl ++ flat rest last := by rw [List.erase_append_right _ hjf, List.erase_cons_head]
       have hmem : ∀ i ∈ fl ++ flat rest last, i ∈ fl ++ j :: flat rest last := by
        intro i hi
        rcases List.mem_append.1 hi with hi | hi
        ·exact List.mem_append_left _ hi
        ·exact List.mem_append_right _ (List.mem_cons_of_mem _ hi)
       refine ih rest last fl _ s1 c' W' a' hk (by have := hleft.set hjl; rwa [her] at this) (by simp at hlen ⊢; omega) hcl' hbar.2 (by omega) hn (hro.ext he') hs' hr' hsz ?_ (he.trans he') ?_
       ·intro i hi hbad
        have hi' := hlt i (hmem i hi)
        rcases hu' _ hbad with h | h | h
        ·exact hf i (hmem i hi) h
        ·have : i = j := by omega
         rw [← her, hnd.mem_erase_iff] at hi
         exact hi.1 this
        ·omega
       ·intro β hβ
        rcases hu' β hβ with h | h | h
        ·exact hu β h
        ·right; omega
        ·right; omega
      ·intro a' W' c' s1 x v he' hs' hr' hsz hu' hnx hv hq
       refine ⟨.panic x, c', s1, ⟨v, rfl, hv⟩, he.trans he', hs', hr', hsz, fun β hβ => ?_, by omega, hq⟩
       rcases hu' β hβ with h | h | h
       ·exact hu β h
       ·right; omega
       ·right; omega
end
end Go.V
namespace Go.V
open Go Go.Proofs IntKind
theorem VWp.regionFloat {P : Program} {G : Glob} {n id : Nat} {ops : Array Oper} {Q : VExit → St → Prop} {st : St} (hm : P.follows .mixedOrders = true) (segs : List (List Nat × Nat)) (last fl : List Nat)
  (hback : backOk ops = true) (hdst : dstsOk n ops = true) (hbar : barOk ops segs last = true) (hnd : (fl ++ flat segs last).Nodup) (hlen : (fl ++ flat segs last).length ≤ ops.size) (hmem : ∀ i, i ∈ fl ++ flat segs last ↔ i < ops.size)
  (h : VF P G n ops st.nx Q segs last fl { st with nx := st.nx + ops.size }) : VWp P G n (.region id ops true) Q st := by
 intro ro c W a hro s hr hs
 refine wpIn_region_any hm (E6 hback hdst ops.size segs last fl _ _ c W.drew a h ?_ hlen ?_ hbar (Nat.le_refl _) (Nat.le_refl _) (hro.ext (Ext.drew c W)) s.drew ?_ hs ?_ (Ext.drew c W) (fun _ h => .inl h))
 ·refine ⟨by simp, hnd, fun i => ?_⟩
  rw [hmem i]
  constructor
  ·intro hi; exact ⟨hi, by simp [hi]⟩
  ·intro hi; exact hi.1
 ·intro j hj
  exfalso
  by_cases hlt : j < ops.size
  ·simp [hlt] at hj
  ·simp [hlt] at hj
 ·have ab : Abides c W c W.drew := w7 rfl
  exact ⟨hr.H, fun t => Rep.abides ab _ (hr.tm t), fun β hb => Nat.lt_of_lt_of_le (hr.nx β hb) (Nat.le_add_right _ _), hr.df.abides ab, hr.G.abides ab⟩
 ·intro i _ hb
  have := hr.nx _ hb
  omega
def flR (P : Program) (G : Glob) (ops : Array Oper) (base : Nat) : Nat → List Oper → List Bool → Tr → (Tr → St → Prop) → St → Prop
 | i, o :: l, true :: mk, tr, K, st => dstepK P G ops (base + i) o st fun rd wr s => flR P G ops base (i + 1) l mk ((i, rd, wr) :: tr) K s
 | i, _ :: l, false :: mk, tr, K, st => flR P G ops base (i + 1) l mk tr K st
 | _, _, _, tr, K, st => K tr st
def idxM : Nat → List Bool → List Nat
 | _, [] => []
 | i, true :: mk => i :: idxM (i + 1) mk
 | i, false :: mk => idxM (i + 1) mk
theorem ue : ∀ {mk : List Bool} {i j : Nat}, j ∈ idxM i mk → i ≤ j
 | [], _, _, h => by cases h
 | true :: mk, i, j, h => by
  rcases List.mem_cons.1 h with rfl | h
  ·exact Nat.le_refl _
  ·exact Nat.le_of_succ_le (ue h)
 | false :: mk, i, j, h => Nat.le_of_succ_le (ue (mk := mk) h)
theorem EC : ∀ (mk : List Bool) (i : Nat), (idxM i mk).Pairwise (· < ·)
 | [], _ => List.Pairwise.nil
 | true :: mk, i => List.pairwise_cons.2 ⟨fun j hj => ue hj, EC mk (i + 1)⟩
 | false :: mk, i => EC mk (i + 1)
section
variable {P : Program} {G : Glob} {ops : Array Oper} {base : Nat} {Q : VExit → St → Prop} {n : Nat}
theorem w8 : ∀ (l : List Oper) (mk : List Bool) (i : Nat) (tr : Tr) (K : Tr → St → Prop) (st : St), (∀ k o, l[k]? = some o → ops[i + k]? = some o) → mk.length ≤ l.length → flR P G ops base i l mk tr K st →
  ∃ st' tr', QSteps P G ops base (idxM i mk) st st' tr' ∧ K (tr'.reverse ++ tr) st'
 | l, [], i, tr, K, st, _, _, h => ⟨st, [], .nil, by cases l <;> exact h⟩
 | [], _ :: _, _, _, _, _, _, hl, _ => by simp at hl
 | o :: l, true :: mk, i, tr, K, st, ho, hl, h => by
  obtain ⟨rd, wr, s1, hq, hk⟩ := Cr h
  obtain ⟨st', tr', hqs, hK⟩ := w8 l mk (i + 1) _ K s1 (fun k o' hk' => by have := ho (k + 1) o' (by simpa using hk'); rw [show i + 1 + k = i + (k + 1) by omega]; exact this) (by simpa using hl) hk
  exact ⟨st', (i, rd, wr) :: tr', .cons (by have := ho 0 o rfl; simpa using this) hq hqs, by simpa using hK⟩
 | o :: l, false :: mk, i, tr, K, st, ho, hl, h =>
  w8 l mk (i + 1) tr K st (fun k o' hk' => by have := ho (k + 1) o' (by simpa using hk'); rw [show i + 1 + k = i + (k + 1) by omega]; exact this) (by simpa using hl) h
def flB (P : Program) (G : Glob) (ops : Array Oper) (base : Nat) (Q : VExit → St → Prop) (l : List Oper) (b : Nat) (K : St → Prop) (st : St) : Prop := match l.drop b with
 | o :: _ => stepK P G ops (base + b) o st K (fun x s => Q (.panic x) s)
 | [] => False
def flD (P : Program) (G : Glob) (ops : Array Oper) (base : Nat) (l : List Oper) (m : Nat) (st : St) (K : List Nat → List Nat → St → Prop) : Prop := match l.drop m with
 | o :: _ => dstepK P G ops (base + m) o st K
 | [] => False
def flGo (P : Program) (G : Glob) (ops : Array Oper) (base : Nat) (Q : VExit → St → Prop) (l : List Oper) (m : Nat) (mE mL : List Bool) : List (List Bool × Nat) → Bool → St → Prop
 | [], true, st => flR P G ops base 0 l mL [] (fun tr s => traceR ops tr ∧ Q .normal s) st
 | [], false, st => flR P G ops base 0 l mE [] (fun tr s => traceR ops tr ∧ Q .normal s) st
 | (mk, b) :: rest, false, st => flR P G ops base 0 l mk [] (fun tr s => traceR ops tr ∧ flB P G ops base Q l b (flGo P G ops base Q l m mE mL rest false) s) st
 | (mk, b) :: rest, true, st => flR P G ops base 0 l mk [] (fun tr s => traceR ops tr ∧ (flB P G ops base Q l b (flGo P G ops base Q l m mE mL rest true) s ∧
   flD P G ops base l m s (fun rd wr s' => hitK ops m rd wr tr ∧ flB P G ops base Q l b (flGo P G ops base Q l m mE mL rest false) s'))) st
def segsI (segs : List (List Bool × Nat)) : List (List Nat × Nat) := segs.map fun p => (idxM 0 p.1, p.2)
def apartM (ops : Array Oper) (m : Nat) (segs : List (List Bool × Nat)) : Bool := segs.all fun p => (idxM 0 p.1).all fun i => aC ops ops.size i m || (match ops[i]?, ops[m]? with
 | some o, some o' => o.apart ops o'
 | _, _ => true)
def shortM (k : Nat) (segs : List (List Bool × Nat)) : Bool := segs.all fun p => decide (p.1.length ≤ k)
theorem ED {l : List Oper} {b : Nat} {K : St → Prop} {st : St} (hl : ∀ (k : Nat) (o : Oper), l[k]? = some o → ops[k]? = some o) (hd : dstsOk n ops = true) (h : flB P G ops base Q l b K st) : aS P G n ops base b st K (fun x s => Q (.panic x) s) := by
 unfold flB at h
 cases e : l.drop b with
 | nil => rw [e] at h; exact h.elim
 | cons o l2 =>
  rw [e] at h
  have ho : l[b]? = some o := by
   have : (l.drop b)[0]? = some o := by rw [e]; rfl
   simpa using this
  exact EE (hl b o ho) hd h
theorem EF {l : List Oper} {m : Nat} {K : List Nat → List Nat → St → Prop} {st : St} (hl : ∀ (k : Nat) (o : Oper), l[k]? = some o → ops[k]? = some o) (h : flD P G ops base l m st K) : ∃ o rd wr st', ops[m]? = some o ∧ QStep P G ops base m o st st' rd wr ∧ K rd wr st' := by
 unfold flD at h
 cases e : l.drop m with
 | nil => rw [e] at h; exact h.elim
 | cons o l2 =>
  rw [e] at h
  have ho : l[m]? = some o := by
   have : (l.drop m)[0]? = some o := by rw [e]; rfl
   simpa using this
  obtain ⟨rd, wr, st', h1, h2⟩ := Cr h
  exact ⟨o, rd, wr, st', hl m o ho, h1, h2⟩
theorem EG {l : List Oper} {m : Nat} {mE mL : List Bool} (hl : ∀ (k : Nat) (o : Oper), l[k]? = some o → ops[k]? = some o) (hd : dstsOk n ops = true) (hap : apartOk ops = true) (hE : mE.length ≤ l.length) (hL : mL.length ≤ l.length) (hp : (idxM 0 mL).Perm (m :: idxM 0 mE)) :
  ∀ (segs : List (List Bool × Nat)) (pend : Bool) (st : St), apartM ops m segs = true → shortM l.length segs = true → flGo P G ops base Q l m mE mL segs pend st → VF P G n ops base Q (segsI segs) (idxM 0 mE) (if pend then [m] else []) st := by
 have nM : ∀ (k : Nat) (o : Oper), l[k]? = some o → ops[0 + k]? = some o := fun k o h => by rw [Nat.zero_add]; exact hl k o h
 have tok : ∀ {mk : List Bool} {st st' : St} {tr : Tr}, QSteps P G ops base (idxM 0 mk) st st' tr → traceR ops (tr.reverse ++ []) → TraceOk ops tr := by
  intro mk st st' tr hq h
  refine wA hap tr ?_ (by simpa using EH h)
  rw [hq.fst]
  exact EC mk 0
 intro segs
 induction segs with
 | nil =>
  intro pend st _ _ h
  cases pend with
  | true =>
   obtain ⟨st', tr, hq, ht, hQ⟩ := w8 l mL 0 [] _ st nM hL h
   exact ⟨_, st', tr, hp, hq, tok hq ht, hQ⟩
  | false =>
   obtain ⟨st', tr, hq, ht, hQ⟩ := w8 l mE 0 [] _ st nM hE h
   exact ⟨_, st', tr, List.Perm.refl _, hq, tok hq ht, hQ⟩
 | cons p rest ih =>
  obtain ⟨mk, b⟩ := p
  intro pend st ha hs h
  unfold apartM at ha
  unfold shortM at hs
  simp only [List.all_cons, Bool.and_eq_true] at ha hs
  have hmk : mk.length ≤ l.length := of_decide_eq_true hs.1
  cases pend with
  | false =>
   obtain ⟨st', tr, hq, ht, hB⟩ := w8 l mk 0 [] _ st nM hmk h
   exact ⟨st', tr, 0, hq, tok hq ht, rfl, (ED hl hd hB).mono (fun s hs' => ih false s ha.2 hs.2 hs') (fun _ _ h => h)⟩
  | true =>
   obtain ⟨st', tr, hq, ht, hB, hD⟩ := w8 l mk 0 [] _ st nM hmk h
   refine ⟨st', tr, 1, hq, tok hq ht, (ED hl hd hB).mono (fun s hs' => ih true s ha.2 hs.2 hs') (fun _ _ h => h), fun m' hm' _ => ?_⟩
   have em : m' = m := by simpa using hm'
   subst em
   obtain ⟨o, rd, wr, s1, ho, hqm, hk, Uj⟩ := EF hl hD
   refine ⟨o, s1, rd, wr, ho, hqm, fun p hp' => ?_, by simp, (ED hl hd Uj).mono (fun s hs' => ?_) (fun _ _ h => h)⟩
   ·rcases EI hk p (by simpa using hp') with hb | hi
    ·exact .inl hb
    ·cases hbb : aC ops ops.size p.1 m' with
     | true => exact .inl hbb
     | false =>
      refine .inr ⟨hi, fun o1 o2 h1 h2 => ?_⟩
      have hpm : p.1 ∈ idxM 0 mk := by rw [← hq.fst]; exact List.mem_map_of_mem hp'
      have := (List.all_eq_true.1 ha.1) p.1 hpm
      simpa [hbb, h1, h2] using this
   ·have := ih false s ha.2 hs.2 hs'
    show VF P G n ops base Q (segsI rest) (idxM 0 mE) ([m'].erase m') s
    rw [List.erase_cons_head]
    exact this
def floatOk (n : Nat) (ops : Array Oper) (m : Nat) (segs : List (List Bool × Nat)) (mE mL : List Bool) : Bool :=
 backOk ops && dstsOk n ops && barOk ops (segsI segs) (idxM 0 mE) && apartOk ops && apartM ops m segs && shortM ops.size segs && decide (mE.length ≤ ops.size) && decide (mL.length ≤ ops.size) && decide ((idxM 0 mL).Perm (m :: idxM 0 mE)) &&
 decide ((m :: flat (segsI segs) (idxM 0 mE)).Nodup) && decide ((m :: flat (segsI segs) (idxM 0 mE)).length ≤ ops.size) && ((m :: flat (segsI segs) (idxM 0 mE)).all fun i => decide (i < ops.size)) && ((List.range ops.size).all fun i => decide (i ∈ m :: flat (segsI segs) (idxM 0 mE)))
theorem QI (hm : P.follows .mixedOrders = true) {id : Nat} {l : List Oper} {tm : Nat → VV} {H : Nat → Option VObj} {nx : Nat} {df : List VDef}
  (m : Nat) (segs : List (List Bool × Nat)) (mE mL : List Bool) (hstat : floatOk n ⟨l⟩ m segs mE mL = true) (h : flGo P G ⟨l⟩ nx Q l m mE mL segs true ⟨tm, H, nx + l.length, df⟩) : CWp P G n (.region id ⟨l⟩ true) Q ⟨tm, H, nx, df⟩ := by
 unfold floatOk at hstat
 simp only [Bool.and_eq_true, decide_eq_true_eq, List.all_eq_true, List.mem_range] at hstat
 obtain ⟨⟨⟨⟨⟨⟨⟨⟨⟨⟨⟨⟨h1, h2⟩, h3⟩, h4⟩, h5⟩, h6⟩, h7⟩, h8⟩, h9⟩, yy⟩, Uk⟩, Ul⟩, Um⟩ := hstat
 refine .inr (VWp.regionFloat hm (segsI segs) (idxM 0 mE) [m] h1 h2 h3 yy Uk (fun i => ⟨fun hi => Ul i hi, fun hi => Um i hi⟩) ?_)
 have := EG (P := P) (G := G) (base := nx) (Q := Q) (n := n) (ops := ⟨l⟩) (l := l) (fun k o ho => by simpa using ho) h2 h4 h7 h8 h9 segs true _ h5 h6 h
 simpa using this
end
section
variable {P : Program} {G : Glob} {ops : Array Oper} {base : Nat} {Q : VExit → St → Prop} {n : Nat} {i m b : Nat} {o : Oper} {l l2 : List Oper} {mk mE mL : List Bool} {tr : Tr} {K : Tr → St → Prop} {tm : Nat → VV} {H : Nat → Option VObj} {nx : Nat} {df : List VDef} {st : St} {rest : List (List Bool × Nat)}
theorem flR_t : flR P G ops base i (o :: l) (true :: mk) tr K ⟨tm, H, nx, df⟩ = dstepK P G ops (base + i) o ⟨tm, H, nx, df⟩ fun rd wr s => flR P G ops base (i + 1) l mk ((i, rd, wr) :: tr) K s := rfl
theorem flR_f : flR P G ops base i (o :: l) (false :: mk) tr K ⟨tm, H, nx, df⟩ = flR P G ops base (i + 1) l mk tr K ⟨tm, H, nx, df⟩ := rfl
theorem jW (h : K tr st) : flR P G ops base i [] [] tr K st := h
theorem sE {K : St → Prop} (ho : l.drop b = o :: l2) (h : stepK P G ops (base + b) o st K (fun x s => Q (.panic x) s)) : flB P G ops base Q l b K st := by unfold flB; rw [ho]; exact h
theorem qT {K : List Nat → List Nat → St → Prop} (ho : l.drop m = o :: l2) (h : dstepK P G ops (base + m) o st K) : flD P G ops base l m st K := by unfold flD; rw [ho]; exact h
theorem Cs (h : flR P G ops base 0 l mL [] (fun tr s => traceR ops tr ∧ Q .normal s) st) : flGo P G ops base Q l m mE mL [] true st := h
theorem Ct (h : flR P G ops base 0 l mE [] (fun tr s => traceR ops tr ∧ Q .normal s) st) : flGo P G ops base Q l m mE mL [] false st := h
theorem QJ (h : flR P G ops base 0 l mk [] (fun tr s => traceR ops tr ∧ (flB P G ops base Q l b (flGo P G ops base Q l m mE mL rest true) s ∧
   flD P G ops base l m s (fun rd wr s' => hitK ops m rd wr tr ∧ flB P G ops base Q l b (flGo P G ops base Q l m mE mL rest false) s'))) st) : flGo P G ops base Q l m mE mL ((mk, b) :: rest) true st := h
end
end Go.V
namespace Go.V
set_option linter.defProp false
def flr := (And.intro @flR_t @flR_f)
end Go.V
end
