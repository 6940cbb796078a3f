/- Part of a proof. -/
import Derived.Test.YtekhjalgmlflpaaGreatDoorWbh
set_option linter.all false
set_option maxRecDepth 4000
set_option maxHeartbeats 40000000
section
namespace Go.V
open Go
def dot {α : Type} (f : α → Int) : List Int → List α → Int
 | m :: ms, t :: ts => m * f t + dot f ms ts
 | _, _ => 0
theorem dot_b {α : Type} {f : α → Int} : ∀ (ms : List Int) (ts : List α), (∀ e ∈ ms, 0 ≤ e ∧ e ≤ 8) → (∀ t ∈ ts, 0 ≤ f t ∧ f t ≤ 99) → 0 ≤ dot f ms ts ∧ dot f ms ts ≤ 99 * sumL ms
 | [], _, _, _ => by simp [dot, sumL]
 | e :: ms, [], h, _ => by
  have := (zaot h).1
  simp only [dot]
  omega
 | e :: ms, t :: ts, h, h2 => by
  have h1 := h e (List.mem_cons_self ..)
  have h3 := h2 t (List.mem_cons_self ..)
  have ih := dot_b ms ts (fun x hx => h x (List.mem_cons_of_mem _ hx)) (fun x hx => h2 x (List.mem_cons_of_mem _ hx))
  have h4 := mulR h1.1 (Int.le_refl e) h3.1 h3.2
  simp only [dot, sumL]
  omega
theorem zabt {α β : Type} {f : α → Int} {g : β → Int} : ∀ (ms : List Int) (ts : List α) (us : List β), ts.length = us.length → (∀ e ∈ ms, 0 ≤ e ∧ e ≤ 8) → (∀ (i : Nat) t u, ts[i]? = some t → us[i]? = some u → f t ≤ g u) → dot f ms ts ≤ dot g ms us
 | [], _, _, _, _, _ => by simp [dot]
 | e :: ms, [], [], _, _, _ => by simp [dot]
 | e :: ms, t :: ts, u :: us, hl, h, h2 => by
  have h1 := h e (List.mem_cons_self ..)
  have h3 := h2 0 t u rfl rfl
  have ih := zabt ms ts us (by simpa using hl) (fun x hx => h x (List.mem_cons_of_mem _ hx)) (fun i a b ha hb => h2 (i + 1) a b (by simpa using ha) (by simpa using hb))
  have h4 := Int.mul_le_mul_of_nonneg_left h3 h1.1
  simp only [dot]
  omega
 | _ :: _, [], _ :: _, hl, _, _ => by simp at hl
 | _ :: _, _ :: _, [], hl, _, _ => by simp at hl
def lowT (p : P3) (t : Gt) : Int := (selS t.pg p).Low
def highT (p : P3) (t : Gt) : Int := (selS t.pg p).High
theorem zaat (x : Gm) (p : P3) : ∀ (ms : List Int) (ts : List Gt) (c acc : Int), 0 ≤ c → List.drop c.toNat x.sh.Tins = ts → ms.length ≤ ts.length → (∀ e ∈ ms, 0 ≤ e ∧ e ≤ 8) → (∀ t ∈ ts, 0 ≤ lowT p t ∧ lowT p t ≤ 99) → 0 ≤ acc → acc + 792 * ms.length ≤ 1000000 →
  zbi x p.i ms c acc = some (.go (acc + dot (lowT p) ms ts))
 | [], ts, c, acc, _, _, _, _, _, _, _ => by simp [zbi, dot]
 | e :: ms, [], _, _, _, _, hl, _, _, _, _ => by simp at hl
 | e :: ms, t :: ts, c, acc, h0, hd, hl, h, h2, ha, hb => by
  have h1 := h e (List.mem_cons_self ..)
  have h3 := h2 t (List.mem_cons_self ..)
  have h4 := mulR h1.1 h1.2 h3.1 h3.2
  simp only [List.length_cons] at hb hl
  have ih := zaat x p ms ts (c + 1) (acc + e * lowT p t) (by omega) (zbr h0 hd) (by omega) (fun x hx => h x (List.mem_cons_of_mem _ hx)) (fun x hx => h2 x (List.mem_cons_of_mem _ hx)) (by omega) (by omega)
  simp only [zbi, zbb h0 hd, Option.bind_some]
  have hw : IntKind.i64.wrap (acc + IntKind.i64.wrap (e * lowT p t)) = acc + e * lowT p t := by rw [zbk (n := e * lowT p t) (by omega) (by omega), zbk (by omega) (by omega)]
  have hg : acc + e * lowT p t + dot (lowT p) ms ts = acc + dot (lowT p) (e :: ms) (t :: ts) := by simp only [dot]; omega
  rw [hg] at ih
  cases p <;> simp only [P3.i, Int.reduceBEq, cond_true, cond_false] <;> simp only [lowT, selS] at hw <;> rw [hw] <;> exact ih
theorem zqk (x : Gm) (p : P3) : ∀ (ms : List Int) (ts : List Gt) (c acc : Int), 0 ≤ c → List.drop c.toNat x.sh.Tins = ts → ms.length ≤ ts.length → (∀ e ∈ ms, 0 ≤ e ∧ e ≤ 8) → (∀ t ∈ ts, 0 ≤ highT p t ∧ highT p t ≤ 99) → 0 ≤ acc → acc + 792 * ms.length ≤ 1000000 →
  zaz x p.i ms c acc = some (.go (acc + dot (highT p) ms ts))
 | [], ts, c, acc, _, _, _, _, _, _, _ => by simp [zaz, dot]
 | e :: ms, [], _, _, _, _, hl, _, _, _, _ => by simp at hl
 | e :: ms, t :: ts, c, acc, h0, hd, hl, h, h2, ha, hb => by
  have h1 := h e (List.mem_cons_self ..)
  have h3 := h2 t (List.mem_cons_self ..)
  have h4 := mulR h1.1 h1.2 h3.1 h3.2
  simp only [List.length_cons] at hb hl
  have ih := zqk x p ms ts (c + 1) (acc + e * highT p t) (by omega) (zbr h0 hd) (by omega) (fun x hx => h x (List.mem_cons_of_mem _ hx)) (fun x hx => h2 x (List.mem_cons_of_mem _ hx)) (by omega) (by omega)
  simp only [zaz, zbb h0 hd, Option.bind_some]
  have hw : IntKind.i64.wrap (acc + IntKind.i64.wrap (e * highT p t)) = acc + e * highT p t := by rw [zbk (n := e * highT p t) (by omega) (by omega), zbk (by omega) (by omega)]
  have hg : acc + e * highT p t + dot (highT p) ms ts = acc + dot (highT p) (e :: ms) (t :: ts) := by simp only [dot]; omega
  rw [hg] at ih
  cases p <;> simp only [P3.i, Int.reduceBEq, cond_true, cond_false] <;> simp only [highT, selS] at hw <;> rw [hw] <;> exact ih
theorem ShOk.low {s : Gs} (h : ShOk s) (p : P3) : ∀ t ∈ s.Tins, 0 ≤ lowT p t ∧ lowT p t ≤ 99 := fun t ht => by
 have := h.tin t ht p
 unfold lowT
 omega
theorem ShOk.high {s : Gs} (h : ShOk s) (p : P3) : ∀ t ∈ s.Tins, 0 ≤ highT p t ∧ highT p t ≤ 99 := fun t ht => by
 have := h.tin t ht p
 unfold highT
 omega
def sumsP (s : Gs) (mix : List Int) (p : P3) : GSpan := ⟨dot (lowT p) mix s.Tins, dot (highT p) mix s.Tins⟩
def sumsS (s : Gs) (mix : List Int) : Ga := ⟨sumsP s mix .p0, sumsP s mix .p1, sumsP s mix .p2⟩
theorem zvn {s : Gs} (hs : ShOk s) {mix : List Int} (hm : MixOk s mix) (p : P3) : zcr ⟨s, mix⟩ p.i = some (dot (lowT p) mix s.Tins) := by
 have hl := hs.n
 have hn := hm.n
 unfold zcr
 rw [zir (by show mix.length < _; omega)]
 have := zaat ⟨s, mix⟩ p mix s.Tins 0 0 (Int.le_refl _) rfl (by omega) hm.b (hs.low p) (Int.le_refl _) (by omega)
 simp only [cond_true]
 rw [this]
 simp [lbind]
theorem zmg {s : Gs} (hs : ShOk s) {mix : List Int} (hm : MixOk s mix) (p : P3) : zbx ⟨s, mix⟩ p.i = some (dot (highT p) mix s.Tins) := by
 have hl := hs.n
 have hn := hm.n
 unfold zbx
 rw [zir (by show mix.length < _; omega)]
 have := zqk ⟨s, mix⟩ p mix s.Tins 0 0 (Int.le_refl _) rfl (by omega) hm.b (hs.high p) (Int.le_refl _) (by omega)
 simp only [cond_true]
 rw [this]
 simp [lbind]
theorem zads {s : Gs} (hs : ShOk s) {mix : List Int} (hm : MixOk s mix) : zdr ⟨s, mix⟩ = some (sumsS s mix) := by
 unfold zdr
 have a0 := zvn hs hm .p0
 have a1 := zvn hs hm .p1
 have a2 := zvn hs hm .p2
 have b0 := zmg hs hm .p0
 have b1 := zmg hs hm .p1
 have b2 := zmg hs hm .p2
 simp only [P3.i] at a0 a1 a2 b0 b1 b2
 rw [a0, a1, a2, b0, b1, b2]
 rfl
theorem zwo {s : Gs} (hs : ShOk s) {mix : List Int} (hm : MixOk s mix) : zcj ⟨s, mix⟩ = some (sumL mix) := by
 have hl := hs.n
 have hn := hm.n
 unfold zcj
 rw [zafa hm.b (by omega)]
 rfl
def leftI (old y f : Int) : Int := if 0 < old - y * f then old - y * f else 0
theorem zqm {old y f : Int} (h1 : 0 ≤ old ∧ old ≤ 99) (h2 : 0 ≤ y ∧ y ≤ 20) (h3 : 0 ≤ f ∧ f ≤ 9) : zcn old y f = some (leftI old y f) := by
 have := mulR h2.1 h2.2 h3.1 h3.2
 unfold zcn leftI
 rw [zbk (n := y * f) (by omega) (by omega), zbk (by omega) (by omega)]
theorem zaeo {old y f : Int} (h1 : 0 ≤ old ∧ old ≤ 99) (h2 : 0 ≤ y) (h3 : 0 ≤ f) : 0 ≤ leftI old y f ∧ leftI old y f ≤ old := by
 have := Int.mul_nonneg h2 h3
 unfold leftI
 split <;> omega
theorem zacm {old y f y' f' : Int} (h2 : 0 ≤ y) (h : y ≤ y') (h3 : 0 ≤ f) (h' : f ≤ f') : leftI old y' f' ≤ leftI old y f := by
 have h4 : y * f ≤ y' * f' := Int.mul_le_mul h h' h3 (by omega)
 unfold leftI
 split <;> split <;> omega
def aimP (s : Gs) (p : P3) : GSpan := ⟨leftI (selI s.Old p) s.Years.High (selS s.Fade p).High, leftI (selI s.Old p) s.Years.Low (selS s.Fade p).Low⟩
def aimS (s : Gs) : Ga := ⟨aimP s .p0, aimP s .p1, aimP s .p2⟩
theorem zwi {s : Gs} (hs : ShOk s) (p : P3) : zcn (selI s.Old p) s.Years.High (selS s.Fade p).High = some (aimP s p).Low := by
 have h1 := hs.old p
 have h2 := hs.yrs
 have h3 := hs.fade p
 exact zqm h1 (by omega) (by omega)
theorem zsg {s : Gs} (hs : ShOk s) (p : P3) : zcn (selI s.Old p) s.Years.Low (selS s.Fade p).Low = some (aimP s p).High := by
 have h1 := hs.old p
 have h2 := hs.yrs
 have h3 := hs.fade p
 exact zqm h1 (by omega) (by omega)
theorem zapu {s : Gs} (hs : ShOk s) : zfr s = some (aimS s) := by
 have a0 := zwi hs .p0
 have a1 := zwi hs .p1
 have a2 := zwi hs .p2
 have b0 := zsg hs .p0
 have b1 := zsg hs .p1
 have b2 := zsg hs .p2
 simp only [selI, selS] at a0 a1 a2 b0 b1 b2
 unfold zfr
 rw [a0, a1, a2, b0, b1, b2]
 rfl
theorem zasf {s : Gs} (hs : ShOk s) (p : P3) : 0 ≤ (aimP s p).Low ∧ (aimP s p).Low ≤ (aimP s p).High ∧ (aimP s p).High ≤ 99 := by
 have h1 := hs.old p
 have h2 := hs.yrs
 have h3 := hs.fade p
 have h4 := zaeo (y := s.Years.High) (f := (selS s.Fade p).High) h1 (by omega) (by omega)
 have h5 := zaeo (y := s.Years.Low) (f := (selS s.Fade p).Low) h1 (by omega) (by omega)
 have h6 := zacm (old := selI s.Old p) (y := s.Years.Low) (y' := s.Years.High) (f := (selS s.Fade p).Low) (f' := (selS s.Fade p).High) (by omega) (by omega) (by omega) (by omega)
 unfold aimP
 simp only
 omega
theorem zin {s : Gs} (hs : ShOk s) (p : P3) {y f : Int} (h2 : 0 ≤ y ∧ y ≤ 20) (h3 : 0 ≤ f ∧ f ≤ 9) : zci s p.i y f = some (leftI (selI s.Old p) y f) := by
 have h1 := hs.old p
 have h := zqm h1 h2 h3
 unfold zcn at h
 unfold zci
 cases p <;> simp only [P3.i, Int.reduceBEq, cond_true, cond_false] <;> exact h
theorem zaqb {s : Gs} (hs : ShOk s) : zhv s = some (aimS s) := by
 have hy := hs.yrs
 have f0 := hs.fade .p0
 have f1 := hs.fade .p1
 have f2 := hs.fade .p2
 simp only [selS] at f0 f1 f2
 have a0 := zin hs .p0 (y := s.Years.High) (f := s.Fade.a0.High) (by omega) (by omega)
 have a1 := zin hs .p1 (y := s.Years.High) (f := s.Fade.a1.High) (by omega) (by omega)
 have a2 := zin hs .p2 (y := s.Years.High) (f := s.Fade.a2.High) (by omega) (by omega)
 have b0 := zin hs .p0 (y := s.Years.Low) (f := s.Fade.a0.Low) (by omega) (by omega)
 have b1 := zin hs .p1 (y := s.Years.Low) (f := s.Fade.a1.Low) (by omega) (by omega)
 have b2 := zin hs .p2 (y := s.Years.Low) (f := s.Fade.a2.Low) (by omega) (by omega)
 simp only [P3.i] at a0 a1 a2 b0 b1 b2
 unfold zhv
 rw [show Int.toNat (3 - 0) = 3 from rfl, show boundOk 3 = true from rfl]
 simp only [zeg, Int.reduceAdd, Int.reduceBEq, cond_true, cond_false, a0, a1, a2, b0, b1, b2, Option.bind_some, lbind]
 rfl
theorem zry (s : Gs) (p : P3) : ∀ (ms : List Int) (ts : List Gt) (c o0 o1 o2 o3 o4 o5 : Int) (A : Int × Int), 0 ≤ c → List.drop c.toNat s.Tins = ts → ms.length ≤ ts.length → (∀ e ∈ ms, 0 ≤ e ∧ e ≤ 8) → (∀ t ∈ ts, 0 ≤ lowT p t ∧ lowT p t ≤ 99) → (∀ t ∈ ts, 0 ≤ highT p t ∧ highT p t ≤ 99) →
  A = (match p with | .p0 => (o0, o1) | .p1 => (o2, o3) | .p2 => (o4, o5)) → 0 ≤ A.1 → 0 ≤ A.2 → A.1 + 792 * ms.length ≤ 1000000 → A.2 + 792 * ms.length ≤ 1000000 →
  zct s p.i ms c o0 o1 o2 o3 o4 o5 = some (.go (match p with
   | .p0 => (o0 + dot (lowT p) ms ts, o1 + dot (highT p) ms ts, o2, o3, o4, o5)
   | .p1 => (o0, o1, o2 + dot (lowT p) ms ts, o3 + dot (highT p) ms ts, o4, o5)
   | .p2 => (o0, o1, o2, o3, o4 + dot (lowT p) ms ts, o5 + dot (highT p) ms ts)))
 | [], ts, c, o0, o1, o2, o3, o4, o5, A, _, _, _, _, _, _, _, _, _, _, _ => by cases p <;> simp [zct, dot]
 | e :: ms, [], _, _, _, _, _, _, _, _, _, _, hl, _, _, _, _, _, _, _, _ => by simp at hl
 | e :: ms, t :: ts, c, o0, o1, o2, o3, o4, o5, A, h0, hd, hl, h, h2, h2', hA, ha, ha', hb, hb' => by
  have h1 := h e (List.mem_cons_self ..)
  have h3 := h2 t (List.mem_cons_self ..)
  have h3' := h2' t (List.mem_cons_self ..)
  have h4 := mulR h1.1 h1.2 h3.1 h3.2
  have h4' := mulR h1.1 h1.2 h3'.1 h3'.2
  simp only [List.length_cons] at hb hb' hl
  simp only [zct, zbb h0 hd, Option.bind_some]
  have ih := fun o0 o1 o2 o3 o4 o5 A => zry s p ms ts (c + 1) o0 o1 o2 o3 o4 o5 A (by omega) (zbr h0 hd) (by omega) (fun x hx => h x (List.mem_cons_of_mem _ hx)) (fun x hx => h2 x (List.mem_cons_of_mem _ hx)) (fun x hx => h2' x (List.mem_cons_of_mem _ hx))
  have hw : IntKind.i64.wrap (A.1 + IntKind.i64.wrap (e * lowT p t)) = A.1 + e * lowT p t := by rw [zbk (n := e * lowT p t) (by omega) (by omega), zbk (by omega) (by omega)]
  have hw' : IntKind.i64.wrap (A.2 + IntKind.i64.wrap (e * highT p t)) = A.2 + e * highT p t := by rw [zbk (n := e * highT p t) (by omega) (by omega), zbk (by omega) (by omega)]
  cases p <;> simp only at hA <;> subst hA <;> simp only [P3.i, Int.reduceBEq, cond_true, cond_false] <;> simp only [lowT, highT, selS] at hw hw' ha ha' hb hb' h4 h4' <;> rw [hw, hw']
  ·have := ih (o0 + e * t.pg.a0.Low) (o1 + e * t.pg.a0.High) o2 o3 o4 o5 _ rfl (by simp only; omega) (by simp only; omega) (by simp only; omega) (by simp only; omega)
   simp only [P3.i] at this
   rw [this]
   simp only [dot, lowT, highT, selS, Int.add_assoc]
  ·have := ih o0 o1 (o2 + e * t.pg.a1.Low) (o3 + e * t.pg.a1.High) o4 o5 _ rfl (by simp only; omega) (by simp only; omega) (by simp only; omega) (by simp only; omega)
   simp only [P3.i] at this
   rw [this]
   simp only [dot, lowT, highT, selS, Int.add_assoc]
  ·have := ih o0 o1 o2 o3 (o4 + e * t.pg.a2.Low) (o5 + e * t.pg.a2.High) _ rfl (by simp only; omega) (by simp only; omega) (by simp only; omega) (by simp only; omega)
   simp only [P3.i] at this
   rw [this]
   simp only [dot, lowT, highT, selS, Int.add_assoc]
theorem zaee {s : Gs} (hs : ShOk s) {mix : List Int} (hm : MixOk s mix) : zfz s mix = some (sumsS s mix) := by
 have hl := hs.n
 have hn := hm.n
 have e0 := zry s .p0 mix s.Tins 0 0 0 0 0 0 0 (0, 0) (Int.le_refl _) rfl (by omega) hm.b (hs.low _) (hs.high _) rfl (Int.le_refl _) (Int.le_refl _) (by simp only; omega) (by simp only; omega)
 have e1 := fun a b => zry s .p1 mix s.Tins 0 a b 0 0 0 0 (0, 0) (Int.le_refl _) rfl (by omega) hm.b (hs.low _) (hs.high _) rfl (Int.le_refl _) (Int.le_refl _) (by simp only; omega) (by simp only; omega)
 have e2 := fun a b c d => zry s .p2 mix s.Tins 0 a b c d 0 0 (0, 0) (Int.le_refl _) rfl (by omega) hm.b (hs.low _) (hs.high _) rfl (Int.le_refl _) (Int.le_refl _) (by simp only; omega) (by simp only; omega)
 simp only [P3.i] at e0 e1 e2
 unfold zfz
 rw [show Int.toNat (3 - 0) = 3 from rfl, show boundOk 3 = true from rfl]
 simp only [zff, zir (show mix.length < 9223372036854775808 by omega), Int.reduceAdd, cond_true, e0, e1, e2, lbind, Int.zero_add]
 rfl
end Go.V
end
section
namespace Go.V
open Go Go.Proofs
end Go.V
end
section
namespace Go.V
open Go Go.Proofs
end Go.V
end
section
namespace Go.V
open Go Go.Proofs
end Go.V
end
section
set_option linter.defProp false
namespace Go.V
open Go
section
variable {P : Program} {H : Nat → Option VObj} {t : TypeId} {x y : Operand} {k : IntKind} {a b : Int}
theorem zarc (h : (b != 0) = true) : binV P H .quo t x y (.lit (.int k a)) (.lit (.int k b)) = some (.lit (.int k (k.wrap (a.tdiv b)))) := by
 have : b ≠ 0 := by simpa using h
 simp [binV, VV.val?, vbin, ofVal, ofVal2, ofVal1, this]
theorem zank (h : (b != 0) = true) : binV P H .rem t x y (.lit (.int k a)) (.lit (.int k b)) = some (.lit (.int k (a.tmod b))) := by
 have : b ≠ 0 := by simpa using h
 simp [binV, VV.val?, vbin, ofVal, ofVal2, ofVal1, this]
theorem zase : unV P .neg (.lit (.int k a)) = some (.lit (.int k (k.wrap (-a)))) := by simp [unV, VV.val?, Op.unary, Op.intArith, zbw, ofVal, ofVal2, ofVal1]
theorem zane {a b : ByteArray} : binV P H .eql t x y (.lit (.string a)) (.lit (.string b)) = some (.lit (.bool (a.toList == b.toList))) := by simp [binV, VV.val?, vbin, ofVal, ofVal2, ofVal1]
theorem zanv {a b : ByteArray} : binV P H .neq t x y (.lit (.string a)) (.lit (.string b)) = some (.lit (.bool (!(a.toList == b.toList)))) := by simp [binV, VV.val?, vbin, ofVal, ofVal2, ofVal1]
def qr := And.intro @zarc (And.intro @zank (And.intro @zase (And.intro @zane @zanv)))
end
end Go.V
end
section
namespace Go.V
open Go Go.Proofs
def zbh (x0_x : Gm) (xpg : Int) : Option (Int) := Option.bind (zdr x0_x) (fun r1 => cond (xpg == 0) (Option.bind (zfr x0_x.sh) (fun r2 => Option.bind (zcj x0_x) (fun r3 => cond ((r3 != 0)) (some (IntKind.i64.wrap (Int.tdiv (IntKind.i64.wrap ((IntKind.i64.wrap ((if (IntKind.i64.wrap (r1.a0.High - (IntKind.i64.wrap (r3 * r2.a0.Low)))) < (IntKind.i64.wrap ((IntKind.i64.wrap (r3 * r2.a0.High)) - r1.a0.Low)) then (IntKind.i64.wrap ((IntKind.i64.wrap (r3 * r2.a0.High)) - r1.a0.Low)) else (IntKind.i64.wrap (r1.a0.High - (IntKind.i64.wrap (r3 * r2.a0.Low))))) + r3)) - 1)) r3))) none))) (cond (xpg == 1) (Option.bind (zfr x0_x.sh) (fun r4 => Option.bind (zcj x0_x) (fun r5 => cond ((r5 != 0)) (some (IntKind.i64.wrap (Int.tdiv (IntKind.i64.wrap ((IntKind.i64.wrap ((if (IntKind.i64.wrap (r1.a1.High - (IntKind.i64.wrap (r5 * r4.a1.Low)))) < (IntKind.i64.wrap ((IntKind.i64.wrap (r5 * r4.a1.High)) - r1.a1.Low)) then (IntKind.i64.wrap ((IntKind.i64.wrap (r5 * r4.a1.High)) - r1.a1.Low)) else (IntKind.i64.wrap (r1.a1.High - (IntKind.i64.wrap (r5 * r4.a1.Low))))) + r5)) - 1)) r5))) none))) (cond (xpg == 2) (Option.bind (zfr x0_x.sh) (fun r6 => Option.bind (zcj x0_x) (fun r7 => cond ((r7 != 0)) (some (IntKind.i64.wrap (Int.tdiv (IntKind.i64.wrap ((IntKind.i64.wrap ((if (IntKind.i64.wrap (r1.a2.High - (IntKind.i64.wrap (r7 * r6.a2.Low)))) < (IntKind.i64.wrap ((IntKind.i64.wrap (r7 * r6.a2.High)) - r1.a2.Low)) then (IntKind.i64.wrap ((IntKind.i64.wrap (r7 * r6.a2.High)) - r1.a2.Low)) else (IntKind.i64.wrap (r1.a2.High - (IntKind.i64.wrap (r7 * r6.a2.Low))))) + r7)) - 1)) r7))) none))) (none))))
theorem zdg (x0_x : Gm) (xpg : Int) (R : Int) (h : zbh x0_x xpg = some R) : VPure Tryz.prog G0 111 [.agg (cGm x0_x), .lit (.int .i64 xpg)] (.tree (.lit (.int .i64 R))) := by
 refine VPure.runR mixed Tryz.call111 Tryz.func111 rfl (by simp [Tryz.ntmps111]; kernel_rfl) ?_
 obtain ⟨KF, h, kF, kN⟩ := zan h
 simp only [zbh] at h
 simp only [vz, qr, tyf, nm, seval]
 refine zcv (fun tm => tm 1 = .lit (.int .i64 xpg) ∧ tm 2 = .ptr 0 0 ∧ True) (by refine ⟨?_, ?_, trivial⟩ <;> first | (simp only [ua, nm, seval] <;> rfl) | rfl) ?_
 rintro tm ⟨e8, e9, _⟩
 obtain ⟨r10, o11, h⟩ := optI h kN
 try simp only [hs] at h
 simp only [vz, qr, tyf, e8, e9, nm, seval]
 refine dktA (zhf _ _ o11) ?_
 refine zab (fun tm => tm 1 = .lit (.int .i64 xpg) ∧ tm 2 = .ptr 0 0 ∧ tm 10 = .agg (cGa r10) ∧ True) (by refine ⟨e8, e9, ?_, trivial⟩ <;> first | (simp only [ua, e8, e9, nm, seval] <;> rfl) | rfl) ?_
 rintro tm ⟨e12, e13, e14, _⟩
 cases d15 : (xpg == 0)
 ·simp only [d15, hs] at h
  cases d16 : (xpg == 1)
  ·simp only [d16, hs] at h
   cases d17 : (xpg == 2)
   ·simp only [d17, hs] at h
    exact absurd h kN
   simp only [d17, hs] at h
   obtain ⟨r18, o19, h⟩ := optI h kN
   try simp only [hs] at h
   simp only [vz, qr, tyf, e12, e13, e14, d15, d16, d17, (zld d17), nm, seval]
   refine dktA (zhp _ _ o19) ?_
   refine zab (fun tm => tm 1 = .lit (.int .i64 xpg) ∧ tm 2 = .ptr 0 0 ∧ tm 12 = .agg (cGSpan r10.a2) ∧ tm 15 = .agg (cGa r18) ∧ True) (by refine ⟨e12, e13, ?_, ?_, trivial⟩ <;> first | (simp only [ua, e12, e13, e14, d15, d16, d17, nm, seval] <;> rfl) | rfl) ?_
   rintro tm ⟨e20, e21, e22, e23, _⟩
   obtain ⟨r24, o25, h⟩ := optI h kN
   try simp only [hs] at h
   simp only [vz, qr, tyf, d15, d16, d17, (zld d17), e20, e21, e22, e23, nm, seval]
   refine dktA (zea _ _ o25) ?_
   refine zab (fun tm => tm 12 = .agg (cGSpan r10.a2) ∧ tm 17 = .agg (cGSpan r18.a2) ∧ tm 19 = .lit (.int .i64 r24) ∧ True) (by refine ⟨e22, ?_, ?_, trivial⟩ <;> first | (simp only [ua, d15, d16, d17, e20, e21, e22, e23, nm, seval] <;> rfl) | rfl) ?_
   rintro tm ⟨e26, e27, e28, _⟩
   simp only [vz, qr, tyf, d15, d16, d17, (zld d17), e26, e27, e28, nm, seval]
   refine zcg ⟨?_, ?_⟩
   ·simp only [zbc, zbm, zai, zda, and_true, true_and]
    repeat' (first | exact trivial | refine And.intro ?_ ?_ | rw [zai] | rw [zce] | exact Or.inl (by decide +kernel) | exact Or.inl (by dsimp only; decide +kernel) | (refine Or.inr ⟨?_, ?_⟩ <;> simp; done) | (refine Or.inr ⟨?_, ?_⟩ <;> simp <;> omega) | (refine Or.inr ⟨?_, ?_⟩ <;> simp [VEff.wr] <;> omega))
   cases g29 : ((r24 != 0))
   ·simp only [g29, hs] at h
    exact absurd h kN
   simp only [g29, hs] at h
   try simp only [vz, qr, tyf, d15, d16, d17, (zld d17), e26, e27, e28, g29, nm, seval]
   refine zat (x := (.lit (.int .i64 (IntKind.i64.wrap (Int.tdiv (IntKind.i64.wrap ((IntKind.i64.wrap ((if (IntKind.i64.wrap (r10.a2.High - (IntKind.i64.wrap (r24 * r18.a2.Low)))) < (IntKind.i64.wrap ((IntKind.i64.wrap (r24 * r18.a2.High)) - r10.a2.Low)) then (IntKind.i64.wrap ((IntKind.i64.wrap (r24 * r18.a2.High)) - r10.a2.Low)) else (IntKind.i64.wrap (r10.a2.High - (IntKind.i64.wrap (r24 * r18.a2.Low))))) + r24)) - 1)) r24))))) (by first | (simp only [Tryz.results111, resV, resL, resV1, zau, zbo, uw, cr, tyf, d15, d16, d17, (zld d17), g29, nm, seval] <;> rfl) | rfl) ?_
   obtain rfl := kF _ h
   refine zaw ?_ ?_
   ·simp only [tre, tytre, Bool.and_self]
   ·first | (simp only [outV, uw, zaf, cr, tyf, nrm, tynrm, d15, d16, d17, (zld d17), e26, e27, e28, g29, nm, seval] <;> rfl) | rfl
  simp only [d16, hs] at h
  obtain ⟨r30, o31, h⟩ := optI h kN
  try simp only [hs] at h
  simp only [vz, qr, tyf, e12, e13, e14, d15, d16, (zln d16), nm, seval]
  refine dktA (zhp _ _ o31) ?_
  refine zab (fun tm => tm 1 = .lit (.int .i64 xpg) ∧ tm 2 = .ptr 0 0 ∧ tm 12 = .agg (cGSpan r10.a1) ∧ tm 15 = .agg (cGa r30) ∧ True) (by refine ⟨e12, e13, ?_, ?_, trivial⟩ <;> first | (simp only [ua, e12, e13, e14, d15, d16, nm, seval] <;> rfl) | rfl) ?_
  rintro tm ⟨e32, e33, e34, e35, _⟩
  obtain ⟨r36, o37, h⟩ := optI h kN
  try simp only [hs] at h
  simp only [vz, qr, tyf, d15, d16, (zln d16), e32, e33, e34, e35, nm, seval]
  refine dktA (zea _ _ o37) ?_
  refine zab (fun tm => tm 12 = .agg (cGSpan r10.a1) ∧ tm 17 = .agg (cGSpan r30.a1) ∧ tm 19 = .lit (.int .i64 r36) ∧ True) (by refine ⟨e34, ?_, ?_, trivial⟩ <;> first | (simp only [ua, d15, d16, e32, e33, e34, e35, nm, seval] <;> rfl) | rfl) ?_
  rintro tm ⟨e38, e39, e40, _⟩
  simp only [vz, qr, tyf, d15, d16, (zln d16), e38, e39, e40, nm, seval]
  refine zcg ⟨?_, ?_⟩
  ·simp only [zbc, zbm, zai, zda, and_true, true_and]
   repeat' (first | exact trivial | refine And.intro ?_ ?_ | rw [zai] | rw [zce] | exact Or.inl (by decide +kernel) | exact Or.inl (by dsimp only; decide +kernel) | (refine Or.inr ⟨?_, ?_⟩ <;> simp; done) | (refine Or.inr ⟨?_, ?_⟩ <;> simp <;> omega) | (refine Or.inr ⟨?_, ?_⟩ <;> simp [VEff.wr] <;> omega))
  cases g41 : ((r36 != 0))
  ·simp only [g41, hs] at h
   exact absurd h kN
  simp only [g41, hs] at h
  try simp only [vz, qr, tyf, d15, d16, (zln d16), e38, e39, e40, g41, nm, seval]
  refine zat (x := (.lit (.int .i64 (IntKind.i64.wrap (Int.tdiv (IntKind.i64.wrap ((IntKind.i64.wrap ((if (IntKind.i64.wrap (r10.a1.High - (IntKind.i64.wrap (r36 * r30.a1.Low)))) < (IntKind.i64.wrap ((IntKind.i64.wrap (r36 * r30.a1.High)) - r10.a1.Low)) then (IntKind.i64.wrap ((IntKind.i64.wrap (r36 * r30.a1.High)) - r10.a1.Low)) else (IntKind.i64.wrap (r10.a1.High - (IntKind.i64.wrap (r36 * r30.a1.Low))))) + r36)) - 1)) r36))))) (by first | (simp only [Tryz.results111, resV, resL, resV1, zau, zbo, uw, cr, tyf, d15, d16, (zln d16), g41, nm, seval] <;> rfl) | rfl) ?_
  obtain rfl := kF _ h
  refine zaw ?_ ?_
  ·simp only [tre, tytre, Bool.and_self]
  ·first | (simp only [outV, uw, zaf, cr, tyf, nrm, tynrm, d15, d16, (zln d16), e38, e39, e40, g41, nm, seval] <;> rfl) | rfl
 simp only [d15, hs] at h
 obtain ⟨r42, o43, h⟩ := optI h kN
 try simp only [hs] at h
 simp only [vz, qr, tyf, e12, e13, e14, d15, (zls d15), nm, seval]
 refine dktA (zhp _ _ o43) ?_
 refine zab (fun tm => tm 1 = .lit (.int .i64 xpg) ∧ tm 2 = .ptr 0 0 ∧ tm 12 = .agg (cGSpan r10.a0) ∧ tm 15 = .agg (cGa r42) ∧ True) (by refine ⟨e12, e13, ?_, ?_, trivial⟩ <;> first | (simp only [ua, e12, e13, e14, d15, nm, seval] <;> rfl) | rfl) ?_
 rintro tm ⟨e44, e45, e46, e47, _⟩
 obtain ⟨r48, o49, h⟩ := optI h kN
 try simp only [hs] at h
 simp only [vz, qr, tyf, d15, (zls d15), e44, e45, e46, e47, nm, seval]
 refine dktA (zea _ _ o49) ?_
 refine zab (fun tm => tm 12 = .agg (cGSpan r10.a0) ∧ tm 17 = .agg (cGSpan r42.a0) ∧ tm 19 = .lit (.int .i64 r48) ∧ True) (by refine ⟨e46, ?_, ?_, trivial⟩ <;> first | (simp only [ua, d15, e44, e45, e46, e47, nm, seval] <;> rfl) | rfl) ?_
 rintro tm ⟨e50, e51, e52, _⟩
 simp only [vz, qr, tyf, d15, (zls d15), e50, e51, e52, nm, seval]
 refine zcg ⟨?_, ?_⟩
 ·simp only [zbc, zbm, zai, zda, and_true, true_and]
  repeat' (first | exact trivial | refine And.intro ?_ ?_ | rw [zai] | rw [zce] | exact Or.inl (by decide +kernel) | exact Or.inl (by dsimp only; decide +kernel) | (refine Or.inr ⟨?_, ?_⟩ <;> simp; done) | (refine Or.inr ⟨?_, ?_⟩ <;> simp <;> omega) | (refine Or.inr ⟨?_, ?_⟩ <;> simp [VEff.wr] <;> omega))
 cases g53 : ((r48 != 0))
 ·simp only [g53, hs] at h
  exact absurd h kN
 simp only [g53, hs] at h
 try simp only [vz, qr, tyf, d15, (zls d15), e50, e51, e52, g53, nm, seval]
 refine zat (x := (.lit (.int .i64 (IntKind.i64.wrap (Int.tdiv (IntKind.i64.wrap ((IntKind.i64.wrap ((if (IntKind.i64.wrap (r10.a0.High - (IntKind.i64.wrap (r48 * r42.a0.Low)))) < (IntKind.i64.wrap ((IntKind.i64.wrap (r48 * r42.a0.High)) - r10.a0.Low)) then (IntKind.i64.wrap ((IntKind.i64.wrap (r48 * r42.a0.High)) - r10.a0.Low)) else (IntKind.i64.wrap (r10.a0.High - (IntKind.i64.wrap (r48 * r42.a0.Low))))) + r48)) - 1)) r48))))) (by first | (simp only [Tryz.results111, resV, resL, resV1, zau, zbo, uw, cr, tyf, d15, (zls d15), g53, nm, seval] <;> rfl) | rfl) ?_
 obtain rfl := kF _ h
 refine zaw ?_ ?_
 ·simp only [tre, tytre, Bool.and_self]
 ·first | (simp only [outV, uw, zaf, cr, tyf, nrm, tynrm, d15, (zls d15), e50, e51, e52, g53, nm, seval] <;> rfl) | rfl
end Go.V
end
section
namespace Go.V
open Go Go.Proofs
def zbt (x0_x : Gm) (xpg : Int) : Option ((Unit) ⊕ (Unit)) := Option.bind (zbh x0_x xpg) (fun r1 => cond (decide (r1 > x0_x.sh.Off)) (some (.inr ())) (some (.inl ())))
theorem zbq (x0_x : Gm) (xpg : Int) (R : (Unit) ⊕ (Unit)) (h : zbt x0_x xpg = some R) : VPure Tryz.prog G0 102 [.agg (cGm x0_x), .lit (.int .i64 xpg)] (presB R (fun r => .tree (.tup [])) (fun e => .panic (.ifc 132 (.agg [])))) := by
 refine VPure.runR mixed Tryz.call102 Tryz.func102 rfl (by simp [Tryz.ntmps102]; kernel_rfl) ?_
 obtain ⟨KF, h, kF, kN⟩ := zan h
 simp only [zbt] at h
 simp only [vz, tyf, nm, seval]
 refine zgf (fun tm => tm 1 = .lit (.int .i64 xpg) ∧ tm 2 = .ptr 0 0 ∧ True) (by refine ⟨?_, ?_, trivial⟩ <;> first | (simp only [ua, nm, seval] <;> rfl) | rfl) ?_
 rintro tm ⟨e2, e3, _⟩
 obtain ⟨r4, o5, h⟩ := optI h kN
 try simp only [hs] at h
 simp only [vz, tyf, e2, e3, nm, seval]
 refine dktA (zdg _ _ _ o5) ?_
 refine zab (fun tm => tm 2 = .ptr 0 0 ∧ tm 6 = .lit (.int .i64 r4) ∧ True) (by refine ⟨e3, ?_, trivial⟩ <;> first | (simp only [ua, e2, e3, nm, seval] <;> rfl) | rfl) ?_
 rintro tm ⟨e6, e7, _⟩
 cases d8 : (decide (r4 > x0_x.sh.Off))
 ·simp only [d8, hs] at h
  try simp only [vz, tyf, e6, e7, d8, nm, seval]
  refine zjg (x := (.tup [])) (by first | (simp only [Tryz.results102, resV, resL, resV1, zau, zbo, uw, cr, tyf, d8, nm, seval] <;> rfl) | rfl) ?_
  obtain rfl := kF _ h
  refine zaw ?_ ?_
  ·simp only [tre, tytre, Bool.and_self]
  ·first | (simp only [outV, uw, zaf, cr, tyf, nrm, tynrm, e6, e7, d8, nm, seval] <;> rfl) | rfl
 simp only [d8, hs] at h
 simp only [vz, tyf, e6, e7, d8, nm, seval]
 refine zagu ?_
 obtain rfl := kF _ h
 refine zavz ?_ ?_
 ·simp only [tre, tytre, zakb, Bool.and_self]
 ·first | (simp only [outV, uw, zaf, zahh, zahc, cr, tyf, nrm, tynrm, e6, e7, d8, nm, seval] <;> rfl) | rfl
end Go.V
end
section
namespace Go.V
open Go Go.Proofs
def zbn (x0_x : Gm) : Option (Bool) := Option.bind (zbt x0_x 0) (fun r1 => sumB r1 (fun u2 => Option.bind (zbt x0_x 1) (fun r4 => sumB r4 (fun u5 => Option.bind (zbt x0_x 2) (fun r7 => sumB r7 (fun u8 => some true) (fun w9 => some false))) (fun w6 => some false))) (fun w3 => some false))
theorem zer (x0_x : Gm) (R : Bool) (h : zbn x0_x = some R) : VPure Tryz.prog G0 68 [.agg (cGm x0_x)] (.tree (.lit (.bool R))) := by
 refine VPure.runR mixed Tryz.call68 Tryz.func68 rfl (by simp [Tryz.ntmps68]; kernel_rfl) ?_
 obtain ⟨KF, h, kF, kN⟩ := zan h
 simp only [zbn] at h
 simp only [vz, tyf, nm, seval]
 refine zfs mixed (by kernel_rfl) 4 ?_
 obtain ⟨r10, o11, h⟩ := optI h kN
 try simp only [hs] at h
 cases r10 with
 | inl u12 =>
  simp only [hs] at h
  simp only [vz, tyf, nm, seval]
  refine ktA (zbq _ _ _ o11) ?_
  refine zab (fun tm => tm 1 = .ptr 0 0 ∧ tm 2 = .ptr 1 0 ∧ tm 5 = .lit (.int .i64 0) ∧ True) (by refine ⟨?_, ?_, ?_, trivial⟩ <;> first | (simp only [ua, nm, seval] <;> rfl) | rfl) ?_
  rintro tm ⟨e14, e15, e16, _⟩
  obtain ⟨r17, o18, h⟩ := optI h kN
  try simp only [hs] at h
  cases r17 with
  | inl u19 =>
   simp only [hs] at h
   simp only [vz, tyf, e14, e15, e16, nm, seval]
   refine ktA (zbq _ _ _ o18) ?_
   refine zab (fun tm => tm 1 = .ptr 0 0 ∧ tm 2 = .ptr 1 0 ∧ tm 5 = .lit (.int .i64 1) ∧ True) (by refine ⟨e14, e15, ?_, trivial⟩ <;> first | (simp only [ua, e14, e15, e16, nm, seval] <;> rfl) | rfl) ?_
   rintro tm ⟨e21, e22, e23, _⟩
   obtain ⟨r24, o25, h⟩ := optI h kN
   try simp only [hs] at h
   cases r24 with
   | inl u26 =>
    simp only [hs] at h
    simp only [vz, tyf, e21, e22, e23, nm, seval]
    refine ktA (zbq _ _ _ o25) ?_
    refine zab (fun tm => tm 1 = .ptr 0 0 ∧ tm 2 = .ptr 1 0 ∧ tm 5 = .lit (.int .i64 2) ∧ True) (by refine ⟨e21, e22, ?_, trivial⟩ <;> first | (simp only [ua, e21, e22, e23, nm, seval] <;> rfl) | rfl) ?_
    rintro tm ⟨e28, e29, e30, _⟩
    try simp only [vz, tyf, e28, e29, e30, nm, seval]
    refine zaki ?_
    refine VDeferred.run mixed Tryz.call101 Tryz.func101 rfl (by kernel_rfl) ?_
    try simp only [vz, tyf, nm, seval]
    refine ziw Tryz.results101 ?_
    refine zacs (x := (.lit (.bool true))) (by first | (simp only [Tryz.results68, resV, resL, resV1, zau, zbo, uw, cr, tyf, e28, e29, e30, nm, seval] <;> rfl) | rfl) ?_
    obtain rfl := kF _ h
    refine zaw ?_ ?_
    ·simp only [tre, tytre, Bool.and_self]
    ·first | (simp only [outV, uw, zaf, cr, tyf, nrm, tynrm, e28, e29, e30, nm, seval] <;> rfl) | rfl
   | inr w27 =>
    simp only [hs] at h
    simp only [vz, tyf, e21, e22, e23, nm, seval]
    refine kpan (args0 := [.agg (cGm x0_x), .lit (.int .i64 2)]) (by first | (simp only [nrm, tynrm] <;> rfl) | rfl) (by simp only [tre, tytre, Bool.and_self]) (zbq _ _ _ o25) ?_
    try simp only [vz, tyf, e21, e22, e23, nm, seval]
    refine zpa ?_
    refine VDeferred.run mixed Tryz.call101 Tryz.func101 rfl (by kernel_rfl) ?_
    try simp only [vz, tyf, nm, seval]
    refine ziw Tryz.results101 ?_
    refine znk (x := (.lit (.bool false))) (by first | (simp only [Tryz.results68, resV, resL, resV1, zau, zbo, uw, cr, tyf, e21, e22, e23, nm, seval] <;> rfl) | rfl) ?_
    obtain rfl := kF _ h
    refine zaw ?_ ?_
    ·simp only [tre, tytre, Bool.and_self]
    ·first | (simp only [outV, uw, zaf, cr, tyf, nrm, tynrm, e21, e22, e23, nm, seval] <;> rfl) | rfl
  | inr w20 =>
   simp only [hs] at h
   simp only [vz, tyf, e14, e15, e16, nm, seval]
   refine kpan (args0 := [.agg (cGm x0_x), .lit (.int .i64 1)]) (by first | (simp only [nrm, tynrm] <;> rfl) | rfl) (by simp only [tre, tytre, Bool.and_self]) (zbq _ _ _ o18) ?_
   try simp only [vz, tyf, e14, e15, e16, nm, seval]
   refine zpa ?_
   refine VDeferred.run mixed Tryz.call101 Tryz.func101 rfl (by kernel_rfl) ?_
   try simp only [vz, tyf, nm, seval]
   refine ziw Tryz.results101 ?_
   refine znk (x := (.lit (.bool false))) (by first | (simp only [Tryz.results68, resV, resL, resV1, zau, zbo, uw, cr, tyf, e14, e15, e16, nm, seval] <;> rfl) | rfl) ?_
   obtain rfl := kF _ h
   refine zaw ?_ ?_
   ·simp only [tre, tytre, Bool.and_self]
   ·first | (simp only [outV, uw, zaf, cr, tyf, nrm, tynrm, e14, e15, e16, nm, seval] <;> rfl) | rfl
 | inr w13 =>
  simp only [hs] at h
  simp only [vz, tyf, nm, seval]
  refine kpan (args0 := [.agg (cGm x0_x), .lit (.int .i64 0)]) (by first | (simp only [nrm, tynrm] <;> rfl) | rfl) (by simp only [tre, tytre, Bool.and_self]) (zbq _ _ _ o11) ?_
  try simp only [vz, tyf, nm, seval]
  refine zpa ?_
  refine VDeferred.run mixed Tryz.call101 Tryz.func101 rfl (by kernel_rfl) ?_
  try simp only [vz, tyf, nm, seval]
  refine ziw Tryz.results101 ?_
  refine znk (x := (.lit (.bool false))) (by first | (simp only [Tryz.results68, resV, resL, resV1, zau, zbo, uw, cr, tyf, nm, seval] <;> rfl) | rfl) ?_
  obtain rfl := kF _ h
  refine zaw ?_ ?_
  ·simp only [tre, tytre, Bool.and_self]
  ·first | (simp only [outV, uw, zaf, cr, tyf, nrm, tynrm, nm, seval] <;> rfl) | rfl
end Go.V
end
section
namespace Go.V
open Go Go.Proofs
end Go.V
end
section
namespace Go.V
open Go Go.Proofs
end Go.V
end
section
namespace Go.V
open Go Go.Proofs
def zdc (r1 : Ga) (r2 : Ga) (r3 : Int) : Nat → Int → Int → Option (LOut (Int) (Int))
 | 0, c0_9, c0_8 => some (.go c0_8)
 | k0 + 1, c0_9, c0_8 => cond (c0_9 == 0) (cond ((r3 != 0)) (zdc r1 r2 r3 k0 (c0_9 + 1) (if c0_8 < (IntKind.i64.wrap (Int.tdiv (IntKind.i64.wrap ((IntKind.i64.wrap ((if (IntKind.i64.wrap (r2.a0.High - (IntKind.i64.wrap (r3 * r1.a0.Low)))) < (IntKind.i64.wrap ((IntKind.i64.wrap (r3 * r1.a0.High)) - r2.a0.Low)) then (IntKind.i64.wrap ((IntKind.i64.wrap (r3 * r1.a0.High)) - r2.a0.Low)) else (IntKind.i64.wrap (r2.a0.High - (IntKind.i64.wrap (r3 * r1.a0.Low))))) + r3)) - 1)) r3)) then (IntKind.i64.wrap (Int.tdiv (IntKind.i64.wrap ((IntKind.i64.wrap ((if (IntKind.i64.wrap (r2.a0.High - (IntKind.i64.wrap (r3 * r1.a0.Low)))) < (IntKind.i64.wrap ((IntKind.i64.wrap (r3 * r1.a0.High)) - r2.a0.Low)) then (IntKind.i64.wrap ((IntKind.i64.wrap (r3 * r1.a0.High)) - r2.a0.Low)) else (IntKind.i64.wrap (r2.a0.High - (IntKind.i64.wrap (r3 * r1.a0.Low))))) + r3)) - 1)) r3)) else c0_8)) none) (cond (c0_9 == 1) (cond ((r3 != 0)) (zdc r1 r2 r3 k0 (c0_9 + 1) (if c0_8 < (IntKind.i64.wrap (Int.tdiv (IntKind.i64.wrap ((IntKind.i64.wrap ((if (IntKind.i64.wrap (r2.a1.High - (IntKind.i64.wrap (r3 * r1.a1.Low)))) < (IntKind.i64.wrap ((IntKind.i64.wrap (r3 * r1.a1.High)) - r2.a1.Low)) then (IntKind.i64.wrap ((IntKind.i64.wrap (r3 * r1.a1.High)) - r2.a1.Low)) else (IntKind.i64.wrap (r2.a1.High - (IntKind.i64.wrap (r3 * r1.a1.Low))))) + r3)) - 1)) r3)) then (IntKind.i64.wrap (Int.tdiv (IntKind.i64.wrap ((IntKind.i64.wrap ((if (IntKind.i64.wrap (r2.a1.High - (IntKind.i64.wrap (r3 * r1.a1.Low)))) < (IntKind.i64.wrap ((IntKind.i64.wrap (r3 * r1.a1.High)) - r2.a1.Low)) then (IntKind.i64.wrap ((IntKind.i64.wrap (r3 * r1.a1.High)) - r2.a1.Low)) else (IntKind.i64.wrap (r2.a1.High - (IntKind.i64.wrap (r3 * r1.a1.Low))))) + r3)) - 1)) r3)) else c0_8)) none) (cond (c0_9 == 2) (cond ((r3 != 0)) (zdc r1 r2 r3 k0 (c0_9 + 1) (if c0_8 < (IntKind.i64.wrap (Int.tdiv (IntKind.i64.wrap ((IntKind.i64.wrap ((if (IntKind.i64.wrap (r2.a2.High - (IntKind.i64.wrap (r3 * r1.a2.Low)))) < (IntKind.i64.wrap ((IntKind.i64.wrap (r3 * r1.a2.High)) - r2.a2.Low)) then (IntKind.i64.wrap ((IntKind.i64.wrap (r3 * r1.a2.High)) - r2.a2.Low)) else (IntKind.i64.wrap (r2.a2.High - (IntKind.i64.wrap (r3 * r1.a2.Low))))) + r3)) - 1)) r3)) then (IntKind.i64.wrap (Int.tdiv (IntKind.i64.wrap ((IntKind.i64.wrap ((if (IntKind.i64.wrap (r2.a2.High - (IntKind.i64.wrap (r3 * r1.a2.Low)))) < (IntKind.i64.wrap ((IntKind.i64.wrap (r3 * r1.a2.High)) - r2.a2.Low)) then (IntKind.i64.wrap ((IntKind.i64.wrap (r3 * r1.a2.High)) - r2.a2.Low)) else (IntKind.i64.wrap (r2.a2.High - (IntKind.i64.wrap (r3 * r1.a2.Low))))) + r3)) - 1)) r3)) else c0_8)) none) (none)))
def zfq (x0_s : Gs) (x1_mix : List Int) : Option (Int) := Option.bind (zhv x0_s) (fun r1 => Option.bind (zfz x0_s x1_mix) (fun r2 => Option.bind (zdw x1_mix) (fun r3 => cond (boundOk 3) (lbind (zdc r1 r2 r3 (Int.toNat (3 - 0)) 0 0) (fun r5 => some r5) (fun c4 => some c4) (fun _ _ => none)) none)))
theorem zmz (x0_s : Gs) (x1_mix : List Int) (R : Int) (h : zfq x0_s x1_mix = some R) : VPure Tryz.prog G0 72 [.agg (cGs x0_s), .sl (cellsL eI x1_mix) (List.length x1_mix) false] (.tree (.lit (.int .i64 R))) := by
 refine VPure.runR mixed Tryz.call72 Tryz.func72 rfl (by simp [Tryz.ntmps72]; kernel_rfl) ?_
 obtain ⟨KF, h, kF, kN⟩ := zan h
 simp only [zfq] at h
 simp only [vz, qr, tyf, nm, seval]
 refine zcv (fun tm => tm 1 = .sl (cellsL eI x1_mix) (List.length x1_mix) false ∧ tm 2 = .ptr 0 0 ∧ True) (by refine ⟨?_, ?_, trivial⟩ <;> first | (simp only [ua, nm, seval] <;> rfl) | rfl) ?_
 rintro tm ⟨e6, e7, _⟩
 obtain ⟨r8, o9, h⟩ := optI h kN
 try simp only [hs] at h
 simp only [vz, qr, tyf, e6, e7, nm, seval]
 refine dktA (zrf _ _ o9) ?_
 refine zab (fun tm => tm 1 = .sl (cellsL eI x1_mix) (List.length x1_mix) false ∧ tm 2 = .ptr 0 0 ∧ tm 12 = .agg (cGa r8) ∧ True) (by refine ⟨e6, e7, ?_, trivial⟩ <;> first | (simp only [ua, e6, e7, nm, seval] <;> rfl) | rfl) ?_
 rintro tm ⟨e10, e11, e12, _⟩
 obtain ⟨r13, o14, h⟩ := optI h kN
 try simp only [hs] at h
 simp only [vz, qr, tyf, e10, e11, e12, nm, seval]
 refine dktA (zkm _ _ _ o14) ?_
 refine zab (fun tm => tm 1 = .sl (cellsL eI x1_mix) (List.length x1_mix) false ∧ tm 12 = .agg (cGa r8) ∧ tm 15 = .agg (cGa r13) ∧ True) (by refine ⟨e10, e12, ?_, trivial⟩ <;> first | (simp only [ua, e10, e11, e12, nm, seval] <;> rfl) | rfl) ?_
 rintro tm ⟨e15, e16, e17, _⟩
 obtain ⟨r18, o19, h⟩ := optI h kN
 try simp only [hs] at h
 simp only [vz, qr, tyf, e15, e16, e17, nm, seval]
 refine dktA (zew _ _ o19) ?_
 refine zab (fun tm => tm 12 = .agg (cGa r8) ∧ tm 15 = .agg (cGa r13) ∧ tm 17 = .lit (.int .i64 r18) ∧ True) (by refine ⟨e16, e17, ?_, trivial⟩ <;> first | (simp only [ua, e15, e16, e17, nm, seval] <;> rfl) | rfl) ?_
 rintro tm ⟨e20, e21, e22, _⟩
 simp only [vz, qr, tyf, e20, e21, e22, nm, seval]
 refine zcg ⟨?_, ?_⟩
 ·simp only [zbc, zbm, zai, zda, and_true, true_and]
  repeat' (first | exact trivial | refine And.intro ?_ ?_ | rw [zai] | rw [zce] | exact Or.inl (by decide +kernel) | exact Or.inl (by dsimp only; decide +kernel) | (refine Or.inr ⟨?_, ?_⟩ <;> simp; done) | (refine Or.inr ⟨?_, ?_⟩ <;> simp <;> omega) | (refine Or.inr ⟨?_, ?_⟩ <;> simp [VEff.wr] <;> omega))
 cases g24 : (boundOk 3)
 ·simp only [g24, hs] at h
  exact absurd h kN
 simp only [g24, hs] at h
 simp only [vz, qr, tyf, e20, e21, e22, g24, nm, seval]
 obtain ⟨K23, h, kR23, kG23, kB23, kN23⟩ := zax h kN
 obtain ⟨f23, hf23, h⟩ := call3 h
 obtain ⟨I23, hI23⟩ : ∃ I : Nat → St → Prop, I = (fun m st => ∃ (p23 : Nat) (c23_9 : Int) (c23_8 : Int), p23 = m ∧ loOk c23_9 = true ∧ Int.toNat (3 - c23_9) = p23 ∧ st.df = [] ∧ 16 ≤ st.nx ∧ st.H 9 = some (.cells (some 25) (cGa r8)) ∧ st.H 10 = some (.cells (some 25) (cGa r13)) ∧ st.tm 5 = .ptr 9 0 ∧ st.tm 6 = .ptr 10 0 ∧ st.tm 7 = .lit (.int .i64 r18) ∧ st.tm 8 = .lit (.int .i64 c23_8) ∧ st.tm 9 = .lit (.int .i64 c23_9) ∧ K23 (f23 p23 c23_9 c23_8)) := ⟨_, rfl⟩
 refine loopK mixed (by kernel_rfl) I23 (Int.toNat (3 - 0)) (by rw [hI23]; refine ⟨Int.toNat (3 - 0), 0, 0, rfl, (by rfl), rfl, rfl, (show 16 ≤ 16 by omega), ?_, ?_, ?_, ?_, ?_, ?_, ?_, h⟩ <;> first | (simp only [ua, e20, e21, e22, nm, seval] <;> rfl) | rfl) ?_
 rintro m ⟨tm, H, nx23, df⟩ hinv
 rw [hI23] at hinv
 obtain ⟨p23, c23_9, c23_8, rfl, hi23, hp23, hdf, hn23, H25, H26, e27, e28, e29, e30, e31, h⟩ := hinv
 simp only at hdf hn23 H25 H26 e27 e28 e29 e30 e31
 have n32 := zcl (m := 16) (b := nx23) (by omega)
 subst hdf hf23
 cases p23 with
 | zero =>
  have d33 : (decide (c23_9 < 3)) = false := zli hp23
  simp only [zdc, hs, reduceCtorEq] at h
  replace h := kG23 _ h
  try dsimp only at h
  try simp only [hs] at h
  try simp only [vz, qr, tyf, g24, n32, e27, e28, e29, e30, e31, H25, H26, d33, nm, seval]
  refine zat (x := (.lit (.int .i64 c23_8))) (by first | (simp only [Tryz.results72, resV, resL, resV1, zau, zbo, uw, cr, tyf, g24, n32, H25, H26, d33, nm, seval] <;> rfl) | rfl) ?_
  obtain rfl := kF _ h
  refine zaw ?_ ?_
  ·simp only [tre, tytre, Bool.and_self]
  ·first | (simp only [outV, uw, zaf, cr, tyf, nrm, tynrm, g24, n32, e27, e28, e29, e30, e31, H25, H26, d33, nm, seval] <;> rfl) | rfl
 | succ p23 =>
  have d34 : (decide (c23_9 < 3)) = true := zahp hp23
  have w35 := zrn hi23 hp23 g24
  simp only [zdc, hs, reduceCtorEq] at h
  simp only [vz, qr, tyf, g24, n32, e27, e28, e29, e30, e31, H25, H26, d34, w35, nm, seval]
  refine zgf (fun tm => tm 5 = .ptr 9 0 ∧ tm 6 = .ptr 10 0 ∧ tm 7 = .lit (.int .i64 r18) ∧ tm 8 = .lit (.int .i64 c23_8) ∧ tm 9 = .lit (.int .i64 c23_9) ∧ True) (by refine ⟨e27, e28, e29, e30, e31, trivial⟩ <;> first | (simp only [ua, n32, e27, e28, e29, e30, e31, H25, H26, d34, w35, nm, seval] <;> rfl) | rfl) ?_
  rintro tm ⟨e36, e37, e38, e39, e40, _⟩
  cases d41 : (c23_9 == 0)
  ·simp only [d41, hs] at h
   have b42 := And.intro g24 (And.intro n32 (And.intro H25 (And.intro H26 (And.intro d34 (And.intro w35 d41)))))
   cases d43 : (c23_9 == 1)
   ·simp only [d43, hs] at h
    cases d44 : (c23_9 == 2)
    ·simp only [d44, hs] at h
     exact absurd h kN23
    simp only [d44, hs] at h
    cases g45 : ((r18 != 0))
    ·simp only [g45, hs] at h
     exact absurd h kN23
    simp only [g45, hs] at h
    simp only [vz, qr, tyf, b42, e36, e37, e38, e39, e40, d43, d44, (zgk d44), g45, nm, seval]
    exact ⟨p23, Nat.lt_succ_self _, by rw [hI23]; refine ⟨p23, c23_9 + 1, (if c23_8 < (IntKind.i64.wrap (Int.tdiv (IntKind.i64.wrap ((IntKind.i64.wrap ((if (IntKind.i64.wrap (r13.a2.High - (IntKind.i64.wrap (r18 * r8.a2.Low)))) < (IntKind.i64.wrap ((IntKind.i64.wrap (r18 * r8.a2.High)) - r13.a2.Low)) then (IntKind.i64.wrap ((IntKind.i64.wrap (r18 * r8.a2.High)) - r13.a2.Low)) else (IntKind.i64.wrap (r13.a2.High - (IntKind.i64.wrap (r18 * r8.a2.Low))))) + r18)) - 1)) r18)) then (IntKind.i64.wrap (Int.tdiv (IntKind.i64.wrap ((IntKind.i64.wrap ((if (IntKind.i64.wrap (r13.a2.High - (IntKind.i64.wrap (r18 * r8.a2.Low)))) < (IntKind.i64.wrap ((IntKind.i64.wrap (r18 * r8.a2.High)) - r13.a2.Low)) then (IntKind.i64.wrap ((IntKind.i64.wrap (r18 * r8.a2.High)) - r13.a2.Low)) else (IntKind.i64.wrap (r13.a2.High - (IntKind.i64.wrap (r18 * r8.a2.Low))))) + r18)) - 1)) r18)) else c23_8), rfl, zpj hi23, zhs hp23, rfl, (show 16 ≤ nx23 + 38 by omega), ?_, ?_, e36, e37, e38, ?_, ?_, h⟩ <;> first | (simp only [ua, b42, e36, e37, e38, e39, e40, d43, d44, nm, seval] <;> rfl) | rfl⟩
   simp only [d43, hs] at h
   cases g46 : ((r18 != 0))
   ·simp only [g46, hs] at h
    exact absurd h kN23
   simp only [g46, hs] at h
   simp only [vz, qr, tyf, b42, e36, e37, e38, e39, e40, d43, (zgl d43), g46, nm, seval]
   exact ⟨p23, Nat.lt_succ_self _, by rw [hI23]; refine ⟨p23, c23_9 + 1, (if c23_8 < (IntKind.i64.wrap (Int.tdiv (IntKind.i64.wrap ((IntKind.i64.wrap ((if (IntKind.i64.wrap (r13.a1.High - (IntKind.i64.wrap (r18 * r8.a1.Low)))) < (IntKind.i64.wrap ((IntKind.i64.wrap (r18 * r8.a1.High)) - r13.a1.Low)) then (IntKind.i64.wrap ((IntKind.i64.wrap (r18 * r8.a1.High)) - r13.a1.Low)) else (IntKind.i64.wrap (r13.a1.High - (IntKind.i64.wrap (r18 * r8.a1.Low))))) + r18)) - 1)) r18)) then (IntKind.i64.wrap (Int.tdiv (IntKind.i64.wrap ((IntKind.i64.wrap ((if (IntKind.i64.wrap (r13.a1.High - (IntKind.i64.wrap (r18 * r8.a1.Low)))) < (IntKind.i64.wrap ((IntKind.i64.wrap (r18 * r8.a1.High)) - r13.a1.Low)) then (IntKind.i64.wrap ((IntKind.i64.wrap (r18 * r8.a1.High)) - r13.a1.Low)) else (IntKind.i64.wrap (r13.a1.High - (IntKind.i64.wrap (r18 * r8.a1.Low))))) + r18)) - 1)) r18)) else c23_8), rfl, zpj hi23, zhs hp23, rfl, (show 16 ≤ nx23 + 38 by omega), ?_, ?_, e36, e37, e38, ?_, ?_, h⟩ <;> first | (simp only [ua, b42, e36, e37, e38, e39, e40, d43, nm, seval] <;> rfl) | rfl⟩
  simp only [d41, hs] at h
  have b47 := And.intro g24 (And.intro n32 (And.intro H25 (And.intro H26 (And.intro d34 (And.intro w35 d41)))))
  cases g48 : ((r18 != 0))
  ·simp only [g48, hs] at h
   exact absurd h kN23
  simp only [g48, hs] at h
  simp only [vz, qr, tyf, b47, e36, e37, e38, e39, e40, (zgm d41), g48, nm, seval]
  exact ⟨p23, Nat.lt_succ_self _, by rw [hI23]; refine ⟨p23, c23_9 + 1, (if c23_8 < (IntKind.i64.wrap (Int.tdiv (IntKind.i64.wrap ((IntKind.i64.wrap ((if (IntKind.i64.wrap (r13.a0.High - (IntKind.i64.wrap (r18 * r8.a0.Low)))) < (IntKind.i64.wrap ((IntKind.i64.wrap (r18 * r8.a0.High)) - r13.a0.Low)) then (IntKind.i64.wrap ((IntKind.i64.wrap (r18 * r8.a0.High)) - r13.a0.Low)) else (IntKind.i64.wrap (r13.a0.High - (IntKind.i64.wrap (r18 * r8.a0.Low))))) + r18)) - 1)) r18)) then (IntKind.i64.wrap (Int.tdiv (IntKind.i64.wrap ((IntKind.i64.wrap ((if (IntKind.i64.wrap (r13.a0.High - (IntKind.i64.wrap (r18 * r8.a0.Low)))) < (IntKind.i64.wrap ((IntKind.i64.wrap (r18 * r8.a0.High)) - r13.a0.Low)) then (IntKind.i64.wrap ((IntKind.i64.wrap (r18 * r8.a0.High)) - r13.a0.Low)) else (IntKind.i64.wrap (r13.a0.High - (IntKind.i64.wrap (r18 * r8.a0.Low))))) + r18)) - 1)) r18)) else c23_8), rfl, zpj hi23, zhs hp23, rfl, (show 16 ≤ nx23 + 38 by omega), ?_, ?_, e36, e37, e38, ?_, ?_, h⟩ <;> first | (simp only [ua, b47, e36, e37, e38, e39, e40, nm, seval] <;> rfl) | rfl⟩
end Go.V
end
section
namespace Go.V
open Go
def withinB (c : Ga) (n : Gi) : Bool := inB c.a0.Low c.a0.High n.a0 && (inB c.a1.Low c.a1.High n.a1 && inB c.a2.Low c.a2.High n.a2)
def zipB (f : Ga → Gi → Bool) : List Gi → List Gt → Bool
 | a :: qs, t :: ts => f t.pg a && zipB f qs ts
 | [], [] => true
 | _, _ => false
def truthB (s : Gs) (t : Gu) : Bool := decide (t.Tins.length = s.Tins.length) && (inB s.Years.Low s.Years.High t.Years && (withinB s.Fade t.Fade && zipB withinB t.Tins s.Tins))
theorem zajf {f : Ga → Gi → Bool} : ∀ {p : List Gi} {ts : List Gt}, zipB f p ts = true → ∀ (i : Nat) a t, p[i]? = some a → ts[i]? = some t → f t.pg a = true
 | [], _, _, _, _, _, h, _ => by simp at h
 | _ :: _, [], h, _, _, _, _, _ => by cases h
 | a :: p, t :: ts, h, i, a', t', ha, ht => by
  simp only [zipB, Bool.and_eq_true] at h
  cases i with
  | zero =>
   simp only [List.getElem?_cons_zero, Option.some.injEq] at ha ht
   subst ha ht
   exact h.1
  | succ i => exact zajf h.2 i a' t' (by simpa using ha) (by simpa using ht)
structure TrOk (s : Gs) (t : Gu) : Prop where
 n : t.Tins.length = s.Tins.length
 y : s.Years.Low ≤ t.Years ∧ t.Years ≤ s.Years.High
 fade : ∀ p, (selS s.Fade p).Low ≤ selI t.Fade p ∧ selI t.Fade p ≤ (selS s.Fade p).High
 tin : ∀ (i : Nat) a c, t.Tins[i]? = some a → s.Tins[i]? = some c → ∀ p, lowT p c ≤ selI a p ∧ selI a p ≤ highT p c
theorem TrOk.of {s : Gs} {t : Gu} (h : truthB s t = true) : TrOk s t := by
 simp only [truthB, Bool.and_eq_true, decide_eq_true_eq, zkl] at h
 obtain ⟨h1, h2, h3, h4⟩ := h
 simp only [withinB, Bool.and_eq_true, zkl] at h3
 refine ⟨h1, h2, fun p => ?_, fun i a c ha hc p => ?_⟩
 ·cases p
  ·exact h3.1
  ·exact h3.2.1
  ·exact h3.2.2
 ·have := zajf h4 i a c ha hc
  simp only [withinB, Bool.and_eq_true, zkl] at this
  cases p
  ·exact this.1
  ·exact this.2.1
  ·exact this.2.2
def mostI (s : Gs) (mix : List Int) (p : P3) : Int :=
 if (sumsP s mix p).High - sumL mix * (aimP s p).Low < sumL mix * (aimP s p).High - (sumsP s mix p).Low then sumL mix * (aimP s p).High - (sumsP s mix p).Low else (sumsP s mix p).High - sumL mix * (aimP s p).Low
def farI (s : Gs) (mix : List Int) (p : P3) : Int := Int.tdiv (mostI s mix p + sumL mix - 1) (sumL mix)
theorem zajj {s : Gs} (hs : ShOk s) {mix : List Int} (hm : MixOk s mix) (p : P3) : 0 ≤ (sumsP s mix p).Low ∧ (sumsP s mix p).Low ≤ (sumsP s mix p).High ∧ (sumsP s mix p).High ≤ 792 := by
 have h1 := dot_b mix s.Tins hm.b (hs.low p)
 have h2 := dot_b mix s.Tins hm.b (hs.high p)
 have h3 := zabt (f := lowT p) (g := highT p) mix s.Tins s.Tins rfl hm.b (fun i t u ht hu => by
  rw [ht] at hu
  cases hu
  have := hs.tin t (List.mem_of_getElem? ht) p
  unfold lowT highT
  omega)
 have h4 := hm.s
 unfold sumsP
 simp only
 omega
theorem zadj {s : Gs} (hs : ShOk s) {mix : List Int} (hm : MixOk s mix) (p : P3) : 0 ≤ mostI s mix p ∧ mostI s mix p ≤ 800 ∧ 0 ≤ sumL mix * (aimP s p).Low ∧ sumL mix * (aimP s p).Low ≤ sumL mix * (aimP s p).High ∧ sumL mix * (aimP s p).High ≤ 792 := by
 have h1 := zajj hs hm p
 have h2 := zasf hs p
 have h3 := hm.s
 have h4 := mulR (a := sumL mix) (A := 8) (by omega) h3.2 h2.1 (show (aimP s p).Low ≤ 99 by omega)
 have h5 := mulR (a := sumL mix) (A := 8) (by omega) h3.2 (show 0 ≤ (aimP s p).High by omega) h2.2.2
 have h6 := Int.mul_le_mul_of_nonneg_left h2.2.1 (show 0 ≤ sumL mix by omega)
 unfold mostI
 split <;> omega
theorem zaqj {s : Gs} (hs : ShOk s) {mix : List Int} (hm : MixOk s mix) (p : P3) (k : Int) : farI s mix p ≤ k ↔ mostI s mix p ≤ k * sumL mix := by
 have h1 := (zadj hs hm p).1
 have h3 := hm.s
 unfold farI
 rw [Int.tdiv_eq_ediv_of_nonneg (by omega)]
 have h2 := Int.ediv_lt_iff_lt_mul (a := mostI s mix p + sumL mix - 1) (b := k + 1) (c := sumL mix) (by omega)
 rw [Int.add_mul, Int.one_mul] at h2
 omega
theorem zatt {s : Gs} (hs : ShOk s) {mix : List Int} (hm : MixOk s mix) (p : P3) : 0 ≤ farI s mix p ∧ farI s mix p ≤ 800 := by
 have h1 := zadj hs hm p
 have h3 := hm.s
 refine ⟨?_, (zaqj hs hm p 800).2 (by omega)⟩
 unfold farI
 rw [Int.tdiv_eq_ediv_of_nonneg (by omega)]
 exact Int.ediv_nonneg (by omega) (by omega)
theorem zard {s : Gs} (hs : ShOk s) {mix : List Int} (hm : MixOk s mix) (p : P3) : zbh ⟨s, mix⟩ p.i = some (farI s mix p) := by
 have h1 := zajj hs hm p
 have h2 := zadj hs hm p
 have h3 := hm.s
 have h4 := zatt hs hm p
 have hne : (sumL mix != 0) = true := by simp; omega
 have e1 : IntKind.i64.wrap (sumL mix * (aimP s p).Low) = sumL mix * (aimP s p).Low := zbk (by omega) (by omega)
 have e2 : IntKind.i64.wrap (sumL mix * (aimP s p).High) = sumL mix * (aimP s p).High := zbk (by omega) (by omega)
 have e3 : IntKind.i64.wrap ((sumsP s mix p).High - sumL mix * (aimP s p).Low) = (sumsP s mix p).High - sumL mix * (aimP s p).Low := zbk (by omega) (by omega)
 have e4 : IntKind.i64.wrap (sumL mix * (aimP s p).High - (sumsP s mix p).Low) = sumL mix * (aimP s p).High - (sumsP s mix p).Low := zbk (by omega) (by omega)
 have e5 : IntKind.i64.wrap (mostI s mix p + sumL mix) = mostI s mix p + sumL mix := zbk (by omega) (by omega)
 have e6 : IntKind.i64.wrap (mostI s mix p + sumL mix - 1) = mostI s mix p + sumL mix - 1 := zbk (by omega) (by omega)
 have e7 : IntKind.i64.wrap (farI s mix p) = farI s mix p := zbk (by omega) (by omega)
 have key : some (IntKind.i64.wrap (Int.tdiv (IntKind.i64.wrap ((IntKind.i64.wrap ((if (IntKind.i64.wrap ((sumsP s mix p).High - (IntKind.i64.wrap (sumL mix * (aimP s p).Low)))) < (IntKind.i64.wrap ((IntKind.i64.wrap (sumL mix * (aimP s p).High)) - (sumsP s mix p).Low)) then (IntKind.i64.wrap ((IntKind.i64.wrap (sumL mix * (aimP s p).High)) - (sumsP s mix p).Low)) else (IntKind.i64.wrap ((sumsP s mix p).High - (IntKind.i64.wrap (sumL mix * (aimP s p).Low))))) + sumL mix)) - 1)) (sumL mix))) = some (farI s mix p) := by
  rw [e1, e2, e3, e4]
  show some (IntKind.i64.wrap (Int.tdiv (IntKind.i64.wrap ((IntKind.i64.wrap (mostI s mix p + sumL mix)) - 1)) (sumL mix))) = _
  rw [e5, e6]
  exact congrArg some e7
 unfold zbh
 rw [zads hs hm, zapu hs, zwo hs hm]
 simp only [Option.bind_some, hne, cond_true]
 cases p <;> simp only [P3.i, Int.reduceBEq, cond_true, cond_false] <;> exact key
def surelyB (s : Gs) (mix : List Int) : Bool := decide (farI s mix .p0 ≤ s.Off) && (decide (farI s mix .p1 ≤ s.Off) && decide (farI s mix .p2 ≤ s.Off))
theorem zado {s : Gs} (hs : ShOk s) {mix : List Int} (hm : MixOk s mix) (p : P3) : zbt ⟨s, mix⟩ p.i = some (cond (decide (farI s mix p ≤ s.Off)) (.inl ()) (.inr ())) := by
 unfold zbt
 rw [zard hs hm p]
 simp only [Option.bind_some]
 by_cases h : farI s mix p ≤ s.Off
 ·rw [decide_eq_true h, decide_eq_false (by show ¬ farI s mix p > s.Off; omega)]; rfl
 ·rw [decide_eq_false h, decide_eq_true (by show farI s mix p > s.Off; omega)]; rfl
theorem zagr {s : Gs} (hs : ShOk s) {mix : List Int} (hm : MixOk s mix) : zbn ⟨s, mix⟩ = some (surelyB s mix) := by
 have m0 := zado hs hm .p0
 have m1 := zado hs hm .p1
 have m2 := zado hs hm .p2
 simp only [P3.i] at m0 m1 m2
 unfold zbn surelyB
 rw [m0, m1, m2]
 cases decide (farI s mix .p0 ≤ s.Off) <;> cases decide (farI s mix .p1 ≤ s.Off) <;> cases decide (farI s mix .p2 ≤ s.Off) <;> rfl
end Go.V
end
section
namespace Go.V
open Go
section
variable {P : Program} {G : Glob} {ops : Array Oper} {base : Nat} {Q : VExit → St → Prop} {n : Nat}
end
end Go.V
namespace Go.V
open Go
section
variable {P : Program} {G : Glob} {ops : Array Oper} {base : Nat} {Q : VExit → St → Prop} {n : Nat}
end
section
variable {P : Program} {G : Glob} {ops : Array Oper} {base : Nat} {Q : VExit → St → Prop} {n : Nat} {i m b : Nat} {o : Oper} {l l2 : List Oper} {mk mE mL : List Bool} {tr : Tr} {K : Tr → St → Prop} {tm : Nat → VV} {H : Nat → Option VObj} {nx : Nat} {df : List VDef} {st : St} {rest : List (List Bool × Nat)}
end
end Go.V
namespace Go.V
set_option linter.defProp false
end Go.V
end
section
namespace Go.V
open Go
def gone (H H' : Nat → Option VObj) : Nat → Option VObj := fun β => if (H' β).isSome then none else H β
theorem SubHeap.gone (H H' : Nat → Option VObj) : SubHeap (gone H H') H := fun x o h => by
 unfold Go.V.gone at h
 split at h
 ·cases h
 ·exact h
def Frozen (H H' : Nat → Option VObj) (x y : VV) : Prop := y = x ∨ y = .any ∨ ∃ n, sealV (gone H H') n x = some y
def FrozenL (H H' : Nat → Option VObj) : List VV → List VV → Prop
 | [], [] => True
 | x :: xs, y :: ys => Frozen H H' x y ∧ FrozenL H H' xs ys
 | _, _ => False
def FrozenO (H H' : Nat → Option VObj) (o o' : VObj) : Prop := o' = o ∨ ∃ el cs cs', o = .cells el cs ∧ o' = .cells el cs' ∧ FrozenL H H' cs cs'
def Ctx.frz (c : Ctx) (H' : Nat → Option VObj) : Ctx := { c with H := H', A := fun b => c.A b ∨ ∃ β, c.live β ∧ (H' β).isSome = false ∧ c.φ β = b }
section
variable {c : Ctx} {W : World} {H' : Nat → Option VObj}
theorem zie (hl : ∀ β, (H' β).isSome = true → c.live β) : Abides c W (c.frz H') W := ⟨fun _ h => .inl h, fun _ _ => rfl, fun _ h => h, fun β _ h => hl β h, fun _ _ _ => rfl, fun _ _ _ => rfl⟩
theorem zxh (hl : ∀ β, (H' β).isSome = true → c.live β) : Ext c W (c.frz H') W where
 A _ h := .inl h
 newA b h := h.imp id fun ⟨β, h1, _, e⟩ => .inr ⟨β, h1, e⟩
 used _ h := h
 live β _ h := hl β h
 φ _ _ _ := rfl
 room _ _ _ := rfl
 keep _ _ _ := rfl
 old x h _ := ⟨x, hl x h, rfl⟩
 size := Nat.le_refl _
 os := rfl
 tape := rfl
 output := rfl
theorem zth (s : Sim c W) (hl : ∀ β, (H' β).isSome = true → c.live β) {x y : VV} {v : Value} (h : Frozen c.H H' x y) (hr : Rep c W x v) : Rep (c.frz H') W y v := by
 rcases h with rfl | rfl | ⟨n, hn⟩
 ·exact Rep.abides (zie hl) _ hr
 ·unfold Rep; trivial
 ·have h1 := (zja s (SubHeap.gone c.H H') n).1 x v y hn hr
  refine Rep.abides (zcs fun b hb => ?_) _ h1
  rcases hb with hb | ⟨β, hβ, e⟩
  ·exact .inl hb
  ·refine .inr ⟨β, ?_, ?_, e⟩
   ·unfold Go.V.gone at hβ
    split at hβ
    ·cases hβ
    ·exact hβ
   ·cases h0 : (H' β).isSome with
    | false => rfl
    | true => unfold Go.V.gone at hβ; rw [h0] at hβ; cases hβ
theorem zih (s : Sim c W) (hl : ∀ β, (H' β).isSome = true → c.live β) : ∀ {xs ys : List VV} {l : List Value}, FrozenL c.H H' xs ys → RepL c W xs l → RepL (c.frz H') W ys l
 | [], [], _, _, h => h
 | _ :: _, _ :: _, _, ⟨h1, h2⟩, ⟨u, us, e, r1, r2⟩ => ⟨u, us, e, zth s hl h1 r1, zih s hl h2 r2⟩
 | [], _ :: _, _, h, _ => h.elim
 | _ :: _, [], _, h, _ => h.elim
theorem FrozenL.length {H H' : Nat → Option VObj} : ∀ {xs ys : List VV}, FrozenL H H' xs ys → ys.length = xs.length
 | [], [], _ => rfl
 | _ :: _, _ :: _, h => by simp [FrozenL.length h.2]
 | [], _ :: _, h => h.elim
 | _ :: _, [], h => h.elim
theorem Sim.frz (s : Sim c W) (ho : ∀ β o', H' β = some o' → ∃ o, c.H β = some o ∧ FrozenO c.H H' o o') (hloop : ∀ x st pe tm ps asg bo df, H' x = some (.loop st pe tm ps asg bo df) → isDef H' df) : Sim (c.frz H') W := by
 have hl : ∀ β, (H' β).isSome = true → c.live β := by
  intro β h
  obtain ⟨o', h'⟩ := Option.isSome_iff_exists.1 h
  obtain ⟨o, h1, _⟩ := ho β o' h'
  simp [Ctx.live, h1]
 have ab : Abides c W (c.frz H') W := zie hl
 refine ⟨fun x h => s.used x (hl x h), fun x ox hx => ?_, fun x h => s.lt x (hl x h), fun x h => ?_, fun x y hx hy e => s.inj x y (hl x hx) (hl y hy) e, fun b hb => ?_⟩
 ·have hx0 : H' x = some ox := hx
  obtain ⟨o, h1, hf⟩ := ho x ox hx0
  rcases hf with rfl | ⟨el, cs, cs', rfl, rfl, hcs⟩
  ·refine (s.obj x _ h1).abides ab (s.used x (hl x (by simp [hx0]))) (by simp [Ctx.live, Ctx.frz, hx0]) rfl ?_
   intro st pe tm ps asg bo df e'
   subst e'
   exact hloop x st pe tm ps asg bo df hx0
  ·obtain ⟨arr, e, a1, a2, a3, a4, a5⟩ := s.obj x _ h1
   exact ⟨arr, e, a1, a2, by rw [hcs.length]; exact a3, by rw [hcs.length]; exact zih s hl hcs a4, a5⟩
 ·rintro (hA | ⟨β, h1, hn, e⟩)
  ·exact s.notA x (hl x h) hA
  ·have := s.inj β x h1 (hl x h) e
   subst this
   have h' : (H' β).isSome = true := h
   rw [h'] at hn; cases hn
 ·rcases hb with hA | ⟨β, h1, _, e⟩
  ·exact s.ltA b hA
  ·rw [← e]; exact s.lt β h1
end
theorem VWp.freeze {P : Program} {G : Glob} {n : Nat} {code : Code} {Q : VExit → St → Prop} {st : St} (H' : Nat → Option VObj) (tm' : Nat → VV) (ho : ∀ β o', H' β = some o' → ∃ o, st.H β = some o ∧ FrozenO st.H H' o o') (hloop : ∀ x s pe tm ps asg bo df, H' x = some (.loop s pe tm ps asg bo df) → isDef H' df)
  (htm : ∀ t, Frozen st.H H' (st.tm t) (tm' t)) (h : VWp P G n code Q ⟨tm', H', st.nx, st.df⟩) : VWp P G n code Q st := by
 intro ro c W a hro s hr hsz
 have ho' : ∀ β o', H' β = some o' → ∃ o, c.H β = some o ∧ FrozenO c.H H' o o' := by rw [hr.H]; exact ho
 have hl : ∀ β, (H' β).isSome = true → c.live β := by
  intro β h
  obtain ⟨o', h'⟩ := Option.isSome_iff_exists.1 h
  obtain ⟨o, h1, _⟩ := ho' β o' h'
  simp [Ctx.live, h1]
 have he : Ext c W (c.frz H') W := zxh hl
 have ab : Abides c W (c.frz H') W := zie hl
 refine wpIn_mono (h ro (c.frz H') W a (hro.ext he) (s.frz ho' hloop) ⟨rfl, fun t => ?_, hr.nx, hr.df.abides ab, hr.G.abides ab⟩ hsz) fun _ _ _ hl => hl.of_ext he (fun β hb => .inl hb) (Nat.le_refl _)
 exact zth s hl (by rw [hr.H]; exact htm t) (hr.tm t)
end Go.V
end
section
namespace Go.V
open Go
theorem VOpen.freeze {P : Program} {G : Glob} {f : FuncId} {args args' : List VV} {H : Nat → Option VObj} {nx : Nat} {R Rp : VV → (Nat → Option VObj) → Nat → Prop} (H' : Nat → Option VObj) (ho : ∀ β o', H' β = some o' → ∃ o, H β = some o ∧ FrozenO H H' o o')
  (hloop : ∀ x s pe tm ps asg bo df, H' x = some (.loop s pe tm ps asg bo df) → isDef H' df) (ha : FrozenL H H' args args') (h : VOpen P G f args' H' nx R Rp) : VOpen P G f args H nx R Rp := by
 refine ⟨h.1, fun c W vs s hH hnx hG hargs => ?_⟩
 have ho' : ∀ β o', H' β = some o' → ∃ o, c.H β = some o ∧ FrozenO c.H H' o o' := by rw [hH]; exact ho
 have hl : ∀ β, (H' β).isSome = true → c.live β := by
  intro β h
  obtain ⟨o', h'⟩ := Option.isSome_iff_exists.1 h
  obtain ⟨o, h1, _⟩ := ho' β o' h'
  simp [Ctx.live, h1]
 have he : Ext c W (c.frz H') W := zxh hl
 have ab : Abides c W (c.frz H') W := zie hl
 refine (h.2 (c.frz H') W vs (s.frz ho' hloop) rfl hnx (hG.abides ab) (zih s hl (by rw [hH]; exact ha) hargs)).mono ?_
 rintro e W' ⟨c', H1, nx', g1, g2, g3, g4, g5, g6, g7⟩
 exact ⟨c', H1, nx', he.trans g1, g2, g3, g4, g5, g6, g7⟩
def Yields (P : Program) (G : Glob) (β : Nat) (x : VV) (H : Nat → Option VObj) (nx : Nat) (Post : Bool → (Nat → Option VObj) → Nat → Prop) : Prop :=
 ∀ (r : Option (Option Nat)) (o : Oper) (st : St) (K : St → Prop), st.H = H → st.nx = nx → (∀ b H' nx', Post b H' nx' → K ⟨(match o.dst with | some d => upd st.tm d (.lit (.bool b)) | none => st.tm), H', nx', st.df⟩) → yieldK P (G.at r) o β [x] st K
theorem Yields.mono {P : Program} {G : Glob} {β : Nat} {x : VV} {H : Nat → Option VObj} {nx : Nat} {Post Post' : Bool → (Nat → Option VObj) → Nat → Prop} (h : Yields P G β x H nx Post) (hp : ∀ b H' nx', Post b H' nx' → Post' b H' nx') : Yields P G β x H nx Post' :=
 fun r o st K h1 h2 hk => h r o st K h1 h2 fun b H' nx' hp' => hk b H' nx' (hp b H' nx' hp')
abbrev Inv := Option (List VV) → (Nat → Prop) → (Nat → Option VObj) → Nat → Prop
def Stable (I : Inv) : Prop := ∀ o (Fr Fr1 : Nat → Prop) (H H1 : Nat → Option VObj) (nx nx1 : Nat), I o Fr H nx → (∀ γ, γ < nx → ¬ Fr γ → H1 γ = H γ) → nx ≤ nx1 → (∀ γ, Fr1 γ → Fr γ ∨ (nx ≤ γ ∧ γ < nx1)) → I o Fr1 H1 nx1
def Rounds (P : Program) (G : Glob) (β : Nat) (I : Inv) : Prop := ∀ x rest (Fr : Nat → Prop) (H : Nat → Option VObj) (nx : Nat), (∀ γ, Fr γ → γ < nx) → I (some (x :: rest)) Fr H nx →
 Yields P G β x H nx (fun b H' nx' => nx ≤ nx' ∧ (∀ γ, Fr γ → H' γ = H γ) ∧ I (if b then some rest else none) Fr H' nx')
def noFr : Nat → Prop := fun _ => False
def Iter (P : Program) (G : Glob) (g : VV) (L : List VV) : Prop := ∃ f first captured, g = .fn (.func f) first captured ∧ ∀ (β : Nat) (I : Inv), Stable I → Rounds P G β I → ∀ (H : Nat → Option VObj) (nx : Nat), β < nx → I (some L) noFr H nx →
 VOpen P G f (first ++ [.yl β] ++ captured) H nx (fun _ H' nx' => I (some []) noFr H' nx' ∨ I none noFr H' nx') (fun _ _ _ => False)
def Own (hp : List (Nat × VObj)) (Fr : Nat → Prop) (H : Nat → Option VObj) (nx : Nat) : Prop := ∀ p ∈ hp, p.1 < nx ∧ ¬ Fr p.1 ∧ H p.1 = some p.2
theorem Own.stable {hp : List (Nat × VObj)} {Fr Fr1 : Nat → Prop} {H H1 : Nat → Option VObj} {nx nx1 : Nat} (h : Own hp Fr H nx) (h1 : ∀ γ, γ < nx → ¬ Fr γ → H1 γ = H γ) (h2 : nx ≤ nx1) (h3 : ∀ γ, Fr1 γ → Fr γ ∨ (nx ≤ γ ∧ γ < nx1)) : Own hp Fr1 H1 nx1 := by
 intro p hp
 obtain ⟨a, b, c⟩ := h p hp
 refine ⟨Nat.lt_of_lt_of_le a h2, fun hf => ?_, by rw [h1 p.1 a b]; exact c⟩
 rcases h3 p.1 hf with hf | hf
 ·exact b hf
 ·omega
theorem Own.nil {Fr : Nat → Prop} {H : Nat → Option VObj} {nx : Nat} : Own [] Fr H nx := fun _ h => by cases h
theorem Own.cons {p : Nat} {o : VObj} {hp : List (Nat × VObj)} {Fr : Nat → Prop} {H : Nat → Option VObj} {nx : Nat} (h1 : p < nx) (h2 : ¬ Fr p) (h3 : H p = some o) (h : Own hp Fr H nx) : Own ((p, o) :: hp) Fr H nx := by
 intro q hq
 rcases List.mem_cons.1 hq with rfl | hq
 ·exact ⟨h1, h2, h3⟩
 ·exact h q hq
theorem Own.head {p : Nat} {o : VObj} {hp : List (Nat × VObj)} {Fr : Nat → Prop} {H : Nat → Option VObj} {nx : Nat} (h : Own ((p, o) :: hp) Fr H nx) : p < nx ∧ ¬ Fr p ∧ H p = some o := h (p, o) (List.mem_cons_self ..)
theorem Own.tail {p : Nat} {o : VObj} {hp : List (Nat × VObj)} {Fr : Nat → Prop} {H : Nat → Option VObj} {nx : Nat} (h : Own ((p, o) :: hp) Fr H nx) : Own hp Fr H nx := fun q hq => h q (List.mem_cons_of_mem _ hq)
def ownI (J : Option (List VV) → List (Nat × VObj) → Prop) : Inv := fun o Fr H nx => ∃ hp, Own hp Fr H nx ∧ J o hp
theorem zkc {J : Option (List VV) → List (Nat × VObj) → Prop} : Stable (ownI J) := fun _ _ _ _ _ _ _ ⟨hp, h, hj⟩ h1 h2 h3 => ⟨hp, h.stable h1 h2 h3, hj⟩
def ownI2 (I : Inv) (J : Option (List VV) → Option (List VV) → List (Nat × VObj) → Prop) : Inv := fun o Fr H nx => ∃ hp o', Own hp Fr H nx ∧ J o o' hp ∧ I o' (fun γ => Fr γ ∨ ∃ p ∈ hp, p.1 = γ) H nx
theorem zkx {I : Inv} (hs : Stable I) {J : Option (List VV) → Option (List VV) → List (Nat × VObj) → Prop} : Stable (ownI2 I J) := by
 rintro o Fr Fr1 H H1 nx nx1 ⟨hp, o', h, hj, hi⟩ h1 h2 h3
 refine ⟨hp, o', h.stable h1 h2 h3, hj, hs _ _ _ _ _ _ _ hi (fun γ hlt hn => h1 γ hlt fun hf => hn (.inl hf)) h2 ?_⟩
 rintro γ (hf | hf)
 ·rcases h3 γ hf with hf | hf
  ·exact .inl (.inl hf)
  ·exact .inr hf
 ·exact .inl (.inr hf)
section
variable {P : Program} {G : Glob} {n : Nat} {Q : VExit → St → Prop} {tm : Nat → VV} {H : Nat → Option VObj} {nx : Nat} {df : List VDef} {g : Operand} {ps : Array Tmp} {az bo : Code}
def RPost (β : Nat) (LB LO : VObj) (LD : Code → VObj) (Post : Bool → (Nat → Option VObj) → Nat → Prop) : VExit → St → Prop
 | .normal, s => s.H β = some LB ∧ Post true (updH s.H β LO) s.nx
 | .ret, s => s.H β = some LB ∧ Post false (updH s.H β (LD .ret)) s.nx
 | .exit id, s => s.H β = some LB ∧ Post false (updH s.H β (LD (.exit id))) s.nx
 | _, _ => False
def RStart (P : Program) (G : Glob) (n β : Nat) (LB LO : VObj) (LD : Code → VObj) (bo : Code) (Post : Bool → (Nat → Option VObj) → Nat → Prop) : VExit → St → Prop
 | .normal, s => s.H β = some LO ∧ CWp P (G.at (some (some β))) n bo (RPost β LB LO LD Post) { s with H := updH s.H β LB }
 | _, _ => False
theorem zfv (hm : P.follows .mixedOrders = true) {β : Nat} {x : VV} {Post : Bool → (Nat → Option VObj) → Nat → Prop} {LO : VObj} {tml : List VV} {d : Nat} {psl : List Tmp} (hL : LO = VObj.loop .ready none tml ⟨psl⟩ az bo d) (hβ : H β = some LO) (hn : tml.length = n) (ha : psl.length = 1)
  (h1 : codeOk n az = true) (h2 : codeOk n bo = true)
  (h : ∀ LB LD, LB = VObj.loop .busy none tml ⟨psl⟩ az bo d → LD = (fun c => VObj.loop .done (some c) tml ⟨psl⟩ az bo d) →
   CWp P (G.at (some (some β))) n az (RStart P G n β LB LO LD bo Post) ⟨argsTm (roundTm tml psl [x]), H, nx, []⟩) : Yields P G β x H nx Post := by
 intro r o st K e1 e2 hk
 subst e1 e2
 replace hk : ∀ b H' nx', Post b H' nx' → K { st.put o.dst (.lit (.bool b)) with H := H', nx := nx' } := by
  intro b H' nx' hp
  have := hk b H' nx' hp
  obtain ⟨d, op, ty, pos, af, gd⟩ := o
  cases d <;> exact this
 refine zafd hm hL hβ hn (by simp [ha]) h1 h2 fun LB LD hB hD => ?_
 refine CWp.mono az _ ?_ (h LB LD hB hD)
 intro e s hs
 cases e with
 | normal =>
  refine ⟨hs.1, CWp.mono bo _ ?_ hs.2⟩
  intro e s2 hs2
  cases e with
  | normal => exact ⟨hs2.1, hk _ _ _ hs2.2⟩
  | ret => exact ⟨hs2.1, hk _ _ _ hs2.2⟩
  | exit id => exact ⟨hs2.1, hk _ _ _ hs2.2⟩
  | goto l => exact hs2.elim
  | panic x => exact hs2.elim
 | _ => exact hs.elim
theorem zhj {itv : VV} {L : List VV} (hit : Iter P G itv L) (hg : ev (G.at (some none)) tm g = itv)
  (h : ∀ LO, LO = VObj.loop .ready none (tmL n tm) ps az bo nx → ∃ I : Inv, Stable I ∧ Rounds P G (nx + 1) I ∧ I (some L) noFr (updH (updH H nx (.deferred (some []))) (nx + 1) LO) (nx + 2) ∧
   ∀ H' nx', I (some []) noFr H' nx' ∨ I none noFr H' nx' → RangeEnd P (G.at (some none)) n Q ⟨tm, H, nx, df⟩ H' nx') : CWp P (G.at (some none)) n (.rangeFunc g ps az bo) Q ⟨tm, H, nx, df⟩ := by
 obtain ⟨f, first, captured, rfl, hv⟩ := hit
 refine zadu hg fun LO hL => ?_
 obtain ⟨I, hs, hr, h0, he⟩ := h LO hL
 exact VOpen.mono (hv (nx + 1) I hs hr _ _ (Nat.lt_succ_self _) h0) (fun _ H' nx' hh => he H' nx' hh) (fun _ _ _ hh => hh.elim)
end
end Go.V
end
