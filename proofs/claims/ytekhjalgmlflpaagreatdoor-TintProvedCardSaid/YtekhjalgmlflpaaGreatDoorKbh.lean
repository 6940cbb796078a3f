/- Part of a proof. -/
import Derived.Test.YtekhjalgmlflpaaGreatDoorKbg
set_option linter.all false
set_option maxRecDepth 4000
set_option maxHeartbeats 40000000
section
namespace Go.V
open Go Go.Proofs IntKind
def D8 (ae : Gs) (an : List Int) : Option (Bool) := Option.bind (FW ae) (fun r1 => cond (r1) (cond (decide ((List.length an : Int) ≤ 6)) (Option.bind (BB ae) (fun r2 => cond (r2) (Option.bind (BV ae an) (fun r3 => some r3)) (some false))) (some false)) (some false))
theorem zpk (ae : Gs) (an : List Int) (R : Bool) (h : D8 ae an = some R) : ad Tryz.prog G0 31 [.agg (cGs ae), .sl (aa eI an) (List.length an) false] (.tree (.lit (.bool R))) := by
 refine ad.runR mixed Tryz.call31 Tryz.func31 rfl (by simp [Tryz.ntmps31]; kernel_rfl) ?_
 obtain ⟨KF, h, kF, kN⟩ := cQ h
 simp only [D8] at h
 obtain ⟨r4, o5, h⟩ := optI h kN
 try simp only [hs] at h
 simp only [vz, tyf, nm, seval]
 refine ktA (zpu _ _ o5) ?_
 refine aV (fun tm => tm 1 = .sl (aa eI an) (List.length an) false ∧ tm 2 = .ptr 0 0 ∧ tm 6 = .lit (.bool r4) ∧ True) (by refine ⟨?_, ?_, ?_, trivial⟩ <;> first | (simp only [ua, nm, seval] <;> rfl) | rfl) ?_
 rintro tm ⟨e6, e7, e8, _⟩
 cases d9 : (r4)
 ·simp only [d9, hs] at h
  try simp only [vz, tyf, e6, e7, e8, d9, nm, seval]
  obtain rfl := kF _ h
  exact bl Tryz.results31 rfl
 simp only [d9, hs] at h
 cases bX : (decide ((List.length an : Int) ≤ 6))
 ·simp only [bX, hs] at h
  try simp only [vz, tyf, e6, e7, e8, d9, bX, nm, seval]
  obtain rfl := kF _ h
  exact bl Tryz.results31 rfl
 simp only [bX, hs] at h
 obtain ⟨dW, pO, h⟩ := optI h kN
 try simp only [hs] at h
 simp only [vz, tyf, e6, e7, e8, d9, bX, nm, seval]
 refine ktA (ZQ _ _ pO) ?_
 refine aV (fun tm => tm 1 = .sl (aa eI an) (List.length an) false ∧ tm 2 = .ptr 0 0 ∧ tm 12 = .lit (.bool true) ∧ tm 14 = .lit (.bool dW) ∧ True) (by refine ⟨e6, e7, ?_, ?_, trivial⟩ <;> first | (simp only [ua, e6, e7, e8, d9, bX, nm, seval] <;> rfl) | rfl) ?_
 rintro tm ⟨bd, bg, bK, bw, _⟩
 cases cL : (dW)
 ·simp only [cL, hs] at h
  try simp only [vz, tyf, d9, bX, bd, bg, bK, bw, cL, nm, seval]
  obtain rfl := kF _ h
  exact bl Tryz.results31 rfl
 simp only [cL, hs] at h
 obtain ⟨kQ, iT, h⟩ := optI h kN
 try simp only [hs] at h
 simp only [vz, tyf, d9, bX, bd, bg, bK, bw, cL, nm, seval]
 refine ktA (ztm _ _ _ iT) ?_
 refine aV (fun tm => tm 16 = .lit (.bool true) ∧ tm 19 = .lit (.bool kQ) ∧ True) (by refine ⟨?_, ?_, trivial⟩ <;> first | (simp only [ua, d9, bX, bd, bg, bK, bw, cL, nm, seval] <;> rfl) | rfl) ?_
 rintro tm ⟨cB, bJ, _⟩
 try simp only [vz, tyf, d9, bX, cL, cB, bJ, nm, seval]
 obtain rfl := kF _ h
 exact bl Tryz.results31 rfl
inductive P3 where
 | p0
 | p1
 | p2
def P3.i : P3 → Int
 | .p0 => 0
 | .p1 => 1
 | .p2 => 2
def selS (c : Ga) : P3 → GSpan
 | .p0 => c.a0
 | .p1 => c.a1
 | .p2 => c.a2
def selI (c : Gi) : P3 → Int
 | .p0 => c.a0
 | .p1 => c.a1
 | .p2 => c.a2
theorem zA (a n b : Int) : qn a n b = some (inB a b n) := csome _ _
theorem ru (n a b : Int) : j6 n a b = some (inB a b n) := csome _ _
def spB (m : Int) (x : GSpan) : Bool := decide (0 ≤ x.Low) && (decide (x.Low ≤ x.High) && decide (x.High ≤ m))
theorem yW {m : Int} {x : GSpan} : spB m x = true ↔ 0 ≤ x.Low ∧ x.Low ≤ x.High ∧ x.High ≤ m := by simp [spB]
theorem Yb (x : GSpan) (m : Int) : zR 0 x m = some (spB m x) := by
 unfold zR spB
 cases decide (0 ≤ x.Low) <;> cases decide (x.Low ≤ x.High) <;> rfl
theorem Hj (x : GSpan) (m : Int) : p7 x m = some (spB m x) := by
 unfold p7
 simp only [ru, Option.bind_some]
 rw [csome]
 congr 1
 rw [Bool.eq_iff_iff]
 simp only [Bool.and_eq_true, mr, yW]
 omega
theorem Yc (a b : Int) : ∀ (p : List Int) (c : Int), zP a b p c = goB (p.all (inB a b))
 | [], _ => rfl
 | e :: p, c => by
  simp only [zP, zA, Option.bind_some, Yc a b p, List.all_cons, qi]
theorem Yd (a b : Int) {x : List Int} (h : lenOk x = true) : zQ a x b = some (x.all (inB a b)) := by
 unfold zQ
 rw [h, Yc, vW]
 cases x.all (inB a b) <;> rfl
theorem Ye (b : Int) : ∀ (p : List GSpan) (c : Int), zS 0 b p c = goB (p.all (spB b))
 | [], _ => rfl
 | e :: p, c => by
  simp only [zS, Yb, Option.bind_some, Ye b p, List.all_cons, qi]
theorem Yf (b : Int) {x : List GSpan} (h : lenOk x = true) : wI 0 x b = some (x.all (spB b)) := by
 unfold wI
 rw [h, Ye, vW]
 cases x.all (spB b) <;> rfl
def tinB (t : Gt) : Bool := spB 99 t.pg.a0 && (spB 99 t.pg.a1 && spB 99 t.pg.a2)
def sheetB (s : Gs) : Bool := (inB 0 99 s.Old.a0 && (inB 0 99 s.Old.a1 && inB 0 99 s.Old.a2)) && ((spB 9 s.Fade.a0 && (spB 9 s.Fade.a1 && spB 9 s.Fade.a2)) && (spB 20 s.Years && (inB 1 20 s.Off && (inB 1 4 s.Tins.length && s.Tins.all tinB))))
theorem Yg : ∀ (p : List Gt) (c : Int), zT p c = goB (p.all tinB)
 | [], _ => rfl
 | e :: p, c => by
  have h : wI 0 [e.pg.a0, e.pg.a1, e.pg.a2] 99 = some (tinB e) := by
   rw [Yf 99 (sJ (by simp only [List.length_cons, List.length_nil]; decide))]
   simp only [List.all_cons, List.all_nil, Bool.and_true]
   rfl
  simp only [zT, h, Option.bind_some, Yg p, List.all_cons, qi]
theorem Q3 {s : Gs} (h : lenOk s.Tins = true) : my s = some (sheetB s) := by
 unfold my G3
 rw [Yd 0 99 (sJ (by simp only [List.length_cons, List.length_nil]; decide)), Yf 9 (sJ (by simp only [List.length_cons, List.length_nil]; decide)), Yb, zA, zA, h, Yg, vW]
 simp only [List.all_cons, List.all_nil, Bool.and_true, Option.bind_some, sheetB]
 cases (inB 0 99 s.Old.a0 && (inB 0 99 s.Old.a1 && inB 0 99 s.Old.a2)) <;> cases (spB 9 s.Fade.a0 && (spB 9 s.Fade.a1 && spB 9 s.Fade.a2)) <;> cases spB 20 s.Years <;> cases inB 1 20 s.Off <;> cases inB 1 4 (s.Tins.length : Int) <;> cases s.Tins.all tinB <;> rfl
theorem Yh : ∀ (p : List Gt) (c : Int), rj p c = goB (p.all fun t => spB 99 t.pg.a0)
 | [], _ => rfl
 | e :: p, c => by simp only [rj, Hj, Option.bind_some, Yh p, List.all_cons, qi]
theorem Yi : ∀ (p : List Gt) (c : Int), ri p c = goB (p.all fun t => spB 99 t.pg.a1)
 | [], _ => rfl
 | e :: p, c => by simp only [ri, Hj, Option.bind_some, Yi p, List.all_cons, qi]
theorem Yj : ∀ (p : List Gt) (c : Int), rh p c = goB (p.all fun t => spB 99 t.pg.a2)
 | [], _ => rfl
 | e :: p, c => by simp only [rh, Hj, Option.bind_some, Yj p, List.all_cons, qi]
theorem EO : ∀ (p : List Gt), p.all tinB = ((p.all fun t => spB 99 t.pg.a0) && ((p.all fun t => spB 99 t.pg.a1) && (p.all fun t => spB 99 t.pg.a2)))
 | [] => rfl
 | e :: p => by
  simp only [List.all_cons, EO p, tinB]
  cases spB 99 e.pg.a0 <;> cases spB 99 e.pg.a1 <;> cases spB 99 e.pg.a2 <;> simp
theorem QI {s : Gs} (h : lenOk s.Tins = true) : BB s = some (sheetB s) := by
 unfold BB FP sheetB
 rw [EO, show Int.toNat (3 - 0) = 3 from rfl, show boundOk 3 = true from rfl]
 simp only [vc, h, Yh, Yi, Yj, vW, Hj, ru, Option.bind_some, Int.reduceAdd, Int.reduceBEq, cond_true, cond_false]
 cases inB 0 99 s.Old.a0 <;> cases inB 0 99 s.Old.a1 <;> cases inB 0 99 s.Old.a2 <;> cases spB 9 s.Fade.a0 <;> cases spB 9 s.Fade.a1 <;> cases spB 9 s.Fade.a2 <;> simp only [cond_true, cond_false, Bool.false_and, Bool.true_and, Bool.and_false, aK] <;> first | (cases spB 20 s.Years <;> cases inB 1 20 s.Off <;> cases inB 1 4 (s.Tins.length : Int) <;> rfl) | (cases spB 20 s.Years <;> cases inB 1 20 s.Off <;> cases inB 1 4 (s.Tins.length : Int) <;> cases (s.Tins.all fun t => spB 99 t.pg.a0) <;> first | rfl | (cases (s.Tins.all fun t => spB 99 t.pg.a1) <;> first | rfl | (cases (s.Tins.all fun t => spB 99 t.pg.a2) <;> rfl)))
structure ShOk (s : Gs) : Prop where
 old : ∀ p, 0 ≤ selI s.Old p ∧ selI s.Old p ≤ 99
 fade : ∀ p, 0 ≤ (selS s.Fade p).Low ∧ (selS s.Fade p).Low ≤ (selS s.Fade p).High ∧ (selS s.Fade p).High ≤ 9
 yrs : 0 ≤ s.Years.Low ∧ s.Years.Low ≤ s.Years.High ∧ s.Years.High ≤ 20
 off : 1 ≤ s.Off ∧ s.Off ≤ 20
 n : 1 ≤ s.Tins.length ∧ s.Tins.length ≤ 4
 tin : ∀ t ∈ s.Tins, ∀ p, 0 ≤ (selS t.pg p).Low ∧ (selS t.pg p).Low ≤ (selS t.pg p).High ∧ (selS t.pg p).High ≤ 99
theorem ShOk.of {s : Gs} (h : sheetB s = true) : ShOk s := by
 simp only [sheetB, Bool.and_eq_true, List.all_eq_true, tinB, mr, yW] at h
 obtain ⟨⟨h1, h2, h3⟩, ⟨h4, h5, h6⟩, h7, h8, h9, h10⟩ := h
 refine ⟨fun p => ?_, fun p => ?_, h7, h8, by omega, fun t ht p => ?_⟩
 ·cases p <;> assumption
 ·cases p <;> assumption
 ·obtain ⟨a, b, c⟩ := h10 t ht
  cases p <;> assumption
theorem ShOk.ok {s : Gs} (h : ShOk s) : sheetB s = true := by
 simp only [sheetB, Bool.and_eq_true, List.all_eq_true, tinB, mr, yW]
 exact ⟨⟨h.old .p0, h.old .p1, h.old .p2⟩, ⟨h.fade .p0, h.fade .p1, h.fade .p2⟩, h.yrs, h.off, by have := h.n; omega, fun t ht => ⟨h.tin t ht .p0, h.tin t ht .p1, h.tin t ht .p2⟩⟩
def sumL : List Int → Int
 | [] => 0
 | e :: l => e + sumL l
theorem EP : ∀ {l : List Int}, (∀ e ∈ l, 0 ≤ e ∧ e ≤ 8) → 0 ≤ sumL l ∧ sumL l ≤ 8 * l.length
 | [], _ => by simp [sumL]
 | e :: l, h => by
  have h1 := h e (List.mem_cons_self ..)
  have h2 := EP fun x hx => h x (List.mem_cons_of_mem _ hx)
  simp only [sumL, List.length_cons]
  omega
theorem ES : ∀ (l : List Int) (c acc : Int), (∀ e ∈ l, 0 ≤ e ∧ e ≤ 8) → 0 ≤ acc → acc + 8 * l.length ≤ 1000000 → wL l c acc = some (.go (acc + sumL l))
 | [], c, acc, _, _, _ => by simp [wL, sumL]
 | e :: l, c, acc, h, h0, hb => by
  have h1 := h e (List.mem_cons_self ..)
  simp only [List.length_cons] at hb
  simp only [wL]
  rw [cF (by omega) (by omega), ES l _ _ (fun x hx => h x (List.mem_cons_of_mem _ hx)) (by omega) (by omega)]
  simp only [sumL, Int.add_assoc]
theorem ET {l : List Int} (h : ∀ e ∈ l, 0 ≤ e ∧ e ≤ 8) (hl : l.length ≤ 1000) : uZ l = some (sumL l) := by
 unfold uZ
 rw [sJ (by omega), ES l 0 0 h (by omega) (by omega)]
 simp [aK]
theorem Yk : ∀ (l : List Int) (c acc : Int), (∀ e ∈ l, 0 ≤ e ∧ e ≤ 8) → 0 ≤ acc → acc + 8 * l.length ≤ 1000000 → v3 l c acc = some (.go (acc + sumL l))
 | [], c, acc, _, _, _ => by simp [v3, sumL]
 | e :: l, c, acc, h, h0, hb => by
  have h1 := h e (List.mem_cons_self ..)
  simp only [List.length_cons] at hb
  simp only [v3]
  rw [cF (by omega) (by omega), Yk l _ _ (fun x hx => h x (List.mem_cons_of_mem _ hx)) (by omega) (by omega)]
  simp only [sumL, Int.add_assoc]
theorem SC {l : List Int} (h : ∀ e ∈ l, 0 ≤ e ∧ e ≤ 8) (hl : l.length ≤ 1000) : BT l = some (sumL l) := by
 unfold BT
 rw [sJ (by omega), Yk l 0 0 h (by omega) (by omega)]
 simp [aK]
def mixB (s : Gs) (mix : List Int) : Bool := decide (mix.length = s.Tins.length) && (mix.all (inB 0 8) && inB 1 8 (sumL mix))
theorem lenB (a b : Nat) : ((a : Int) == (b : Int)) = decide (a = b) := by
 by_cases h : a = b
 ·simp [h]
 ·rw [decide_eq_false h]; exact beq_false_of_ne (by omega)
theorem Dz {s : Gs} (hs : ShOk s) (mix : List Int) : zV s mix = some (mixB s mix) := by
 unfold zV mixB
 rw [lenB]
 by_cases h : mix.length = s.Tins.length
 ·have hl : mix.length ≤ 1000 := by have := hs.n; omega
  rw [decide_eq_true h, Yd _ _ (sJ (by omega))]
  simp only [cond_true, Option.bind_some, Bool.true_and]
  cases ha : mix.all (inB 0 8) with
  | false => rfl
  | true =>
   have hb : ∀ e ∈ mix, 0 ≤ e ∧ e ≤ 8 := by
    intro e he
    rw [List.all_eq_true] at ha
    exact mr.1 (ha e he)
   rw [ET hb hl]
   simp only [cond_true, Option.bind_some, zA, Bool.true_and]
 ·rw [decide_eq_false h]
  rfl
theorem EU : ∀ (p : List Int) (c : Int), zw p c = goB (p.all (inB 0 8))
 | [], _ => rfl
 | e :: p, c => by
  simp only [zw, ru, Option.bind_some, EU p, List.all_cons, qi]
theorem QJ {s : Gs} (hs : ShOk s) {mix : List Int} (hm : lenOk mix = true) : BV s mix = some (mixB s mix) := by
 unfold BV mixB
 rw [lenB, hm, EU, vW]
 by_cases h : mix.length = s.Tins.length
 ·have hl : mix.length ≤ 1000 := by have := hs.n; omega
  rw [decide_eq_true h]
  simp only [cond_true, Option.bind_some, Bool.true_and]
  cases ha : mix.all (inB 0 8) with
  | false => rfl
  | true =>
   have hb : ∀ e ∈ mix, 0 ≤ e ∧ e ≤ 8 := by
    intro e he
    rw [List.all_eq_true] at ha
    exact mr.1 (ha e he)
   rw [SC hb hl]
   simp only [cond_true, Option.bind_some, ru, Bool.true_and]
 ·rw [decide_eq_false h]
  cases mix.all (inB 0 8) <;> rfl
structure MixOk (s : Gs) (mix : List Int) : Prop where
 n : mix.length = s.Tins.length
 b : ∀ e ∈ mix, 0 ≤ e ∧ e ≤ 8
 s : 1 ≤ sumL mix ∧ sumL mix ≤ 8
theorem MixOk.of {s : Gs} {mix : List Int} (h : mixB s mix = true) : MixOk s mix := by
 simp only [mixB, Bool.and_eq_true, List.all_eq_true, mr, decide_eq_true_eq] at h
 exact ⟨h.1, h.2.1, h.2.2⟩
theorem MixOk.ok {s : Gs} {mix : List Int} (h : MixOk s mix) : mixB s mix = true := by
 simp only [mixB, Bool.and_eq_true, List.all_eq_true, mr, decide_eq_true_eq]
 exact ⟨h.n, h.b, h.s⟩
def dot {α : Type} (f : α → Int) : List Int → List α → Int
 | m :: ms, t :: ts => m * f t + dot f ms ts
 | _, _ => 0
theorem dot_b {α : Type} {f : α → Int} : ∀ (ms : List Int) (ts : List α), (∀ e ∈ ms, 0 ≤ e ∧ e ≤ 8) → (∀ t ∈ ts, 0 ≤ f t ∧ f t ≤ 99) → 0 ≤ dot f ms ts ∧ dot f ms ts ≤ 99 * sumL ms
 | [], _, _, _ => by simp [dot, sumL]
 | e :: ms, [], h, _ => by
  have := (EP h).1
  simp only [dot]
  omega
 | e :: ms, t :: ts, h, h2 => by
  have h1 := h e (List.mem_cons_self ..)
  have h3 := h2 t (List.mem_cons_self ..)
  have ih := dot_b ms ts (fun x hx => h x (List.mem_cons_of_mem _ hx)) (fun x hx => h2 x (List.mem_cons_of_mem _ hx))
  have h4 := mulR h1.1 (Int.le_refl e) h3.1 h3.2
  simp only [dot, sumL]
  omega
theorem FZ {α β : Type} {f : α → Int} {g : β → Int} : ∀ (ms : List Int) (ts : List α) (us : List β), ts.length = us.length → (∀ e ∈ ms, 0 ≤ e ∧ e ≤ 8) → (∀ (i : Nat) t u, ts[i]? = some t → us[i]? = some u → f t ≤ g u) → dot f ms ts ≤ dot g ms us
 | [], _, _, _, _, _ => by simp [dot]
 | e :: ms, [], [], _, _, _ => by simp [dot]
 | e :: ms, t :: ts, u :: us, hl, h, h2 => by
  have h1 := h e (List.mem_cons_self ..)
  have h3 := h2 0 t u rfl rfl
  have ih := FZ ms ts us (by simpa using hl) (fun x hx => h x (List.mem_cons_of_mem _ hx)) (fun i a b ha hb => h2 (i + 1) a b (by simpa using ha) (by simpa using hb))
  have h4 := Int.mul_le_mul_of_nonneg_left h3 h1.1
  simp only [dot]
  omega
 | _ :: _, [], _ :: _, hl, _, _ => by simp at hl
 | _ :: _, _ :: _, [], hl, _, _ => by simp at hl
def lowT (p : P3) (t : Gt) : Int := (selS t.pg p).Low
def highT (p : P3) (t : Gt) : Int := (selS t.pg p).High
theorem EV (x : Gm) (p : P3) : ∀ (ms : List Int) (ts : List Gt) (c acc : Int), 0 ≤ c → List.drop c.toNat x.sh.Tins = ts → ms.length ≤ ts.length → (∀ e ∈ ms, 0 ≤ e ∧ e ≤ 8) → (∀ t ∈ ts, 0 ≤ lowT p t ∧ lowT p t ≤ 99) → 0 ≤ acc → acc + 792 * ms.length ≤ 1000000 →
  tc x p.i ms c acc = some (.go (acc + dot (lowT p) ms ts))
 | [], ts, c, acc, _, _, _, _, _, _, _ => by simp [tc, dot]
 | e :: ms, [], _, _, _, _, hl, _, _, _, _ => by simp at hl
 | e :: ms, t :: ts, c, acc, h0, hd, hl, h, h2, ha, hb => by
  have h1 := h e (List.mem_cons_self ..)
  have h3 := h2 t (List.mem_cons_self ..)
  have h4 := mulR h1.1 h1.2 h3.1 h3.2
  simp only [List.length_cons] at hb hl
  have ih := EV x p ms ts (c + 1) (acc + e * lowT p t) (by omega) (eE h0 hd) (by omega) (fun x hx => h x (List.mem_cons_of_mem _ hx)) (fun x hx => h2 x (List.mem_cons_of_mem _ hx)) (by omega) (by omega)
  simp only [tc, fp h0 hd, Option.bind_some]
  have hw : i64.wrap (acc + i64.wrap (e * lowT p t)) = acc + e * lowT p t := by rw [cF (n := e * lowT p t) (by omega) (by omega), cF (by omega) (by omega)]
  have hg : acc + e * lowT p t + dot (lowT p) ms ts = acc + dot (lowT p) (e :: ms) (t :: ts) := by simp only [dot]; omega
  rw [hg] at ih
  cases p <;> simp only [P3.i, Int.reduceBEq, cond_true, cond_false] <;> simp only [lowT, selS] at hw <;> rw [hw] <;> exact ih
theorem Yl (x : Gm) (p : P3) : ∀ (ms : List Int) (ts : List Gt) (c acc : Int), 0 ≤ c → List.drop c.toNat x.sh.Tins = ts → ms.length ≤ ts.length → (∀ e ∈ ms, 0 ≤ e ∧ e ≤ 8) → (∀ t ∈ ts, 0 ≤ highT p t ∧ highT p t ≤ 99) → 0 ≤ acc → acc + 792 * ms.length ≤ 1000000 →
  te x p.i ms c acc = some (.go (acc + dot (highT p) ms ts))
 | [], ts, c, acc, _, _, _, _, _, _, _ => by simp [te, dot]
 | e :: ms, [], _, _, _, _, hl, _, _, _, _ => by simp at hl
 | e :: ms, t :: ts, c, acc, h0, hd, hl, h, h2, ha, hb => by
  have h1 := h e (List.mem_cons_self ..)
  have h3 := h2 t (List.mem_cons_self ..)
  have h4 := mulR h1.1 h1.2 h3.1 h3.2
  simp only [List.length_cons] at hb hl
  have ih := Yl x p ms ts (c + 1) (acc + e * highT p t) (by omega) (eE h0 hd) (by omega) (fun x hx => h x (List.mem_cons_of_mem _ hx)) (fun x hx => h2 x (List.mem_cons_of_mem _ hx)) (by omega) (by omega)
  simp only [te, fp h0 hd, Option.bind_some]
  have hw : i64.wrap (acc + i64.wrap (e * highT p t)) = acc + e * highT p t := by rw [cF (n := e * highT p t) (by omega) (by omega), cF (by omega) (by omega)]
  have hg : acc + e * highT p t + dot (highT p) ms ts = acc + dot (highT p) (e :: ms) (t :: ts) := by simp only [dot]; omega
  rw [hg] at ih
  cases p <;> simp only [P3.i, Int.reduceBEq, cond_true, cond_false] <;> simp only [highT, selS] at hw <;> rw [hw] <;> exact ih
theorem ShOk.low {s : Gs} (h : ShOk s) (p : P3) : ∀ t ∈ s.Tins, 0 ≤ lowT p t ∧ lowT p t ≤ 99 := fun t ht => by
 have := h.tin t ht p
 unfold lowT
 omega
theorem ShOk.high {s : Gs} (h : ShOk s) (p : P3) : ∀ t ∈ s.Tins, 0 ≤ highT p t ∧ highT p t ≤ 99 := fun t ht => by
 have := h.tin t ht p
 unfold highT
 omega
def aN (s : Gs) (mix : List Int) (p : P3) : GSpan := ⟨dot (lowT p) mix s.Tins, dot (highT p) mix s.Tins⟩
def sumsS (s : Gs) (mix : List Int) : Ga := ⟨aN s mix .p0, aN s mix .p1, aN s mix .p2⟩
theorem SD {s : Gs} (hs : ShOk s) {mix : List Int} (hm : MixOk s mix) (p : P3) : wP ⟨s, mix⟩ p.i = some (dot (lowT p) mix s.Tins) := by
 have hl := hs.n
 have hn := hm.n
 unfold wP
 rw [sJ (by show mix.length < _; omega)]
 have := EV ⟨s, mix⟩ p mix s.Tins 0 0 (Int.le_refl _) rfl (by omega) hm.b (hs.low p) (Int.le_refl _) (by omega)
 simp only [cond_true]
 rw [this]
 simp [aK]
theorem SE {s : Gs} (hs : ShOk s) {mix : List Int} (hm : MixOk s mix) (p : P3) : wQ ⟨s, mix⟩ p.i = some (dot (highT p) mix s.Tins) := by
 have hl := hs.n
 have hn := hm.n
 unfold wQ
 rw [sJ (by show mix.length < _; omega)]
 have := Yl ⟨s, mix⟩ p mix s.Tins 0 0 (Int.le_refl _) rfl (by omega) hm.b (hs.high p) (Int.le_refl _) (by omega)
 simp only [cond_true]
 rw [this]
 simp [aK]
theorem C3 {s : Gs} (hs : ShOk s) {mix : List Int} (hm : MixOk s mix) : zW ⟨s, mix⟩ = some (sumsS s mix) := by
 unfold zW
 have a0 := SD hs hm .p0
 have a1 := SD hs hm .p1
 have a2 := SD hs hm .p2
 have b0 := SE hs hm .p0
 have b1 := SE hs hm .p1
 have b2 := SE hs hm .p2
 simp only [P3.i] at a0 a1 a2 b0 b1 b2
 rw [a0, a1, a2, b0, b1, b2]
 rfl
theorem C5 {s : Gs} (hs : ShOk s) {mix : List Int} (hm : MixOk s mix) : tI ⟨s, mix⟩ = some (sumL mix) := by
 have hl := hs.n
 have hn := hm.n
 unfold tI
 rw [ET hm.b (by omega)]
 rfl
def aI (old y f : Int) : Int := if 0 < old - y * f then old - y * f else 0
theorem Ae {old y f : Int} (h1 : 0 ≤ old ∧ old ≤ 99) (h2 : 0 ≤ y ∧ y ≤ 20) (h3 : 0 ≤ f ∧ f ≤ 9) : lR old y f = some (aI old y f) := by
 have := mulR h2.1 h2.2 h3.1 h3.2
 unfold lR aI
 rw [cF (n := y * f) (by omega) (by omega), cF (by omega) (by omega)]
theorem Du {old y f : Int} (h1 : 0 ≤ old ∧ old ≤ 99) (h2 : 0 ≤ y) (h3 : 0 ≤ f) : 0 ≤ aI old y f ∧ aI old y f ≤ old := by
 have := Int.mul_nonneg h2 h3
 unfold aI
 split <;> omega
theorem u3 {old y f y' f' : Int} (h2 : 0 ≤ y) (h : y ≤ y') (h3 : 0 ≤ f) (h' : f ≤ f') : aI old y' f' ≤ aI old y f := by
 have h4 : y * f ≤ y' * f' := Int.mul_le_mul h h' h3 (by omega)
 unfold aI
 split <;> split <;> omega
def aimP (s : Gs) (p : P3) : GSpan := ⟨aI (selI s.Old p) s.Years.High (selS s.Fade p).High, aI (selI s.Old p) s.Years.Low (selS s.Fade p).Low⟩
def aimS (s : Gs) : Ga := ⟨aimP s .p0, aimP s .p1, aimP s .p2⟩
theorem Rg {s : Gs} (p : P3) : selS (aimS s) p = aimP s p := by cases p <;> rfl
theorem SF {s : Gs} (hs : ShOk s) (p : P3) : lR (selI s.Old p) s.Years.High (selS s.Fade p).High = some (aimP s p).Low := by
 have h1 := hs.old p
 have h2 := hs.yrs
 have h3 := hs.fade p
 exact Ae h1 (by omega) (by omega)
theorem SG {s : Gs} (hs : ShOk s) (p : P3) : lR (selI s.Old p) s.Years.Low (selS s.Fade p).Low = some (aimP s p).High := by
 have h1 := hs.old p
 have h2 := hs.yrs
 have h3 := hs.fade p
 exact Ae h1 (by omega) (by omega)
theorem C4 {s : Gs} (hs : ShOk s) : tf s = some (aimS s) := by
 have a0 := SF hs .p0
 have a1 := SF hs .p1
 have a2 := SF hs .p2
 have b0 := SG hs .p0
 have b1 := SG hs .p1
 have b2 := SG hs .p2
 simp only [selI, selS] at a0 a1 a2 b0 b1 b2
 unfold tf
 rw [a0, a1, a2, b0, b1, b2]
 rfl
theorem C1 {s : Gs} (hs : ShOk s) (p : P3) : 0 ≤ (aimP s p).Low ∧ (aimP s p).Low ≤ (aimP s p).High ∧ (aimP s p).High ≤ 99 := by
 have h1 := hs.old p
 have h2 := hs.yrs
 have h3 := hs.fade p
 have h4 := Du (y := s.Years.High) (f := (selS s.Fade p).High) h1 (by omega) (by omega)
 have h5 := Du (y := s.Years.Low) (f := (selS s.Fade p).Low) h1 (by omega) (by omega)
 have h6 := u3 (old := selI s.Old p) (y := s.Years.Low) (y' := s.Years.High) (f := (selS s.Fade p).Low) (f' := (selS s.Fade p).High) (by omega) (by omega) (by omega) (by omega)
 unfold aimP
 simp only
 omega
theorem xp {s : Gs} (hs : ShOk s) (p : P3) {y f : Int} (h2 : 0 ≤ y ∧ y ≤ 20) (h3 : 0 ≤ f ∧ f ≤ 9) : ld s p.i y f = some (aI (selI s.Old p) y f) := by
 have h1 := hs.old p
 have h := Ae h1 h2 h3
 unfold lR at h
 unfold ld
 cases p <;> simp only [P3.i, Int.reduceBEq, cond_true, cond_false] <;> exact h
theorem Ra {s : Gs} (hs : ShOk s) : Cs s = some (aimS s) := by
 have hy := hs.yrs
 have f0 := hs.fade .p0
 have f1 := hs.fade .p1
 have f2 := hs.fade .p2
 simp only [selS] at f0 f1 f2
 have a0 := xp hs .p0 (y := s.Years.High) (f := s.Fade.a0.High) (by omega) (by omega)
 have a1 := xp hs .p1 (y := s.Years.High) (f := s.Fade.a1.High) (by omega) (by omega)
 have a2 := xp hs .p2 (y := s.Years.High) (f := s.Fade.a2.High) (by omega) (by omega)
 have b0 := xp hs .p0 (y := s.Years.Low) (f := s.Fade.a0.Low) (by omega) (by omega)
 have b1 := xp hs .p1 (y := s.Years.Low) (f := s.Fade.a1.Low) (by omega) (by omega)
 have b2 := xp hs .p2 (y := s.Years.Low) (f := s.Fade.a2.Low) (by omega) (by omega)
 simp only [P3.i] at a0 a1 a2 b0 b1 b2
 unfold Cs
 rw [show Int.toNat (3 - 0) = 3 from rfl, show boundOk 3 = true from rfl]
 simp only [vP, Int.reduceAdd, Int.reduceBEq, cond_true, cond_false, a0, a1, a2, b0, b1, b2, Option.bind_some, aK]
 rfl
def vX (eD : Int) : Option (GSpan) := some (GSpan.mk eD eD)
theorem Hk (eD : Int) (R : GSpan) (h : vX eD = some R) : ad Tryz.prog G0 99 [.lit (.int .i64 eD)] (.tree (.agg (aF R))) := by
 refine ad.runR mixed Tryz.call99 Tryz.func99 rfl (by simp [Tryz.ntmps99]; kernel_rfl) ?_
 obtain ⟨KF, h, kF, kN⟩ := cQ h
 simp only [vX] at h
 try simp only [vz, tyf, nm, seval]
 refine bP (x := (.agg ([.lit (.int .i64 eD)] ++ [.lit (.int .i64 eD)]))) (by first | (simp only [Tryz.results99, resV, resL, ar, bV, bU, uw, cr, tyf, nm, seval] <;> rfl) | rfl) ?_
 obtain rfl := kF _ h
 refine bZ ?_ ?_
 ·simp only [tre, au, Bool.and_self]
 ·first | (simp only [outV, uw, cA, cr, tyf, nrm, av, nm, seval] <;> rfl) | rfl
def Cx (aC : Gi) : Option (Ga) := Option.bind (vX aC.a0) (fun r1 => Option.bind (vX aC.a1) (fun r2 => Option.bind (vX aC.a2) (fun r3 => some (Ga.mk r1 r2 r3))))
theorem SH (aC : Gi) (R : Ga) (h : Cx aC = some R) : ad Tryz.prog G0 100 [.agg (cGi aC)] (.tree (.agg (cGa R))) := by
 refine ad.runR mixed Tryz.call100 Tryz.func100 rfl (by simp [Tryz.ntmps100]; kernel_rfl) ?_
 obtain ⟨KF, h, kF, kN⟩ := cQ h
 simp only [Cx] at h
 simp only [vz, tyf, nm, seval]
 refine pv mixed (by kernel_rfl) 4 ?_
 obtain ⟨r4, o5, h⟩ := optI h kN
 try simp only [hs] at h
 simp only [vz, tyf, nm, seval]
 refine ktA (Hk _ _ o5) ?_
 refine aV (fun tm => tm 2 = .ptr 1 0 ∧ tm 3 = .ptr 2 0 ∧ tm 6 = .agg (cGi aC) ∧ tm 7 = .lit (.int .i64 0) ∧ tm 11 = .lit (.int .i64 0) ∧ tm 13 = .agg (aF r4) ∧ True) (by refine ⟨?_, ?_, ?_, ?_, ?_, ?_, trivial⟩ <;> first | (simp only [ua, nm, seval] <;> rfl) | rfl) ?_
 rintro tm ⟨e6, e7, e8, e9, aW, aX, _⟩
 obtain ⟨iJ, kL, h⟩ := optI h kN
 try simp only [hs] at h
 simp only [vz, tyf, e6, e7, e8, e9, aW, aX, nm, seval]
 refine ktA (Hk _ _ kL) ?_
 refine aV (fun tm => tm 2 = .ptr 1 0 ∧ tm 3 = .ptr 2 0 ∧ tm 6 = .agg (cGi aC) ∧ tm 7 = .lit (.int .i64 1) ∧ tm 11 = .lit (.int .i64 1) ∧ tm 13 = .agg (aF iJ) ∧ True) (by refine ⟨e6, e7, e8, ?_, ?_, ?_, trivial⟩ <;> first | (simp only [ua, e6, e7, e8, e9, aW, aX, nm, seval] <;> rfl) | rfl) ?_
 rintro tm ⟨bg, bK, bw, bI, cv, cT, _⟩
 obtain ⟨oR, BZ, h⟩ := optI h kN
 try simp only [hs] at h
 simp only [vz, tyf, bg, bK, bw, bI, cv, cT, nm, seval]
 refine ktA (Hk _ _ BZ) ?_
 refine aV (fun tm => tm 2 = .ptr 1 0 ∧ tm 3 = .ptr 2 0 ∧ tm 6 = .agg (cGi aC) ∧ tm 7 = .lit (.int .i64 2) ∧ tm 11 = .lit (.int .i64 2) ∧ tm 13 = .agg (aF oR) ∧ True) (by refine ⟨bg, bK, bw, ?_, ?_, ?_, trivial⟩ <;> first | (simp only [ua, bg, bK, bw, bI, cv, cT, nm, seval] <;> rfl) | rfl) ?_
 rintro tm ⟨bR, bz, cS, cq, da, cn, _⟩
 try simp only [vz, tyf, bR, bz, cS, cq, da, cn, nm, seval]
 refine bP (x := (.agg ((aF r4) ++ (aF iJ) ++ (aF oR)))) (by first | (simp only [Tryz.results100, resV, resL, ar, bV, bU, uw, cr, tyf, bR, bz, cS, cq, da, cn, nm, seval] <;> rfl) | rfl) ?_
 obtain rfl := kF _ h
 refine bZ ?_ ?_
 ·simp only [tre, au, Bool.and_self]
 ·first | (simp only [outV, uw, cA, cr, tyf, nrm, av, bR, bz, cS, cq, da, cn, nm, seval] <;> rfl) | rfl
def sH  : List Gi → Int → (List Gt) → Option (LOut (Gs) ((List Gt)))
 | [], uB, eR => some (.go eR)
 | e0 :: p0, uB, eR => Option.bind (Cx e0) (fun r4 => cond (roomOk 48 (List.length (eR ++ [(Gt.mk r4)]))) (sH p0 (uB + 1) (eR ++ [(Gt.mk r4)])) none)
def Cz (ae : Gs) (bj : Gu) : Option (Gs) := Option.bind (vX bj.Years) (fun r1 => Option.bind (Cx bj.Fade) (fun r2 => cond (lenOk bj.Tins) (aK (sH bj.Tins 0 ([] : List Gt)) (fun r6 => some r6) (fun c5 => some (Gs.mk ae.Old r2 r1 ae.Off c5)) (fun _ _ => none)) none))
theorem zqj (ae : Gs) (bj : Gu) (R : Gs) (h : Cz ae bj = some R) : ad Tryz.prog G0 67 [.agg (cGs ae), .agg (cGu bj)] (.tree (.agg (cGs R))) := by
 refine ad.runR mixed Tryz.call67 Tryz.func67 rfl (by simp [Tryz.ntmps67]; kernel_rfl) ?_
 obtain ⟨KF, h, kF, kN⟩ := cQ h
 simp only [Cz] at h
 simp only [vz, tyf, nm, seval]
 refine mZ (fun tm => tm 2 = .ptr 0 0 ∧ tm 3 = .ptr 1 0 ∧ tm 4 = .ptr 2 0 ∧ True) (by refine ⟨?_, ?_, ?_, trivial⟩ <;> first | (simp only [ua, nm, seval] <;> rfl) | rfl) ?_
 rintro tm ⟨e7, e8, e9, _⟩
 obtain ⟨dA, uf, h⟩ := optI h kN
 try simp only [hs] at h
 simp only [vz, tyf, e7, e8, e9, nm, seval]
 refine dktA (Hk _ _ uf) ?_
 refine aV (fun tm => tm 2 = .ptr 0 0 ∧ tm 3 = .ptr 1 0 ∧ tm 4 = .ptr 2 0 ∧ tm 9 = .agg (aF dA) ∧ True) (by refine ⟨e7, e8, e9, ?_, trivial⟩ <;> first | (simp only [ua, e7, e8, e9, nm, seval] <;> rfl) | rfl) ?_
 rintro tm ⟨aY, bd, bg, bK, _⟩
 obtain ⟨jO, jf, h⟩ := optI h kN
 try simp only [hs] at h
 simp only [vz, tyf, aY, bd, bg, bK, nm, seval]
 refine dktA (SH _ _ jf) ?_
 refine aV (fun tm => tm 2 = .ptr 0 0 ∧ tm 3 = .ptr 1 0 ∧ tm 4 = .ptr 2 0 ∧ tm 9 = .agg (aF dA) ∧ tm 12 = .agg (cGa jO) ∧ True) (by refine ⟨aY, bd, bg, bK, ?_, trivial⟩ <;> first | (simp only [ua, aY, bd, bg, bK, nm, seval] <;> rfl) | rfl) ?_
 rintro tm ⟨cv, cT, cB, bJ, bR, _⟩
 simp only [vz, tyf, cv, cT, cB, bJ, bR, nm, seval]
 refine jS ⟨?_, ?_⟩
 ·simp only [jT, jU, eA, jV, and_true, true_and]
  repeat' (first | exact trivial | refine And.intro ?_ ?_ | rw [eA] | rw [jW] | exact Or.inl (by decide +kernel) | exact Or.inl (by dsimp only; decide +kernel) | (refine Or.inr ⟨?_, ?_⟩ <;> simp; done) | (refine Or.inr ⟨?_, ?_⟩ <;> simp <;> omega) | (refine Or.inr ⟨?_, ?_⟩ <;> simp [VEff.wr] <;> omega))
 cases kE : (lenOk bj.Tins)
 ·simp only [kE, hs] at h
  exact absurd h kN
 simp only [kE, hs] at h
 simp only [vz, tyf, cv, cT, cB, bJ, bR, kE, nm, seval]
 obtain ⟨K23, h, kR23, EW, kB23, t8⟩ := eO h kN
 obtain ⟨DW, SI, h⟩ := call3 h
 obtain ⟨I23, t9⟩ : ∃ I : Nat → St → Prop, I = (fun m st => ∃ (po : List Gi) (cH : Int) (cI : List Gt) (nr : VV), m = List.length po ∧ 0 ≤ cH ∧ List.drop (Int.toNat cH) bj.Tins = po ∧ st.df = [] ∧ 19 ≤ st.nx ∧ st.H 0 = some (.cells (some 28) ((cGi ae.Old) ++ (cGa jO) ++ (aF dA) ++ [.lit (.int .i64 ae.Off)] ++ [nr])) ∧ st.H 2 = some (.cells (some 28) ([.lit (.int .i64 0)] ++ [.lit (.int .i64 0)] ++ [.lit (.int .i64 0)] ++ [.lit (.int .i64 0)] ++ [.lit (.int .i64 0)] ++ [.lit (.int .i64 0)] ++ [.lit (.int .i64 0)] ++ [.lit (.int .i64 0)] ++ [.lit (.int .i64 0)] ++ [.lit (.int .i64 0)] ++ [.lit (.int .i64 0)] ++ [.lit (.int .i64 0)] ++ [.lit (.slice none 0 0)])) ∧ st.tm 2 = .ptr 0 0 ∧ st.tm 4 = .ptr 2 0 ∧ st.tm 17 = .sl (aa cGi bj.Tins) (List.length bj.Tins) false ∧ st.tm 18 = .lit (.int .i64 (List.length bj.Tins : Int)) ∧ st.tm 19 = .lit (.int .i64 cH) ∧ ((∃ (β : Nat) (el : Option TypeId), nr = .ref β 0 (List.length cI) 6 (List.length cI) ∧ β < st.nx ∧ β ≠ 0 ∧ β ≠ 2 ∧ st.H β = some (.cells el (aa cGt cI))) ∨ (nr = .lit (.slice none 0 0) ∧ cI = [])) ∧ K23 (DW po cH cI)) := ⟨_, rfl⟩
 refine loopK mixed (by kernel_rfl) I23 (List.length bj.Tins) (by rw [t9]; refine ⟨bj.Tins, 0, ([] : List Gt), .lit (.slice none 0 0), rfl, Int.le_refl _, rfl, rfl, (show 19 ≤ 19 by omega), ?_, ?_, cv, cB, ?_, ?_, ?_, Or.inr ⟨rfl, rfl⟩, h⟩ <;> first | (simp only [ua, cv, cT, cB, bJ, bR, nm, seval] <;> rfl) | rfl) ?_
 rintro m ⟨tm, H, kG, df⟩ hinv
 rw [t9] at hinv
 obtain ⟨po, cH, cI, nr, rfl, iW, jJ, hdf, SJ, kd, ke, cn, bA, bW, cC, cE, qO, h⟩ := hinv
 simp only at hdf SJ kd ke cn bA bW cC cE qO
 have jK := eN (m := 19) (b := kG) (by omega)
 subst hdf SI
 rcases qO with ⟨uC, qP, rfl, SK, SL, SM, rH⟩ | ⟨rfl, rfl⟩
 ·have Au := uQ SK
  have Av := ne_f SL
  have Aw := ne_f SM
  cases po with
  | nil =>
   have j9 : (decide (cH < (List.length bj.Tins : Int))) = false := iG iW jJ
   simp only [sH, hs, reduceCtorEq] at h
   replace h := EW _ h
   try dsimp only at h
   try simp only [hs] at h
   try simp only [vz, tyf, kE, jK, cn, bA, bW, cC, cE, kd, ke, Au, rH, Av, Aw, j9, nm, seval]
   refine bP (x := (.agg ((cGi ae.Old) ++ (cGa jO) ++ (aF dA) ++ [.lit (.int .i64 ae.Off)] ++ [.ref uC 0 (List.length cI) 6 (List.length cI)]))) (by first | (simp only [Tryz.results67, resV, resL, ar, bV, bU, uw, cr, tyf, kE, jK, cn, bA, bW, cC, cE, kd, ke, Au, rH, Av, Aw, j9, nm, seval] <;> rfl) | rfl) ?_
   obtain rfl := kF _ h
   refine bZ ?_ ?_
   ·simp only [tre, au, Bool.and_self]
   ·first | (simp only [outV, uw, cA, cr, tyf, nrm, av, kE, jK, cn, bA, bW, cC, cE, kd, ke, Au, rH, Av, Aw, j9, nm, seval] <;> rfl) | rfl
  | cons bz po =>
   have SN : (decide (cH < (List.length bj.Tins : Int))) = true := iH iW jJ
   have yX := fp iW jJ
   have SO := iI iW jJ kE
   simp only [sH, hs, reduceCtorEq] at h
   simp only [vz, tyf, kE, jK, cn, bA, bW, cC, cE, kd, ke, Au, rH, Av, Aw, SN, (cl yX), SO, nm, seval]
   refine mZ (fun tm => tm 2 = .ptr 0 0 ∧ tm 4 = .ptr 2 0 ∧ tm 6 = .ptr (kG + 3) 0 ∧ tm 17 = .sl (aa cGi bj.Tins) (List.length bj.Tins) false ∧ tm 18 = .lit (.int .i64 (List.length bj.Tins : Int)) ∧ tm 19 = .lit (.int .i64 cH) ∧ True) (by refine ⟨cn, bA, ?_, bW, cC, cE, trivial⟩ <;> first | (simp only [ua, jK, cn, bA, bW, cC, cE, kd, ke, Au, rH, Av, Aw, SN, SO, nm, seval] <;> rfl) | rfl) ?_
   rintro tm ⟨dZ, eT, jd, rK, lr, fY, _⟩
   have pq := And.intro kE (And.intro jK (And.intro kd (And.intro ke (And.intro Au (And.intro rH (And.intro Av (And.intro Aw (And.intro SN SO))))))))
   obtain ⟨mM, SP, h⟩ := optI h t8
   try simp only [hs] at h
   simp only [vz, tyf, pq, (cl yX), dZ, eT, jd, rK, lr, fY, nm, seval]
   refine dktA (SH _ _ SP) ?_
   refine aV (fun tm => tm 2 = .ptr 0 0 ∧ tm 4 = .ptr 2 0 ∧ tm 17 = .sl (aa cGi bj.Tins) (List.length bj.Tins) false ∧ tm 18 = .lit (.int .i64 (List.length bj.Tins : Int)) ∧ tm 19 = .lit (.int .i64 cH) ∧ tm 24 = .ref uC 0 (List.length cI) 6 (List.length cI) ∧ tm 26 = .agg (cGa mM) ∧ True) (by refine ⟨dZ, eT, rK, lr, fY, ?_, ?_, trivial⟩ <;> first | (simp only [ua, pq, dZ, eT, jd, rK, lr, fY, nm, seval] <;> rfl) | rfl) ?_
   rintro tm ⟨dj, eu, en, eU, ff, gO, iL, _⟩
   cases uD : (roomOk 48 (List.length (cI ++ [(Gt.mk mM)])))
   ·simp only [uD, hs] at h
    exact absurd h t8
   simp only [uD, hs] at h
   simp only [vz, tyf, pq, (cl yX), dj, eu, en, eU, ff, gO, iL, uD, nm, seval]
   refine k_app (w := 6) (enc := cGt) (xs := cI) (ys := ([(Gt.mk mM)])) (el := qP) (rz := (some 94)) (fun _ => rfl) EX EY Tryz.underlying26 (by first | rfl | assumption | (simp only [bG, fm, tA, pq, nm, seval] <;> rfl) | (simp only [bG, fm, rC, lk, py, pz, tyf, pq, (cl yX), dj, eu, en, eU, ff, gO, iL, uD, nm, seval]; done)) (by first | rfl | assumption | (simp only [bG, fm, tA, pq, nm, seval] <;> rfl) | (simp only [bG, fm, rC, lk, py, pz, tyf, pq, (cl yX), dj, eu, en, eU, ff, gO, iL, uD, nm, seval]; done)) (Nat.zero_lt_succ _) uD ?_
   simp only [vz, tyf, pq, (cl yX), dj, eu, en, eU, ff, gO, iL, uD, nm, seval]
   refine jS ⟨?_, ?_⟩
   ·simp only [jT, jU, eA, jV, and_true, true_and]
    repeat' (first | exact trivial | refine And.intro ?_ ?_ | rw [eA] | rw [jW] | exact Or.inl (by decide +kernel) | exact Or.inl (by dsimp only; decide +kernel) | (refine Or.inr ⟨?_, ?_⟩ <;> simp; done) | (refine Or.inr ⟨?_, ?_⟩ <;> simp <;> omega) | (refine Or.inr ⟨?_, ?_⟩ <;> simp [VEff.wr] <;> omega))
   simp only [vz, tyf, pq, (cl yX), dj, eu, en, eU, ff, gO, iL, uD, nm, seval]
   exact ⟨List.length po, Nat.lt_succ_self _, by rw [t9]; refine ⟨po, cH + 1, (cI ++ [(Gt.mk mM)]), .ref (kG + 11) 0 (List.length (cI ++ [(Gt.mk mM)])) 6 (List.length (cI ++ [(Gt.mk mM)])), rfl, Int.le_trans iW (Int.le_add_one (Int.le_refl _)), eE iW jJ, rfl, (show 19 ≤ kG + 16 by omega), ?_, ?_, dj, eu, en, eU, ?_, Or.inl ⟨kG + 11, (sameEl qP 94), rfl, (by first | omega | (simp only [nm, seval]; omega)), (by first | omega | (intro hh; simp only [pq, reduceCtorEq] at hh)), (by first | omega | (intro hh; simp only [pq, reduceCtorEq] at hh)), ?_⟩, h⟩ <;> first | (simp only [ua, pq, dj, eu, en, eU, ff, gO, iL, nm, seval] <;> rfl) | rfl⟩
 ·cases po with
  | nil =>
   have SQ : (decide (cH < (List.length bj.Tins : Int))) = false := iG iW jJ
   simp only [sH, hs, reduceCtorEq] at h
   replace h := EW _ h
   try dsimp only at h
   try simp only [hs] at h
   try simp only [vz, tyf, kE, jK, cn, bA, bW, cC, cE, kd, ke, SQ, nm, seval]
   refine bP (x := (.agg ((cGi ae.Old) ++ (cGa jO) ++ (aF dA) ++ [.lit (.int .i64 ae.Off)] ++ [.lit (.slice none 0 0)]))) (by first | (simp only [Tryz.results67, resV, resL, ar, bV, bU, uw, cr, tyf, kE, jK, cn, bA, bW, cC, cE, kd, ke, SQ, nm, seval] <;> rfl) | rfl) ?_
   obtain rfl := kF _ h
   refine bZ ?_ ?_
   ·simp only [tre, au, Bool.and_self]
   ·first | (simp only [outV, uw, cA, cr, tyf, nrm, av, kE, jK, cn, bA, bW, cC, cE, kd, ke, SQ, nm, seval] <;> rfl) | rfl
  | cons bz po =>
   have nh : (decide (cH < (List.length bj.Tins : Int))) = true := iH iW jJ
   have Ax := fp iW jJ
   have tB := iI iW jJ kE
   simp only [sH, hs, reduceCtorEq] at h
   simp only [vz, tyf, kE, jK, cn, bA, bW, cC, cE, kd, ke, nh, (cl Ax), tB, nm, seval]
   refine mZ (fun tm => tm 2 = .ptr 0 0 ∧ tm 4 = .ptr 2 0 ∧ tm 6 = .ptr (kG + 3) 0 ∧ tm 17 = .sl (aa cGi bj.Tins) (List.length bj.Tins) false ∧ tm 18 = .lit (.int .i64 (List.length bj.Tins : Int)) ∧ tm 19 = .lit (.int .i64 cH) ∧ True) (by refine ⟨cn, bA, ?_, bW, cC, cE, trivial⟩ <;> first | (simp only [ua, jK, cn, bA, bW, cC, cE, kd, ke, nh, tB, nm, seval] <;> rfl) | rfl) ?_
   rintro tm ⟨eV, i7, gE, gI, gY, gD, _⟩
   obtain ⟨mD, Sj, h⟩ := optI h t8
   try simp only [hs] at h
   simp only [vz, tyf, kE, jK, kd, ke, nh, (cl Ax), tB, eV, i7, gE, gI, gY, gD, nm, seval]
   refine dktA (SH _ _ Sj) ?_
   refine aV (fun tm => tm 2 = .ptr 0 0 ∧ tm 4 = .ptr 2 0 ∧ tm 17 = .sl (aa cGi bj.Tins) (List.length bj.Tins) false ∧ tm 18 = .lit (.int .i64 (List.length bj.Tins : Int)) ∧ tm 19 = .lit (.int .i64 cH) ∧ tm 24 = .lit (.slice none 0 0) ∧ tm 26 = .agg (cGa mD) ∧ True) (by refine ⟨eV, i7, gI, gY, gD, ?_, ?_, trivial⟩ <;> first | (simp only [ua, jK, kd, ke, nh, tB, eV, i7, gE, gI, gY, gD, nm, seval] <;> rfl) | rfl) ?_
   rintro tm ⟨eQ, fj, eG, fN, fx, eJ, eY, _⟩
   cases yY : (roomOk 48 (List.length (([] : List Gt) ++ [(Gt.mk mD)])))
   ·simp only [yY, hs] at h
    exact absurd h t8
   simp only [yY, hs] at h
   simp only [vz, tyf, kE, jK, kd, ke, nh, (cl Ax), tB, eQ, fj, eG, fN, fx, eJ, eY, yY, nm, seval]
   refine sV (w := 6) (enc := cGt) (ys := ([(Gt.mk mD)])) (rz := (some 94)) (fun _ => rfl) EX EY Tryz.underlying26 (by first | rfl | assumption | (simp only [bG, fm, tA, jK, kd, ke, nm, seval] <;> rfl) | (simp only [bG, fm, rC, lk, py, pz, tyf, kE, jK, kd, ke, nh, (cl Ax), tB, eQ, fj, eG, fN, fx, eJ, eY, yY, nm, seval]; done)) (Nat.zero_lt_succ _) yY ?_
   simp only [vz, tyf, kE, jK, kd, ke, nh, (cl Ax), tB, eQ, fj, eG, fN, fx, eJ, eY, yY, nm, seval]
   refine jS ⟨?_, ?_⟩
   ·simp only [jT, jU, eA, jV, and_true, true_and]
    repeat' (first | exact trivial | refine And.intro ?_ ?_ | rw [eA] | rw [jW] | exact Or.inl (by decide +kernel) | exact Or.inl (by dsimp only; decide +kernel) | (refine Or.inr ⟨?_, ?_⟩ <;> simp; done) | (refine Or.inr ⟨?_, ?_⟩ <;> simp <;> omega) | (refine Or.inr ⟨?_, ?_⟩ <;> simp [VEff.wr] <;> omega))
   simp only [vz, tyf, kE, jK, kd, ke, nh, (cl Ax), tB, eQ, fj, eG, fN, fx, eJ, eY, yY, nm, seval]
   exact ⟨List.length po, Nat.lt_succ_self _, by rw [t9]; refine ⟨po, cH + 1, (([] : List Gt) ++ [(Gt.mk mD)]), .ref (kG + 11) 0 (List.length (([] : List Gt) ++ [(Gt.mk mD)])) 6 (List.length (([] : List Gt) ++ [(Gt.mk mD)])), rfl, Int.le_trans iW (Int.le_add_one (Int.le_refl _)), eE iW jJ, rfl, (show 19 ≤ kG + 16 by omega), ?_, ?_, eQ, fj, eG, fN, ?_, Or.inl ⟨kG + 11, (some 94), rfl, (by first | omega | (simp only [nm, seval]; omega)), (by first | omega | (intro hh; simp only [jK, reduceCtorEq] at hh)), (by first | omega | (intro hh; simp only [jK, reduceCtorEq] at hh)), ?_⟩, h⟩ <;> first | (simp only [ua, jK, kd, ke, nh, tB, eQ, fj, eG, fN, fx, eJ, eY, nm, seval] <;> rfl) | rfl⟩
end Go.V
end
section
set_option linter.defProp false
namespace Go.V
open Go Go.Proofs IntKind
section
variable {P : Program} {H : Nat → Option VObj} {t : TypeId} {x y : Operand} {k : IntKind} {a b : Int}
theorem SS (h : (b != 0) = true) : binV P H .quo t x y (.lit (.int k a)) (.lit (.int k b)) = some (.lit (.int k (k.wrap (a.tdiv b)))) := by
 have : b ≠ 0 := by simpa using h
 simp [binV, VV.val?, vbin, ofVal, ofVal2, ofVal1, this]
theorem SU : unV P .neg (.lit (.int k a)) = some (.lit (.int k (k.wrap (-a)))) := by simp [unV, VV.val?, Op.unary, Op.intArith, j8, ofVal, ofVal2, ofVal1]
def qr := (And.intro @SS @SU)
end
end Go.V
end
section
namespace Go.V
open Go Go.Proofs IntKind
def tU (ah : Gm) (xpg : Int) : Option (Int) := Option.bind (zW ah) (fun r1 => cond (xpg == 0) (Option.bind (tf ah.sh) (fun r2 => Option.bind (tI ah) (fun r3 => cond ((r3 != 0)) (some (i64.wrap (Int.tdiv (i64.wrap ((i64.wrap ((if (i64.wrap (r1.a0.High - (i64.wrap (r3 * r2.a0.Low)))) < (i64.wrap ((i64.wrap (r3 * r2.a0.High)) - r1.a0.Low)) then (i64.wrap ((i64.wrap (r3 * r2.a0.High)) - r1.a0.Low)) else (i64.wrap (r1.a0.High - (i64.wrap (r3 * r2.a0.Low))))) + r3)) - 1)) r3))) none))) (cond (xpg == 1) (Option.bind (tf ah.sh) (fun r4 => Option.bind (tI ah) (fun r5 => cond ((r5 != 0)) (some (i64.wrap (Int.tdiv (i64.wrap ((i64.wrap ((if (i64.wrap (r1.a1.High - (i64.wrap (r5 * r4.a1.Low)))) < (i64.wrap ((i64.wrap (r5 * r4.a1.High)) - r1.a1.Low)) then (i64.wrap ((i64.wrap (r5 * r4.a1.High)) - r1.a1.Low)) else (i64.wrap (r1.a1.High - (i64.wrap (r5 * r4.a1.Low))))) + r5)) - 1)) r5))) none))) (cond (xpg == 2) (Option.bind (tf ah.sh) (fun r6 => Option.bind (tI ah) (fun r7 => cond ((r7 != 0)) (some (i64.wrap (Int.tdiv (i64.wrap ((i64.wrap ((if (i64.wrap (r1.a2.High - (i64.wrap (r7 * r6.a2.Low)))) < (i64.wrap ((i64.wrap (r7 * r6.a2.High)) - r1.a2.Low)) then (i64.wrap ((i64.wrap (r7 * r6.a2.High)) - r1.a2.Low)) else (i64.wrap (r1.a2.High - (i64.wrap (r7 * r6.a2.Low))))) + r7)) - 1)) r7))) none))) (none))))
theorem Gv (ah : Gm) (xpg : Int) (R : Int) (h : tU ah xpg = some R) : ad Tryz.prog G0 111 [.agg (cGm ah), .lit (.int .i64 xpg)] (.tree (.lit (.int .i64 R))) := by
 refine ad.runR mixed Tryz.call111 Tryz.func111 rfl (by simp [Tryz.ntmps111]; kernel_rfl) ?_
 obtain ⟨KF, h, kF, kN⟩ := cQ h
 simp only [tU] at h
 simp only [vz, qr, tyf, nm, seval]
 refine mZ (fun tm => tm 1 = .lit (.int .i64 xpg) ∧ tm 2 = .ptr 0 0 ∧ True) (by refine ⟨?_, ?_, trivial⟩ <;> first | (simp only [ua, nm, seval] <;> rfl) | rfl) ?_
 rintro tm ⟨e8, e9, _⟩
 obtain ⟨dA, uf, h⟩ := optI h kN
 try simp only [hs] at h
 simp only [vz, qr, tyf, e8, e9, nm, seval]
 refine dktA (WD _ _ uf) ?_
 refine aV (fun tm => tm 1 = .lit (.int .i64 xpg) ∧ tm 2 = .ptr 0 0 ∧ tm 10 = .agg (cGa dA) ∧ True) (by refine ⟨e8, e9, ?_, trivial⟩ <;> first | (simp only [ua, e8, e9, nm, seval] <;> rfl) | rfl) ?_
 rintro tm ⟨aY, bd, bg, _⟩
 cases bu : (xpg == 0)
 ·simp only [bu, hs] at h
  cases cG : (xpg == 1)
  ·simp only [cG, hs] at h
   cases cL : (xpg == 2)
   ·simp only [cL, hs] at h
    exact absurd h kN
   simp only [cL, hs] at h
   obtain ⟨kQ, iT, h⟩ := optI h kN
   try simp only [hs] at h
   simp only [vz, qr, tyf, aY, bd, bg, bu, cG, cL, (oH cL), nm, seval]
   refine dktA (G7 _ _ iT) ?_
   refine aV (fun tm => tm 1 = .lit (.int .i64 xpg) ∧ tm 2 = .ptr 0 0 ∧ tm 12 = .agg (aF dA.a2) ∧ tm 15 = .agg (cGa kQ) ∧ True) (by refine ⟨aY, bd, ?_, ?_, trivial⟩ <;> first | (simp only [ua, aY, bd, bg, bu, cG, cL, nm, seval] <;> rfl) | rfl) ?_
   rintro tm ⟨cB, bJ, bR, bz, _⟩
   obtain ⟨pn, tR, h⟩ := optI h kN
   try simp only [hs] at h
   simp only [vz, qr, tyf, bu, cG, cL, (oH cL), cB, bJ, bR, bz, nm, seval]
   refine dktA (FO _ _ tR) ?_
   refine aV (fun tm => tm 12 = .agg (aF dA.a2) ∧ tm 17 = .agg (aF kQ.a2) ∧ tm 19 = .lit (.int .i64 pn) ∧ True) (by refine ⟨bR, ?_, ?_, trivial⟩ <;> first | (simp only [ua, bu, cG, cL, cB, bJ, bR, bz, nm, seval] <;> rfl) | rfl) ?_
   rintro tm ⟨da, cn, bA, _⟩
   simp only [vz, qr, tyf, bu, cG, cL, (oH cL), da, cn, bA, nm, seval]
   refine jS ⟨?_, ?_⟩
   ·simp only [jT, jU, eA, jV, and_true, true_and]
    repeat' (first | exact trivial | refine And.intro ?_ ?_ | rw [eA] | rw [jW] | exact Or.inl (by decide +kernel) | exact Or.inl (by dsimp only; decide +kernel) | (refine Or.inr ⟨?_, ?_⟩ <;> simp; done) | (refine Or.inr ⟨?_, ?_⟩ <;> simp <;> omega) | (refine Or.inr ⟨?_, ?_⟩ <;> simp [VEff.wr] <;> omega))
   cases EZ : ((pn != 0))
   ·simp only [EZ, hs] at h
    exact absurd h kN
   simp only [EZ, hs] at h
   try simp only [vz, qr, tyf, bu, cG, cL, (oH cL), da, cn, bA, EZ, nm, seval]
   refine bP (x := (.lit (.int .i64 (i64.wrap (Int.tdiv (i64.wrap ((i64.wrap ((if (i64.wrap (dA.a2.High - (i64.wrap (pn * kQ.a2.Low)))) < (i64.wrap ((i64.wrap (pn * kQ.a2.High)) - dA.a2.Low)) then (i64.wrap ((i64.wrap (pn * kQ.a2.High)) - dA.a2.Low)) else (i64.wrap (dA.a2.High - (i64.wrap (pn * kQ.a2.Low))))) + pn)) - 1)) pn))))) (by first | (simp only [Tryz.results111, resV, resL, ar, bV, bU, uw, cr, tyf, bu, cG, cL, (oH cL), EZ, nm, seval] <;> rfl) | rfl) ?_
   obtain rfl := kF _ h
   refine bZ ?_ ?_
   ·simp only [tre, au, Bool.and_self]
   ·first | (simp only [outV, uw, cA, cr, tyf, nrm, av, bu, cG, cL, (oH cL), da, cn, bA, EZ, nm, seval] <;> rfl) | rfl
  simp only [cG, hs] at h
  obtain ⟨tu, RQ, h⟩ := optI h kN
  try simp only [hs] at h
  simp only [vz, qr, tyf, aY, bd, bg, bu, cG, (oI cG), nm, seval]
  refine dktA (G7 _ _ RQ) ?_
  refine aV (fun tm => tm 1 = .lit (.int .i64 xpg) ∧ tm 2 = .ptr 0 0 ∧ tm 12 = .agg (aF dA.a1) ∧ tm 15 = .agg (cGa tu) ∧ True) (by refine ⟨aY, bd, ?_, ?_, trivial⟩ <;> first | (simp only [ua, aY, bd, bg, bu, cG, nm, seval] <;> rfl) | rfl) ?_
  rintro tm ⟨fC, iS, fF, gk, _⟩
  obtain ⟨oY, NU, h⟩ := optI h kN
  try simp only [hs] at h
  simp only [vz, qr, tyf, bu, cG, (oI cG), fC, iS, fF, gk, nm, seval]
  refine dktA (FO _ _ NU) ?_
  refine aV (fun tm => tm 12 = .agg (aF dA.a1) ∧ tm 17 = .agg (aF tu.a1) ∧ tm 19 = .lit (.int .i64 oY) ∧ True) (by refine ⟨fF, ?_, ?_, trivial⟩ <;> first | (simp only [ua, bu, cG, fC, iS, fF, gk, nm, seval] <;> rfl) | rfl) ?_
  rintro tm ⟨cY, di, dp, _⟩
  simp only [vz, qr, tyf, bu, cG, (oI cG), cY, di, dp, nm, seval]
  refine jS ⟨?_, ?_⟩
  ·simp only [jT, jU, eA, jV, and_true, true_and]
   repeat' (first | exact trivial | refine And.intro ?_ ?_ | rw [eA] | rw [jW] | exact Or.inl (by decide +kernel) | exact Or.inl (by dsimp only; decide +kernel) | (refine Or.inr ⟨?_, ?_⟩ <;> simp; done) | (refine Or.inr ⟨?_, ?_⟩ <;> simp <;> omega) | (refine Or.inr ⟨?_, ?_⟩ <;> simp [VEff.wr] <;> omega))
  cases Fa : ((oY != 0))
  ·simp only [Fa, hs] at h
   exact absurd h kN
  simp only [Fa, hs] at h
  try simp only [vz, qr, tyf, bu, cG, (oI cG), cY, di, dp, Fa, nm, seval]
  refine bP (x := (.lit (.int .i64 (i64.wrap (Int.tdiv (i64.wrap ((i64.wrap ((if (i64.wrap (dA.a1.High - (i64.wrap (oY * tu.a1.Low)))) < (i64.wrap ((i64.wrap (oY * tu.a1.High)) - dA.a1.Low)) then (i64.wrap ((i64.wrap (oY * tu.a1.High)) - dA.a1.Low)) else (i64.wrap (dA.a1.High - (i64.wrap (oY * tu.a1.Low))))) + oY)) - 1)) oY))))) (by first | (simp only [Tryz.results111, resV, resL, ar, bV, bU, uw, cr, tyf, bu, cG, (oI cG), Fa, nm, seval] <;> rfl) | rfl) ?_
  obtain rfl := kF _ h
  refine bZ ?_ ?_
  ·simp only [tre, au, Bool.and_self]
  ·first | (simp only [outV, uw, cA, cr, tyf, nrm, av, bu, cG, (oI cG), cY, di, dp, Fa, nm, seval] <;> rfl) | rfl
 simp only [bu, hs] at h
 obtain ⟨Ay, o43, h⟩ := optI h kN
 try simp only [hs] at h
 simp only [vz, qr, tyf, aY, bd, bg, bu, (oJ bu), nm, seval]
 refine dktA (G7 _ _ o43) ?_
 refine aV (fun tm => tm 1 = .lit (.int .i64 xpg) ∧ tm 2 = .ptr 0 0 ∧ tm 12 = .agg (aF dA.a0) ∧ tm 15 = .agg (cGa Ay) ∧ True) (by refine ⟨aY, bd, ?_, ?_, trivial⟩ <;> first | (simp only [ua, aY, bd, bg, bu, nm, seval] <;> rfl) | rfl) ?_
 rintro tm ⟨rK, lr, fY, fV, _⟩
 obtain ⟨mM, SP, h⟩ := optI h kN
 try simp only [hs] at h
 simp only [vz, qr, tyf, bu, (oJ bu), rK, lr, fY, fV, nm, seval]
 refine dktA (FO _ _ SP) ?_
 refine aV (fun tm => tm 12 = .agg (aF dA.a0) ∧ tm 17 = .agg (aF Ay.a0) ∧ tm 19 = .lit (.int .i64 mM) ∧ True) (by refine ⟨fY, ?_, ?_, trivial⟩ <;> first | (simp only [ua, bu, rK, lr, fY, fV, nm, seval] <;> rfl) | rfl) ?_
 rintro tm ⟨dj, eu, en, _⟩
 simp only [vz, qr, tyf, bu, (oJ bu), dj, eu, en, nm, seval]
 refine jS ⟨?_, ?_⟩
 ·simp only [jT, jU, eA, jV, and_true, true_and]
  repeat' (first | exact trivial | refine And.intro ?_ ?_ | rw [eA] | rw [jW] | exact Or.inl (by decide +kernel) | exact Or.inl (by dsimp only; decide +kernel) | (refine Or.inr ⟨?_, ?_⟩ <;> simp; done) | (refine Or.inr ⟨?_, ?_⟩ <;> simp <;> omega) | (refine Or.inr ⟨?_, ?_⟩ <;> simp [VEff.wr] <;> omega))
 cases nI : ((mM != 0))
 ·simp only [nI, hs] at h
  exact absurd h kN
 simp only [nI, hs] at h
 try simp only [vz, qr, tyf, bu, (oJ bu), dj, eu, en, nI, nm, seval]
 refine bP (x := (.lit (.int .i64 (i64.wrap (Int.tdiv (i64.wrap ((i64.wrap ((if (i64.wrap (dA.a0.High - (i64.wrap (mM * Ay.a0.Low)))) < (i64.wrap ((i64.wrap (mM * Ay.a0.High)) - dA.a0.Low)) then (i64.wrap ((i64.wrap (mM * Ay.a0.High)) - dA.a0.Low)) else (i64.wrap (dA.a0.High - (i64.wrap (mM * Ay.a0.Low))))) + mM)) - 1)) mM))))) (by first | (simp only [Tryz.results111, resV, resL, ar, bV, bU, uw, cr, tyf, bu, (oJ bu), nI, nm, seval] <;> rfl) | rfl) ?_
 obtain rfl := kF _ h
 refine bZ ?_ ?_
 ·simp only [tre, au, Bool.and_self]
 ·first | (simp only [outV, uw, cA, cr, tyf, nrm, av, bu, (oJ bu), dj, eu, en, nI, nm, seval] <;> rfl) | rfl
def wb (ah : Gm) (xpg : Int) : Option ((Unit) ⊕ (Unit)) := Option.bind (tU ah xpg) (fun r1 => cond (decide (r1 > ah.sh.Off)) (some (.inr ())) (some (.inl ())))
theorem Az (ah : Gm) (xpg : Int) (R : (Unit) ⊕ (Unit)) (h : wb ah xpg = some R) : ad Tryz.prog G0 102 [.agg (cGm ah), .lit (.int .i64 xpg)] (presB R (fun r => .tree (.tup [])) (fun e => .panic (.ifc 132 (.agg [])))) := by
 refine ad.runR mixed Tryz.call102 Tryz.func102 rfl (by simp [Tryz.ntmps102]; kernel_rfl) ?_
 obtain ⟨KF, h, kF, kN⟩ := cQ h
 simp only [wb] at h
 simp only [vz, tyf, nm, seval]
 refine fu (fun tm => tm 1 = .lit (.int .i64 xpg) ∧ tm 2 = .ptr 0 0 ∧ True) (by refine ⟨?_, ?_, trivial⟩ <;> first | (simp only [ua, nm, seval] <;> rfl) | rfl) ?_
 rintro tm ⟨e2, e3, _⟩
 obtain ⟨r4, o5, h⟩ := optI h kN
 try simp only [hs] at h
 simp only [vz, tyf, e2, e3, nm, seval]
 refine dktA (Gv _ _ _ o5) ?_
 refine aV (fun tm => tm 2 = .ptr 0 0 ∧ tm 6 = .lit (.int .i64 r4) ∧ True) (by refine ⟨e3, ?_, trivial⟩ <;> first | (simp only [ua, e2, e3, nm, seval] <;> rfl) | rfl) ?_
 rintro tm ⟨e6, e7, _⟩
 cases d8 : (decide (r4 > ah.sh.Off))
 ·simp only [d8, hs] at h
  try simp only [vz, tyf, e6, e7, d8, nm, seval]
  refine Bh (x := (.tup [])) (by first | (simp only [Tryz.results102, resV, resL, ar, bV, bU, uw, cr, tyf, d8, nm, seval] <;> rfl) | rfl) ?_
  obtain rfl := kF _ h
  refine bZ ?_ ?_
  ·simp only [tre, au, Bool.and_self]
  ·first | (simp only [outV, uw, cA, cr, tyf, nrm, av, e6, e7, d8, nm, seval] <;> rfl) | rfl
 simp only [d8, hs] at h
 simp only [vz, tyf, e6, e7, d8, nm, seval]
 refine Ja ?_
 obtain rfl := kF _ h
 refine Jg ?_ ?_
 ·simp only [tre, au, Jy, Bool.and_self]
 ·first | (simp only [outV, uw, cA, Jw, Jx, cr, tyf, nrm, av, e6, e7, d8, nm, seval] <;> rfl) | rfl
def wc (ah : Gm) : Option (Bool) := Option.bind (wb ah 0) (fun r1 => sumB r1 (fun u2 => Option.bind (wb ah 1) (fun r4 => sumB r4 (fun u5 => Option.bind (wb ah 2) (fun r7 => sumB r7 (fun u8 => some true) (fun w9 => some false))) (fun w6 => some false))) (fun w3 => some false))
theorem Pj (ah : Gm) (R : Bool) (h : wc ah = some R) : ad Tryz.prog G0 68 [.agg (cGm ah)] (.tree (.lit (.bool R))) := by
 refine ad.runR mixed Tryz.call68 Tryz.func68 rfl (by simp [Tryz.ntmps68]; kernel_rfl) ?_
 obtain ⟨KF, h, kF, kN⟩ := cQ h
 simp only [wc] at h
 simp only [vz, tyf, nm, seval]
 refine pv mixed (by kernel_rfl) 4 ?_
 obtain ⟨dA, uf, h⟩ := optI h kN
 try simp only [hs] at h
 cases dA with
 | inl u12 =>
  simp only [hs] at h
  simp only [vz, tyf, nm, seval]
  refine ktA (Az _ _ _ uf) ?_
  refine aV (fun tm => tm 1 = .ptr 0 0 ∧ tm 2 = .ptr 1 0 ∧ tm 5 = .lit (.int .i64 0) ∧ True) (by refine ⟨?_, ?_, ?_, trivial⟩ <;> first | (simp only [ua, nm, seval] <;> rfl) | rfl) ?_
  rintro tm ⟨bg, bK, bw, _⟩
  obtain ⟨zU, G4, h⟩ := optI h kN
  try simp only [hs] at h
  cases zU with
  | inl u19 =>
   simp only [hs] at h
   simp only [vz, tyf, bg, bK, bw, nm, seval]
   refine ktA (Az _ _ _ G4) ?_
   refine aV (fun tm => tm 1 = .ptr 0 0 ∧ tm 2 = .ptr 1 0 ∧ tm 5 = .lit (.int .i64 1) ∧ True) (by refine ⟨bg, bK, ?_, trivial⟩ <;> first | (simp only [ua, bg, bK, bw, nm, seval] <;> rfl) | rfl) ?_
   rintro tm ⟨bJ, bR, bz, _⟩
   obtain ⟨pn, tR, h⟩ := optI h kN
   try simp only [hs] at h
   cases pn with
   | inl u26 =>
    simp only [hs] at h
    simp only [vz, tyf, bJ, bR, bz, nm, seval]
    refine ktA (Az _ _ _ tR) ?_
    refine aV (fun tm => tm 1 = .ptr 0 0 ∧ tm 2 = .ptr 1 0 ∧ tm 5 = .lit (.int .i64 2) ∧ True) (by refine ⟨bJ, bR, ?_, trivial⟩ <;> first | (simp only [ua, bJ, bR, bz, nm, seval] <;> rfl) | rfl) ?_
    rintro tm ⟨bA, bW, cC, _⟩
    try simp only [vz, tyf, bA, bW, cC, nm, seval]
    refine Jb ?_
    refine VDeferred.run mixed Tryz.call101 Tryz.func101 rfl (by kernel_rfl) ?_
    try simp only [vz, tyf, nm, seval]
    refine FG Tryz.results101 ?_
    refine Jd (x := (.lit (.bool true))) (by first | (simp only [Tryz.results68, resV, resL, ar, bV, bU, uw, cr, tyf, bA, bW, cC, nm, seval] <;> rfl) | rfl) ?_
    obtain rfl := kF _ h
    refine bZ ?_ ?_
    ·simp only [tre, au, Bool.and_self]
    ·first | (simp only [outV, uw, cA, cr, tyf, nrm, av, bA, bW, cC, nm, seval] <;> rfl) | rfl
   | inr FV =>
    simp only [hs] at h
    simp only [vz, tyf, bJ, bR, bz, nm, seval]
    refine kpan (args0 := [.agg (cGm ah), .lit (.int .i64 2)]) (by first | (simp only [nrm, av] <;> rfl) | rfl) (by simp only [tre, au, Bool.and_self]) (Az _ _ _ tR) ?_
    try simp only [vz, tyf, bJ, bR, bz, nm, seval]
    refine Jc ?_
    refine VDeferred.run mixed Tryz.call101 Tryz.func101 rfl (by kernel_rfl) ?_
    try simp only [vz, tyf, nm, seval]
    refine FG Tryz.results101 ?_
    refine Je (x := (.lit (.bool false))) (by first | (simp only [Tryz.results68, resV, resL, ar, bV, bU, uw, cr, tyf, bJ, bR, bz, nm, seval] <;> rfl) | rfl) ?_
    obtain rfl := kF _ h
    refine bZ ?_ ?_
    ·simp only [tre, au, Bool.and_self]
    ·first | (simp only [outV, uw, cA, cr, tyf, nrm, av, bJ, bR, bz, nm, seval] <;> rfl) | rfl
  | inr w20 =>
   simp only [hs] at h
   simp only [vz, tyf, bg, bK, bw, nm, seval]
   refine kpan (args0 := [.agg (cGm ah), .lit (.int .i64 1)]) (by first | (simp only [nrm, av] <;> rfl) | rfl) (by simp only [tre, au, Bool.and_self]) (Az _ _ _ G4) ?_
   try simp only [vz, tyf, bg, bK, bw, nm, seval]
   refine Jc ?_
   refine VDeferred.run mixed Tryz.call101 Tryz.func101 rfl (by kernel_rfl) ?_
   try simp only [vz, tyf, nm, seval]
   refine FG Tryz.results101 ?_
   refine Je (x := (.lit (.bool false))) (by first | (simp only [Tryz.results68, resV, resL, ar, bV, bU, uw, cr, tyf, bg, bK, bw, nm, seval] <;> rfl) | rfl) ?_
   obtain rfl := kF _ h
   refine bZ ?_ ?_
   ·simp only [tre, au, Bool.and_self]
   ·first | (simp only [outV, uw, cA, cr, tyf, nrm, av, bg, bK, bw, nm, seval] <;> rfl) | rfl
 | inr w13 =>
  simp only [hs] at h
  simp only [vz, tyf, nm, seval]
  refine kpan (args0 := [.agg (cGm ah), .lit (.int .i64 0)]) (by first | (simp only [nrm, av] <;> rfl) | rfl) (by simp only [tre, au, Bool.and_self]) (Az _ _ _ uf) ?_
  try simp only [vz, tyf, nm, seval]
  refine Jc ?_
  refine VDeferred.run mixed Tryz.call101 Tryz.func101 rfl (by kernel_rfl) ?_
  try simp only [vz, tyf, nm, seval]
  refine FG Tryz.results101 ?_
  refine Je (x := (.lit (.bool false))) (by first | (simp only [Tryz.results68, resV, resL, ar, bV, bU, uw, cr, tyf, nm, seval] <;> rfl) | rfl) ?_
  obtain rfl := kF _ h
  refine bZ ?_ ?_
  ·simp only [tre, au, Bool.and_self]
  ·first | (simp only [outV, uw, cA, cr, tyf, nrm, av, nm, seval] <;> rfl) | rfl
def DX (ae : Gs) (an : List Int) (qQ : Gu) : Option (Bool × Int) := Option.bind (my ae) (fun r1 => cond (r1) (Option.bind (zV ae an) (fun r2 => cond (r2) (Option.bind (Cv ae qQ) (fun r3 => cond (r3) (Option.bind (Cz ae qQ) (fun r4 => Option.bind (wc (Gm.mk r4 an)) (fun r5 => some (r5, 0)))) (some (false, 2)))) (some (false, 2)))) (some (false, 2)))
theorem zsv (ae : Gs) (an : List Int) (qQ : Gu) (R : Bool × Int) (h : DX ae an qQ = some R) : ad Tryz.prog G0 24 [.agg (cGs ae), .sl (aa eI an) (List.length an) false, .agg (cGu qQ)] (.tree (.tup [.lit (.bool R.1), .lit (.int .i64 R.2)])) := by
 refine ad.runR mixed Tryz.call24 Tryz.func24 rfl (by simp [Tryz.ntmps24]; kernel_rfl) ?_
 obtain ⟨KF, h, kF, kN⟩ := cQ h
 simp only [DX] at h
 obtain ⟨r6, o7, h⟩ := optI h kN
 try simp only [hs] at h
 simp only [vz, tyf, nm, seval]
 refine ktA (wA _ _ o7) ?_
 refine aV (fun tm => tm 1 = .sl (aa eI an) (List.length an) false ∧ tm 3 = .ptr 0 0 ∧ tm 5 = .ptr 1 0 ∧ tm 9 = .lit (.bool r6) ∧ True) (by refine ⟨?_, ?_, ?_, ?_, trivial⟩ <;> first | (simp only [ua, nm, seval] <;> rfl) | rfl) ?_
 rintro tm ⟨e8, e9, aW, aX, _⟩
 cases fk : (r6)
 ·simp only [fk, hs] at h
  try simp only [vz, tyf, e8, e9, aW, aX, fk, nm, seval]
  refine bP (x := (.tup [.lit (.bool false), .lit (.int .i64 2)])) (by first | (simp only [Tryz.results24, resV, resL, ar, bV, bU, uw, cr, tyf, fk, nm, seval] <;> rfl) | rfl) ?_
  obtain rfl := kF _ h
  refine bZ ?_ ?_
  ·simp only [tre, au, Bool.and_self]
  ·first | (simp only [outV, uw, cA, cr, tyf, nrm, av, e8, e9, aW, aX, fk, nm, seval] <;> rfl) | rfl
 simp only [fk, hs] at h
 obtain ⟨p8, Hf, h⟩ := optI h kN
 try simp only [hs] at h
 simp only [vz, tyf, e8, e9, aW, aX, fk, nm, seval]
 refine ktA (WB _ _ _ Hf) ?_
 refine aV (fun tm => tm 1 = .sl (aa eI an) (List.length an) false ∧ tm 3 = .ptr 0 0 ∧ tm 5 = .ptr 1 0 ∧ tm 11 = .lit (.bool false) ∧ tm 14 = .lit (.bool p8) ∧ True) (by refine ⟨e8, e9, aW, ?_, ?_, trivial⟩ <;> first | (simp only [ua, e8, e9, aW, aX, fk, nm, seval] <;> rfl) | rfl) ?_
 rintro tm ⟨bK, bw, bI, cv, cT, _⟩
 cases cw : (p8)
 ·simp only [cw, hs] at h
  try simp only [vz, tyf, fk, bK, bw, bI, cv, cT, cw, nm, seval]
  refine bP (x := (.tup [.lit (.bool false), .lit (.int .i64 2)])) (by first | (simp only [Tryz.results24, resV, resL, ar, bV, bU, uw, cr, tyf, fk, cw, nm, seval] <;> rfl) | rfl) ?_
  obtain rfl := kF _ h
  refine bZ ?_ ?_
  ·simp only [tre, au, Bool.and_self]
  ·first | (simp only [outV, uw, cA, cr, tyf, nrm, av, fk, bK, bw, bI, cv, cT, cw, nm, seval] <;> rfl) | rfl
 simp only [cw, hs] at h
 obtain ⟨ma, se, h⟩ := optI h kN
 try simp only [hs] at h
 simp only [vz, tyf, fk, bK, bw, bI, cv, cT, cw, nm, seval]
 refine ktA (zlz _ _ _ se) ?_
 refine aV (fun tm => tm 1 = .sl (aa eI an) (List.length an) false ∧ tm 3 = .ptr 0 0 ∧ tm 5 = .ptr 1 0 ∧ tm 17 = .lit (.bool false) ∧ tm 20 = .lit (.bool ma) ∧ True) (by refine ⟨bK, bw, bI, ?_, ?_, trivial⟩ <;> first | (simp only [ua, fk, bK, bw, bI, cv, cT, cw, nm, seval] <;> rfl) | rfl) ?_
 rintro tm ⟨bz, cS, cq, da, cn, _⟩
 cases gL : (ma)
 ·simp only [gL, hs] at h
  try simp only [vz, tyf, fk, cw, bz, cS, cq, da, cn, gL, nm, seval]
  refine bP (x := (.tup [.lit (.bool false), .lit (.int .i64 2)])) (by first | (simp only [Tryz.results24, resV, resL, ar, bV, bU, uw, cr, tyf, fk, cw, gL, nm, seval] <;> rfl) | rfl) ?_
  obtain rfl := kF _ h
  refine bZ ?_ ?_
  ·simp only [tre, au, Bool.and_self]
  ·first | (simp only [outV, uw, cA, cr, tyf, nrm, av, fk, cw, bz, cS, cq, da, cn, gL, nm, seval] <;> rfl) | rfl
 simp only [gL, hs] at h
 obtain ⟨Py, Pz, h⟩ := optI h kN
 try simp only [hs] at h
 simp only [vz, tyf, fk, cw, bz, cS, cq, da, cn, gL, nm, seval]
 refine ktA (zqj _ _ _ Pz) ?_
 refine aV (fun tm => tm 1 = .sl (aa eI an) (List.length an) false ∧ tm 25 = .agg (cGs Py) ∧ True) (by refine ⟨bz, ?_, trivial⟩ <;> first | (simp only [ua, fk, cw, bz, cS, cq, da, cn, gL, nm, seval] <;> rfl) | rfl) ?_
 rintro tm ⟨cE, fC, _⟩
 obtain ⟨Dc, P0, h⟩ := optI h kN
 try simp only [hs] at h
 simp only [vz, tyf, fk, cw, gL, cE, fC, nm, seval]
 refine ktA (Pj _ _ P0) ?_
 refine aV (fun tm => tm 28 = .lit (.bool Dc) ∧ True) (by refine ⟨?_, trivial⟩ <;> first | (simp only [ua, fk, cw, gL, cE, fC, nm, seval] <;> rfl) | rfl) ?_
 rintro tm ⟨gk, _⟩
 try simp only [vz, tyf, fk, cw, gL, gk, nm, seval]
 refine bP (x := (.tup [.lit (.bool Dc), .lit (.int .i64 0)])) (by first | (simp only [Tryz.results24, resV, resL, ar, bV, bU, uw, cr, tyf, fk, cw, gL, nm, seval] <;> rfl) | rfl) ?_
 obtain rfl := kF _ h
 refine bZ ?_ ?_
 ·simp only [tre, au, Bool.and_self]
 ·first | (simp only [outV, uw, cA, cr, tyf, nrm, av, fk, cw, gL, gk, nm, seval] <;> rfl) | rfl


end Go.V
end
