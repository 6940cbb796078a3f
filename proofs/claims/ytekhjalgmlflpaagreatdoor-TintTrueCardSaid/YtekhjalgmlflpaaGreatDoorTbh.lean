/- Part of a proof. -/
import Derived.Test.YtekhjalgmlflpaaGreatDoorTbg
set_option linter.all false
set_option maxRecDepth 4000
set_option maxHeartbeats 40000000
section
namespace Go.V
open Go
inductive P3 where
 | p0
 | p1
 | p2
def P3.i : P3 → Int
 | .p0 => 0
 | .p1 => 1
 | .p2 => 2
def selS (c : Ga) : P3 → GSpan
 | .p0 => c.a0
 | .p1 => c.a1
 | .p2 => c.a2
def selI (c : Gi) : P3 → Int
 | .p0 => c.a0
 | .p1 => c.a1
 | .p2 => c.a2
theorem zkm (a n b : Int) : zcb a n b = some (inB a b n) := csome _ _
theorem ztm (n a b : Int) : zco n a b = some (inB a b n) := csome _ _
def spB (m : Int) (x : GSpan) : Bool := decide (0 ≤ x.Low) && (decide (x.Low ≤ x.High) && decide (x.High ≤ m))
theorem zafh {m : Int} {x : GSpan} : spB m x = true ↔ 0 ≤ x.Low ∧ x.Low ≤ x.High ∧ x.High ≤ m := by simp [spB]
theorem zzb (x : GSpan) (m : Int) : zes 0 x m = some (spB m x) := by
 unfold zes spB
 cases decide (0 ≤ x.Low) <;> cases decide (x.Low ≤ x.High) <;> rfl
theorem zss (x : GSpan) (m : Int) : zds x m = some (spB m x) := by
 unfold zds
 simp only [ztm, Option.bind_some]
 rw [csome]
 congr 1
 rw [Bool.eq_iff_iff]
 simp only [Bool.and_eq_true, zkw, zafh]
 omega
theorem zur (a b : Int) : ∀ (p : List Int) (c : Int), zdb a b p c = goB (p.all (inB a b))
 | [], _ => rfl
 | e :: p, c => by
  simp only [zdb, zkm, Option.bind_some, zur a b p, List.all_cons, zkg]
theorem zug (a b : Int) {x : List Int} (h : lenOk x = true) : zel a x b = some (x.all (inB a b)) := by
 unfold zel
 rw [h, zur, zji]
 cases x.all (inB a b) <;> rfl
theorem zre (b : Int) : ∀ (p : List GSpan) (c : Int), zcx 0 b p c = goB (p.all (spB b))
 | [], _ => rfl
 | e :: p, c => by
  simp only [zcx, zzb, Option.bind_some, zre b p, List.all_cons, zkg]
theorem zra (b : Int) {x : List GSpan} (h : lenOk x = true) : zdd 0 x b = some (x.all (spB b)) := by
 unfold zdd
 rw [h, zre, zji]
 cases x.all (spB b) <;> rfl
def tinB (t : Gt) : Bool := spB 99 t.pg.a0 && (spB 99 t.pg.a1 && spB 99 t.pg.a2)
def sheetB (s : Gs) : Bool := (inB 0 99 s.Old.a0 && (inB 0 99 s.Old.a1 && inB 0 99 s.Old.a2)) && ((spB 9 s.Fade.a0 && (spB 9 s.Fade.a1 && spB 9 s.Fade.a2)) && (spB 20 s.Years && (inB 1 20 s.Off && (inB 1 4 s.Tins.length && s.Tins.all tinB))))
theorem zuk : ∀ (p : List Gt) (c : Int), zdv p c = goB (p.all tinB)
 | [], _ => rfl
 | e :: p, c => by
  have h : zdd 0 [e.pg.a0, e.pg.a1, e.pg.a2] 99 = some (tinB e) := by
   rw [zra 99 (zic (by simp only [List.length_cons, List.length_nil]; decide))]
   simp only [List.all_cons, List.all_nil, Bool.and_true]
   rfl
  simp only [zdv, h, Option.bind_some, zuk p, List.all_cons, zkg]
theorem zkh {s : Gs} (h : lenOk s.Tins = true) : zba s = some (sheetB s) := by
 unfold zba zhe
 rw [zug 0 99 (zic (by simp only [List.length_cons, List.length_nil]; decide)), zra 9 (zic (by simp only [List.length_cons, List.length_nil]; decide)), zzb, zkm, zkm, h, zuk, zji]
 simp only [List.all_cons, List.all_nil, Bool.and_true, Option.bind_some, sheetB]
 cases (inB 0 99 s.Old.a0 && (inB 0 99 s.Old.a1 && inB 0 99 s.Old.a2)) <;> cases (spB 9 s.Fade.a0 && (spB 9 s.Fade.a1 && spB 9 s.Fade.a2)) <;> cases spB 20 s.Years <;> cases inB 1 20 s.Off <;> cases inB 1 4 (s.Tins.length : Int) <;> cases s.Tins.all tinB <;> rfl
theorem zzg : ∀ (p : List Gt) (c : Int), zca p c = goB (p.all fun t => spB 99 t.pg.a0)
 | [], _ => rfl
 | e :: p, c => by simp only [zca, zss, Option.bind_some, zzg p, List.all_cons, zkg]
theorem zza : ∀ (p : List Gt) (c : Int), zbz p c = goB (p.all fun t => spB 99 t.pg.a1)
 | [], _ => rfl
 | e :: p, c => by simp only [zbz, zss, Option.bind_some, zza p, List.all_cons, zkg]
theorem zxf : ∀ (p : List Gt) (c : Int), zcg p c = goB (p.all fun t => spB 99 t.pg.a2)
 | [], _ => rfl
 | e :: p, c => by simp only [zcg, zss, Option.bind_some, zxf p, List.all_cons, zkg]
theorem zaiy : ∀ (p : List Gt), p.all tinB = ((p.all fun t => spB 99 t.pg.a0) && ((p.all fun t => spB 99 t.pg.a1) && (p.all fun t => spB 99 t.pg.a2)))
 | [] => rfl
 | e :: p => by
  simp only [List.all_cons, zaiy p, tinB]
  cases spB 99 e.pg.a0 <;> cases spB 99 e.pg.a1 <;> cases spB 99 e.pg.a2 <;> simp
theorem zagh {s : Gs} (h : lenOk s.Tins = true) : zhb s = some (sheetB s) := by
 unfold zhb zks sheetB
 rw [zaiy, show Int.toNat (3 - 0) = 3 from rfl, show boundOk 3 = true from rfl]
 simp only [zdr, h, zzg, zza, zxf, zji, zss, ztm, Option.bind_some, Int.reduceAdd, Int.reduceBEq, cond_true, cond_false]
 cases inB 0 99 s.Old.a0 <;> cases inB 0 99 s.Old.a1 <;> cases inB 0 99 s.Old.a2 <;> cases spB 9 s.Fade.a0 <;> cases spB 9 s.Fade.a1 <;> cases spB 9 s.Fade.a2 <;> simp only [cond_true, cond_false, Bool.false_and, Bool.true_and, Bool.and_false, lbind] <;> first | (cases spB 20 s.Years <;> cases inB 1 20 s.Off <;> cases inB 1 4 (s.Tins.length : Int) <;> rfl) | (cases spB 20 s.Years <;> cases inB 1 20 s.Off <;> cases inB 1 4 (s.Tins.length : Int) <;> cases (s.Tins.all fun t => spB 99 t.pg.a0) <;> first | rfl | (cases (s.Tins.all fun t => spB 99 t.pg.a1) <;> first | rfl | (cases (s.Tins.all fun t => spB 99 t.pg.a2) <;> rfl)))
structure ShOk (s : Gs) : Prop where
 old : ∀ p, 0 ≤ selI s.Old p ∧ selI s.Old p ≤ 99
 fade : ∀ p, 0 ≤ (selS s.Fade p).Low ∧ (selS s.Fade p).Low ≤ (selS s.Fade p).High ∧ (selS s.Fade p).High ≤ 9
 yrs : 0 ≤ s.Years.Low ∧ s.Years.Low ≤ s.Years.High ∧ s.Years.High ≤ 20
 off : 1 ≤ s.Off ∧ s.Off ≤ 20
 n : 1 ≤ s.Tins.length ∧ s.Tins.length ≤ 4
 tin : ∀ t ∈ s.Tins, ∀ p, 0 ≤ (selS t.pg p).Low ∧ (selS t.pg p).Low ≤ (selS t.pg p).High ∧ (selS t.pg p).High ≤ 99
theorem ShOk.of {s : Gs} (h : sheetB s = true) : ShOk s := by
 simp only [sheetB, Bool.and_eq_true, List.all_eq_true, tinB, zkw, zafh] at h
 obtain ⟨⟨h1, h2, h3⟩, ⟨h4, h5, h6⟩, h7, h8, h9, h10⟩ := h
 refine ⟨fun p => ?_, fun p => ?_, h7, h8, by omega, fun t ht p => ?_⟩
 ·cases p <;> assumption
 ·cases p <;> assumption
 ·obtain ⟨a, b, c⟩ := h10 t ht
  cases p <;> assumption
theorem ShOk.ok {s : Gs} (h : ShOk s) : sheetB s = true := by
 simp only [sheetB, Bool.and_eq_true, List.all_eq_true, tinB, zkw, zafh]
 exact ⟨⟨h.old .p0, h.old .p1, h.old .p2⟩, ⟨h.fade .p0, h.fade .p1, h.fade .p2⟩, h.yrs, h.off, by have := h.n; omega, fun t ht => ⟨h.tin t ht .p0, h.tin t ht .p1, h.tin t ht .p2⟩⟩
def sumL : List Int → Int
 | [] => 0
 | e :: l => e + sumL l
theorem zaop : ∀ {l : List Int}, (∀ e ∈ l, 0 ≤ e ∧ e ≤ 8) → 0 ≤ sumL l ∧ sumL l ≤ 8 * l.length
 | [], _ => by simp [sumL]
 | e :: l, h => by
  have h1 := h e (List.mem_cons_self ..)
  have h2 := zaop fun x hx => h x (List.mem_cons_of_mem _ hx)
  simp only [sumL, List.length_cons]
  omega
theorem zabp : ∀ (l : List Int) (c acc : Int), (∀ e ∈ l, 0 ≤ e ∧ e ≤ 8) → 0 ≤ acc → acc + 8 * l.length ≤ 1000000 → zgr l c acc = some (.go (acc + sumL l))
 | [], c, acc, _, _, _ => by simp [zgr, sumL]
 | e :: l, c, acc, h, h0, hb => by
  have h1 := h e (List.mem_cons_self ..)
  simp only [List.length_cons] at hb
  simp only [zgr]
  rw [zci (by omega) (by omega), zabp l _ _ (fun x hx => h x (List.mem_cons_of_mem _ hx)) (by omega) (by omega)]
  simp only [sumL, Int.add_assoc]
theorem zaeu {l : List Int} (h : ∀ e ∈ l, 0 ≤ e ∧ e ≤ 8) (hl : l.length ≤ 1000) : zlm l = some (sumL l) := by
 unfold zlm
 rw [zic (by omega), zabp l 0 0 h (by omega) (by omega)]
 simp [lbind]
theorem zyg : ∀ (l : List Int) (c acc : Int), (∀ e ∈ l, 0 ≤ e ∧ e ≤ 8) → 0 ≤ acc → acc + 8 * l.length ≤ 1000000 → zdo l c acc = some (.go (acc + sumL l))
 | [], c, acc, _, _, _ => by simp [zdo, sumL]
 | e :: l, c, acc, h, h0, hb => by
  have h1 := h e (List.mem_cons_self ..)
  simp only [List.length_cons] at hb
  simp only [zdo]
  rw [zci (by omega) (by omega), zyg l _ _ (fun x hx => h x (List.mem_cons_of_mem _ hx)) (by omega) (by omega)]
  simp only [sumL, Int.add_assoc]
theorem zxw {l : List Int} (h : ∀ e ∈ l, 0 ≤ e ∧ e ≤ 8) (hl : l.length ≤ 1000) : zge l = some (sumL l) := by
 unfold zge
 rw [zic (by omega), zyg l 0 0 h (by omega) (by omega)]
 simp [lbind]
def mixB (s : Gs) (mix : List Int) : Bool := decide (mix.length = s.Tins.length) && (mix.all (inB 0 8) && inB 1 8 (sumL mix))
theorem lenB (a b : Nat) : ((a : Int) == (b : Int)) = decide (a = b) := by
 by_cases h : a = b
 ·simp [h]
 ·rw [decide_eq_false h]; exact beq_false_of_ne (by omega)
theorem zrr {s : Gs} (hs : ShOk s) (mix : List Int) : zcl s mix = some (mixB s mix) := by
 unfold zcl mixB
 rw [lenB]
 by_cases h : mix.length = s.Tins.length
 ·have hl : mix.length ≤ 1000 := by have := hs.n; omega
  rw [decide_eq_true h, zug _ _ (zic (by omega))]
  simp only [cond_true, Option.bind_some, Bool.true_and]
  cases ha : mix.all (inB 0 8) with
  | false => rfl
  | true =>
   have hb : ∀ e ∈ mix, 0 ≤ e ∧ e ≤ 8 := by
    intro e he
    rw [List.all_eq_true] at ha
    exact zkw.1 (ha e he)
   rw [zaeu hb hl]
   simp only [cond_true, Option.bind_some, zkm, Bool.true_and]
 ·rw [decide_eq_false h]
  rfl
theorem zajk : ∀ (p : List Int) (c : Int), zfj p c = goB (p.all (inB 0 8))
 | [], _ => rfl
 | e :: p, c => by
  simp only [zfj, ztm, Option.bind_some, zajk p, List.all_cons, zkg]
theorem zaqu {s : Gs} (hs : ShOk s) {mix : List Int} (hm : lenOk mix = true) : zig s mix = some (mixB s mix) := by
 unfold zig mixB
 rw [lenB, hm, zajk, zji]
 by_cases h : mix.length = s.Tins.length
 ·have hl : mix.length ≤ 1000 := by have := hs.n; omega
  rw [decide_eq_true h]
  simp only [cond_true, Option.bind_some, Bool.true_and]
  cases ha : mix.all (inB 0 8) with
  | false => rfl
  | true =>
   have hb : ∀ e ∈ mix, 0 ≤ e ∧ e ≤ 8 := by
    intro e he
    rw [List.all_eq_true] at ha
    exact zkw.1 (ha e he)
   rw [zxw hb hl]
   simp only [cond_true, Option.bind_some, ztm, Bool.true_and]
 ·rw [decide_eq_false h]
  cases mix.all (inB 0 8) <;> rfl
structure MixOk (s : Gs) (mix : List Int) : Prop where
 n : mix.length = s.Tins.length
 b : ∀ e ∈ mix, 0 ≤ e ∧ e ≤ 8
 s : 1 ≤ sumL mix ∧ sumL mix ≤ 8
theorem MixOk.of {s : Gs} {mix : List Int} (h : mixB s mix = true) : MixOk s mix := by
 simp only [mixB, Bool.and_eq_true, List.all_eq_true, zkw, decide_eq_true_eq] at h
 exact ⟨h.1, h.2.1, h.2.2⟩
theorem MixOk.ok {s : Gs} {mix : List Int} (h : MixOk s mix) : mixB s mix = true := by
 simp only [mixB, Bool.and_eq_true, List.all_eq_true, zkw, decide_eq_true_eq]
 exact ⟨h.n, h.b, h.s⟩
def dot {α : Type} (f : α → Int) : List Int → List α → Int
 | m :: ms, t :: ts => m * f t + dot f ms ts
 | _, _ => 0
theorem dot_b {α : Type} {f : α → Int} : ∀ (ms : List Int) (ts : List α), (∀ e ∈ ms, 0 ≤ e ∧ e ≤ 8) → (∀ t ∈ ts, 0 ≤ f t ∧ f t ≤ 99) → 0 ≤ dot f ms ts ∧ dot f ms ts ≤ 99 * sumL ms
 | [], _, _, _ => by simp [dot, sumL]
 | e :: ms, [], h, _ => by
  have := (zaop h).1
  simp only [dot]
  omega
 | e :: ms, t :: ts, h, h2 => by
  have h1 := h e (List.mem_cons_self ..)
  have h3 := h2 t (List.mem_cons_self ..)
  have ih := dot_b ms ts (fun x hx => h x (List.mem_cons_of_mem _ hx)) (fun x hx => h2 x (List.mem_cons_of_mem _ hx))
  have h4 := mulR h1.1 (Int.le_refl e) h3.1 h3.2
  simp only [dot, sumL]
  omega
theorem zsm {α β : Type} {f : α → Int} {g : β → Int} : ∀ (ms : List Int) (ts : List α) (us : List β), ts.length = us.length → (∀ e ∈ ms, 0 ≤ e ∧ e ≤ 8) → (∀ (i : Nat) t u, ts[i]? = some t → us[i]? = some u → f t ≤ g u) → dot f ms ts ≤ dot g ms us
 | [], _, _, _, _, _ => by simp [dot]
 | e :: ms, [], [], _, _, _ => by simp [dot]
 | e :: ms, t :: ts, u :: us, hl, h, h2 => by
  have h1 := h e (List.mem_cons_self ..)
  have h3 := h2 0 t u rfl rfl
  have ih := zsm ms ts us (by simpa using hl) (fun x hx => h x (List.mem_cons_of_mem _ hx)) (fun i a b ha hb => h2 (i + 1) a b (by simpa using ha) (by simpa using hb))
  have h4 := Int.mul_le_mul_of_nonneg_left h3 h1.1
  simp only [dot]
  omega
 | _ :: _, [], _ :: _, hl, _, _ => by simp at hl
 | _ :: _, _ :: _, [], hl, _, _ => by simp at hl
def lowT (p : P3) (t : Gt) : Int := (selS t.pg p).Low
def highT (p : P3) (t : Gt) : Int := (selS t.pg p).High
theorem zaer (x : Gm) (p : P3) : ∀ (ms : List Int) (ts : List Gt) (c acc : Int), 0 ≤ c → List.drop c.toNat x.sh.Tins = ts → ms.length ≤ ts.length → (∀ e ∈ ms, 0 ≤ e ∧ e ≤ 8) → (∀ t ∈ ts, 0 ≤ lowT p t ∧ lowT p t ≤ 99) → 0 ≤ acc → acc + 792 * ms.length ≤ 1000000 →
  zbf x p.i ms c acc = some (.go (acc + dot (lowT p) ms ts))
 | [], ts, c, acc, _, _, _, _, _, _, _ => by simp [zbf, dot]
 | e :: ms, [], _, _, _, _, hl, _, _, _, _ => by simp at hl
 | e :: ms, t :: ts, c, acc, h0, hd, hl, h, h2, ha, hb => by
  have h1 := h e (List.mem_cons_self ..)
  have h3 := h2 t (List.mem_cons_self ..)
  have h4 := mulR h1.1 h1.2 h3.1 h3.2
  simp only [List.length_cons] at hb hl
  have ih := zaer x p ms ts (c + 1) (acc + e * lowT p t) (by omega) (zaz h0 hd) (by omega) (fun x hx => h x (List.mem_cons_of_mem _ hx)) (fun x hx => h2 x (List.mem_cons_of_mem _ hx)) (by omega) (by omega)
  simp only [zbf, zal h0 hd, Option.bind_some]
  have hw : IntKind.i64.wrap (acc + IntKind.i64.wrap (e * lowT p t)) = acc + e * lowT p t := by rw [zci (n := e * lowT p t) (by omega) (by omega), zci (by omega) (by omega)]
  have hg : acc + e * lowT p t + dot (lowT p) ms ts = acc + dot (lowT p) (e :: ms) (t :: ts) := by simp only [dot]; omega
  rw [hg] at ih
  cases p <;> simp only [P3.i, Int.reduceBEq, cond_true, cond_false] <;> simp only [lowT, selS] at hw <;> rw [hw] <;> exact ih
theorem zqr (x : Gm) (p : P3) : ∀ (ms : List Int) (ts : List Gt) (c acc : Int), 0 ≤ c → List.drop c.toNat x.sh.Tins = ts → ms.length ≤ ts.length → (∀ e ∈ ms, 0 ≤ e ∧ e ≤ 8) → (∀ t ∈ ts, 0 ≤ highT p t ∧ highT p t ≤ 99) → 0 ≤ acc → acc + 792 * ms.length ≤ 1000000 →
  zay x p.i ms c acc = some (.go (acc + dot (highT p) ms ts))
 | [], ts, c, acc, _, _, _, _, _, _, _ => by simp [zay, dot]
 | e :: ms, [], _, _, _, _, hl, _, _, _, _ => by simp at hl
 | e :: ms, t :: ts, c, acc, h0, hd, hl, h, h2, ha, hb => by
  have h1 := h e (List.mem_cons_self ..)
  have h3 := h2 t (List.mem_cons_self ..)
  have h4 := mulR h1.1 h1.2 h3.1 h3.2
  simp only [List.length_cons] at hb hl
  have ih := zqr x p ms ts (c + 1) (acc + e * highT p t) (by omega) (zaz h0 hd) (by omega) (fun x hx => h x (List.mem_cons_of_mem _ hx)) (fun x hx => h2 x (List.mem_cons_of_mem _ hx)) (by omega) (by omega)
  simp only [zay, zal h0 hd, Option.bind_some]
  have hw : IntKind.i64.wrap (acc + IntKind.i64.wrap (e * highT p t)) = acc + e * highT p t := by rw [zci (n := e * highT p t) (by omega) (by omega), zci (by omega) (by omega)]
  have hg : acc + e * highT p t + dot (highT p) ms ts = acc + dot (highT p) (e :: ms) (t :: ts) := by simp only [dot]; omega
  rw [hg] at ih
  cases p <;> simp only [P3.i, Int.reduceBEq, cond_true, cond_false] <;> simp only [highT, selS] at hw <;> rw [hw] <;> exact ih
theorem ShOk.low {s : Gs} (h : ShOk s) (p : P3) : ∀ t ∈ s.Tins, 0 ≤ lowT p t ∧ lowT p t ≤ 99 := fun t ht => by
 have := h.tin t ht p
 unfold lowT
 omega
theorem ShOk.high {s : Gs} (h : ShOk s) (p : P3) : ∀ t ∈ s.Tins, 0 ≤ highT p t ∧ highT p t ≤ 99 := fun t ht => by
 have := h.tin t ht p
 unfold highT
 omega
def sumsP (s : Gs) (mix : List Int) (p : P3) : GSpan := ⟨dot (lowT p) mix s.Tins, dot (highT p) mix s.Tins⟩
def sumsS (s : Gs) (mix : List Int) : Ga := ⟨sumsP s mix .p0, sumsP s mix .p1, sumsP s mix .p2⟩
theorem zvq {s : Gs} (hs : ShOk s) {mix : List Int} (hm : MixOk s mix) (p : P3) : zcw ⟨s, mix⟩ p.i = some (dot (lowT p) mix s.Tins) := by
 have hl := hs.n
 have hn := hm.n
 unfold zcw
 rw [zic (by show mix.length < _; omega)]
 have := zaer ⟨s, mix⟩ p mix s.Tins 0 0 (Int.le_refl _) rfl (by omega) hm.b (hs.low p) (Int.le_refl _) (by omega)
 simp only [cond_true]
 rw [this]
 simp [lbind]
theorem zmq {s : Gs} (hs : ShOk s) {mix : List Int} (hm : MixOk s mix) (p : P3) : zbv ⟨s, mix⟩ p.i = some (dot (highT p) mix s.Tins) := by
 have hl := hs.n
 have hn := hm.n
 unfold zbv
 rw [zic (by show mix.length < _; omega)]
 have := zqr ⟨s, mix⟩ p mix s.Tins 0 0 (Int.le_refl _) rfl (by omega) hm.b (hs.high p) (Int.le_refl _) (by omega)
 simp only [cond_true]
 rw [this]
 simp [lbind]
theorem zabo {s : Gs} (hs : ShOk s) {mix : List Int} (hm : MixOk s mix) : zde ⟨s, mix⟩ = some (sumsS s mix) := by
 unfold zde
 have a0 := zvq hs hm .p0
 have a1 := zvq hs hm .p1
 have a2 := zvq hs hm .p2
 have b0 := zmq hs hm .p0
 have b1 := zmq hs hm .p1
 have b2 := zmq hs hm .p2
 simp only [P3.i] at a0 a1 a2 b0 b1 b2
 rw [a0, a1, a2, b0, b1, b2]
 rfl
theorem zafl {s : Gs} (hs : ShOk s) {mix : List Int} (hm : MixOk s mix) : zcj ⟨s, mix⟩ = some (sumL mix) := by
 have hl := hs.n
 have hn := hm.n
 unfold zcj
 rw [zaeu hm.b (by omega)]
 rfl
def leftI (old y f : Int) : Int := if 0 < old - y * f then old - y * f else 0
theorem zqh {old y f : Int} (h1 : 0 ≤ old ∧ old ≤ 99) (h2 : 0 ≤ y ∧ y ≤ 20) (h3 : 0 ≤ f ∧ f ≤ 9) : zcr old y f = some (leftI old y f) := by
 have := mulR h2.1 h2.2 h3.1 h3.2
 unfold zcr leftI
 rw [zci (n := y * f) (by omega) (by omega), zci (by omega) (by omega)]
theorem zaeq {old y f : Int} (h1 : 0 ≤ old ∧ old ≤ 99) (h2 : 0 ≤ y) (h3 : 0 ≤ f) : 0 ≤ leftI old y f ∧ leftI old y f ≤ old := by
 have := Int.mul_nonneg h2 h3
 unfold leftI
 split <;> omega
theorem zki {old y f y' f' : Int} (h2 : 0 ≤ y) (h : y ≤ y') (h3 : 0 ≤ f) (h' : f ≤ f') : leftI old y' f' ≤ leftI old y f := by
 have h4 : y * f ≤ y' * f' := Int.mul_le_mul h h' h3 (by omega)
 unfold leftI
 split <;> split <;> omega
def aimP (s : Gs) (p : P3) : GSpan := ⟨leftI (selI s.Old p) s.Years.High (selS s.Fade p).High, leftI (selI s.Old p) s.Years.Low (selS s.Fade p).Low⟩
def aimS (s : Gs) : Ga := ⟨aimP s .p0, aimP s .p1, aimP s .p2⟩
theorem zxc {s : Gs} (hs : ShOk s) (p : P3) : zcr (selI s.Old p) s.Years.High (selS s.Fade p).High = some (aimP s p).Low := by
 have h1 := hs.old p
 have h2 := hs.yrs
 have h3 := hs.fade p
 exact zqh h1 (by omega) (by omega)
theorem zsz {s : Gs} (hs : ShOk s) (p : P3) : zcr (selI s.Old p) s.Years.Low (selS s.Fade p).Low = some (aimP s p).High := by
 have h1 := hs.old p
 have h2 := hs.yrs
 have h3 := hs.fade p
 exact zqh h1 (by omega) (by omega)
theorem zaon {s : Gs} (hs : ShOk s) : zfq s = some (aimS s) := by
 have a0 := zxc hs .p0
 have a1 := zxc hs .p1
 have a2 := zxc hs .p2
 have b0 := zsz hs .p0
 have b1 := zsz hs .p1
 have b2 := zsz hs .p2
 simp only [selI, selS] at a0 a1 a2 b0 b1 b2
 unfold zfq
 rw [a0, a1, a2, b0, b1, b2]
 rfl
theorem zapu {s : Gs} (hs : ShOk s) (p : P3) : 0 ≤ (aimP s p).Low ∧ (aimP s p).Low ≤ (aimP s p).High ∧ (aimP s p).High ≤ 99 := by
 have h1 := hs.old p
 have h2 := hs.yrs
 have h3 := hs.fade p
 have h4 := zaeq (y := s.Years.High) (f := (selS s.Fade p).High) h1 (by omega) (by omega)
 have h5 := zaeq (y := s.Years.Low) (f := (selS s.Fade p).Low) h1 (by omega) (by omega)
 have h6 := zki (old := selI s.Old p) (y := s.Years.Low) (y' := s.Years.High) (f := (selS s.Fade p).Low) (f' := (selS s.Fade p).High) (by omega) (by omega) (by omega) (by omega)
 unfold aimP
 simp only
 omega
theorem zamd {s : Gs} (hs : ShOk s) (p : P3) {y f : Int} (h2 : 0 ≤ y ∧ y ≤ 20) (h3 : 0 ≤ f ∧ f ≤ 9) : zbw s p.i y f = some (leftI (selI s.Old p) y f) := by
 have h1 := hs.old p
 have h := zqh h1 h2 h3
 unfold zcr at h
 unfold zbw
 cases p <;> simp only [P3.i, Int.reduceBEq, cond_true, cond_false] <;> exact h
end Go.V
end
section
namespace Go.V
open Go Go.Proofs
def zfu (x0_n : Int) : Option (GSpan) := some (GSpan.mk x0_n x0_n)
theorem zgu (x0_n : Int) (R : GSpan) (h : zfu x0_n = some R) : VPure Tryz.prog G0 99 [.lit (.int .i64 x0_n)] (.tree (.agg (cGSpan R))) := by
 refine VPure.runR mixed Tryz.call99 Tryz.func99 rfl (by simp [Tryz.ntmps99]; kernel_rfl) ?_
 obtain ⟨KF, h, kF, kN⟩ := zaj h
 simp only [zfu] at h
 try simp only [vz, tyf, nm, seval]
 refine zam (x := (.agg ([.lit (.int .i64 x0_n)] ++ [.lit (.int .i64 x0_n)]))) (by first | (simp only [Tryz.results99, resV, resL, resV1, zao, zbi, uw, cr, tyf, nm, seval] <;> rfl) | rfl) ?_
 obtain rfl := kF _ h
 refine zas ?_ ?_
 ·simp only [tre, tytre, Bool.and_self]
 ·first | (simp only [outV, uw, zad, cr, tyf, nrm, tynrm, nm, seval] <;> rfl) | rfl
def zfo (x0_numbers : Gi) : Option (Ga) := Option.bind (zfu x0_numbers.a0) (fun r1 => Option.bind (zfu x0_numbers.a1) (fun r2 => Option.bind (zfu x0_numbers.a2) (fun r3 => some (Ga.mk r1 r2 r3))))
theorem zgm (x0_numbers : Gi) (R : Ga) (h : zfo x0_numbers = some R) : VPure Tryz.prog G0 100 [.agg (cGi x0_numbers)] (.tree (.agg (cGa R))) := by
 refine VPure.runR mixed Tryz.call100 Tryz.func100 rfl (by simp [Tryz.ntmps100]; kernel_rfl) ?_
 obtain ⟨KF, h, kF, kN⟩ := zaj h
 simp only [zfo] at h
 simp only [vz, tyf, nm, seval]
 refine zfb mixed (by kernel_rfl) 4 ?_
 obtain ⟨r4, o5, h⟩ := optI h kN
 try simp only [hs] at h
 simp only [vz, tyf, nm, seval]
 refine ktA (zgu _ _ o5) ?_
 refine zac (fun tm => tm 2 = .ptr 1 0 ∧ tm 3 = .ptr 2 0 ∧ tm 6 = .agg (cGi x0_numbers) ∧ tm 7 = .lit (.int .i64 0) ∧ tm 11 = .lit (.int .i64 0) ∧ tm 13 = .agg (cGSpan r4) ∧ True) (by refine ⟨?_, ?_, ?_, ?_, ?_, ?_, trivial⟩ <;> first | (simp only [ua, nm, seval] <;> rfl) | rfl) ?_
 rintro tm ⟨e6, e7, e8, e9, e10, e11, _⟩
 obtain ⟨r12, o13, h⟩ := optI h kN
 try simp only [hs] at h
 simp only [vz, tyf, e6, e7, e8, e9, e10, e11, nm, seval]
 refine ktA (zgu _ _ o13) ?_
 refine zac (fun tm => tm 2 = .ptr 1 0 ∧ tm 3 = .ptr 2 0 ∧ tm 6 = .agg (cGi x0_numbers) ∧ tm 7 = .lit (.int .i64 1) ∧ tm 11 = .lit (.int .i64 1) ∧ tm 13 = .agg (cGSpan r12) ∧ True) (by refine ⟨e6, e7, e8, ?_, ?_, ?_, trivial⟩ <;> first | (simp only [ua, e6, e7, e8, e9, e10, e11, nm, seval] <;> rfl) | rfl) ?_
 rintro tm ⟨e14, e15, e16, e17, e18, e19, _⟩
 obtain ⟨r20, o21, h⟩ := optI h kN
 try simp only [hs] at h
 simp only [vz, tyf, e14, e15, e16, e17, e18, e19, nm, seval]
 refine ktA (zgu _ _ o21) ?_
 refine zac (fun tm => tm 2 = .ptr 1 0 ∧ tm 3 = .ptr 2 0 ∧ tm 6 = .agg (cGi x0_numbers) ∧ tm 7 = .lit (.int .i64 2) ∧ tm 11 = .lit (.int .i64 2) ∧ tm 13 = .agg (cGSpan r20) ∧ True) (by refine ⟨e14, e15, e16, ?_, ?_, ?_, trivial⟩ <;> first | (simp only [ua, e14, e15, e16, e17, e18, e19, nm, seval] <;> rfl) | rfl) ?_
 rintro tm ⟨e22, e23, e24, e25, e26, e27, _⟩
 try simp only [vz, tyf, e22, e23, e24, e25, e26, e27, nm, seval]
 refine zam (x := (.agg ((cGSpan r4) ++ (cGSpan r12) ++ (cGSpan r20)))) (by first | (simp only [Tryz.results100, resV, resL, resV1, zao, zbi, uw, cr, tyf, e22, e23, e24, e25, e26, e27, nm, seval] <;> rfl) | rfl) ?_
 obtain rfl := kF _ h
 refine zas ?_ ?_
 ·simp only [tre, tytre, Bool.and_self]
 ·first | (simp only [outV, uw, zad, cr, tyf, nrm, tynrm, e22, e23, e24, e25, e26, e27, nm, seval] <;> rfl) | rfl
def zcy  : List Gi → Int → (List Gt) → Option (LOut (Gs) ((List Gt)))
 | [], c0_19, c0_o0 => some (.go c0_o0)
 | e0 :: p0, c0_19, c0_o0 => Option.bind (zfo e0) (fun r4 => cond (roomOk 48 (List.length (c0_o0 ++ [(Gt.mk r4)]))) (zcy p0 (c0_19 + 1) (c0_o0 ++ [(Gt.mk r4)])) none)
def zhn (x0_s : Gs) (x1_t : Gu) : Option (Gs) := Option.bind (zfu x1_t.Years) (fun r1 => Option.bind (zfo x1_t.Fade) (fun r2 => cond (lenOk x1_t.Tins) (lbind (zcy x1_t.Tins 0 ([] : List Gt)) (fun r6 => some r6) (fun c5 => some (Gs.mk x0_s.Old r2 r1 x0_s.Off c5)) (fun _ _ => none)) none))
theorem zpy (x0_s : Gs) (x1_t : Gu) (R : Gs) (h : zhn x0_s x1_t = some R) : VPure Tryz.prog G0 67 [.agg (cGs x0_s), .agg (cGu x1_t)] (.tree (.agg (cGs R))) := by
 refine VPure.runR mixed Tryz.call67 Tryz.func67 rfl (by simp [Tryz.ntmps67]; kernel_rfl) ?_
 obtain ⟨KF, h, kF, kN⟩ := zaj h
 simp only [zhn] at h
 simp only [vz, tyf, nm, seval]
 refine zdz (fun tm => tm 2 = .ptr 0 0 ∧ tm 3 = .ptr 1 0 ∧ tm 4 = .ptr 2 0 ∧ True) (by refine ⟨?_, ?_, ?_, trivial⟩ <;> first | (simp only [ua, nm, seval] <;> rfl) | rfl) ?_
 rintro tm ⟨e7, e8, e9, _⟩
 obtain ⟨r10, o11, h⟩ := optI h kN
 try simp only [hs] at h
 simp only [vz, tyf, e7, e8, e9, nm, seval]
 refine dktA (zgu _ _ o11) ?_
 refine zac (fun tm => tm 2 = .ptr 0 0 ∧ tm 3 = .ptr 1 0 ∧ tm 4 = .ptr 2 0 ∧ tm 9 = .agg (cGSpan r10) ∧ True) (by refine ⟨e7, e8, e9, ?_, trivial⟩ <;> first | (simp only [ua, e7, e8, e9, nm, seval] <;> rfl) | rfl) ?_
 rintro tm ⟨e12, e13, e14, e15, _⟩
 obtain ⟨r16, o17, h⟩ := optI h kN
 try simp only [hs] at h
 simp only [vz, tyf, e12, e13, e14, e15, nm, seval]
 refine dktA (zgm _ _ o17) ?_
 refine zac (fun tm => tm 2 = .ptr 0 0 ∧ tm 3 = .ptr 1 0 ∧ tm 4 = .ptr 2 0 ∧ tm 9 = .agg (cGSpan r10) ∧ tm 12 = .agg (cGa r16) ∧ True) (by refine ⟨e12, e13, e14, e15, ?_, trivial⟩ <;> first | (simp only [ua, e12, e13, e14, e15, nm, seval] <;> rfl) | rfl) ?_
 rintro tm ⟨e18, e19, e20, e21, e22, _⟩
 simp only [vz, tyf, e18, e19, e20, e21, e22, nm, seval]
 refine zdt ⟨?_, ?_⟩
 ·simp only [zbx, zcu, zav, zex, and_true, true_and]
  repeat' (first | exact trivial | refine And.intro ?_ ?_ | rw [zav] | rw [zdu] | exact Or.inl (by decide +kernel) | exact Or.inl (by dsimp only; decide +kernel) | (refine Or.inr ⟨?_, ?_⟩ <;> simp; done) | (refine Or.inr ⟨?_, ?_⟩ <;> simp <;> omega) | (refine Or.inr ⟨?_, ?_⟩ <;> simp [VEff.wr] <;> omega))
 cases g24 : (lenOk x1_t.Tins)
 ·simp only [g24, hs] at h
  exact absurd h kN
 simp only [g24, hs] at h
 simp only [vz, tyf, e18, e19, e20, e21, e22, g24, nm, seval]
 obtain ⟨K23, h, kR23, kG23, kB23, kN23⟩ := zau h kN
 obtain ⟨f23, hf23, h⟩ := call3 h
 obtain ⟨I23, hI23⟩ : ∃ I : Nat → St → Prop, I = (fun m st => ∃ (p23 : List Gi) (c23_19 : Int) (c23_o0 : List Gt) (y23_0 : VV), m = List.length p23 ∧ 0 ≤ c23_19 ∧ List.drop (Int.toNat c23_19) x1_t.Tins = p23 ∧ st.df = [] ∧ 19 ≤ st.nx ∧ st.H 0 = some (.cells (some 28) ((cGi x0_s.Old) ++ (cGa r16) ++ (cGSpan r10) ++ [.lit (.int .i64 x0_s.Off)] ++ [y23_0])) ∧ st.H 2 = some (.cells (some 28) ([.lit (.int .i64 0)] ++ [.lit (.int .i64 0)] ++ [.lit (.int .i64 0)] ++ [.lit (.int .i64 0)] ++ [.lit (.int .i64 0)] ++ [.lit (.int .i64 0)] ++ [.lit (.int .i64 0)] ++ [.lit (.int .i64 0)] ++ [.lit (.int .i64 0)] ++ [.lit (.int .i64 0)] ++ [.lit (.int .i64 0)] ++ [.lit (.int .i64 0)] ++ [.lit (.slice none 0 0)])) ∧ st.tm 2 = .ptr 0 0 ∧ st.tm 4 = .ptr 2 0 ∧ st.tm 17 = .sl (cellsL cGi x1_t.Tins) (List.length x1_t.Tins) false ∧ st.tm 18 = .lit (.int .i64 (List.length x1_t.Tins : Int)) ∧ st.tm 19 = .lit (.int .i64 c23_19) ∧ ((∃ (β : Nat) (el : Option TypeId), y23_0 = .ref β 0 (List.length c23_o0) 6 (List.length c23_o0) ∧ β < st.nx ∧ β ≠ 0 ∧ β ≠ 2 ∧ st.H β = some (.cells el (cellsL cGt c23_o0))) ∨ (y23_0 = .lit (.slice none 0 0) ∧ c23_o0 = [])) ∧ K23 (f23 p23 c23_19 c23_o0)) := ⟨_, rfl⟩
 refine loopK mixed (by kernel_rfl) I23 (List.length x1_t.Tins) (by rw [hI23]; refine ⟨x1_t.Tins, 0, ([] : List Gt), .lit (.slice none 0 0), rfl, Int.le_refl _, rfl, rfl, (show 19 ≤ 19 by omega), ?_, ?_, e18, e20, ?_, ?_, ?_, Or.inr ⟨rfl, rfl⟩, h⟩ <;> first | (simp only [ua, e18, e19, e20, e21, e22, nm, seval] <;> rfl) | rfl) ?_
 rintro m ⟨tm, H, nx23, df⟩ hinv
 rw [hI23] at hinv
 obtain ⟨p23, c23_19, c23_o0, y23_0, rfl, hi23, hp23, hdf, hn23, H25, H26, e27, e28, e29, e30, e31, ow23_0, h⟩ := hinv
 simp only at hdf hn23 H25 H26 e27 e28 e29 e30 e31 ow23_0
 have n32 := zcf (m := 19) (b := nx23) (by omega)
 subst hdf hf23
 rcases ow23_0 with ⟨b23_0, el23_0, rfl, lq34, lq35, lq36, H33⟩ | ⟨rfl, rfl⟩
 ·have q34 := zala lq34
  have q35 := ne_f lq35
  have q36 := ne_f lq36
  cases p23 with
  | nil =>
   have d37 : (decide (c23_19 < (List.length x1_t.Tins : Int))) = false := zaq hi23 hp23
   simp only [zcy, hs, reduceCtorEq] at h
   replace h := kG23 _ h
   try dsimp only at h
   try simp only [hs] at h
   try simp only [vz, tyf, g24, n32, e27, e28, e29, e30, e31, H25, H26, q34, H33, q35, q36, d37, nm, seval]
   refine zam (x := (.agg ((cGi x0_s.Old) ++ (cGa r16) ++ (cGSpan r10) ++ [.lit (.int .i64 x0_s.Off)] ++ [.ref b23_0 0 (List.length c23_o0) 6 (List.length c23_o0)]))) (by first | (simp only [Tryz.results67, resV, resL, resV1, zao, zbi, uw, cr, tyf, g24, n32, e27, e28, e29, e30, e31, H25, H26, q34, H33, q35, q36, d37, nm, seval] <;> rfl) | rfl) ?_
   obtain rfl := kF _ h
   refine zas ?_ ?_
   ·simp only [tre, tytre, Bool.and_self]
   ·first | (simp only [outV, uw, zad, cr, tyf, nrm, tynrm, g24, n32, e27, e28, e29, e30, e31, H25, H26, q34, H33, q35, q36, d37, nm, seval] <;> rfl) | rfl
  | cons e23 p23 =>
   have d38 : (decide (c23_19 < (List.length x1_t.Tins : Int))) = true := zbr hi23 hp23
   have o40 := zal hi23 hp23
   have w39 := zcp hi23 hp23 g24
   simp only [zcy, hs, reduceCtorEq] at h
   simp only [vz, tyf, g24, n32, e27, e28, e29, e30, e31, H25, H26, q34, H33, q35, q36, d38, (ix40 o40), w39, nm, seval]
   refine zdz (fun tm => tm 2 = .ptr 0 0 ∧ tm 4 = .ptr 2 0 ∧ tm 6 = .ptr (nx23 + 3) 0 ∧ tm 17 = .sl (cellsL cGi x1_t.Tins) (List.length x1_t.Tins) false ∧ tm 18 = .lit (.int .i64 (List.length x1_t.Tins : Int)) ∧ tm 19 = .lit (.int .i64 c23_19) ∧ True) (by refine ⟨e27, e28, ?_, e29, e30, e31, trivial⟩ <;> first | (simp only [ua, n32, e27, e28, e29, e30, e31, H25, H26, q34, H33, q35, q36, d38, w39, nm, seval] <;> rfl) | rfl) ?_
   rintro tm ⟨e41, e42, e43, e44, e45, e46, _⟩
   have b47 := And.intro g24 (And.intro n32 (And.intro H25 (And.intro H26 (And.intro q34 (And.intro H33 (And.intro q35 (And.intro q36 (And.intro d38 w39))))))))
   obtain ⟨r48, o49, h⟩ := optI h kN23
   try simp only [hs] at h
   simp only [vz, tyf, b47, (ix40 o40), e41, e42, e43, e44, e45, e46, nm, seval]
   refine dktA (zgm _ _ o49) ?_
   refine zac (fun tm => tm 2 = .ptr 0 0 ∧ tm 4 = .ptr 2 0 ∧ tm 17 = .sl (cellsL cGi x1_t.Tins) (List.length x1_t.Tins) false ∧ tm 18 = .lit (.int .i64 (List.length x1_t.Tins : Int)) ∧ tm 19 = .lit (.int .i64 c23_19) ∧ tm 24 = .ref b23_0 0 (List.length c23_o0) 6 (List.length c23_o0) ∧ tm 26 = .agg (cGa r48) ∧ True) (by refine ⟨e41, e42, e44, e45, e46, ?_, ?_, trivial⟩ <;> first | (simp only [ua, b47, e41, e42, e43, e44, e45, e46, nm, seval] <;> rfl) | rfl) ?_
   rintro tm ⟨e50, e51, e52, e53, e54, e55, e56, _⟩
   cases g57 : (roomOk 48 (List.length (c23_o0 ++ [(Gt.mk r48)])))
   ·simp only [g57, hs] at h
    exact absurd h kN23
   simp only [g57, hs] at h
   simp only [vz, tyf, b47, (ix40 o40), e50, e51, e52, e53, e54, e55, e56, g57, nm, seval]
   refine k_app (w := 6) (enc := cGt) (xs := c23_o0) (ys := ([(Gt.mk r48)])) (el := el23_0) (el2 := (some 94)) (fun _ => rfl) lf26 ao26 Tryz.underlying26 (by first | rfl | assumption | (simp only [zab, zak, et26, b47, nm, seval] <;> rfl) | (simp only [zab, zak, zew, zcz, zpe, zkc, tyf, b47, (ix40 o40), e50, e51, e52, e53, e54, e55, e56, g57, nm, seval]; done)) (by first | rfl | assumption | (simp only [zab, zak, et26, b47, nm, seval] <;> rfl) | (simp only [zab, zak, zew, zcz, zpe, zkc, tyf, b47, (ix40 o40), e50, e51, e52, e53, e54, e55, e56, g57, nm, seval]; done)) (Nat.zero_lt_succ _) g57 ?_
   simp only [vz, tyf, b47, (ix40 o40), e50, e51, e52, e53, e54, e55, e56, g57, nm, seval]
   refine zdt ⟨?_, ?_⟩
   ·simp only [zbx, zcu, zav, zex, and_true, true_and]
    repeat' (first | exact trivial | refine And.intro ?_ ?_ | rw [zav] | rw [zdu] | exact Or.inl (by decide +kernel) | exact Or.inl (by dsimp only; decide +kernel) | (refine Or.inr ⟨?_, ?_⟩ <;> simp; done) | (refine Or.inr ⟨?_, ?_⟩ <;> simp <;> omega) | (refine Or.inr ⟨?_, ?_⟩ <;> simp [VEff.wr] <;> omega))
   simp only [vz, tyf, b47, (ix40 o40), e50, e51, e52, e53, e54, e55, e56, g57, nm, seval]
   exact ⟨List.length p23, Nat.lt_succ_self _, by rw [hI23]; refine ⟨p23, c23_19 + 1, (c23_o0 ++ [(Gt.mk r48)]), .ref (nx23 + 11) 0 (List.length (c23_o0 ++ [(Gt.mk r48)])) 6 (List.length (c23_o0 ++ [(Gt.mk r48)])), rfl, Int.le_trans hi23 (Int.le_add_one (Int.le_refl _)), zaz hi23 hp23, rfl, (show 19 ≤ nx23 + 16 by omega), ?_, ?_, e50, e51, e52, e53, ?_, Or.inl ⟨nx23 + 11, (sameEl el23_0 94), rfl, (by first | omega | (simp only [nm, seval]; omega)), (by first | omega | (intro hh; simp only [b47, reduceCtorEq] at hh)), (by first | omega | (intro hh; simp only [b47, reduceCtorEq] at hh)), ?_⟩, h⟩ <;> first | (simp only [ua, b47, e50, e51, e52, e53, e54, e55, e56, nm, seval] <;> rfl) | rfl⟩
 ·cases p23 with
  | nil =>
   have d58 : (decide (c23_19 < (List.length x1_t.Tins : Int))) = false := zaq hi23 hp23
   simp only [zcy, hs, reduceCtorEq] at h
   replace h := kG23 _ h
   try dsimp only at h
   try simp only [hs] at h
   try simp only [vz, tyf, g24, n32, e27, e28, e29, e30, e31, H25, H26, d58, nm, seval]
   refine zam (x := (.agg ((cGi x0_s.Old) ++ (cGa r16) ++ (cGSpan r10) ++ [.lit (.int .i64 x0_s.Off)] ++ [.lit (.slice none 0 0)]))) (by first | (simp only [Tryz.results67, resV, resL, resV1, zao, zbi, uw, cr, tyf, g24, n32, e27, e28, e29, e30, e31, H25, H26, d58, nm, seval] <;> rfl) | rfl) ?_
   obtain rfl := kF _ h
   refine zas ?_ ?_
   ·simp only [tre, tytre, Bool.and_self]
   ·first | (simp only [outV, uw, zad, cr, tyf, nrm, tynrm, g24, n32, e27, e28, e29, e30, e31, H25, H26, d58, nm, seval] <;> rfl) | rfl
  | cons e23 p23 =>
   have d59 : (decide (c23_19 < (List.length x1_t.Tins : Int))) = true := zbr hi23 hp23
   have o61 := zal hi23 hp23
   have w60 := zcp hi23 hp23 g24
   simp only [zcy, hs, reduceCtorEq] at h
   simp only [vz, tyf, g24, n32, e27, e28, e29, e30, e31, H25, H26, d59, (ix40 o61), w60, nm, seval]
   refine zdz (fun tm => tm 2 = .ptr 0 0 ∧ tm 4 = .ptr 2 0 ∧ tm 6 = .ptr (nx23 + 3) 0 ∧ tm 17 = .sl (cellsL cGi x1_t.Tins) (List.length x1_t.Tins) false ∧ tm 18 = .lit (.int .i64 (List.length x1_t.Tins : Int)) ∧ tm 19 = .lit (.int .i64 c23_19) ∧ True) (by refine ⟨e27, e28, ?_, e29, e30, e31, trivial⟩ <;> first | (simp only [ua, n32, e27, e28, e29, e30, e31, H25, H26, d59, w60, nm, seval] <;> rfl) | rfl) ?_
   rintro tm ⟨e62, e63, e64, e65, e66, e67, _⟩
   obtain ⟨r68, o69, h⟩ := optI h kN23
   try simp only [hs] at h
   simp only [vz, tyf, g24, n32, H25, H26, d59, (ix40 o61), w60, e62, e63, e64, e65, e66, e67, nm, seval]
   refine dktA (zgm _ _ o69) ?_
   refine zac (fun tm => tm 2 = .ptr 0 0 ∧ tm 4 = .ptr 2 0 ∧ tm 17 = .sl (cellsL cGi x1_t.Tins) (List.length x1_t.Tins) false ∧ tm 18 = .lit (.int .i64 (List.length x1_t.Tins : Int)) ∧ tm 19 = .lit (.int .i64 c23_19) ∧ tm 24 = .lit (.slice none 0 0) ∧ tm 26 = .agg (cGa r68) ∧ True) (by refine ⟨e62, e63, e65, e66, e67, ?_, ?_, trivial⟩ <;> first | (simp only [ua, n32, H25, H26, d59, w60, e62, e63, e64, e65, e66, e67, nm, seval] <;> rfl) | rfl) ?_
   rintro tm ⟨e70, e71, e72, e73, e74, e75, e76, _⟩
   cases g77 : (roomOk 48 (List.length (([] : List Gt) ++ [(Gt.mk r68)])))
   ·simp only [g77, hs] at h
    exact absurd h kN23
   simp only [g77, hs] at h
   simp only [vz, tyf, g24, n32, H25, H26, d59, (ix40 o61), w60, e70, e71, e72, e73, e74, e75, e76, g77, nm, seval]
   refine zahi (w := 6) (enc := cGt) (ys := ([(Gt.mk r68)])) (el2 := (some 94)) (fun _ => rfl) lf26 ao26 Tryz.underlying26 (by first | rfl | assumption | (simp only [zab, zak, et26, n32, H25, H26, nm, seval] <;> rfl) | (simp only [zab, zak, zew, zcz, zpe, zkc, tyf, g24, n32, H25, H26, d59, (ix40 o61), w60, e70, e71, e72, e73, e74, e75, e76, g77, nm, seval]; done)) (Nat.zero_lt_succ _) g77 ?_
   simp only [vz, tyf, g24, n32, H25, H26, d59, (ix40 o61), w60, e70, e71, e72, e73, e74, e75, e76, g77, nm, seval]
   refine zdt ⟨?_, ?_⟩
   ·simp only [zbx, zcu, zav, zex, and_true, true_and]
    repeat' (first | exact trivial | refine And.intro ?_ ?_ | rw [zav] | rw [zdu] | exact Or.inl (by decide +kernel) | exact Or.inl (by dsimp only; decide +kernel) | (refine Or.inr ⟨?_, ?_⟩ <;> simp; done) | (refine Or.inr ⟨?_, ?_⟩ <;> simp <;> omega) | (refine Or.inr ⟨?_, ?_⟩ <;> simp [VEff.wr] <;> omega))
   simp only [vz, tyf, g24, n32, H25, H26, d59, (ix40 o61), w60, e70, e71, e72, e73, e74, e75, e76, g77, nm, seval]
   exact ⟨List.length p23, Nat.lt_succ_self _, by rw [hI23]; refine ⟨p23, c23_19 + 1, (([] : List Gt) ++ [(Gt.mk r68)]), .ref (nx23 + 11) 0 (List.length (([] : List Gt) ++ [(Gt.mk r68)])) 6 (List.length (([] : List Gt) ++ [(Gt.mk r68)])), rfl, Int.le_trans hi23 (Int.le_add_one (Int.le_refl _)), zaz hi23 hp23, rfl, (show 19 ≤ nx23 + 16 by omega), ?_, ?_, e70, e71, e72, e73, ?_, Or.inl ⟨nx23 + 11, (some 94), rfl, (by first | omega | (simp only [nm, seval]; omega)), (by first | omega | (intro hh; simp only [n32, reduceCtorEq] at hh)), (by first | omega | (intro hh; simp only [n32, reduceCtorEq] at hh)), ?_⟩, h⟩ <;> first | (simp only [ua, n32, H25, H26, d59, w60, e70, e71, e72, e73, e74, e75, e76, nm, seval] <;> rfl) | rfl⟩
end Go.V
end
section
set_option linter.defProp false
namespace Go.V
open Go
section
variable {P : Program} {H : Nat → Option VObj} {t : TypeId} {x y : Operand} {k : IntKind} {a b : Int}
theorem zanj (h : (b != 0) = true) : binV P H .quo t x y (.lit (.int k a)) (.lit (.int k b)) = some (.lit (.int k (k.wrap (a.tdiv b)))) := by
 have : b ≠ 0 := by simpa using h
 simp [binV, VV.val?, vbin, ofVal, ofVal2, ofVal1, this]
theorem zaue : unV P .neg (.lit (.int k a)) = some (.lit (.int k (k.wrap (-a)))) := by simp [unV, VV.val?, Op.unary, Op.intArith, zbu, ofVal, ofVal2, ofVal1]
def qr := (And.intro @zanj @zaue)
end
end Go.V
end
section
namespace Go.V
open Go Go.Proofs
def zbl (x0_x : Gm) (xpg : Int) : Option (Int) := Option.bind (zde x0_x) (fun r1 => cond (xpg == 0) (Option.bind (zfq x0_x.sh) (fun r2 => Option.bind (zcj x0_x) (fun r3 => cond ((r3 != 0)) (some (IntKind.i64.wrap (Int.tdiv (IntKind.i64.wrap ((IntKind.i64.wrap ((if (IntKind.i64.wrap (r1.a0.High - (IntKind.i64.wrap (r3 * r2.a0.Low)))) < (IntKind.i64.wrap ((IntKind.i64.wrap (r3 * r2.a0.High)) - r1.a0.Low)) then (IntKind.i64.wrap ((IntKind.i64.wrap (r3 * r2.a0.High)) - r1.a0.Low)) else (IntKind.i64.wrap (r1.a0.High - (IntKind.i64.wrap (r3 * r2.a0.Low))))) + r3)) - 1)) r3))) none))) (cond (xpg == 1) (Option.bind (zfq x0_x.sh) (fun r4 => Option.bind (zcj x0_x) (fun r5 => cond ((r5 != 0)) (some (IntKind.i64.wrap (Int.tdiv (IntKind.i64.wrap ((IntKind.i64.wrap ((if (IntKind.i64.wrap (r1.a1.High - (IntKind.i64.wrap (r5 * r4.a1.Low)))) < (IntKind.i64.wrap ((IntKind.i64.wrap (r5 * r4.a1.High)) - r1.a1.Low)) then (IntKind.i64.wrap ((IntKind.i64.wrap (r5 * r4.a1.High)) - r1.a1.Low)) else (IntKind.i64.wrap (r1.a1.High - (IntKind.i64.wrap (r5 * r4.a1.Low))))) + r5)) - 1)) r5))) none))) (cond (xpg == 2) (Option.bind (zfq x0_x.sh) (fun r6 => Option.bind (zcj x0_x) (fun r7 => cond ((r7 != 0)) (some (IntKind.i64.wrap (Int.tdiv (IntKind.i64.wrap ((IntKind.i64.wrap ((if (IntKind.i64.wrap (r1.a2.High - (IntKind.i64.wrap (r7 * r6.a2.Low)))) < (IntKind.i64.wrap ((IntKind.i64.wrap (r7 * r6.a2.High)) - r1.a2.Low)) then (IntKind.i64.wrap ((IntKind.i64.wrap (r7 * r6.a2.High)) - r1.a2.Low)) else (IntKind.i64.wrap (r1.a2.High - (IntKind.i64.wrap (r7 * r6.a2.Low))))) + r7)) - 1)) r7))) none))) (none))))
theorem zdm (x0_x : Gm) (xpg : Int) (R : Int) (h : zbl x0_x xpg = some R) : VPure Tryz.prog G0 111 [.agg (cGm x0_x), .lit (.int .i64 xpg)] (.tree (.lit (.int .i64 R))) := by
 refine VPure.runR mixed Tryz.call111 Tryz.func111 rfl (by simp [Tryz.ntmps111]; kernel_rfl) ?_
 obtain ⟨KF, h, kF, kN⟩ := zaj h
 simp only [zbl] at h
 simp only [vz, qr, tyf, nm, seval]
 refine zdz (fun tm => tm 1 = .lit (.int .i64 xpg) ∧ tm 2 = .ptr 0 0 ∧ True) (by refine ⟨?_, ?_, trivial⟩ <;> first | (simp only [ua, nm, seval] <;> rfl) | rfl) ?_
 rintro tm ⟨e8, e9, _⟩
 obtain ⟨r10, o11, h⟩ := optI h kN
 try simp only [hs] at h
 simp only [vz, qr, tyf, e8, e9, nm, seval]
 refine dktA (zfw _ _ o11) ?_
 refine zac (fun tm => tm 1 = .lit (.int .i64 xpg) ∧ tm 2 = .ptr 0 0 ∧ tm 10 = .agg (cGa r10) ∧ True) (by refine ⟨e8, e9, ?_, trivial⟩ <;> first | (simp only [ua, e8, e9, nm, seval] <;> rfl) | rfl) ?_
 rintro tm ⟨e12, e13, e14, _⟩
 cases d15 : (xpg == 0)
 ·simp only [d15, hs] at h
  cases d16 : (xpg == 1)
  ·simp only [d16, hs] at h
   cases d17 : (xpg == 2)
   ·simp only [d17, hs] at h
    exact absurd h kN
   simp only [d17, hs] at h
   obtain ⟨r18, o19, h⟩ := optI h kN
   try simp only [hs] at h
   simp only [vz, qr, tyf, e12, e13, e14, d15, d16, d17, (zzy d17), nm, seval]
   refine dktA (zha _ _ o19) ?_
   refine zac (fun tm => tm 1 = .lit (.int .i64 xpg) ∧ tm 2 = .ptr 0 0 ∧ tm 12 = .agg (cGSpan r10.a2) ∧ tm 15 = .agg (cGa r18) ∧ True) (by refine ⟨e12, e13, ?_, ?_, trivial⟩ <;> first | (simp only [ua, e12, e13, e14, d15, d16, d17, nm, seval] <;> rfl) | rfl) ?_
   rintro tm ⟨e20, e21, e22, e23, _⟩
   obtain ⟨r24, o25, h⟩ := optI h kN
   try simp only [hs] at h
   simp only [vz, qr, tyf, d15, d16, d17, (zzy d17), e20, e21, e22, e23, nm, seval]
   refine dktA (zef _ _ o25) ?_
   refine zac (fun tm => tm 12 = .agg (cGSpan r10.a2) ∧ tm 17 = .agg (cGSpan r18.a2) ∧ tm 19 = .lit (.int .i64 r24) ∧ True) (by refine ⟨e22, ?_, ?_, trivial⟩ <;> first | (simp only [ua, d15, d16, d17, e20, e21, e22, e23, nm, seval] <;> rfl) | rfl) ?_
   rintro tm ⟨e26, e27, e28, _⟩
   simp only [vz, qr, tyf, d15, d16, d17, (zzy d17), e26, e27, e28, nm, seval]
   refine zdt ⟨?_, ?_⟩
   ·simp only [zbx, zcu, zav, zex, and_true, true_and]
    repeat' (first | exact trivial | refine And.intro ?_ ?_ | rw [zav] | rw [zdu] | exact Or.inl (by decide +kernel) | exact Or.inl (by dsimp only; decide +kernel) | (refine Or.inr ⟨?_, ?_⟩ <;> simp; done) | (refine Or.inr ⟨?_, ?_⟩ <;> simp <;> omega) | (refine Or.inr ⟨?_, ?_⟩ <;> simp [VEff.wr] <;> omega))
   cases g29 : ((r24 != 0))
   ·simp only [g29, hs] at h
    exact absurd h kN
   simp only [g29, hs] at h
   try simp only [vz, qr, tyf, d15, d16, d17, (zzy d17), e26, e27, e28, g29, nm, seval]
   refine zam (x := (.lit (.int .i64 (IntKind.i64.wrap (Int.tdiv (IntKind.i64.wrap ((IntKind.i64.wrap ((if (IntKind.i64.wrap (r10.a2.High - (IntKind.i64.wrap (r24 * r18.a2.Low)))) < (IntKind.i64.wrap ((IntKind.i64.wrap (r24 * r18.a2.High)) - r10.a2.Low)) then (IntKind.i64.wrap ((IntKind.i64.wrap (r24 * r18.a2.High)) - r10.a2.Low)) else (IntKind.i64.wrap (r10.a2.High - (IntKind.i64.wrap (r24 * r18.a2.Low))))) + r24)) - 1)) r24))))) (by first | (simp only [Tryz.results111, resV, resL, resV1, zao, zbi, uw, cr, tyf, d15, d16, d17, (zzy d17), g29, nm, seval] <;> rfl) | rfl) ?_
   obtain rfl := kF _ h
   refine zas ?_ ?_
   ·simp only [tre, tytre, Bool.and_self]
   ·first | (simp only [outV, uw, zad, cr, tyf, nrm, tynrm, d15, d16, d17, (zzy d17), e26, e27, e28, g29, nm, seval] <;> rfl) | rfl
  simp only [d16, hs] at h
  obtain ⟨r30, o31, h⟩ := optI h kN
  try simp only [hs] at h
  simp only [vz, qr, tyf, e12, e13, e14, d15, d16, (zaap d16), nm, seval]
  refine dktA (zha _ _ o31) ?_
  refine zac (fun tm => tm 1 = .lit (.int .i64 xpg) ∧ tm 2 = .ptr 0 0 ∧ tm 12 = .agg (cGSpan r10.a1) ∧ tm 15 = .agg (cGa r30) ∧ True) (by refine ⟨e12, e13, ?_, ?_, trivial⟩ <;> first | (simp only [ua, e12, e13, e14, d15, d16, nm, seval] <;> rfl) | rfl) ?_
  rintro tm ⟨e32, e33, e34, e35, _⟩
  obtain ⟨r36, o37, h⟩ := optI h kN
  try simp only [hs] at h
  simp only [vz, qr, tyf, d15, d16, (zaap d16), e32, e33, e34, e35, nm, seval]
  refine dktA (zef _ _ o37) ?_
  refine zac (fun tm => tm 12 = .agg (cGSpan r10.a1) ∧ tm 17 = .agg (cGSpan r30.a1) ∧ tm 19 = .lit (.int .i64 r36) ∧ True) (by refine ⟨e34, ?_, ?_, trivial⟩ <;> first | (simp only [ua, d15, d16, e32, e33, e34, e35, nm, seval] <;> rfl) | rfl) ?_
  rintro tm ⟨e38, e39, e40, _⟩
  simp only [vz, qr, tyf, d15, d16, (zaap d16), e38, e39, e40, nm, seval]
  refine zdt ⟨?_, ?_⟩
  ·simp only [zbx, zcu, zav, zex, and_true, true_and]
   repeat' (first | exact trivial | refine And.intro ?_ ?_ | rw [zav] | rw [zdu] | exact Or.inl (by decide +kernel) | exact Or.inl (by dsimp only; decide +kernel) | (refine Or.inr ⟨?_, ?_⟩ <;> simp; done) | (refine Or.inr ⟨?_, ?_⟩ <;> simp <;> omega) | (refine Or.inr ⟨?_, ?_⟩ <;> simp [VEff.wr] <;> omega))
  cases g41 : ((r36 != 0))
  ·simp only [g41, hs] at h
   exact absurd h kN
  simp only [g41, hs] at h
  try simp only [vz, qr, tyf, d15, d16, (zaap d16), e38, e39, e40, g41, nm, seval]
  refine zam (x := (.lit (.int .i64 (IntKind.i64.wrap (Int.tdiv (IntKind.i64.wrap ((IntKind.i64.wrap ((if (IntKind.i64.wrap (r10.a1.High - (IntKind.i64.wrap (r36 * r30.a1.Low)))) < (IntKind.i64.wrap ((IntKind.i64.wrap (r36 * r30.a1.High)) - r10.a1.Low)) then (IntKind.i64.wrap ((IntKind.i64.wrap (r36 * r30.a1.High)) - r10.a1.Low)) else (IntKind.i64.wrap (r10.a1.High - (IntKind.i64.wrap (r36 * r30.a1.Low))))) + r36)) - 1)) r36))))) (by first | (simp only [Tryz.results111, resV, resL, resV1, zao, zbi, uw, cr, tyf, d15, d16, (zaap d16), g41, nm, seval] <;> rfl) | rfl) ?_
  obtain rfl := kF _ h
  refine zas ?_ ?_
  ·simp only [tre, tytre, Bool.and_self]
  ·first | (simp only [outV, uw, zad, cr, tyf, nrm, tynrm, d15, d16, (zaap d16), e38, e39, e40, g41, nm, seval] <;> rfl) | rfl
 simp only [d15, hs] at h
 obtain ⟨r42, o43, h⟩ := optI h kN
 try simp only [hs] at h
 simp only [vz, qr, tyf, e12, e13, e14, d15, (zabe d15), nm, seval]
 refine dktA (zha _ _ o43) ?_
 refine zac (fun tm => tm 1 = .lit (.int .i64 xpg) ∧ tm 2 = .ptr 0 0 ∧ tm 12 = .agg (cGSpan r10.a0) ∧ tm 15 = .agg (cGa r42) ∧ True) (by refine ⟨e12, e13, ?_, ?_, trivial⟩ <;> first | (simp only [ua, e12, e13, e14, d15, nm, seval] <;> rfl) | rfl) ?_
 rintro tm ⟨e44, e45, e46, e47, _⟩
 obtain ⟨r48, o49, h⟩ := optI h kN
 try simp only [hs] at h
 simp only [vz, qr, tyf, d15, (zabe d15), e44, e45, e46, e47, nm, seval]
 refine dktA (zef _ _ o49) ?_
 refine zac (fun tm => tm 12 = .agg (cGSpan r10.a0) ∧ tm 17 = .agg (cGSpan r42.a0) ∧ tm 19 = .lit (.int .i64 r48) ∧ True) (by refine ⟨e46, ?_, ?_, trivial⟩ <;> first | (simp only [ua, d15, e44, e45, e46, e47, nm, seval] <;> rfl) | rfl) ?_
 rintro tm ⟨e50, e51, e52, _⟩
 simp only [vz, qr, tyf, d15, (zabe d15), e50, e51, e52, nm, seval]
 refine zdt ⟨?_, ?_⟩
 ·simp only [zbx, zcu, zav, zex, and_true, true_and]
  repeat' (first | exact trivial | refine And.intro ?_ ?_ | rw [zav] | rw [zdu] | exact Or.inl (by decide +kernel) | exact Or.inl (by dsimp only; decide +kernel) | (refine Or.inr ⟨?_, ?_⟩ <;> simp; done) | (refine Or.inr ⟨?_, ?_⟩ <;> simp <;> omega) | (refine Or.inr ⟨?_, ?_⟩ <;> simp [VEff.wr] <;> omega))
 cases g53 : ((r48 != 0))
 ·simp only [g53, hs] at h
  exact absurd h kN
 simp only [g53, hs] at h
 try simp only [vz, qr, tyf, d15, (zabe d15), e50, e51, e52, g53, nm, seval]
 refine zam (x := (.lit (.int .i64 (IntKind.i64.wrap (Int.tdiv (IntKind.i64.wrap ((IntKind.i64.wrap ((if (IntKind.i64.wrap (r10.a0.High - (IntKind.i64.wrap (r48 * r42.a0.Low)))) < (IntKind.i64.wrap ((IntKind.i64.wrap (r48 * r42.a0.High)) - r10.a0.Low)) then (IntKind.i64.wrap ((IntKind.i64.wrap (r48 * r42.a0.High)) - r10.a0.Low)) else (IntKind.i64.wrap (r10.a0.High - (IntKind.i64.wrap (r48 * r42.a0.Low))))) + r48)) - 1)) r48))))) (by first | (simp only [Tryz.results111, resV, resL, resV1, zao, zbi, uw, cr, tyf, d15, (zabe d15), g53, nm, seval] <;> rfl) | rfl) ?_
 obtain rfl := kF _ h
 refine zas ?_ ?_
 ·simp only [tre, tytre, Bool.and_self]
 ·first | (simp only [outV, uw, zad, cr, tyf, nrm, tynrm, d15, (zabe d15), e50, e51, e52, g53, nm, seval] <;> rfl) | rfl
def zbp (x0_x : Gm) (xpg : Int) : Option ((Unit) ⊕ (Unit)) := Option.bind (zbl x0_x xpg) (fun r1 => cond (decide (r1 > x0_x.sh.Off)) (some (.inr ())) (some (.inl ())))
theorem zbo (x0_x : Gm) (xpg : Int) (R : (Unit) ⊕ (Unit)) (h : zbp x0_x xpg = some R) : VPure Tryz.prog G0 102 [.agg (cGm x0_x), .lit (.int .i64 xpg)] (presB R (fun r => .tree (.tup [])) (fun e => .panic (.ifc 132 (.agg [])))) := by
 refine VPure.runR mixed Tryz.call102 Tryz.func102 rfl (by simp [Tryz.ntmps102]; kernel_rfl) ?_
 obtain ⟨KF, h, kF, kN⟩ := zaj h
 simp only [zbp] at h
 simp only [vz, tyf, nm, seval]
 refine zcq (fun tm => tm 1 = .lit (.int .i64 xpg) ∧ tm 2 = .ptr 0 0 ∧ True) (by refine ⟨?_, ?_, trivial⟩ <;> first | (simp only [ua, nm, seval] <;> rfl) | rfl) ?_
 rintro tm ⟨e2, e3, _⟩
 obtain ⟨r4, o5, h⟩ := optI h kN
 try simp only [hs] at h
 simp only [vz, tyf, e2, e3, nm, seval]
 refine dktA (zdm _ _ _ o5) ?_
 refine zac (fun tm => tm 2 = .ptr 0 0 ∧ tm 6 = .lit (.int .i64 r4) ∧ True) (by refine ⟨e3, ?_, trivial⟩ <;> first | (simp only [ua, e2, e3, nm, seval] <;> rfl) | rfl) ?_
 rintro tm ⟨e6, e7, _⟩
 cases d8 : (decide (r4 > x0_x.sh.Off))
 ·simp only [d8, hs] at h
  try simp only [vz, tyf, e6, e7, d8, nm, seval]
  refine zjr (x := (.tup [])) (by first | (simp only [Tryz.results102, resV, resL, resV1, zao, zbi, uw, cr, tyf, d8, nm, seval] <;> rfl) | rfl) ?_
  obtain rfl := kF _ h
  refine zas ?_ ?_
  ·simp only [tre, tytre, Bool.and_self]
  ·first | (simp only [outV, uw, zad, cr, tyf, nrm, tynrm, e6, e7, d8, nm, seval] <;> rfl) | rfl
 simp only [d8, hs] at h
 simp only [vz, tyf, e6, e7, d8, nm, seval]
 refine zahv ?_
 obtain rfl := kF _ h
 refine zatn ?_ ?_
 ·simp only [tre, tytre, zamh, Bool.and_self]
 ·first | (simp only [outV, uw, zad, zahn, zagk, cr, tyf, nrm, tynrm, e6, e7, d8, nm, seval] <;> rfl) | rfl
def zbc (x0_x : Gm) : Option (Bool) := Option.bind (zbp x0_x 0) (fun r1 => sumB r1 (fun u2 => Option.bind (zbp x0_x 1) (fun r4 => sumB r4 (fun u5 => Option.bind (zbp x0_x 2) (fun r7 => sumB r7 (fun u8 => some true) (fun w9 => some false))) (fun w6 => some false))) (fun w3 => some false))
theorem zdh (x0_x : Gm) (R : Bool) (h : zbc x0_x = some R) : VPure Tryz.prog G0 68 [.agg (cGm x0_x)] (.tree (.lit (.bool R))) := by
 refine VPure.runR mixed Tryz.call68 Tryz.func68 rfl (by simp [Tryz.ntmps68]; kernel_rfl) ?_
 obtain ⟨KF, h, kF, kN⟩ := zaj h
 simp only [zbc] at h
 simp only [vz, tyf, nm, seval]
 refine zfb mixed (by kernel_rfl) 4 ?_
 obtain ⟨r10, o11, h⟩ := optI h kN
 try simp only [hs] at h
 cases r10 with
 | inl u12 =>
  simp only [hs] at h
  simp only [vz, tyf, nm, seval]
  refine ktA (zbo _ _ _ o11) ?_
  refine zac (fun tm => tm 1 = .ptr 0 0 ∧ tm 2 = .ptr 1 0 ∧ tm 5 = .lit (.int .i64 0) ∧ True) (by refine ⟨?_, ?_, ?_, trivial⟩ <;> first | (simp only [ua, nm, seval] <;> rfl) | rfl) ?_
  rintro tm ⟨e14, e15, e16, _⟩
  obtain ⟨r17, o18, h⟩ := optI h kN
  try simp only [hs] at h
  cases r17 with
  | inl u19 =>
   simp only [hs] at h
   simp only [vz, tyf, e14, e15, e16, nm, seval]
   refine ktA (zbo _ _ _ o18) ?_
   refine zac (fun tm => tm 1 = .ptr 0 0 ∧ tm 2 = .ptr 1 0 ∧ tm 5 = .lit (.int .i64 1) ∧ True) (by refine ⟨e14, e15, ?_, trivial⟩ <;> first | (simp only [ua, e14, e15, e16, nm, seval] <;> rfl) | rfl) ?_
   rintro tm ⟨e21, e22, e23, _⟩
   obtain ⟨r24, o25, h⟩ := optI h kN
   try simp only [hs] at h
   cases r24 with
   | inl u26 =>
    simp only [hs] at h
    simp only [vz, tyf, e21, e22, e23, nm, seval]
    refine ktA (zbo _ _ _ o25) ?_
    refine zac (fun tm => tm 1 = .ptr 0 0 ∧ tm 2 = .ptr 1 0 ∧ tm 5 = .lit (.int .i64 2) ∧ True) (by refine ⟨e21, e22, ?_, trivial⟩ <;> first | (simp only [ua, e21, e22, e23, nm, seval] <;> rfl) | rfl) ?_
    rintro tm ⟨e28, e29, e30, _⟩
    try simp only [vz, tyf, e28, e29, e30, nm, seval]
    refine zamv ?_
    refine VDeferred.run mixed Tryz.call101 Tryz.func101 rfl (by kernel_rfl) ?_
    try simp only [vz, tyf, nm, seval]
    refine zjh Tryz.results101 ?_
    refine zabz (x := (.lit (.bool true))) (by first | (simp only [Tryz.results68, resV, resL, resV1, zao, zbi, uw, cr, tyf, e28, e29, e30, nm, seval] <;> rfl) | rfl) ?_
    obtain rfl := kF _ h
    refine zas ?_ ?_
    ·simp only [tre, tytre, Bool.and_self]
    ·first | (simp only [outV, uw, zad, cr, tyf, nrm, tynrm, e28, e29, e30, nm, seval] <;> rfl) | rfl
   | inr w27 =>
    simp only [hs] at h
    simp only [vz, tyf, e21, e22, e23, nm, seval]
    refine kpan (args0 := [.agg (cGm x0_x), .lit (.int .i64 2)]) (by first | (simp only [nrm, tynrm] <;> rfl) | rfl) (by simp only [tre, tytre, Bool.and_self]) (zbo _ _ _ o25) ?_
    try simp only [vz, tyf, e21, e22, e23, nm, seval]
    refine zny ?_
    refine VDeferred.run mixed Tryz.call101 Tryz.func101 rfl (by kernel_rfl) ?_
    try simp only [vz, tyf, nm, seval]
    refine zjh Tryz.results101 ?_
    refine zpd (x := (.lit (.bool false))) (by first | (simp only [Tryz.results68, resV, resL, resV1, zao, zbi, uw, cr, tyf, e21, e22, e23, nm, seval] <;> rfl) | rfl) ?_
    obtain rfl := kF _ h
    refine zas ?_ ?_
    ·simp only [tre, tytre, Bool.and_self]
    ·first | (simp only [outV, uw, zad, cr, tyf, nrm, tynrm, e21, e22, e23, nm, seval] <;> rfl) | rfl
  | inr w20 =>
   simp only [hs] at h
   simp only [vz, tyf, e14, e15, e16, nm, seval]
   refine kpan (args0 := [.agg (cGm x0_x), .lit (.int .i64 1)]) (by first | (simp only [nrm, tynrm] <;> rfl) | rfl) (by simp only [tre, tytre, Bool.and_self]) (zbo _ _ _ o18) ?_
   try simp only [vz, tyf, e14, e15, e16, nm, seval]
   refine zny ?_
   refine VDeferred.run mixed Tryz.call101 Tryz.func101 rfl (by kernel_rfl) ?_
   try simp only [vz, tyf, nm, seval]
   refine zjh Tryz.results101 ?_
   refine zpd (x := (.lit (.bool false))) (by first | (simp only [Tryz.results68, resV, resL, resV1, zao, zbi, uw, cr, tyf, e14, e15, e16, nm, seval] <;> rfl) | rfl) ?_
   obtain rfl := kF _ h
   refine zas ?_ ?_
   ·simp only [tre, tytre, Bool.and_self]
   ·first | (simp only [outV, uw, zad, cr, tyf, nrm, tynrm, e14, e15, e16, nm, seval] <;> rfl) | rfl
 | inr w13 =>
  simp only [hs] at h
  simp only [vz, tyf, nm, seval]
  refine kpan (args0 := [.agg (cGm x0_x), .lit (.int .i64 0)]) (by first | (simp only [nrm, tynrm] <;> rfl) | rfl) (by simp only [tre, tytre, Bool.and_self]) (zbo _ _ _ o11) ?_
  try simp only [vz, tyf, nm, seval]
  refine zny ?_
  refine VDeferred.run mixed Tryz.call101 Tryz.func101 rfl (by kernel_rfl) ?_
  try simp only [vz, tyf, nm, seval]
  refine zjh Tryz.results101 ?_
  refine zpd (x := (.lit (.bool false))) (by first | (simp only [Tryz.results68, resV, resL, resV1, zao, zbi, uw, cr, tyf, nm, seval] <;> rfl) | rfl) ?_
  obtain rfl := kF _ h
  refine zas ?_ ?_
  ·simp only [tre, tytre, Bool.and_self]
  ·first | (simp only [outV, uw, zad, cr, tyf, nrm, tynrm, nm, seval] <;> rfl) | rfl
def zif (x0_s : Gs) (x1_mix : List Int) (x2_t : Gu) : Option (Bool × Int) := Option.bind (zba x0_s) (fun r1 => cond (r1) (Option.bind (zcl x0_s x1_mix) (fun r2 => cond (r2) (Option.bind (zff x0_s x2_t) (fun r3 => cond (r3) (Option.bind (zhn x0_s x2_t) (fun r4 => Option.bind (zbc (Gm.mk r4 x1_mix)) (fun r5 => some (r5, 0)))) (some (false, 2)))) (some (false, 2)))) (some (false, 2)))
theorem zsx (x0_s : Gs) (x1_mix : List Int) (x2_t : Gu) (R : Bool × Int) (h : zif x0_s x1_mix x2_t = some R) : VPure Tryz.prog G0 24 [.agg (cGs x0_s), .sl (cellsL eI x1_mix) (List.length x1_mix) false, .agg (cGu x2_t)] (.tree (.tup [.lit (.bool R.1), .lit (.int .i64 R.2)])) := by
 refine VPure.runR mixed Tryz.call24 Tryz.func24 rfl (by simp [Tryz.ntmps24]; kernel_rfl) ?_
 obtain ⟨KF, h, kF, kN⟩ := zaj h
 simp only [zif] at h
 obtain ⟨r6, o7, h⟩ := optI h kN
 try simp only [hs] at h
 simp only [vz, tyf, nm, seval]
 refine ktA (zbs _ _ o7) ?_
 refine zac (fun tm => tm 1 = .sl (cellsL eI x1_mix) (List.length x1_mix) false ∧ tm 3 = .ptr 0 0 ∧ tm 5 = .ptr 1 0 ∧ tm 9 = .lit (.bool r6) ∧ True) (by refine ⟨?_, ?_, ?_, ?_, trivial⟩ <;> first | (simp only [ua, nm, seval] <;> rfl) | rfl) ?_
 rintro tm ⟨e8, e9, e10, e11, _⟩
 cases d12 : (r6)
 ·simp only [d12, hs] at h
  try simp only [vz, tyf, e8, e9, e10, e11, d12, nm, seval]
  refine zam (x := (.tup [.lit (.bool false), .lit (.int .i64 2)])) (by first | (simp only [Tryz.results24, resV, resL, resV1, zao, zbi, uw, cr, tyf, d12, nm, seval] <;> rfl) | rfl) ?_
  obtain rfl := kF _ h
  refine zas ?_ ?_
  ·simp only [tre, tytre, Bool.and_self]
  ·first | (simp only [outV, uw, zad, cr, tyf, nrm, tynrm, e8, e9, e10, e11, d12, nm, seval] <;> rfl) | rfl
 simp only [d12, hs] at h
 obtain ⟨r13, o14, h⟩ := optI h kN
 try simp only [hs] at h
 simp only [vz, tyf, e8, e9, e10, e11, d12, nm, seval]
 refine ktA (zeg _ _ _ o14) ?_
 refine zac (fun tm => tm 1 = .sl (cellsL eI x1_mix) (List.length x1_mix) false ∧ tm 3 = .ptr 0 0 ∧ tm 5 = .ptr 1 0 ∧ tm 11 = .lit (.bool false) ∧ tm 14 = .lit (.bool r13) ∧ True) (by refine ⟨e8, e9, e10, ?_, ?_, trivial⟩ <;> first | (simp only [ua, e8, e9, e10, e11, d12, nm, seval] <;> rfl) | rfl) ?_
 rintro tm ⟨e15, e16, e17, e18, e19, _⟩
 cases d20 : (r13)
 ·simp only [d20, hs] at h
  try simp only [vz, tyf, d12, e15, e16, e17, e18, e19, d20, nm, seval]
  refine zam (x := (.tup [.lit (.bool false), .lit (.int .i64 2)])) (by first | (simp only [Tryz.results24, resV, resL, resV1, zao, zbi, uw, cr, tyf, d12, d20, nm, seval] <;> rfl) | rfl) ?_
  obtain rfl := kF _ h
  refine zas ?_ ?_
  ·simp only [tre, tytre, Bool.and_self]
  ·first | (simp only [outV, uw, zad, cr, tyf, nrm, tynrm, d12, e15, e16, e17, e18, e19, d20, nm, seval] <;> rfl) | rfl
 simp only [d20, hs] at h
 obtain ⟨r21, o22, h⟩ := optI h kN
 try simp only [hs] at h
 simp only [vz, tyf, d12, e15, e16, e17, e18, e19, d20, nm, seval]
 refine ktA (zmd _ _ _ o22) ?_
 refine zac (fun tm => tm 1 = .sl (cellsL eI x1_mix) (List.length x1_mix) false ∧ tm 3 = .ptr 0 0 ∧ tm 5 = .ptr 1 0 ∧ tm 17 = .lit (.bool false) ∧ tm 20 = .lit (.bool r21) ∧ True) (by refine ⟨e15, e16, e17, ?_, ?_, trivial⟩ <;> first | (simp only [ua, d12, e15, e16, e17, e18, e19, d20, nm, seval] <;> rfl) | rfl) ?_
 rintro tm ⟨e23, e24, e25, e26, e27, _⟩
 cases d28 : (r21)
 ·simp only [d28, hs] at h
  try simp only [vz, tyf, d12, d20, e23, e24, e25, e26, e27, d28, nm, seval]
  refine zam (x := (.tup [.lit (.bool false), .lit (.int .i64 2)])) (by first | (simp only [Tryz.results24, resV, resL, resV1, zao, zbi, uw, cr, tyf, d12, d20, d28, nm, seval] <;> rfl) | rfl) ?_
  obtain rfl := kF _ h
  refine zas ?_ ?_
  ·simp only [tre, tytre, Bool.and_self]
  ·first | (simp only [outV, uw, zad, cr, tyf, nrm, tynrm, d12, d20, e23, e24, e25, e26, e27, d28, nm, seval] <;> rfl) | rfl
 simp only [d28, hs] at h
 obtain ⟨r29, o30, h⟩ := optI h kN
 try simp only [hs] at h
 simp only [vz, tyf, d12, d20, e23, e24, e25, e26, e27, d28, nm, seval]
 refine ktA (zpy _ _ _ o30) ?_
 refine zac (fun tm => tm 1 = .sl (cellsL eI x1_mix) (List.length x1_mix) false ∧ tm 25 = .agg (cGs r29) ∧ True) (by refine ⟨e23, ?_, trivial⟩ <;> first | (simp only [ua, d12, d20, e23, e24, e25, e26, e27, d28, nm, seval] <;> rfl) | rfl) ?_
 rintro tm ⟨e31, e32, _⟩
 obtain ⟨r33, o34, h⟩ := optI h kN
 try simp only [hs] at h
 simp only [vz, tyf, d12, d20, d28, e31, e32, nm, seval]
 refine ktA (zdh _ _ o34) ?_
 refine zac (fun tm => tm 28 = .lit (.bool r33) ∧ True) (by refine ⟨?_, trivial⟩ <;> first | (simp only [ua, d12, d20, d28, e31, e32, nm, seval] <;> rfl) | rfl) ?_
 rintro tm ⟨e35, _⟩
 try simp only [vz, tyf, d12, d20, d28, e35, nm, seval]
 refine zam (x := (.tup [.lit (.bool r33), .lit (.int .i64 0)])) (by first | (simp only [Tryz.results24, resV, resL, resV1, zao, zbi, uw, cr, tyf, d12, d20, d28, nm, seval] <;> rfl) | rfl) ?_
 obtain rfl := kF _ h
 refine zas ?_ ?_
 ·simp only [tre, tytre, Bool.and_self]
 ·first | (simp only [outV, uw, zad, cr, tyf, nrm, tynrm, d12, d20, d28, e35, nm, seval] <;> rfl) | rfl
end Go.V
end
