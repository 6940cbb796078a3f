/- Part of a proof. -/
import Derived.Test.YtekhjalgmlflpaaGreatDoorKbh
set_option linter.all false
set_option maxRecDepth 4000
set_option maxHeartbeats 40000000
section
namespace Go.V
open Go Go.Proofs IntKind
def withinB (c : Ga) (n : Gi) : Bool := inB c.a0.Low c.a0.High n.a0 && (inB c.a1.Low c.a1.High n.a1 && inB c.a2.Low c.a2.High n.a2)
theorem VI (c : Ga) (n : Gi) : z9 c n = some (withinB c n) := by
 unfold z9 withinB
 simp only [zA, Option.bind_some]
 cases inB c.a0.Low c.a0.High n.a0 <;> cases inB c.a1.Low c.a1.High n.a1 <;> cases inB c.a2.Low c.a2.High n.a2 <;> rfl
def zipB (f : Ga → Gi → Bool) : List Gi → List Gt → Bool
 | a :: qs, t :: ts => f t.pg a && zipB f qs ts
 | [], [] => true
 | _, _ => false
theorem VJ (s : Gs) : ∀ (p : List Gi) (ts : List Gt) (c : Int), 0 ≤ c → List.drop c.toNat s.Tins = ts → p.length = ts.length → zC s p c = goB (zipB withinB p ts)
 | [], [], _, _, _, _ => rfl
 | a :: p, t :: ts, c, h0, h, hl => by
  simp only [zC, fp h0 h, Option.bind_some, VI, zipB, qi]
  rw [VJ s p ts (c + 1) (by omega) (eE h0 h) (by simpa using hl)]
 | [], _ :: _, _, _, _, hl => by simp at hl
 | _ :: _, [], _, _, _, hl => by simp at hl
def cmpB (p : P3) (c : Ga) (n : Gi) : Bool := inB (selS c p).Low (selS c p).High (selI n p)
theorem VK : ∀ (p : List Gi) (ts : List Gt), zipB withinB p ts = (zipB (cmpB .p0) p ts && (zipB (cmpB .p1) p ts && zipB (cmpB .p2) p ts))
 | [], [] => rfl
 | a :: p, t :: ts => by
  simp only [zipB, VK p ts, withinB, cmpB, selS, selI]
  cases inB t.pg.a0.Low t.pg.a0.High a.a0 <;> cases inB t.pg.a1.Low t.pg.a1.High a.a1 <;> cases inB t.pg.a2.Low t.pg.a2.High a.a2 <;> simp
 | [], _ :: _ => rfl
 | _ :: _, [] => rfl
theorem VL (s : Gs) : ∀ (p : List Gi) (ts : List Gt) (c : Int), 0 ≤ c → List.drop c.toNat s.Tins = ts → p.length = ts.length → rq s p c = goB (zipB (cmpB .p0) p ts)
 | [], [], _, _, _, _ => rfl
 | a :: p, t :: ts, c, h0, h, hl => by
  simp only [rq, fp h0 h, Option.bind_some, ru, zipB, cmpB, selS, selI, qi]
  rw [VL s p ts (c + 1) (by omega) (eE h0 h) (by simpa using hl)]
 | [], _ :: _, _, _, _, hl => by simp at hl
 | _ :: _, [], _, _, _, hl => by simp at hl
theorem VM (s : Gs) : ∀ (p : List Gi) (ts : List Gt) (c : Int), 0 ≤ c → List.drop c.toNat s.Tins = ts → p.length = ts.length → rp s p c = goB (zipB (cmpB .p1) p ts)
 | [], [], _, _, _, _ => rfl
 | a :: p, t :: ts, c, h0, h, hl => by
  simp only [rp, fp h0 h, Option.bind_some, ru, zipB, cmpB, selS, selI, qi]
  rw [VM s p ts (c + 1) (by omega) (eE h0 h) (by simpa using hl)]
 | [], _ :: _, _, _, _, hl => by simp at hl
 | _ :: _, [], _, _, _, hl => by simp at hl
theorem VN (s : Gs) : ∀ (p : List Gi) (ts : List Gt) (c : Int), 0 ≤ c → List.drop c.toNat s.Tins = ts → p.length = ts.length → rn s p c = goB (zipB (cmpB .p2) p ts)
 | [], [], _, _, _, _ => rfl
 | a :: p, t :: ts, c, h0, h, hl => by
  simp only [rn, fp h0 h, Option.bind_some, ru, zipB, cmpB, selS, selI, qi]
  rw [VN s p ts (c + 1) (by omega) (eE h0 h) (by simpa using hl)]
 | [], _ :: _, _, _, _, hl => by simp at hl
 | _ :: _, [], _, _, _, hl => by simp at hl
def truthB (s : Gs) (t : Gu) : Bool := decide (t.Tins.length = s.Tins.length) && (inB s.Years.Low s.Years.High t.Years && (withinB s.Fade t.Fade && zipB withinB t.Tins s.Tins))
theorem Oc (s : Gs) {t : Gu} (hl : lenOk t.Tins = true) : Cv s t = some (truthB s t) := by
 unfold Cv truthB
 simp only [bne, lenB, cnot]
 by_cases h : t.Tins.length = s.Tins.length
 ·rw [decide_eq_true h, zA, VI, hl, VJ s t.Tins s.Tins 0 (Int.le_refl _) rfl h, vW]
  simp only [cond_true, Option.bind_some, Bool.true_and]
  cases inB s.Years.Low s.Years.High t.Years <;> cases withinB s.Fade t.Fade <;> cases zipB withinB t.Tins s.Tins <;> rfl
 ·rw [decide_eq_false h]
  rfl
theorem Od (s : Gs) {t : Gu} (hl : lenOk t.Tins = true) : BY s t = some (truthB s t) := by
 unfold BY truthB
 simp only [bne, lenB, cnot]
 by_cases h : t.Tins.length = s.Tins.length
 ·rw [decide_eq_true h, VK, show Int.toNat (3 - 0) = 3 from rfl, show boundOk 3 = true from rfl]
  simp only [v9, hl, VL s t.Tins s.Tins 0 (Int.le_refl _) rfl h, VM s t.Tins s.Tins 0 (Int.le_refl _) rfl h, VN s t.Tins s.Tins 0 (Int.le_refl _) rfl h, vW, ru, Option.bind_some, Int.reduceAdd, Int.reduceBEq, cond_true, cond_false, Bool.true_and, withinB]
  cases inB s.Years.Low s.Years.High t.Years <;> cases inB s.Fade.a0.Low s.Fade.a0.High t.Fade.a0 <;> cases inB s.Fade.a1.Low s.Fade.a1.High t.Fade.a1 <;> cases inB s.Fade.a2.Low s.Fade.a2.High t.Fade.a2 <;> simp only [cond_true, cond_false, Bool.false_and, Bool.true_and, Bool.and_false, aK] <;> first | rfl | (cases zipB (cmpB .p0) t.Tins s.Tins <;> first | rfl | (cases zipB (cmpB .p1) t.Tins s.Tins <;> first | rfl | (cases zipB (cmpB .p2) t.Tins s.Tins <;> rfl)))
 ·rw [decide_eq_false h]
  rfl
theorem Cw {f : Ga → Gi → Bool} : ∀ {p : List Gi} {ts : List Gt}, zipB f p ts = true → ∀ (i : Nat) a t, p[i]? = some a → ts[i]? = some t → f t.pg a = true
 | [], _, _, _, _, _, h, _ => by simp at h
 | _ :: _, [], h, _, _, _, _, _ => by cases h
 | a :: p, t :: ts, h, i, a', t', ha, ht => by
  simp only [zipB, Bool.and_eq_true] at h
  cases i with
  | zero =>
   simp only [List.getElem?_cons_zero, Option.some.injEq] at ha ht
   subst ha ht
   exact h.1
  | succ i => exact Cw h.2 i a' t' (by simpa using ha) (by simpa using ht)
structure TrOk (s : Gs) (t : Gu) : Prop where
 n : t.Tins.length = s.Tins.length
 y : s.Years.Low ≤ t.Years ∧ t.Years ≤ s.Years.High
 fade : ∀ p, (selS s.Fade p).Low ≤ selI t.Fade p ∧ selI t.Fade p ≤ (selS s.Fade p).High
 tin : ∀ (i : Nat) a c, t.Tins[i]? = some a → s.Tins[i]? = some c → ∀ p, lowT p c ≤ selI a p ∧ selI a p ≤ highT p c
theorem TrOk.of {s : Gs} {t : Gu} (h : truthB s t = true) : TrOk s t := by
 simp only [truthB, Bool.and_eq_true, decide_eq_true_eq, mr] at h
 obtain ⟨h1, h2, h3, h4⟩ := h
 simp only [withinB, Bool.and_eq_true, mr] at h3
 refine ⟨h1, h2, fun p => ?_, fun i a c ha hc p => ?_⟩
 ·cases p
  ·exact h3.1
  ·exact h3.2.1
  ·exact h3.2.2
 ·have := Cw h4 i a c ha hc
  simp only [withinB, Bool.and_eq_true, mr] at this
  cases p
  ·exact this.1
  ·exact this.2.1
  ·exact this.2.2
def alo (n : Int) : GSpan := ⟨n, n⟩
def mu (n : Gi) : Ga := ⟨alo n.a0, alo n.a1, alo n.a2⟩
def tinK (a : Gi) : Gt := ⟨mu a⟩
def knS (s : Gs) (t : Gu) : Gs := ⟨s.Old, mu t.Fade, alo t.Years, s.Off, t.Tins.map tinK⟩
theorem VO (n : Gi) : Cx n = some (mu n) := rfl
theorem Cy : ∀ (p : List Gi) (c : Int) (acc : List Gt), acc.length + p.length ≤ 1000 → sH p c acc = some (.go (acc ++ p.map tinK))
 | [], c, acc, _ => by simp [sH]
 | a :: p, c, acc, h => by
  simp only [List.length_cons] at h
  have hr : roomOk 48 (List.length (acc ++ [Gt.mk (mu a)])) = true := by
   unfold roomOk
   simp only [List.length_append, List.length_cons, List.length_nil, decide_eq_true_eq]
   omega
  simp only [sH, VO, Option.bind_some, hr, cond_true]
  rw [Cy p (c + 1) _ (by simp only [List.length_append, List.length_cons, List.length_nil]; omega)]
  simp [tinK]
theorem Oe {s : Gs} (hs : ShOk s) {t : Gu} (ht : TrOk s t) : Cz s t = some (knS s t) := by
 have h1 := hs.n
 have h2 := ht.n
 unfold Cz
 rw [show vX t.Years = some (alo t.Years) from rfl, VO, sJ (by omega), Cy t.Tins 0 [] (by simp only [List.length_nil]; omega)]
 simp [aK, knS]
theorem Of (n : Gi) (p : P3) : selS (mu n) p = alo (selI n p) := by cases p <;> rfl
theorem knOk {s : Gs} (hs : ShOk s) {t : Gu} (ht : TrOk s t) : ShOk (knS s t) := by
 refine ⟨hs.old, fun p => ?_, ?_, hs.off, ?_, fun x hx p => ?_⟩
 ·have h1 := hs.fade p
  have h2 := ht.fade p
  show 0 ≤ (selS (mu t.Fade) p).Low ∧ (selS (mu t.Fade) p).Low ≤ (selS (mu t.Fade) p).High ∧ (selS (mu t.Fade) p).High ≤ 9
  rw [Of]
  simp only [alo]
  omega
 ·have h1 := hs.yrs
  have h2 := ht.y
  show 0 ≤ t.Years ∧ t.Years ≤ t.Years ∧ t.Years ≤ 20
  omega
 ·have h1 := hs.n
  have h2 := ht.n
  show 1 ≤ (t.Tins.map tinK).length ∧ (t.Tins.map tinK).length ≤ 4
  rw [List.length_map]
  omega
 ·obtain ⟨a, ha, rfl⟩ := List.mem_map.1 (show x ∈ t.Tins.map tinK from hx)
  obtain ⟨i, hi⟩ := List.mem_iff_getElem?.1 ha
  have hlt := (List.getElem?_eq_some_iff.1 hi).1
  obtain ⟨c, hc⟩ : ∃ c, s.Tins[i]? = some c := ⟨_, List.getElem?_eq_getElem (by rw [← ht.n]; exact hlt)⟩
  have h1 := ht.tin i a c hi hc p
  have h2 := hs.tin c (List.mem_of_getElem? hc) p
  show 0 ≤ (selS (mu a) p).Low ∧ (selS (mu a) p).Low ≤ (selS (mu a) p).High ∧ (selS (mu a) p).High ≤ 99
  rw [Of]
  simp only [alo, lowT, highT] at h1 ⊢
  omega
theorem knMix {s : Gs} {t : Gu} (ht : TrOk s t) {mix : List Int} (hm : MixOk s mix) : MixOk (knS s t) mix := by
 refine ⟨?_, hm.b, hm.s⟩
 show mix.length = (t.Tins.map tinK).length
 rw [List.length_map, hm.n, ht.n]
theorem vY {α β : Type} (g : α → β) (f : β → Int) : ∀ (ms : List Int) (ts : List α), dot f ms (ts.map g) = dot (fun a => f (g a)) ms ts
 | [], _ => by simp [dot]
 | _ :: _, [] => rfl
 | m :: ms, t :: ts => by simp only [List.map_cons, dot, vY g f ms ts]
def sumT (mix : List Int) (t : Gu) (p : P3) : Int := dot (fun a => selI a p) mix t.Tins
def fadT (s : Gs) (t : Gu) (p : P3) : Int := aI (selI s.Old p) t.Years (selI t.Fade p)
theorem Og {s : Gs} {t : Gu} {mix : List Int} (p : P3) : aN (knS s t) mix p = alo (sumT mix t p) := by
 have e1 : (fun a => lowT p (tinK a)) = fun a => selI a p := by
  funext a
  cases p <;> rfl
 have e2 : (fun a => highT p (tinK a)) = fun a => selI a p := by
  funext a
  cases p <;> rfl
 show GSpan.mk (dot (lowT p) mix (t.Tins.map tinK)) (dot (highT p) mix (t.Tins.map tinK)) = _
 rw [vY, vY, e1, e2]
 rfl
theorem C0 {s : Gs} {t : Gu} (p : P3) : aimP (knS s t) p = alo (fadT s t p) := by
 show GSpan.mk (aI (selI s.Old p) t.Years (selS (mu t.Fade) p).High) (aI (selI s.Old p) t.Years (selS (mu t.Fade) p).Low) = _
 rw [Of]
 rfl
def mostI (s : Gs) (mix : List Int) (p : P3) : Int :=
 if (aN s mix p).High - sumL mix * (aimP s p).Low < sumL mix * (aimP s p).High - (aN s mix p).Low then sumL mix * (aimP s p).High - (aN s mix p).Low else (aN s mix p).High - sumL mix * (aimP s p).Low
def farI (s : Gs) (mix : List Int) (p : P3) : Int := Int.tdiv (mostI s mix p + sumL mix - 1) (sumL mix)
theorem FY {s : Gs} (hs : ShOk s) {mix : List Int} (hm : MixOk s mix) (p : P3) : 0 ≤ (aN s mix p).Low ∧ (aN s mix p).Low ≤ (aN s mix p).High ∧ (aN s mix p).High ≤ 792 := by
 have h1 := dot_b mix s.Tins hm.b (hs.low p)
 have h2 := dot_b mix s.Tins hm.b (hs.high p)
 have h3 := FZ (f := lowT p) (g := highT p) mix s.Tins s.Tins rfl hm.b (fun i t u ht hu => by
  rw [ht] at hu
  cases hu
  have := hs.tin t (List.mem_of_getElem? ht) p
  unfold lowT highT
  omega)
 have h4 := hm.s
 unfold aN
 simp only
 omega
theorem vZ {s : Gs} (hs : ShOk s) {mix : List Int} (hm : MixOk s mix) (p : P3) : 0 ≤ mostI s mix p ∧ mostI s mix p ≤ 800 ∧ 0 ≤ sumL mix * (aimP s p).Low ∧ sumL mix * (aimP s p).Low ≤ sumL mix * (aimP s p).High ∧ sumL mix * (aimP s p).High ≤ 792 := by
 have h1 := FY hs hm p
 have h2 := C1 hs p
 have h3 := hm.s
 have h4 := mulR (a := sumL mix) (A := 8) (by omega) h3.2 h2.1 (show (aimP s p).Low ≤ 99 by omega)
 have h5 := mulR (a := sumL mix) (A := 8) (by omega) h3.2 (show 0 ≤ (aimP s p).High by omega) h2.2.2
 have h6 := Int.mul_le_mul_of_nonneg_left h2.2.1 (show 0 ≤ sumL mix by omega)
 unfold mostI
 split <;> omega
theorem C2 {s : Gs} (hs : ShOk s) {mix : List Int} (hm : MixOk s mix) (p : P3) (k : Int) : farI s mix p ≤ k ↔ mostI s mix p ≤ k * sumL mix := by
 have h1 := (vZ hs hm p).1
 have h3 := hm.s
 unfold farI
 rw [Int.tdiv_eq_ediv_of_nonneg (by omega)]
 have h2 := Int.ediv_lt_iff_lt_mul (a := mostI s mix p + sumL mix - 1) (b := k + 1) (c := sumL mix) (by omega)
 rw [Int.add_mul, Int.one_mul] at h2
 omega
theorem Oh {s : Gs} (hs : ShOk s) {mix : List Int} (hm : MixOk s mix) (p : P3) : 0 ≤ farI s mix p ∧ farI s mix p ≤ 800 := by
 have h1 := vZ hs hm p
 have h3 := hm.s
 refine ⟨?_, (C2 hs hm p 800).2 (by omega)⟩
 unfold farI
 rw [Int.tdiv_eq_ediv_of_nonneg (by omega)]
 exact Int.ediv_nonneg (by omega) (by omega)
theorem Oi {s : Gs} (hs : ShOk s) {mix : List Int} (hm : MixOk s mix) (p : P3) : tU ⟨s, mix⟩ p.i = some (farI s mix p) := by
 have h1 := FY hs hm p
 have h2 := vZ hs hm p
 have h3 := hm.s
 have h4 := Oh hs hm p
 have hne : (sumL mix != 0) = true := by simp; omega
 have e1 : i64.wrap (sumL mix * (aimP s p).Low) = sumL mix * (aimP s p).Low := cF (by omega) (by omega)
 have e2 : i64.wrap (sumL mix * (aimP s p).High) = sumL mix * (aimP s p).High := cF (by omega) (by omega)
 have e3 : i64.wrap ((aN s mix p).High - sumL mix * (aimP s p).Low) = (aN s mix p).High - sumL mix * (aimP s p).Low := cF (by omega) (by omega)
 have e4 : i64.wrap (sumL mix * (aimP s p).High - (aN s mix p).Low) = sumL mix * (aimP s p).High - (aN s mix p).Low := cF (by omega) (by omega)
 have e5 : i64.wrap (mostI s mix p + sumL mix) = mostI s mix p + sumL mix := cF (by omega) (by omega)
 have e6 : i64.wrap (mostI s mix p + sumL mix - 1) = mostI s mix p + sumL mix - 1 := cF (by omega) (by omega)
 have e7 : i64.wrap (farI s mix p) = farI s mix p := cF (by omega) (by omega)
 have key : some (i64.wrap (Int.tdiv (i64.wrap ((i64.wrap ((if (i64.wrap ((aN s mix p).High - (i64.wrap (sumL mix * (aimP s p).Low)))) < (i64.wrap ((i64.wrap (sumL mix * (aimP s p).High)) - (aN s mix p).Low)) then (i64.wrap ((i64.wrap (sumL mix * (aimP s p).High)) - (aN s mix p).Low)) else (i64.wrap ((aN s mix p).High - (i64.wrap (sumL mix * (aimP s p).Low))))) + sumL mix)) - 1)) (sumL mix))) = some (farI s mix p) := by
  rw [e1, e2, e3, e4]
  show some (i64.wrap (Int.tdiv (i64.wrap ((i64.wrap (mostI s mix p + sumL mix)) - 1)) (sumL mix))) = _
  rw [e5, e6]
  exact congrArg some e7
 unfold tU
 rw [C3 hs hm, C4 hs, C5 hs hm]
 simp only [Option.bind_some, hne, cond_true]
 cases p <;> simp only [P3.i, Int.reduceBEq, cond_true, cond_false] <;> exact key
def surelyB (s : Gs) (mix : List Int) : Bool := decide (farI s mix .p0 ≤ s.Off) && (decide (farI s mix .p1 ≤ s.Off) && decide (farI s mix .p2 ≤ s.Off))
theorem wa {s : Gs} (hs : ShOk s) {mix : List Int} (hm : MixOk s mix) (p : P3) : wb ⟨s, mix⟩ p.i = some (cond (decide (farI s mix p ≤ s.Off)) (.inl ()) (.inr ())) := by
 unfold wb
 rw [Oi hs hm p]
 simp only [Option.bind_some]
 by_cases h : farI s mix p ≤ s.Off
 ·rw [decide_eq_true h, decide_eq_false (by show ¬ farI s mix p > s.Off; omega)]; rfl
 ·rw [decide_eq_false h, decide_eq_true (by show farI s mix p > s.Off; omega)]; rfl
theorem VP {s : Gs} (hs : ShOk s) {mix : List Int} (hm : MixOk s mix) : wc ⟨s, mix⟩ = some (surelyB s mix) := by
 have m0 := wa hs hm .p0
 have m1 := wa hs hm .p1
 have m2 := wa hs hm .p2
 simp only [P3.i] at m0 m1 m2
 unfold wc surelyB
 rw [m0, m1, m2]
 cases decide (farI s mix .p0 ≤ s.Off) <;> cases decide (farI s mix .p1 ≤ s.Off) <;> cases decide (farI s mix .p2 ≤ s.Off) <;> rfl
theorem VQ {s : Gs} (hs : ShOk s) {mix : List Int} (hm : MixOk s mix) : surelyB s mix = true ↔ ∀ p, mostI s mix p ≤ s.Off * sumL mix := by
 simp only [surelyB, Bool.and_eq_true, decide_eq_true_eq, C2 hs hm]
 constructor
 ·rintro ⟨a, b, c⟩ p
  cases p <;> assumption
 ·intro h
  exact ⟨h .p0, h .p1, h .p2⟩
def absI (n : Int) : Int := if n < -n then -n else n
def trueB (s : Gs) (mix : List Int) (t : Gu) : Bool := decide (absI (sumT mix t .p0 - sumL mix * fadT s t .p0) ≤ sumL mix * s.Off) && (decide (absI (sumT mix t .p1 - sumL mix * fadT s t .p1) ≤ sumL mix * s.Off) && decide (absI (sumT mix t .p2 - sumL mix * fadT s t .p2) ≤ sumL mix * s.Off))
theorem VR {s : Gs} {mix : List Int} {t : Gu} : trueB s mix t = true ↔ ∀ p, absI (sumT mix t p - sumL mix * fadT s t p) ≤ s.Off * sumL mix := by
 simp only [trueB, Bool.and_eq_true, decide_eq_true_eq, Int.mul_comm (sumL mix) s.Off]
 constructor
 ·rintro ⟨a, b, c⟩ p
  cases p <;> assumption
 ·intro h
  exact ⟨h .p0, h .p1, h .p2⟩
theorem Oj {s : Gs} {mix : List Int} {t : Gu} (p : P3) : mostI (knS s t) mix p = absI (sumT mix t p - sumL mix * fadT s t p) := by
 unfold mostI absI
 rw [Og, C0]
 simp only [alo]
 have key : ∀ a b : Int, (if a - b < b - a then b - a else a - b) = (if a - b < -(a - b) then -(a - b) else a - b) := by
  intro a b
  by_cases h : a - b < b - a
  ·rw [if_pos h, if_pos (by omega)]
   omega
  ·rw [if_neg h, if_neg (by omega)]
 exact key _ _
theorem Ok {s : Gs} (hs : ShOk s) {mix : List Int} (hm : MixOk s mix) {t : Gu} (ht : TrOk s t) : surelyB (knS s t) mix = trueB s mix t := by
 rw [Bool.eq_iff_iff, VQ (knOk hs ht) (knMix ht hm), VR]
 simp only [Oj]
 rfl
theorem we {s : Gs} (hs : ShOk s) {t : Gu} (ht : TrOk s t) (p : P3) : 0 ≤ fadT s t p ∧ fadT s t p ≤ 99 := by
 have := C1 (knOk hs ht) p
 rw [C0] at this
 simp only [alo] at this
 omega
end Go.V
end
section
namespace Go.V
open Go Go.Proofs IntKind
section
variable {P : Program} {G : Glob} {ops : Array Oper} {base : Nat} {Q : VExit → St → Prop} {n : Nat}
end
end Go.V
namespace Go.V
open Go Go.Proofs IntKind
section
variable {P : Program} {G : Glob} {ops : Array Oper} {base : Nat} {Q : VExit → St → Prop} {n : Nat}
end
section
variable {P : Program} {G : Glob} {ops : Array Oper} {base : Nat} {Q : VExit → St → Prop} {n : Nat} {i m b : Nat} {o : Oper} {l l2 : List Oper} {mk mE mL : List Bool} {tr : Tr} {K : Tr → St → Prop} {tm : Nat → VV} {H : Nat → Option VObj} {nx : Nat} {df : List VDef} {st : St} {rest : List (List Bool × Nat)}
end
end Go.V
namespace Go.V
set_option linter.defProp false
end Go.V
end
section
namespace Go.V
open Go Go.Proofs IntKind
def gone (H H' : Nat → Option VObj) : Nat → Option VObj := fun β => if (H' β).isSome then none else H β
theorem ak.gone (H H' : Nat → Option VObj) : ak (gone H H') H := fun x o h => by
 unfold Go.V.gone at h
 split at h
 ·cases h
 ·exact h
def Frozen (H H' : Nat → Option VObj) (x y : VV) : Prop := y = x ∨ y = .any ∨ ∃ n, sealV (gone H H') n x = some y
def FrozenL (H H' : Nat → Option VObj) : List VV → List VV → Prop
 | [], [] => True
 | x :: xs, y :: ys => Frozen H H' x y ∧ FrozenL H H' xs ys
 | _, _ => False
def FrozenO (H H' : Nat → Option VObj) (o o' : VObj) : Prop := o' = o ∨ ∃ el cs cs', o = .cells el cs ∧ o' = .cells el cs' ∧ FrozenL H H' cs cs'
def Ctx.frz (c : Ctx) (H' : Nat → Option VObj) : Ctx := { c with H := H', A := fun b => c.A b ∨ ∃ β, c.live β ∧ (H' β).isSome = false ∧ c.φ β = b }
section
variable {c : Ctx} {W : World} {H' : Nat → Option VObj}
theorem zD (hl : ∀ β, (H' β).isSome = true → c.live β) : Abides c W (c.frz H') W := ⟨fun _ h => .inl h, fun _ _ => rfl, fun _ h => h, fun β _ h => hl β h, fun _ _ _ => rfl, fun _ _ _ => rfl⟩
theorem Gb (hl : ∀ β, (H' β).isSome = true → c.live β) : Ext c W (c.frz H') W where
 A _ h := .inl h
 newA b h := h.imp id fun ⟨β, h1, _, e⟩ => .inr ⟨β, h1, e⟩
 used _ h := h
 live β _ h := hl β h
 φ _ _ _ := rfl
 room _ _ _ := rfl
 keep _ _ _ := rfl
 old x h _ := ⟨x, hl x h, rfl⟩
 size := Nat.le_refl _
 os := rfl
 tape := rfl
 output := rfl
theorem VS (s : Sim c W) (hl : ∀ β, (H' β).isSome = true → c.live β) {x y : VV} {v : Value} (h : Frozen c.H H' x y) (hr : Rep c W x v) : Rep (c.frz H') W y v := by
 rcases h with rfl | rfl | ⟨n, hn⟩
 ·exact Rep.abides (zD hl) _ hr
 ·unfold Rep; trivial
 ·have h1 := (sK s (ak.gone c.H H') n).1 x v y hn hr
  refine Rep.abides (lZ fun b hb => ?_) _ h1
  rcases hb with hb | ⟨β, hβ, e⟩
  ·exact .inl hb
  ·refine .inr ⟨β, ?_, ?_, e⟩
   ·unfold Go.V.gone at hβ
    split at hβ
    ·cases hβ
    ·exact hβ
   ·cases h0 : (H' β).isSome with
    | false => rfl
    | true => unfold Go.V.gone at hβ; rw [h0] at hβ; cases hβ
theorem C6 (s : Sim c W) (hl : ∀ β, (H' β).isSome = true → c.live β) : ∀ {xs ys : List VV} {l : List Value}, FrozenL c.H H' xs ys → RepL c W xs l → RepL (c.frz H') W ys l
 | [], [], _, _, h => h
 | _ :: _, _ :: _, _, ⟨h1, h2⟩, ⟨u, us, e, r1, r2⟩ => ⟨u, us, e, VS s hl h1 r1, C6 s hl h2 r2⟩
 | [], _ :: _, _, h, _ => h.elim
 | _ :: _, [], _, h, _ => h.elim
theorem FrozenL.length {H H' : Nat → Option VObj} : ∀ {xs ys : List VV}, FrozenL H H' xs ys → ys.length = xs.length
 | [], [], _ => rfl
 | _ :: _, _ :: _, h => by simp [FrozenL.length h.2]
 | [], _ :: _, h => h.elim
 | _ :: _, [], h => h.elim
theorem Sim.frz (s : Sim c W) (ho : ∀ β o', H' β = some o' → ∃ o, c.H β = some o ∧ FrozenO c.H H' o o') (hloop : ∀ x st pe tm ps asg bo df, H' x = some (.loop st pe tm ps asg bo df) → isDef H' df) : Sim (c.frz H') W := by
 have hl : ∀ β, (H' β).isSome = true → c.live β := by
  intro β h
  obtain ⟨o', h'⟩ := Option.isSome_iff_exists.1 h
  obtain ⟨o, h1, _⟩ := ho β o' h'
  simp [Ctx.live, h1]
 have ab : Abides c W (c.frz H') W := zD hl
 refine ⟨fun x h => s.used x (hl x h), fun x ox hx => ?_, fun x h => s.lt x (hl x h), fun x h => ?_, fun x y hx hy e => s.inj x y (hl x hx) (hl y hy) e, fun b hb => ?_⟩
 ·have fS : H' x = some ox := hx
  obtain ⟨o, h1, hf⟩ := ho x ox fS
  rcases hf with rfl | ⟨el, cs, cs', rfl, rfl, hcs⟩
  ·refine (s.obj x _ h1).abides ab (s.used x (hl x (by simp [fS]))) (by simp [Ctx.live, Ctx.frz, fS]) rfl ?_
   intro st pe tm ps asg bo df e'
   subst e'
   exact hloop x st pe tm ps asg bo df fS
  ·obtain ⟨arr, e, a1, a2, a3, a4, a5⟩ := s.obj x _ h1
   exact ⟨arr, e, a1, a2, by rw [hcs.length]; exact a3, by rw [hcs.length]; exact C6 s hl hcs a4, a5⟩
 ·rintro (hA | ⟨β, h1, hn, e⟩)
  ·exact s.notA x (hl x h) hA
  ·have := s.inj β x h1 (hl x h) e
   subst this
   have h' : (H' β).isSome = true := h
   rw [h'] at hn; cases hn
 ·rcases hb with hA | ⟨β, h1, _, e⟩
  ·exact s.ltA b hA
  ·rw [← e]; exact s.lt β h1
end
theorem VWp.freeze {P : Program} {G : Glob} {n : Nat} {code : Code} {Q : VExit → St → Prop} {st : St} (H' : Nat → Option VObj) (tm' : Nat → VV) (ho : ∀ β o', H' β = some o' → ∃ o, st.H β = some o ∧ FrozenO st.H H' o o') (hloop : ∀ x s pe tm ps asg bo df, H' x = some (.loop s pe tm ps asg bo df) → isDef H' df)
  (htm : ∀ t, Frozen st.H H' (st.tm t) (tm' t)) (h : VWp P G n code Q ⟨tm', H', st.nx, st.df⟩) : VWp P G n code Q st := by
 intro ro c W a hro s hr hsz
 have ho' : ∀ β o', H' β = some o' → ∃ o, c.H β = some o ∧ FrozenO c.H H' o o' := by rw [hr.H]; exact ho
 have hl : ∀ β, (H' β).isSome = true → c.live β := by
  intro β h
  obtain ⟨o', h'⟩ := Option.isSome_iff_exists.1 h
  obtain ⟨o, h1, _⟩ := ho' β o' h'
  simp [Ctx.live, h1]
 have he : Ext c W (c.frz H') W := Gb hl
 have ab : Abides c W (c.frz H') W := zD hl
 refine wpIn_mono (h ro (c.frz H') W a (hro.ext he) (s.frz ho' hloop) ⟨rfl, fun t => ?_, hr.nx, hr.df.abides ab, hr.G.abides ab⟩ hsz) fun _ _ _ hl => hl.of_ext he (fun β hb => .inl hb) (Nat.le_refl _)
 exact VS s hl (by rw [hr.H]; exact htm t) (hr.tm t)
end Go.V
end
section
namespace Go.V
open Go Go.Proofs IntKind
theorem aB.freeze {P : Program} {G : Glob} {f : FuncId} {args args' : List VV} {H : Nat → Option VObj} {nx : Nat} {R Rp : VV → (Nat → Option VObj) → Nat → Prop} (H' : Nat → Option VObj) (ho : ∀ β o', H' β = some o' → ∃ o, H β = some o ∧ FrozenO H H' o o')
  (hloop : ∀ x s pe tm ps asg bo df, H' x = some (.loop s pe tm ps asg bo df) → isDef H' df) (ha : FrozenL H H' args args') (h : aB P G f args' H' nx R Rp) : aB P G f args H nx R Rp := by
 refine ⟨h.1, fun c W vs s hH hnx hG hargs => ?_⟩
 have ho' : ∀ β o', H' β = some o' → ∃ o, c.H β = some o ∧ FrozenO c.H H' o o' := by rw [hH]; exact ho
 have hl : ∀ β, (H' β).isSome = true → c.live β := by
  intro β h
  obtain ⟨o', h'⟩ := Option.isSome_iff_exists.1 h
  obtain ⟨o, h1, _⟩ := ho' β o' h'
  simp [Ctx.live, h1]
 have he : Ext c W (c.frz H') W := Gb hl
 have ab : Abides c W (c.frz H') W := zD hl
 refine (h.2 (c.frz H') W vs (s.frz ho' hloop) rfl hnx (hG.abides ab) (C6 s hl (by rw [hH]; exact ha) hargs)).mono ?_
 rintro e W' ⟨c', H1, nx', g1, g2, g3, g4, g5, g6, g7⟩
 exact ⟨c', H1, nx', he.trans g1, g2, g3, g4, g5, g6, g7⟩
def Yields (P : Program) (G : Glob) (β : Nat) (x : VV) (H : Nat → Option VObj) (nx : Nat) (Post : Bool → (Nat → Option VObj) → Nat → Prop) : Prop :=
 ∀ (r : Option (Option Nat)) (o : Oper) (st : St) (K : St → Prop), st.H = H → st.nx = nx → (∀ b H' nx', Post b H' nx' → K ⟨(match o.dst with | some d => upd st.tm d (.lit (.bool b)) | none => st.tm), H', nx', st.df⟩) → yieldK P (G.at r) o β [x] st K
theorem Yields.mono {P : Program} {G : Glob} {β : Nat} {x : VV} {H : Nat → Option VObj} {nx : Nat} {Post Post' : Bool → (Nat → Option VObj) → Nat → Prop} (h : Yields P G β x H nx Post) (hp : ∀ b H' nx', Post b H' nx' → Post' b H' nx') : Yields P G β x H nx Post' :=
 fun r o st K h1 h2 hk => h r o st K h1 h2 fun b H' nx' hp' => hk b H' nx' (hp b H' nx' hp')
abbrev Inv := Option (List VV) → (Nat → Prop) → (Nat → Option VObj) → Nat → Prop
def Stable (I : Inv) : Prop := ∀ o (Fr zE : Nat → Prop) (H H1 : Nat → Option VObj) (nx bc : Nat), I o Fr H nx → (∀ γ, γ < nx → ¬ Fr γ → H1 γ = H γ) → nx ≤ bc → (∀ γ, zE γ → Fr γ ∨ (nx ≤ γ ∧ γ < bc)) → I o zE H1 bc
def Rounds (P : Program) (G : Glob) (β : Nat) (I : Inv) : Prop := ∀ x rest (Fr : Nat → Prop) (H : Nat → Option VObj) (nx : Nat), (∀ γ, Fr γ → γ < nx) → I (some (x :: rest)) Fr H nx →
 Yields P G β x H nx (fun b H' nx' => nx ≤ nx' ∧ (∀ γ, Fr γ → H' γ = H γ) ∧ I (if b then some rest else none) Fr H' nx')
def noFr : Nat → Prop := fun _ => False
def Iter (P : Program) (G : Glob) (g : VV) (L : List VV) : Prop := ∃ f first captured, g = .fn (.func f) first captured ∧ ∀ (β : Nat) (I : Inv), Stable I → Rounds P G β I → ∀ (H : Nat → Option VObj) (nx : Nat), β < nx → I (some L) noFr H nx →
 aB P G f (first ++ [.yl β] ++ captured) H nx (fun _ H' nx' => I (some []) noFr H' nx' ∨ I none noFr H' nx') (fun _ _ _ => False)
def Own (hp : List (Nat × VObj)) (Fr : Nat → Prop) (H : Nat → Option VObj) (nx : Nat) : Prop := ∀ p ∈ hp, p.1 < nx ∧ ¬ Fr p.1 ∧ H p.1 = some p.2
theorem Own.stable {hp : List (Nat × VObj)} {Fr zE : Nat → Prop} {H H1 : Nat → Option VObj} {nx bc : Nat} (h : Own hp Fr H nx) (h1 : ∀ γ, γ < nx → ¬ Fr γ → H1 γ = H γ) (h2 : nx ≤ bc) (h3 : ∀ γ, zE γ → Fr γ ∨ (nx ≤ γ ∧ γ < bc)) : Own hp zE H1 bc := by
 intro p hp
 obtain ⟨a, b, c⟩ := h p hp
 refine ⟨Nat.lt_of_lt_of_le a h2, fun hf => ?_, by rw [h1 p.1 a b]; exact c⟩
 rcases h3 p.1 hf with hf | hf
 ·exact b hf
 ·omega
theorem Own.nil {Fr : Nat → Prop} {H : Nat → Option VObj} {nx : Nat} : Own [] Fr H nx := fun _ h => by cases h
theorem Own.cons {p : Nat} {o : VObj} {hp : List (Nat × VObj)} {Fr : Nat → Prop} {H : Nat → Option VObj} {nx : Nat} (h1 : p < nx) (h2 : ¬ Fr p) (h3 : H p = some o) (h : Own hp Fr H nx) : Own ((p, o) :: hp) Fr H nx := by
 intro q hq
 rcases List.mem_cons.1 hq with rfl | hq
 ·exact ⟨h1, h2, h3⟩
 ·exact h q hq
theorem Own.head {p : Nat} {o : VObj} {hp : List (Nat × VObj)} {Fr : Nat → Prop} {H : Nat → Option VObj} {nx : Nat} (h : Own ((p, o) :: hp) Fr H nx) : p < nx ∧ ¬ Fr p ∧ H p = some o := h (p, o) (List.mem_cons_self ..)
theorem Own.tail {p : Nat} {o : VObj} {hp : List (Nat × VObj)} {Fr : Nat → Prop} {H : Nat → Option VObj} {nx : Nat} (h : Own ((p, o) :: hp) Fr H nx) : Own hp Fr H nx := fun q hq => h q (List.mem_cons_of_mem _ hq)
def ownI (J : Option (List VV) → List (Nat × VObj) → Prop) : Inv := fun o Fr H nx => ∃ hp, Own hp Fr H nx ∧ J o hp
theorem Gc {J : Option (List VV) → List (Nat × VObj) → Prop} : Stable (ownI J) := fun _ _ _ _ _ _ _ ⟨hp, h, hj⟩ h1 h2 h3 => ⟨hp, h.stable h1 h2 h3, hj⟩
def ownI2 (I : Inv) (J : Option (List VV) → Option (List VV) → List (Nat × VObj) → Prop) : Inv := fun o Fr H nx => ∃ hp o', Own hp Fr H nx ∧ J o o' hp ∧ I o' (fun γ => Fr γ ∨ ∃ p ∈ hp, p.1 = γ) H nx
theorem Ol {I : Inv} (hs : Stable I) {J : Option (List VV) → Option (List VV) → List (Nat × VObj) → Prop} : Stable (ownI2 I J) := by
 rintro o Fr zE H H1 nx bc ⟨hp, o', h, hj, hi⟩ h1 h2 h3
 refine ⟨hp, o', h.stable h1 h2 h3, hj, hs _ _ _ _ _ _ _ hi (fun γ hlt hn => h1 γ hlt fun hf => hn (.inl hf)) h2 ?_⟩
 rintro γ (hf | hf)
 ·rcases h3 γ hf with hf | hf
  ·exact .inl (.inl hf)
  ·exact .inr hf
 ·exact .inl (.inr hf)
section
variable {P : Program} {G : Glob} {n : Nat} {Q : VExit → St → Prop} {tm : Nat → VV} {H : Nat → Option VObj} {nx : Nat} {df : List VDef} {g : Operand} {ps : Array Tmp} {az bo : Code}
def RPost (β : Nat) (LB LO : VObj) (LD : Code → VObj) (Post : Bool → (Nat → Option VObj) → Nat → Prop) : VExit → St → Prop
 | .normal, s => s.H β = some LB ∧ Post true (updH s.H β LO) s.nx
 | .ret, s => s.H β = some LB ∧ Post false (updH s.H β (LD .ret)) s.nx
 | .exit id, s => s.H β = some LB ∧ Post false (updH s.H β (LD (.exit id))) s.nx
 | _, _ => False
def RStart (P : Program) (G : Glob) (n β : Nat) (LB LO : VObj) (LD : Code → VObj) (bo : Code) (Post : Bool → (Nat → Option VObj) → Nat → Prop) : VExit → St → Prop
 | .normal, s => s.H β = some LO ∧ CWp P (G.at (some (some β))) n bo (RPost β LB LO LD Post) { s with H := updH s.H β LB }
 | _, _ => False
theorem wg (hm : P.follows .mixedOrders = true) {β : Nat} {x : VV} {Post : Bool → (Nat → Option VObj) → Nat → Prop} {LO : VObj} {tml : List VV} {d : Nat} {psl : List Tmp} (hL : LO = VObj.loop .ready none tml ⟨psl⟩ az bo d) (hβ : H β = some LO) (hn : tml.length = n) (ha : psl.length = 1)
  (h1 : codeOk n az = true) (h2 : codeOk n bo = true)
  (h : ∀ LB LD, LB = VObj.loop .busy none tml ⟨psl⟩ az bo d → LD = (fun c => VObj.loop .done (some c) tml ⟨psl⟩ az bo d) →
   CWp P (G.at (some (some β))) n az (RStart P G n β LB LO LD bo Post) ⟨aO (roundTm tml psl [x]), H, nx, []⟩) : Yields P G β x H nx Post := by
 intro r o st K e1 e2 hk
 subst e1 e2
 replace hk : ∀ b H' nx', Post b H' nx' → K { st.put o.dst (.lit (.bool b)) with H := H', nx := nx' } := by
  intro b H' nx' hp
  have := hk b H' nx' hp
  obtain ⟨d, op, ty, pos, af, gd⟩ := o
  cases d <;> exact this
 refine Om hm hL hβ hn (by simp [ha]) h1 h2 fun LB LD hB hD => ?_
 refine CWp.mono az _ ?_ (h LB LD hB hD)
 intro e s hs
 cases e with
 | normal =>
  refine ⟨hs.1, CWp.mono bo _ ?_ hs.2⟩
  intro e s2 lQ
  cases e with
  | normal => exact ⟨lQ.1, hk _ _ _ lQ.2⟩
  | ret => exact ⟨lQ.1, hk _ _ _ lQ.2⟩
  | exit id => exact ⟨lQ.1, hk _ _ _ lQ.2⟩
  | goto l => exact lQ.elim
  | panic x => exact lQ.elim
 | _ => exact hs.elim
theorem wh {itv : VV} {L : List VV} (hit : Iter P G itv L) (hg : ev (G.at (some none)) tm g = itv)
  (h : ∀ LO, LO = VObj.loop .ready none (tmL n tm) ps az bo nx → ∃ I : Inv, Stable I ∧ Rounds P G (nx + 1) I ∧ I (some L) noFr (updH (updH H nx (.deferred (some []))) (nx + 1) LO) (nx + 2) ∧
   ∀ H' nx', I (some []) noFr H' nx' ∨ I none noFr H' nx' → RangeEnd P (G.at (some none)) n Q ⟨tm, H, nx, df⟩ H' nx') : CWp P (G.at (some none)) n (.rangeFunc g ps az bo) Q ⟨tm, H, nx, df⟩ := by
 obtain ⟨f, first, captured, rfl, hv⟩ := hit
 refine On hg fun LO hL => ?_
 obtain ⟨I, hs, hr, h0, he⟩ := h LO hL
 exact aB.mono (hv (nx + 1) I hs hr _ _ (Nat.lt_succ_self _) h0) (fun _ H' nx' hh => he H' nx' hh) (fun _ _ _ hh => hh.elim)
end
end Go.V
end
section
namespace Go.V
open Go Go.Proofs IntKind
theorem aB.freeze1 {P : Program} {G : Glob} {f : FuncId} {args args' : List VV} {H : Nat → Option VObj} {nx γ : Nat} {el : Option TypeId} {cs : List VV} {R Rp : VV → (Nat → Option VObj) → Nat → Prop} (hγ : H γ = some (.cells el cs))
  (ha : FrozenL H (without H γ) args args') (h : aB P G f args' (without H γ) nx R Rp) : aB P G f args H nx R Rp := by
 refine ⟨h.1, fun c W vs s hH hnx hG hargs => ?_⟩
 subst hH
 have ho' : ∀ β o', without c.H γ β = some o' → ∃ o, c.H β = some o ∧ FrozenO c.H (without c.H γ) o o' := fun β o' hb => ⟨o', ak.without _ _ β o' hb, .inl rfl⟩
 have hl : ∀ β, (without c.H γ β).isSome = true → c.live β := by
  intro β h
  obtain ⟨o', h'⟩ := Option.isSome_iff_exists.1 h
  obtain ⟨o, h1, _⟩ := ho' β o' h'
  simp [Ctx.live, h1]
 have he : Ext c W (c.frz (without c.H γ)) W := Gb hl
 have ab : Abides c W (c.frz (without c.H γ)) W := zD hl
 have hloop : ∀ x st pe tm ps asg bo df, without c.H γ x = some (.loop st pe tm ps asg bo df) → isDef (without c.H γ) df := by
  intro x st pe tm ps asg bo df hx
  obtain ⟨l, fn, _, _, _, hd⟩ := s.obj x _ (ak.without _ _ x _ hx)
  exact hd.without hγ
 refine (h.2 (c.frz (without c.H γ)) W vs (s.frz ho' hloop) rfl hnx (hG.abides ab) (C6 s hl ha hargs)).mono ?_
 rintro e W' ⟨c', H1, nx', g1, g2, g3, g4, g5, g6, g7⟩
 exact ⟨c', H1, nx', he.trans g1, g2, g3, g4, g5, g6, g7⟩
theorem Frozen.same {H H' : Nat → Option VObj} {x : VV} : Frozen H H' x x := .inl rfl
theorem FrozenL.same {H H' : Nat → Option VObj} : ∀ {xs : List VV}, FrozenL H H' xs xs
 | [] => trivial
 | _ :: _ => ⟨.same, .same⟩
theorem Frozen.own {H : Nat → Option VObj} {γ n w cp : Nat} {el : Option TypeId} {cs : List VV} (hγ : H γ = some (.cells el cs)) (ht : treeL cs = true) (hl : cs.length = n * w) : Frozen H (without H γ) (.ref γ 0 n w cp) (.sl cs n false) := by
 refine .inr (.inr ⟨cs.length + 2, ?_⟩)
 have hg : gone H (without H γ) γ = some (.cells el cs) := by simp [gone, without, hγ]
 unfold sealV
 have : (VV.ref γ 0 n w cp).tree = false := rfl
 rw [this]
 simp only [Bool.false_eq_true, if_false, hg, Nat.zero_le, if_true, List.drop_zero]
 rw [List.take_of_length_le (by omega), sL cs _ ht (by omega)]
 rfl
theorem ad.weaken {P : Program} {G : Glob} {f : FuncId} {args args' : List VV} {r : PRes} (hw : ∀ c W vs, RepL c W args vs → RepL c W args' vs) (h : ad P G f args' r) : ad P G f args r :=
 ⟨h.1, fun A W vs h1 h2 h3 => h.2 A W vs h1 h2 (hw _ W vs h3)⟩
theorem Oo {c : Ctx} {W : World} {v : Value} (h : Rep c W (.lit (.slice none 0 0)) v) : Rep c W (.sl [] 0 false) v := by
 have e : v = .slice none 0 0 := h
 subst e
 exact ⟨none, 0, rfl, Nat.le_refl _, fun h => by simp at h, .inl rfl⟩
def vx {α : Type} (enc : α → List VV) : List α → VV
 | [] => .lit (.slice none 0 0)
 | l => .sl (aa enc l) l.length false
theorem Oq {α : Type} {enc : α → List VV} {c : Ctx} {W : World} {v : Value} : ∀ {l : List α}, Rep c W (vx enc l) v → Rep c W (.sl (aa enc l) l.length false) v
 | [], h => Oo h
 | _ :: _, h => h
theorem wi {α : Type} {enc : α → List VV} {l : List α} (h : l ≠ []) : vx enc l = .sl (aa enc l) l.length false := by cases l with
 | nil => exact absurd rfl h
 | cons a l => rfl
end Go.V
namespace Go.V
theorem Ot {α : Type} {enc : α → List VV} (he : EncOk enc) : ∀ {l : List α}, (vx enc l).tree = true
 | [] => rfl
 | a :: l => he.treeL (a :: l)
end Go.V
namespace Go.V
def lessN (H : Nat → Option VObj) (ns : List Nat) : Nat → Option VObj := fun γ => if γ ∈ ns then none else H γ
theorem VT {H : Nat → Option VObj} {ns : List Nat} : ak (lessN H ns) H := fun x o h => by
 unfold lessN at h
 split at h
 ·cases h
 ·exact h
theorem aB.freezeN {P : Program} {G : Glob} {f : FuncId} {args args' : List VV} {H : Nat → Option VObj} {nx : Nat} {R Rp : VV → (Nat → Option VObj) → Nat → Prop} (ns : List Nat) (hns : ∀ γ ∈ ns, ∃ el cs, H γ = some (.cells el cs))
  (ha : FrozenL H (lessN H ns) args args') (h : aB P G f args' (lessN H ns) nx R Rp) : aB P G f args H nx R Rp := by
 refine ⟨h.1, fun c W vs s hH hnx hG hargs => ?_⟩
 subst hH
 have ho' : ∀ β o', lessN c.H ns β = some o' → ∃ o, c.H β = some o ∧ FrozenO c.H (lessN c.H ns) o o' := fun β o' hb => ⟨o', VT β o' hb, .inl rfl⟩
 have hl : ∀ β, (lessN c.H ns β).isSome = true → c.live β := by
  intro β h
  obtain ⟨o', h'⟩ := Option.isSome_iff_exists.1 h
  obtain ⟨o, h1, _⟩ := ho' β o' h'
  simp [Ctx.live, h1]
 have he : Ext c W (c.frz (lessN c.H ns)) W := Gb hl
 have ab : Abides c W (c.frz (lessN c.H ns)) W := zD hl
 have hloop : ∀ x st pe tm ps asg bo df, lessN c.H ns x = some (.loop st pe tm ps asg bo df) → isDef (lessN c.H ns) df := by
  intro x st pe tm ps asg bo df hx
  obtain ⟨l, fn, _, _, _, ds, hd⟩ := s.obj x _ (VT x _ hx)
  refine ⟨ds, ?_⟩
  unfold lessN
  split
  ·rename_i hm
   obtain ⟨el, cs, hc⟩ := hns df hm
   rw [hc] at hd; cases hd
  ·exact hd
 refine (h.2 (c.frz (lessN c.H ns)) W vs (s.frz ho' hloop) rfl hnx (hG.abides ab) (C6 s hl ha hargs)).mono ?_
 rintro e W' ⟨c', H1, nx', g1, g2, g3, g4, g5, g6, g7⟩
 exact ⟨c', H1, nx', he.trans g1, g2, g3, g4, g5, g6, g7⟩
theorem aB.of_pure {P : Program} {G : Glob} {f : FuncId} {args : List VV} {x : VV} {H : Nat → Option VObj} {nx : Nat} (h : ad P G f args (.tree x)) (ht : treeL args = true) : aB P G f args H nx (fun y H' nx' => y = x ∧ H' = H ∧ nx' = nx) (fun _ _ _ => False) := by
 refine ⟨h.1, fun c W vs s hH hnx hG ha => (h.2 c.A W vs s.ltA (fun g cs hg => hG.tree g cs hg) (oP ht ha)).mono ?_⟩
 rintro e W' ⟨A', h1, h2, h3, hb, v, rfl, hx⟩
 exact ⟨c.more A', H, nx, Ext.more h1 h2 hb, Sim.more s h1 h2 h3 hb, hH, fun β hb => .inl hb, hnx, Nat.le_refl _, .inl ⟨x, v, rfl, Rep.abides (lZ (fun _ h => h)) _ hx, rfl, rfl, rfl⟩⟩
abbrev sI (l : List Int) : VV := .sl (aa eI l) l.length false
theorem Ou {L : List (List Int)} (h : ∀ q ∈ L, q ≠ []) : L.map (vx eI) = L.map sI := List.map_congr_left fun q hq => wi (h q hq)
end Go.V
namespace Go.V
theorem VU {H : Nat → Option VObj} {m : Nat} : ∀ (caps : List (Nat × List VV)) (n : Nat), (∀ p ∈ caps, (∃ el, H p.1 = some (.cells el p.2)) ∧ treeL p.2 = true ∧ p.2.length < m) → caps.length + m + 2 < n →
  aT H n (caps.map fun p => .ptr p.1 0) = some (caps.map fun p => .tp p.2)
 | [], n + 1, _, _ => by simp [aT]
 | p :: caps, n + 1, h, hn => by
  obtain ⟨⟨el, h1⟩, h2, h3⟩ := h p (List.mem_cons_self ..)
  have ih := VU caps n (fun q hq => h q (List.mem_cons_of_mem _ hq)) (by simp at hn; omega)
  obtain ⟨n', rfl⟩ : ∃ n', n = n' + 1 := ⟨n - 1, by simp at hn; omega⟩
  have e : sealV H (n' + 1) (.ptr p.1 0) = some (.tp p.2) := by
   unfold sealV
   have : (VV.ptr p.1 0).tree = false := rfl
   rw [this]
   simp only [Bool.false_eq_true, if_false, h1, Nat.zero_le, if_true, List.drop_zero]
   rw [sL _ _ h2 (by simp at hn; omega)]
   rfl
  simp only [List.map_cons]
  unfold aT
  rw [e, ih]
theorem Frozen.closure {H H' : Nat → Option VObj} {f : Fn} (caps : List (Nat × List VV)) (m : Nat) (hne : caps ≠ []) (h : ∀ p ∈ caps, (∃ el, H p.1 = some (.cells el p.2)) ∧ (H' p.1).isSome = false ∧ treeL p.2 = true ∧ p.2.length < m) : Frozen H H' (.fn f [] (caps.map fun p => .ptr p.1 0)) (.fn f [] (caps.map fun p => .tp p.2)) := by
 refine .inr (.inr ⟨caps.length + m + 4, ?_⟩)
 have hg : ∀ p ∈ caps, (∃ el, gone H H' p.1 = some (.cells el p.2)) ∧ treeL p.2 = true ∧ p.2.length < m := by
  intro p hp
  obtain ⟨⟨el, h1⟩, h2, h3⟩ := h p hp
  exact ⟨⟨el, by simp [gone, h2, h1]⟩, h3⟩
 have ht : (VV.fn f [] (caps.map fun p => .ptr p.1 0)).tree = false := by
  cases caps with
  | nil => exact absurd rfl hne
  | cons p l => simp [VV.tree, treeL]
 unfold sealV
 rw [ht]
 simp only [Bool.false_eq_true, if_false]
 rw [VU caps _ hg (by omega)]
 have : aT (gone H H') (caps.length + m + 3) [] = some [] := by simp [aT]
 rw [this]
end Go.V
namespace Go.V
def goL (rc : List Int → Option (List (List Int))) (may : List Int → Int → Option Bool) (p : List Int) : List Nat → Option (List (List Int))
 | [] => some []
 | i :: is => Option.bind (may p (i : Int)) fun b => cond b (Option.bind (rc (p ++ [(i : Int)])) fun a => Option.bind (goL rc may p is) fun r => some (a ++ r)) (goL rc may p is)
def listsO (may : List Int → Int → Option Bool) (lim : Nat) : Nat → List Int → Option (List (List Int))
 | 0, p => some [p]
 | d + 1, p => goL (listsO may lim d) may p (List.range' 0 lim)
theorem wj {rc : List Int → Option (List (List Int))} {may : List Int → Int → Option Bool} {p : List Int} {Pr : List Int → Prop} (hr : ∀ i L, rc (p ++ [(i : Int)]) = some L → ∀ q ∈ L, Pr q) : ∀ (is : List Nat) (L : List (List Int)), goL rc may p is = some L → ∀ q ∈ L, Pr q
 | [], L, h, q, hq => by simp [goL] at h; subst h; cases hq
 | i :: is, L, h, q, hq => by
  unfold goL at h
  cases hm : may p (i : Int) with
  | none => rw [hm] at h; cases h
  | some b =>
   rw [hm, Option.bind_some] at h
   cases b with
   | false => exact wj hr is L h q hq
   | true =>
    rw [cond_true] at h
    cases ha : rc (p ++ [(i : Int)]) with
    | none => rw [ha] at h; cases h
    | some a =>
     rw [ha, Option.bind_some] at h
     cases hg : goL rc may p is with
     | none => rw [hg] at h; cases h
     | some r =>
      rw [hg, Option.bind_some] at h
      cases h
      rcases List.mem_append.1 hq with hq | hq
      ·exact hr i a ha q hq
      ·exact wj hr is r hg q hq
theorem VW {may : List Int → Int → Option Bool} {lim : Nat} : ∀ (d : Nat) (p : List Int) (L : List (List Int)), listsO may lim d p = some L → ∀ q ∈ L, q.length = p.length + d
 | 0, p, L, h, q, hq => by
  simp [listsO] at h; subst h
  rw [List.mem_singleton.1 hq]; rfl
 | d + 1, p, L, h, q, hq => by
  unfold listsO at h
  exact wj (Pr := fun q => q.length = p.length + (d + 1)) (fun i L' h' q' hq' => by rw [VW d _ L' h' q' hq']; simp; omega) _ L h q hq
end Go.V
namespace Go.V
theorem ktreeR {P : Program} {G : Glob} {γ : Nat} {tm : Nat → VV} {H : Nat → Option VObj} {nx : Nat} {df : List VDef} {d : Option Tmp} {K : St → Prop} {Qp : VV → St → Prop} {f : FuncId} {args : List VV} {x : VV} (ht : treeL args = true) (hp : ad P G f args (.tree x)) (h : fin d γ tm H nx df K x .none) : callK P G f args ⟨tm, H, nx, df⟩ d γ K Qp := by
 refine .inl ⟨ht, .tree x, hp, ?_⟩
 rw [← jM (K := K), jN] at h
 exact h
end Go.V
namespace Go.V
theorem Frozen.ptr {H H' : Nat → Option VObj} {γ : Nat} {el : Option TypeId} {cs : List VV} (hγ : H γ = some (.cells el cs)) (hn : (H' γ).isSome = false) (ht : treeL cs = true) : Frozen H H' (.ptr γ 0) (.tp cs) := by
 refine .inr (.inr ⟨cs.length + 2, ?_⟩)
 have hg : gone H H' γ = some (.cells el cs) := by simp [gone, hn, hγ]
 unfold sealV
 have : (VV.ptr γ 0).tree = false := rfl
 rw [this]
 simp only [Bool.false_eq_true, if_false, hg, Nat.zero_le, if_true, List.drop_zero]
 rw [sL cs _ ht (by omega)]
 rfl
end Go.V
end
section
set_option linter.defProp false
namespace Go.V
open Go Go.Proofs IntKind
def kIdx {K : Type} (q : K → K → Bool) (k : K) : List K → Nat → Option Nat
 | [], _ => none
 | e :: es, i => cond (q k e) (some i) (kIdx q k es (i + 1))
theorem Ov {K : Type} {q : K → K → Bool} {k : K} : ∀ (es : List K) (i j : Nat), kIdx q k es i = some j → i ≤ j ∧ ∃ e, es[j - i]? = some e ∧ q k e = true
 | [], _, _, h => by cases h
 | e :: es, i, j, h => by
  unfold kIdx at h
  cases hq : q k e with
  | true =>
   rw [hq] at h
   simp only [cond_true, Option.some.injEq] at h
   subst h
   exact ⟨Nat.le_refl _, e, by simp, hq⟩
  | false =>
   rw [hq] at h
   simp only [cond_false] at h
   obtain ⟨h1, x, h2, h3⟩ := Ov es (i + 1) j h
   refine ⟨by omega, x, ?_, h3⟩
   rw [show j - i = (j - (i + 1)) + 1 by omega]
   simpa using h2
def mapGet {K V : Type} (q : K → K → Bool) (z : V) (l : List (K × V)) (k : K) : V := match kIdx q k (l.map (·.1)) 0 with
 | some i => match l[i]? with | some p => p.2 | none => z
 | none => z
def mapSet {K V : Type} (q : K → K → Bool) (l : List (K × V)) (k : K) (v : V) : List (K × V) := match kIdx q k (l.map (·.1)) 0 with
 | some i => l.set i (k, v)
 | none => l ++ [(k, v)]
def encM {K V : Type} (kv : K → Value) (ev : V → VV) (l : List (K × V)) : List (Value × VV) := l.map fun p => (kv p.1, ev p.2)
section
variable {P : Program} {K V : Type} {q : K → K → Bool} {kv : K → Value} {ev : V → VV} {t kt et : TypeId} {H : Nat → Option VObj} {β : Nat}
theorem VX (he : ∀ a b, aw P (Op.equal kt (kv a) (kv b)) = some (q a b)) (k : K) : ∀ (ks : List K) (i : Nat), aw P (Instr.findAsking kt (kv k) ((ks.map kv).map dummy) i) = some ((kIdx q k ks i).map fun j => (j, Value.bool false))
 | [], i => rfl
 | e :: es, i => by
  simp only [List.map_cons, Instr.findAsking, kIdx]
  rw [dR]
  have h0 : aw P (Op.equal kt (kv k) (dummy (kv e)).key) = some (q k e) := he k e
  rw [h0, Option.bind_some]
  cases q k e with
  | true => rfl
  | false => exact VX he k es (i + 1)
theorem C7 {fs : Array Field} (hu : P.underlying kt = some (.struct fs)) (he : ∀ a b, aw P (Op.equal kt (kv a) (kv b)) = some (q a b)) (k : K) (ks : List K) : kfind P kt (kv k) (ks.map kv) = some (kIdx q k ks 0) := by
 unfold kfind Instr.findKey
 rw [dR, zl hu, Option.bind_some]
 have ha := VX he k ks 0
 cases ks with
 | nil => rfl
 | cons e es =>
  have hn : Instr.findNow (.struct fs) (kv k) (((e :: es).map kv).map dummy) 0 = none := by
   simp only [List.map_cons, Instr.findNow]
   have : Instr.sameNow (.struct fs) (kv k) (dummy (kv e)).key = none := by cases kv k <;> rfl
   rw [this]
  rw [hn]
  simp only []
  rw [ha]
  cases kIdx q k (e :: es) 0 <;> rfl
theorem VY {l : List (K × V)} : (encM kv ev l).map (·.1) = (l.map (·.1)).map kv := by simp [encM, Function.comp_def]
theorem Ow {fs : Array Field} {z : V} (hm : P.underlying t = some (.map kt et)) (hu : P.underlying kt = some (.struct fs)) (he : ∀ a b, aw P (Op.equal kt (kv a) (kv b)) = some (q a b)) (hc : ∀ b k, aw P (Instr.checkKey b 10000 kt (kv k)) = some ())
  (hz : ((P.info? et).bind (·.zero)).map ofVal2 = some (ev z)) {l : List (K × V)} {kx : VV} {k : K} (hk : kx.val? = some (kv k)) (hb : H β = some (.map (encM kv ev l))) :
  vlookup P H t (.mp β) kx false = some (ev (mapGet q z l k)) := by
 unfold vlookup
 rw [hm, hk]
 simp only [mapOf, hb]
 rw [hc, VY, C7 hu he]
 cases hzz : (P.info? et).bind (·.zero) with
 | none => rw [hzz] at hz; cases hz
 | some z0 =>
  rw [hzz] at hz
  simp only [Option.map_some, Option.some.injEq] at hz
  unfold mapGet
  cases hi : kIdx q k (l.map (·.1)) 0 with
  | none => simp only [Bool.false_eq_true, if_false]; exact congrArg some hz
  | some i =>
   obtain ⟨_, e, h1, _⟩ := Ov _ _ _ hi
   rw [Nat.sub_zero, List.getElem?_map] at h1
   cases hl : l[i]? with
   | none => rw [hl] at h1; cases h1
   | some p =>
    have : (encM kv ev l)[i]? = some (kv p.1, ev p.2) := by unfold encM; rw [List.getElem?_map, hl]; rfl
    simp only [this, hl, Bool.false_eq_true, if_false]
theorem Ox {fs : Array Field} (hm : P.underlying t = some (.map kt et)) (hu : P.underlying kt = some (.struct fs)) (he : ∀ a b, aw P (Op.equal kt (kv a) (kv b)) = some (q a b)) (hc : ∀ b k, aw P (Instr.checkKey b 10000 kt (kv k)) = some ())
  (hq : ∀ a b, q a b = true → a = b) (hs : ∀ a, Instr.sameBits 10000 (kv a) (kv a) = true) {l : List (K × V)} {kx : VV} {k : K} {v : V} (hk : kx.val? = some (kv k)) (hb : H β = some (.map (encM kv ev l))) :
  vmapUpdate P H t (.mp β) kx (ev v) = some (.upd β (.map (encM kv ev (mapSet q l k v)))) := by
 unfold vmapUpdate
 rw [hm, hk]
 simp only [hb]
 rw [hc, VY, C7 hu he]
 unfold mapSet
 cases hi : kIdx q k (l.map (·.1)) 0 with
 | none => simp only [encM, List.map_append, List.map_cons, List.map_nil]
 | some i =>
  obtain ⟨_, e, h1, h2⟩ := Ov _ _ _ hi
  rw [Nat.sub_zero, List.getElem?_map] at h1
  cases hl : l[i]? with
  | none => rw [hl] at h1; cases h1
  | some p =>
   have h3 : (encM kv ev l)[i]? = some (kv p.1, ev p.2) := by unfold encM; rw [List.getElem?_map, hl]; rfl
   rw [hl] at h1
   simp only [Option.map_some, Option.some.injEq] at h1
   have h4 := hq _ _ h2
   subst h4
   subst h1
   simp only [h3, hs, if_true]
   simp only [encM, List.map_set]
end
section
variable {P : Program} {G : Glob} {γ : Nat} {tm : Nat → VV} {H : Nat → Option VObj} {nx : Nat} {df : List VDef} {K : St → Prop} {Kd : List Nat → List Nat → St → Prop} {Qp : VV → St → Prop}
 {d : Option Tmp} {ty : TypeId} {pos : String} {af : Array Edge} {g : Option (Nat × Bool)}
theorem zxk {t : TypeId} : aS P G γ ⟨d, .makeMap t none, ty, pos, af, g⟩ ⟨tm, H, nx, df⟩ K Qp = fin d γ tm H nx df K (.mp γ) (.new (.map [])) := by
 rw [j5 (by simp) (by simp) (by simp)]; rfl
theorem Oy {t : TypeId} {x k : Operand} {ok : Bool} : aS P G γ ⟨d, .lookup t x k ok, ty, pos, af, g⟩ ⟨tm, H, nx, df⟩ K Qp = oK (vlookup P H t (ev G tm x) (ev G tm k) ok) (fun y => fin d γ tm H nx df K y .none) := by
 rw [j5 (by simp) (by simp) (by simp)]; simp only [vop]; exact rZ
def umK (o : Option VEff) (k : VEff → Prop) : Prop := match o with | some e => k e | none => False
theorem Oz {e : VEff} {k : VEff → Prop} : umK (some e) k = k e := rfl
theorem zsc {t : TypeId} {m k x : Operand} : aS P G γ ⟨d, .mapUpdate t m k x, ty, pos, af, g⟩ ⟨tm, H, nx, df⟩ K Qp = umK (vmapUpdate P H t (ev G tm m) (ev G tm k) (ev G tm x)) (fun e => fin d γ tm H nx df K .any e) := by
 rw [j5 (by simp) (by simp) (by simp)]; simp only [vop]
 cases vmapUpdate P H t (ev G tm m) (ev G tm k) (ev G tm x) <;> rfl
theorem O0 : ev G tm (.const (.map none)) = .lit (.map none) := rfl
theorem je {K V : Type} {kv : K → Value} {ew : V → VV} : encM kv ew [] = [] := rfl
def mq := (And.intro (And.intro @zxk @Oy) (And.intro @zsc (And.intro @Oz @O0)))
end
end Go.V
end
section
set_option linter.defProp false
namespace Go.V
open Go Go.Proofs IntKind
def RM (y x : VV) (H : Nat → Option VObj) (_ : Nat) : Prop := ∃ β es, x = .mp β ∧ H β = some (.map es) ∧ treeL (es.map (·.2)) = true ∧ y = .mt (es.map (·.1)) (es.map (·.2))
theorem ad.of_openM {P : Program} {G : Glob} {f : FuncId} {args : List VV} {y : VV} (h : aB P G f args (fun _ => none) 0 (RM y) (fun _ _ _ => False)) : ad P G f args (.tree y) := by
 refine ⟨h.1, fun A W vs hA hG hargs => (h.2 (PCtx A) W vs (zi hA) rfl (fun β hb => hb.elim) hG hargs).mono ?_⟩
 rintro e W' ⟨c', H', nx', hext, hs', hH', hu, hu', hle, hres⟩
 have hbelow := zj hext
 have hge : ∀ β, c'.live β → W.heap.size ≤ c'.φ β := by
  intro β hl
  rcases Nat.lt_or_ge (c'.φ β) W.heap.size with h | h
  ·obtain ⟨γ, hγ, _⟩ := hext.old β hl h
   simp [PCtx, Ctx.live] at hγ
  ·exact h
 have hold : ∀ b, c'.A b → A b ∨ W.heap.size ≤ b := by
  intro b hb
  rcases hext.newA b hb with h | h | ⟨β, h, _⟩
  ·exact .inl h
  ·exact .inr h
  ·simp [PCtx, Ctx.live] at h
 have held : ∀ {H0 : Nat → Option VObj}, ak H0 c'.H → ∀ b, heldIn c' H0 b → A b ∨ W.heap.size ≤ b := by
  intro H0 hsub b hb
  rcases hb with h | ⟨β, h, e⟩
  ·exact hold b h
  ·exact .inr (e ▸ hge β (hsub.live h))
 have heldlt : ∀ {H0 : Nat → Option VObj}, ak H0 c'.H → ∀ b, heldIn c' H0 b → b < W'.heap.size := by
  intro H0 hsub b hb
  rcases hb with h | ⟨β, h, e⟩
  ·exact hs'.ltA b h
  ·exact e ▸ hs'.lt β (hsub.live h)
 rcases hres with ⟨x, v, rfl, hrv, β, es, rfl, hβ, ht, rfl⟩ | ⟨x, v, rfl, hv, hF⟩
 ·subst hH'
  refine ⟨heldIn c' c'.H, fun b hb => .inl (hext.A b hb), held (ak.refl _), heldlt (ak.refl _), hbelow, v, rfl, ?_⟩
  have hv : v = .map (some (c'.φ β)) := hrv.2 (by simp [Ctx.live, hβ])
  obtain ⟨ents, clk, h1, h2, h3⟩ := hs'.obj β _ hβ
  have ab : Abides (PCtx c'.A) W' (PCtx (heldIn c' c'.H)) W' := lZ (fun b hb => Or.inl hb)
  exact ⟨_, hv, .inr ⟨β, by simp [hβ], rfl⟩, ents, clk, h1, h2, RepL.abides ab _ (oP ht h3)⟩
 ·exact hF.elim
theorem ad.runM {P : Program} {G : Glob} (hm : P.follows .mixedOrders = true) {f : FuncId} {fn : Func} {code : Code} {args : List VV} {y : VV} (hc : Callable P f) (hf : P.funcs[f]? = some fn) (hb : fn.body = some code)
  (hst : (decide (args.length ≤ fn.ntmps) && codeOk fn.ntmps code) = true) (h : CWp P (G.at (some none)) fn.ntmps code (OpenPostD P G fn (RM y) (fun _ _ _ => False)) { tm := aO args, H := fun _ => none, nx := 0, df := [] }) : ad P G f args (.tree y) :=
 ad.of_openM (aB.run hm hc hf hb hst h)
def mtK {K V : Type} (kv : K → Value) (l : List (K × V)) : List Value := l.map fun p => kv p.1
def mtV {K V : Type} (ew : V → VV) (l : List (K × V)) : List VV := l.map fun p => ew p.2
theorem C8 {K V : Type} {ew : V → VV} (ht : ∀ v, (ew v).tree = true) : ∀ l : List (K × V), treeL (mtV ew l) = true
 | [] => rfl
 | p :: l => by
  show ((ew p.2).tree && treeL (mtV ew l)) = true
  rw [ht, C8 ht l]; rfl
theorem O1 {K V : Type} {kv : K → Value} {ew : V → VV} {β nx : Nat} {H : Nat → Option VObj} {l : List (K × V)} (ht : ∀ v, (ew v).tree = true) (hb : H β = some (.map (encM kv ew l))) : RM (.mt (mtK kv l) (mtV ew l)) (.mp β) H nx := by
 have e1 : (encM kv ew l).map (·.1) = mtK kv l := by simp [encM, mtK, Function.comp_def]
 have e2 : (encM kv ew l).map (·.2) = mtV ew l := by simp [encM, mtV, Function.comp_def]
 exact ⟨β, _, rfl, hb, by rw [e2]; exact C8 ht l, by rw [e1, e2]⟩
theorem O2 {K V : Type} {kv : K → Value} {ew : V → VV} {H : Nat → Option VObj} (l : List (K × V)) : mapOf H (.mt (mtK kv l) (mtV ew l)) = some (encM kv ew l) := by
 simp only [mapOf, mtK, mtV, encM, Option.some.injEq]
 induction l with
 | nil => rfl
 | cons p l ih => simp only [List.map_cons, List.zip_cons_cons, ih]
section
variable {P : Program} {K V : Type} {q : K → K → Bool} {kv : K → Value} {ew : V → VV} {t kt et : TypeId} {H : Nat → Option VObj}
theorem O3 {fs : Array Field} {z : V} (hm : P.underlying t = some (.map kt et)) (hu : P.underlying kt = some (.struct fs)) (he : ∀ a b, aw P (Op.equal kt (kv a) (kv b)) = some (q a b)) (hc : ∀ b k, aw P (Instr.checkKey b 10000 kt (kv k)) = some ())
  (hz : ((P.info? et).bind (·.zero)).map ofVal2 = some (ew z)) {l : List (K × V)} {kx : VV} {k : K} (hk : kx.val? = some (kv k)) :
  vlookup P H t (.mt (mtK kv l) (mtV ew l)) kx false = some (ew (mapGet q z l k)) := by
 have := Ow (H := fun _ => some (.map (encM kv ew l))) (β := 0) hm hu he hc hz hk rfl
 unfold vlookup at this ⊢
 rw [O2]
 exact this
end
theorem O4 {ks : List Value} {vs : List VV} : (VV.mt ks vs).leaf = true := rfl
def mqm := @O4
end Go.V
end
section
namespace Go.V
open Go Go.Proofs IntKind
def lexL : List Int → List Int → Prop
 | a :: x, b :: y => a < b ∨ a = b ∧ lexL x y
 | [], _ :: _ => True
 | _, [] => False
theorem O5 : ∀ {x : List Int}, ¬ lexL x x
 | [], h => h
 | a :: x, h => by
  rcases h with h | ⟨_, h⟩
  ·omega
  ·exact O5 h
theorem VZ : ∀ {x y z : List Int}, lexL x y → lexL y z → lexL x z
 | [], [], _, h, _ => h.elim
 | [], _ :: _, [], _, h => h.elim
 | [], _ :: _, _ :: _, _, _ => trivial
 | _ :: _, [], _, h, _ => h.elim
 | _ :: _, _ :: _, [], _, h => h.elim
 | a :: x, b :: y, c :: z, h, k => by
  rcases h with h | ⟨rfl, h⟩ <;> rcases k with k | ⟨rfl, k⟩
  ·exact .inl (by omega)
  ·exact .inl h
  ·exact .inl k
  ·exact .inr ⟨rfl, VZ h k⟩
section
variable {K V : Type} {q : K → K → Bool} {z : V}
def getR (q : K → K → Bool) (z : V) (k : K) : List (K × V) → V
 | [] => z
 | e :: l => if q k e.1 then e.2 else getR q z k l
def setR (q : K → K → Bool) (k : K) (v : V) : List (K × V) → List (K × V)
 | [] => [(k, v)]
 | e :: l => if q k e.1 then (k, v) :: l else e :: setR q k v l
theorem O6 (k : K) : ∀ (es : List K) (i : Nat), kIdx q k es (i + 1) = (kIdx q k es i).map (· + 1)
 | [], _ => rfl
 | e :: es, i => by
  unfold kIdx
  cases q k e with
  | true => rfl
  | false => exact O6 k es (i + 1)
theorem O7 (k : K) : ∀ l : List (K × V), mapGet q z l k = getR q z k l
 | [] => rfl
 | e :: l => by
  have ih := O7 k l
  unfold mapGet at ih ⊢
  rw [List.map_cons]
  unfold kIdx getR
  cases hq : q k e.1 with
  | true => rfl
  | false =>
   simp only [cond_false, Bool.false_eq_true, if_false]
   rw [O6]
   cases h : kIdx q k (l.map (·.1)) 0 with
   | none => rw [h] at ih; exact ih
   | some i => rw [h] at ih; simpa using ih
theorem Wa (k : K) (v : V) : ∀ l : List (K × V), mapSet q l k v = setR q k v l
 | [] => rfl
 | e :: l => by
  have ih := Wa k v l
  unfold mapSet at ih ⊢
  rw [List.map_cons]
  unfold kIdx setR
  cases hq : q k e.1 with
  | true => rfl
  | false =>
   simp only [cond_false, Bool.false_eq_true, if_false]
   rw [O6]
   cases h : kIdx q k (l.map (·.1)) 0 with
   | none => rw [h] at ih; simpa using ih
   | some i => rw [h] at ih; simpa using ih
theorem Wb (hq : ∀ a b, q a b = true ↔ a = b) (k k' : K) (v : V) : ∀ l : List (K × V), getR q z k' (setR q k v l) = if q k' k then v else getR q z k' l
 | [] => rfl
 | e :: l => by
  have ih := Wb hq k k' v l
  unfold setR
  cases he : q k e.1 with
  | true =>
   have e1 := (hq _ _).1 he
   simp only [if_true, getR, ← e1]
   split <;> rfl
  | false =>
   simp only [Bool.false_eq_true, if_false, getR, ih]
   cases h1 : q k' e.1 with
   | true =>
    have e1 := (hq _ _).1 h1
    have : q k' k = false := by
     cases h2 : q k' k with
     | false => rfl
     | true =>
      have e2 := (hq _ _).1 h2
      rw [e2] at e1
      rw [e1, (hq _ _).2 rfl] at he
      cases he
    rw [this]
    simp
   | false => simp
theorem O8 (hq : ∀ a b, q a b = true ↔ a = b) (k k' : K) (v : V) (l : List (K × V)) : mapGet q z (mapSet q l k v) k' = if q k' k then v else mapGet q z l k' := by
 rw [O7, O7, Wa, Wb hq]
end
end Go.V
end
section
set_option linter.defProp false
namespace Go.V
open Go Go.Proofs IntKind
theorem O9 {ks : List Value} {vs : List VV} : normV (.mt ks vs) = .mt ks vs := by simp [normV]
end Go.V
end
section
namespace Go.V
open Go Go.Proofs IntKind
def cZ (k : Gf) : Value := .agg ⟨[.int .i64 k.pigment, .int .i64 k.years]⟩
def cK (a b : Gf) : Bool := (a.pigment == b.pigment) && ((a.years == b.years) && true)
def qj (n : Bool) : VV := .lit (.bool n)
theorem tV (a b : Gf) : aw Tryz.prog (Op.equal 138 (cZ a) (cZ b)) = some (cK a b) := by
 have e : Op.maxDepth = 9998 + 2 := rfl
 unfold Op.equal cZ
 rw [e, JQ Tryz.underlying138 (by kernel_rfl) (r := cK a b) (by kernel_rfl)]
theorem tW (b : Bool) (k : Gf) : aw Tryz.prog (Instr.checkKey b 10000 138 (cZ k)) = some () := by
 cases b <;> kernel_rfl
theorem tX (a b : Gf) (h : cK a b = true) : a = b := by
 cases a; cases b
 simp only [cK, Bool.and_true, Bool.and_eq_true, beq_iff_eq] at h
 simp only [h]
theorem C9 (a : Gf) : Instr.sameBits 10000 (cZ a) (cZ a) = true := by
 simp [cZ, Instr.sameBits]
theorem hz4 : ((Tryz.prog.info? 4).bind (·.zero)).map ofVal2 = some (qj false) := by kernel_rfl
theorem CA (k : Gf) : VV.val? (.agg [.lit (.int .i64 k.pigment), .lit (.int .i64 k.years)]) = some (cZ k) := rfl
theorem qk {β : Nat} (l : List (Gf × Bool)) (k : Gf) (n : Bool) (H : Nat → Option VObj) (hb : H β = some (.map (encM cZ qj l))) : vmapUpdate Tryz.prog H 135 (.mp β) (.agg [.lit (.int .i64 k.pigment), .lit (.int .i64 k.years)]) (.lit (.bool n)) = some (.upd β (.map (encM cZ qj (mapSet cK l k n)))) :=
 Ox Tryz.underlying135 Tryz.underlying138 tV tW tX C9 (CA k) hb
theorem wm {l : List (Gf × Bool)} {a0 a1 : Int} {H : Nat → Option VObj} : vlookup Tryz.prog H 135 (.mt (mtK cZ l) (mtV qj l)) (.agg [.lit (.int .i64 a0), .lit (.int .i64 a1)]) false = some (.lit (.bool (mapGet cK false l (Gf.mk a0 a1)))) :=
 O3 Tryz.underlying135 Tryz.underlying138 tV tW hz4 (k := ⟨a0, a1⟩) rfl
theorem et4 (n : Bool) : (qj n).tree = true := rfl
def mqr := @O9
def mqt := @wm
def oZ (ah : Gm) (aD : Int) (ba : GSpan) (r1 : Int) : Nat → Int → Option (LOut (Bool) (Int))
 | 0, _ => none
 | k2 + 1, lf => cond (decide (lf ≤ ah.sh.Fade.a2.High)) (Option.bind (lR ah.sh.Old.a2 aD lf) (fun r8 => cond (decide ((i64.wrap ((i64.wrap (r1 * r8)) - (i64.wrap (r1 * ah.sh.Off)))) ≤ ba.High)) (cond (decide (ba.Low ≤ (i64.wrap ((i64.wrap (r1 * r8)) + (i64.wrap (r1 * ah.sh.Off)))))) (some (.ret true)) (oZ ah aD ba r1 k2 (i64.wrap (lf + 1)))) (oZ ah aD ba r1 k2 (i64.wrap (lf + 1))))) (some (.go lf))
def pa (ah : Gm) (aD : Int) (ba : GSpan) (r1 : Int) : Nat → Int → Option (LOut (Bool) (Int))
 | 0, _ => none
 | k1 + 1, lg => cond (decide (lg ≤ ah.sh.Fade.a1.High)) (Option.bind (lR ah.sh.Old.a1 aD lg) (fun r5 => cond (decide ((i64.wrap ((i64.wrap (r1 * r5)) - (i64.wrap (r1 * ah.sh.Off)))) ≤ ba.High)) (cond (decide (ba.Low ≤ (i64.wrap ((i64.wrap (r1 * r5)) + (i64.wrap (r1 * ah.sh.Off)))))) (some (.ret true)) (pa ah aD ba r1 k1 (i64.wrap (lg + 1)))) (pa ah aD ba r1 k1 (i64.wrap (lg + 1))))) (some (.go lg))
def pb (ah : Gm) (aD : Int) (ba : GSpan) (r1 : Int) : Nat → Int → Option (LOut (Bool) (Int))
 | 0, _ => none
 | k0 + 1, lh => cond (decide (lh ≤ ah.sh.Fade.a0.High)) (Option.bind (lR ah.sh.Old.a0 aD lh) (fun r2 => cond (decide ((i64.wrap ((i64.wrap (r1 * r2)) - (i64.wrap (r1 * ah.sh.Off)))) ≤ ba.High)) (cond (decide (ba.Low ≤ (i64.wrap ((i64.wrap (r1 * r2)) + (i64.wrap (r1 * ah.sh.Off)))))) (some (.ret true)) (pb ah aD ba r1 k0 (i64.wrap (lh + 1)))) (pb ah aD ba r1 k0 (i64.wrap (lh + 1))))) (some (.go lh))
def wo (ah : Gm) (aD : Int) (fO : Int) (ba : GSpan) : Option (Bool) := Option.bind (tI ah) (fun r1 => cond (fO == 0) (aK (pb ah aD ba r1 1000000 ah.sh.Fade.a0.Low) (fun r4 => some r4) (fun c3 => some false) (fun _ _ => none)) (cond (fO == 1) (aK (pa ah aD ba r1 1000000 ah.sh.Fade.a1.Low) (fun r7 => some r7) (fun c6 => some false) (fun _ _ => none)) (cond (fO == 2) (aK (oZ ah aD ba r1 1000000 ah.sh.Fade.a2.Low) (fun dA => some dA) (fun c9 => some false) (fun _ _ => none)) (none))))
theorem OA (ah : Gm) (aD : Int) (fO : Int) (ba : GSpan) (R : Bool) (h : wo ah aD fO ba = some R) : ad Tryz.prog G0 122 [.agg (cGm ah), .lit (.int .i64 aD), .lit (.int .i64 fO), .agg (aF ba)] (.tree (.lit (.bool R))) := by
 refine ad.runR mixed Tryz.call122 Tryz.func122 rfl (by simp [Tryz.ntmps122]; kernel_rfl) ?_
 obtain ⟨KF, h, kF, kN⟩ := cQ h
 simp only [wo] at h
 obtain ⟨dW, pO, h⟩ := optI h kN
 try simp only [hs] at h
 simp only [vz, tyf, nm, seval]
 refine ktA (FO _ _ pO) ?_
 refine aV (fun tm => tm 1 = .lit (.int .i64 aD) ∧ tm 2 = .lit (.int .i64 fO) ∧ tm 4 = .ptr 0 0 ∧ tm 7 = .ptr 1 0 ∧ tm 13 = .lit (.int .i64 dW) ∧ True) (by refine ⟨?_, ?_, ?_, ?_, ?_, trivial⟩ <;> first | (simp only [ua, nm, seval] <;> rfl) | rfl) ?_
 rintro tm ⟨bd, bg, bK, bw, bI, _⟩
 cases cD : (fO == 0)
 ·simp only [cD, hs] at h
  cases dc : (fO == 1)
  ·simp only [dc, hs] at h
   cases cw : (fO == 2)
   ·simp only [cw, hs] at h
    exact absurd h kN
   simp only [cw, hs] at h
   simp only [vz, tyf, bd, bg, bK, bw, bI, cD, dc, cw, (hX cw), nm, seval]
   obtain ⟨K21, h, OB, OC, kB21, CB⟩ := eO h kN
   obtain ⟨f21, OD, h⟩ := call2 h
   obtain ⟨I21, sN⟩ : ∃ I : Nat → St → Prop, I = (fun m st => ∃ (sO : Nat) (gy : Int), sO = m ∧ st.df = [] ∧ 13 ≤ st.nx ∧ st.H 0 = some (.cells (some 89) (cGm ah)) ∧ st.H 1 = some (.cells (some 24) (aF ba)) ∧ st.tm 1 = .lit (.int .i64 aD) ∧ st.tm 2 = .lit (.int .i64 fO) ∧ st.tm 4 = .ptr 0 0 ∧ st.tm 7 = .ptr 1 0 ∧ st.tm 9 = .lit (.int .i64 dW) ∧ st.tm 10 = .lit (.int .i64 gy) ∧ K21 (f21 sO gy)) := ⟨_, rfl⟩
   refine loopK mixed (by kernel_rfl) I21 1000000 (by rw [sN]; refine ⟨1000000, ah.sh.Fade.a2.Low, rfl, rfl, (show 13 ≤ 13 by omega), ?_, ?_, bd, bg, bK, bw, ?_, ?_, h⟩ <;> first | (simp only [ua, bd, bg, bK, bw, bI, cD, dc, cw, nm, seval] <;> rfl) | rfl) ?_
   rintro m ⟨tm, H, wq, df⟩ hinv
   rw [sN] at hinv
   obtain ⟨sO, gy, rfl, hdf, OE, OF, OG, cS, cq, da, cn, bA, bW, h⟩ := hinv
   simp only at hdf OE OF OG cS cq da cn bA bW
   have Wc := eN (m := 13) (b := wq) (by omega)
   subst hdf OD
   cases sO with
   | zero =>
    simp only [pb, pa, oZ, hs, reduceCtorEq] at h
    exact absurd h CB
   | succ sO =>
    simp only [pb, pa, oZ, hs, reduceCtorEq] at h
    cases iE : (decide (gy ≤ ah.sh.Fade.a2.High))
    ·simp only [iE, hs] at h
     have jq := And.intro cD (And.intro dc (And.intro cw (And.intro Wc (And.intro OF (And.intro OG iE)))))
     replace h := OC _ h
     try dsimp only at h
     try simp only [hs] at h
     try simp only [vz, tyf, jq, (hX cw), cS, cq, da, cn, bA, bW, nm, seval]
     obtain rfl := kF _ h
     exact bl Tryz.results122 rfl
    simp only [iE, hs] at h
    have wt := And.intro cD (And.intro dc (And.intro cw (And.intro Wc (And.intro OF (And.intro OG iE)))))
    obtain ⟨tY, CD, h⟩ := optI h CB
    try simp only [hs] at h
    simp only [vz, tyf, wt, (hX cw), cS, cq, da, cn, bA, bW, (fe cw), nm, seval]
    refine ktA (sP _ _ _ _ CD) ?_
    refine aV (fun tm => tm 1 = .lit (.int .i64 aD) ∧ tm 2 = .lit (.int .i64 fO) ∧ tm 4 = .ptr 0 0 ∧ tm 7 = .ptr 1 0 ∧ tm 9 = .lit (.int .i64 dW) ∧ tm 10 = .lit (.int .i64 gy) ∧ tm 30 = .lit (.int .i64 dW) ∧ tm 38 = .lit (.int .i64 tY) ∧ True) (by refine ⟨cS, cq, da, cn, bA, bW, ?_, ?_, trivial⟩ <;> first | (simp only [ua, wt, cS, cq, da, cn, bA, bW, nm, seval] <;> rfl) | rfl) ?_
    rintro tm ⟨eh, fy, cY, di, dp, dZ, eT, jd, _⟩
    cases dB : (decide ((i64.wrap ((i64.wrap (dW * tY)) - (i64.wrap (dW * ah.sh.Off)))) ≤ ba.High))
    ·simp only [dB, hs] at h
     simp only [vz, tyf, wt, (hX cw), (fe cw), eh, fy, cY, di, dp, dZ, eT, jd, dB, nm, seval]
     exact ⟨sO, Nat.lt_succ_self _, by rw [sN]; refine ⟨sO, i64.wrap (gy + 1), rfl, rfl, (show 13 ≤ wq + 44 by omega), ?_, ?_, eh, fy, cY, di, dp, ?_, h⟩ <;> first | (simp only [ua, wt, eh, fy, cY, di, dp, dZ, eT, jd, dB, nm, seval] <;> rfl) | rfl⟩
    simp only [dB, hs] at h
    cases tL : (decide (ba.Low ≤ (i64.wrap ((i64.wrap (dW * tY)) + (i64.wrap (dW * ah.sh.Off))))))
    ·simp only [tL, hs] at h
     simp only [vz, tyf, wt, (hX cw), (fe cw), eh, fy, cY, di, dp, dZ, eT, jd, dB, tL, nm, seval]
     exact ⟨sO, Nat.lt_succ_self _, by rw [sN]; refine ⟨sO, i64.wrap (gy + 1), rfl, rfl, (show 13 ≤ wq + 44 by omega), ?_, ?_, eh, fy, cY, di, dp, ?_, h⟩ <;> first | (simp only [ua, wt, eh, fy, cY, di, dp, dZ, eT, jd, dB, tL, nm, seval] <;> rfl) | rfl⟩
    simp only [tL, hs] at h
    try simp only [vz, tyf, wt, (hX cw), (fe cw), eh, fy, cY, di, dp, dZ, eT, jd, dB, tL, nm, seval]
    replace h := OB _ h
    try dsimp only at h
    obtain rfl := kF _ h
    exact bl Tryz.results122 rfl
  simp only [dc, hs] at h
  simp only [vz, tyf, bd, bg, bK, bw, bI, cD, dc, (ia dc), nm, seval]
  obtain ⟨K46, h, OH, OI, kB46, CE⟩ := eO h kN
  obtain ⟨f46, OJ, h⟩ := call2 h
  obtain ⟨I46, sQ⟩ : ∃ I : Nat → St → Prop, I = (fun m st => ∃ (sR : Nat) (gz : Int), sR = m ∧ st.df = [] ∧ 13 ≤ st.nx ∧ st.H 0 = some (.cells (some 89) (cGm ah)) ∧ st.H 1 = some (.cells (some 24) (aF ba)) ∧ st.tm 1 = .lit (.int .i64 aD) ∧ st.tm 2 = .lit (.int .i64 fO) ∧ st.tm 4 = .ptr 0 0 ∧ st.tm 7 = .ptr 1 0 ∧ st.tm 9 = .lit (.int .i64 dW) ∧ st.tm 10 = .lit (.int .i64 gz) ∧ K46 (f46 sR gz)) := ⟨_, rfl⟩
  refine loopK mixed (by kernel_rfl) I46 1000000 (by rw [sQ]; refine ⟨1000000, ah.sh.Fade.a1.Low, rfl, rfl, (show 13 ≤ 13 by omega), ?_, ?_, bd, bg, bK, bw, ?_, ?_, h⟩ <;> first | (simp only [ua, bd, bg, bK, bw, bI, cD, dc, nm, seval] <;> rfl) | rfl) ?_
  rintro m ⟨tm, H, wu, df⟩ hinv
  rw [sQ] at hinv
  obtain ⟨sR, gz, rfl, hdf, OK, rv, ry, ed, dj, eu, en, eU, ff, h⟩ := hinv
  simp only at hdf OK rv ry ed dj eu en eU ff
  have CF := eN (m := 13) (b := wu) (by omega)
  subst hdf OJ
  cases sR with
  | zero =>
   simp only [pb, pa, oZ, hs, reduceCtorEq] at h
   exact absurd h CE
  | succ sR =>
   simp only [pb, pa, oZ, hs, reduceCtorEq] at h
   cases jA : (decide (gz ≤ ah.sh.Fade.a1.High))
   ·simp only [jA, hs] at h
    replace h := OI _ h
    try dsimp only at h
    try simp only [hs] at h
    try simp only [vz, tyf, cD, dc, (ia dc), CF, ed, dj, eu, en, eU, ff, rv, ry, jA, nm, seval]
    obtain rfl := kF _ h
    exact bl Tryz.results122 rfl
   simp only [jA, hs] at h
   obtain ⟨zq, Nl, h⟩ := optI h CE
   try simp only [hs] at h
   simp only [vz, tyf, cD, dc, (ia dc), CF, ed, dj, eu, en, eU, ff, rv, ry, jA, (fg dc), nm, seval]
   refine ktA (sP _ _ _ _ Nl) ?_
   refine aV (fun tm => tm 1 = .lit (.int .i64 aD) ∧ tm 2 = .lit (.int .i64 fO) ∧ tm 4 = .ptr 0 0 ∧ tm 7 = .ptr 1 0 ∧ tm 9 = .lit (.int .i64 dW) ∧ tm 10 = .lit (.int .i64 gz) ∧ tm 30 = .lit (.int .i64 dW) ∧ tm 38 = .lit (.int .i64 zq) ∧ True) (by refine ⟨ed, dj, eu, en, eU, ff, ?_, ?_, trivial⟩ <;> first | (simp only [ua, cD, dc, CF, ed, dj, eu, en, eU, ff, rv, ry, jA, nm, seval] <;> rfl) | rfl) ?_
   rintro tm ⟨eP, fT, fU, eV, i7, gE, gI, gY, _⟩
   cases Gd : (decide ((i64.wrap ((i64.wrap (dW * zq)) - (i64.wrap (dW * ah.sh.Off)))) ≤ ba.High))
   ·simp only [Gd, hs] at h
    have Wd := And.intro cD (And.intro dc (And.intro CF (And.intro rv (And.intro ry (And.intro jA Gd)))))
    simp only [vz, tyf, Wd, (ia dc), (fg dc), eP, fT, fU, eV, i7, gE, gI, gY, nm, seval]
    exact ⟨sR, Nat.lt_succ_self _, by rw [sQ]; refine ⟨sR, i64.wrap (gz + 1), rfl, rfl, (show 13 ≤ wu + 44 by omega), ?_, ?_, eP, fT, fU, eV, i7, ?_, h⟩ <;> first | (simp only [ua, Wd, eP, fT, fU, eV, i7, gE, gI, gY, nm, seval] <;> rfl) | rfl⟩
   simp only [Gd, hs] at h
   have OL := And.intro cD (And.intro dc (And.intro CF (And.intro rv (And.intro ry (And.intro jA Gd)))))
   cases CG : (decide (ba.Low ≤ (i64.wrap ((i64.wrap (dW * zq)) + (i64.wrap (dW * ah.sh.Off))))))
   ·simp only [CG, hs] at h
    simp only [vz, tyf, OL, (ia dc), (fg dc), eP, fT, fU, eV, i7, gE, gI, gY, CG, nm, seval]
    exact ⟨sR, Nat.lt_succ_self _, by rw [sQ]; refine ⟨sR, i64.wrap (gz + 1), rfl, rfl, (show 13 ≤ wu + 44 by omega), ?_, ?_, eP, fT, fU, eV, i7, ?_, h⟩ <;> first | (simp only [ua, OL, eP, fT, fU, eV, i7, gE, gI, gY, CG, nm, seval] <;> rfl) | rfl⟩
   simp only [CG, hs] at h
   try simp only [vz, tyf, OL, (ia dc), (fg dc), eP, fT, fU, eV, i7, gE, gI, gY, CG, nm, seval]
   replace h := OH _ h
   try dsimp only at h
   obtain rfl := kF _ h
   exact bl Tryz.results122 rfl
 simp only [cD, hs] at h
 simp only [vz, tyf, bd, bg, bK, bw, bI, cD, (ib cD), nm, seval]
 obtain ⟨K71, h, OM, ON, kB71, CH⟩ := eO h kN
 obtain ⟨f71, OO, h⟩ := call2 h
 obtain ⟨I71, sS⟩ : ∃ I : Nat → St → Prop, I = (fun m st => ∃ (sT : Nat) (gA : Int), sT = m ∧ st.df = [] ∧ 13 ≤ st.nx ∧ st.H 0 = some (.cells (some 89) (cGm ah)) ∧ st.H 1 = some (.cells (some 24) (aF ba)) ∧ st.tm 1 = .lit (.int .i64 aD) ∧ st.tm 2 = .lit (.int .i64 fO) ∧ st.tm 4 = .ptr 0 0 ∧ st.tm 7 = .ptr 1 0 ∧ st.tm 9 = .lit (.int .i64 dW) ∧ st.tm 10 = .lit (.int .i64 gA) ∧ K71 (f71 sT gA)) := ⟨_, rfl⟩
 refine loopK mixed (by kernel_rfl) I71 1000000 (by rw [sS]; refine ⟨1000000, ah.sh.Fade.a0.Low, rfl, rfl, (show 13 ≤ 13 by omega), ?_, ?_, bd, bg, bK, bw, ?_, ?_, h⟩ <;> first | (simp only [ua, bd, bg, bK, bw, bI, cD, nm, seval] <;> rfl) | rfl) ?_
 rintro m ⟨tm, H, wv, df⟩ hinv
 rw [sS] at hinv
 obtain ⟨sT, gA, rfl, hdf, OP, tZ, ub, fx, eJ, eY, gH, iN, iO, h⟩ := hinv
 simp only at hdf OP tZ ub fx eJ eY gH iN iO
 have wx := eN (m := 13) (b := wv) (by omega)
 subst hdf OO
 cases sT with
 | zero =>
  simp only [pb, pa, oZ, hs, reduceCtorEq] at h
  exact absurd h CH
 | succ sT =>
  simp only [pb, pa, oZ, hs, reduceCtorEq] at h
  cases mh : (decide (gA ≤ ah.sh.Fade.a0.High))
  ·simp only [mh, hs] at h
   replace h := ON _ h
   try dsimp only at h
   try simp only [hs] at h
   try simp only [vz, tyf, cD, (ib cD), wx, fx, eJ, eY, gH, iN, iO, tZ, ub, mh, nm, seval]
   obtain rfl := kF _ h
   exact bl Tryz.results122 rfl
  simp only [mh, hs] at h
  obtain ⟨pU, Ci, h⟩ := optI h CH
  try simp only [hs] at h
  simp only [vz, tyf, cD, (ib cD), wx, fx, eJ, eY, gH, iN, iO, tZ, ub, mh, (fh cD), nm, seval]
  refine ktA (sP _ _ _ _ Ci) ?_
  refine aV (fun tm => tm 1 = .lit (.int .i64 aD) ∧ tm 2 = .lit (.int .i64 fO) ∧ tm 4 = .ptr 0 0 ∧ tm 7 = .ptr 1 0 ∧ tm 9 = .lit (.int .i64 dW) ∧ tm 10 = .lit (.int .i64 gA) ∧ tm 30 = .lit (.int .i64 dW) ∧ tm 38 = .lit (.int .i64 pU) ∧ True) (by refine ⟨fx, eJ, eY, gH, iN, iO, ?_, ?_, trivial⟩ <;> first | (simp only [ua, cD, wx, fx, eJ, eY, gH, iN, iO, tZ, ub, mh, nm, seval] <;> rfl) | rfl) ?_
  rintro tm ⟨il, jl, fH, hY, kj, mi, nf, lj, _⟩
  cases zF : (decide ((i64.wrap ((i64.wrap (dW * pU)) - (i64.wrap (dW * ah.sh.Off)))) ≤ ba.High))
  ·simp only [zF, hs] at h
   simp only [vz, tyf, cD, (ib cD), wx, tZ, ub, mh, (fh cD), il, jl, fH, hY, kj, mi, nf, lj, zF, nm, seval]
   exact ⟨sT, Nat.lt_succ_self _, by rw [sS]; refine ⟨sT, i64.wrap (gA + 1), rfl, rfl, (show 13 ≤ wv + 44 by omega), ?_, ?_, il, jl, fH, hY, kj, ?_, h⟩ <;> first | (simp only [ua, cD, wx, tZ, ub, mh, il, jl, fH, hY, kj, mi, nf, lj, zF, nm, seval] <;> rfl) | rfl⟩
  simp only [zF, hs] at h
  cases Ge : (decide (ba.Low ≤ (i64.wrap ((i64.wrap (dW * pU)) + (i64.wrap (dW * ah.sh.Off))))))
  ·simp only [Ge, hs] at h
   have We := And.intro cD (And.intro wx (And.intro tZ (And.intro ub (And.intro mh (And.intro zF Ge)))))
   simp only [vz, tyf, We, (ib cD), (fh cD), il, jl, fH, hY, kj, mi, nf, lj, nm, seval]
   exact ⟨sT, Nat.lt_succ_self _, by rw [sS]; refine ⟨sT, i64.wrap (gA + 1), rfl, rfl, (show 13 ≤ wv + 44 by omega), ?_, ?_, il, jl, fH, hY, kj, ?_, h⟩ <;> first | (simp only [ua, We, il, jl, fH, hY, kj, mi, nf, lj, nm, seval] <;> rfl) | rfl⟩
  simp only [Ge, hs] at h
  have b95 := And.intro cD (And.intro wx (And.intro tZ (And.intro ub (And.intro mh (And.intro zF Ge)))))
  try simp only [vz, tyf, b95, (ib cD), (fh cD), il, jl, fH, hY, kj, mi, nf, lj, nm, seval]
  replace h := OM _ h
  try dsimp only at h
  obtain rfl := kF _ h
  exact bl Tryz.results122 rfl
end Go.V
end
