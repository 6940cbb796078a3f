/- Part of a proof. -/
import Derived.Test.YtekhjalgmlflpaaGreatDoorRxaac
set_option linter.all false
set_option maxRecDepth 4000
set_option maxHeartbeats 40000000
section
namespace Go.V
open Go
def hiA (c : Gt) : Gi := ⟨c.pg.a0.High, c.pg.a1.High, c.pg.a2.High⟩
def loA (c : Gt) : Gi := ⟨c.pg.a0.Low, c.pg.a1.Low, c.pg.a2.Low⟩
def corT (s : Gs) : Gu := ⟨s.Tins.map hiA, s.Years.High, ⟨s.Fade.a0.High, s.Fade.a1.High, s.Fade.a2.High⟩⟩
def corF (s : Gs) : Gu := ⟨s.Tins.map loA, s.Years.Low, ⟨s.Fade.a0.Low, s.Fade.a1.Low, s.Fade.a2.Low⟩⟩
theorem room24 {α : Type} {acc : List α} {x : α} (h : acc.length ≤ 1000) : roomOk 24 (List.length (acc ++ [x])) = true := by
 unfold roomOk
 simp only [List.length_append, List.length_cons, List.length_nil, decide_eq_true_eq]
 omega
theorem zapf (s : Gs) : ∀ (p : List Gt) (c : Int) (acc : List Gi), acc.length + p.length ≤ 1000 → zbg s p c acc s.Fade.a0.High s.Fade.a1.High s.Fade.a2.High = some (.go (acc ++ p.map hiA, s.Fade.a0.High, s.Fade.a1.High, s.Fade.a2.High))
 | [], c, acc, _ => by simp [zbg]
 | e :: p, c, acc, h => by
  simp only [List.length_cons] at h
  simp only [zbg, show boundOk 3 = true from rfl, show Int.toNat (3 - 0) = 3 from rfl, zbi, Int.reduceAdd, Int.reduceBEq, cond_true, cond_false, lbind, room24 (show acc.length ≤ 1000 by omega)]
  rw [zapf s p (c + 1) _ (by simp only [List.length_append, List.length_cons, List.length_nil]; omega)]
  simp [hiA]
theorem zajs (s : Gs) (e : Gt) (p : List Gt) (h : p.length ≤ 900) : zbg s (e :: p) 0 [] 0 0 0 = some (.go ((e :: p).map hiA, s.Fade.a0.High, s.Fade.a1.High, s.Fade.a2.High)) := by
 simp only [zbg, show boundOk 3 = true from rfl, show Int.toNat (3 - 0) = 3 from rfl, zbi, Int.reduceAdd, Int.reduceBEq, cond_true, cond_false, lbind, room24 (show ([] : List Gi).length ≤ 1000 by simp)]
 rw [zapf s p _ _ (by simp only [List.length_append, List.length_cons, List.length_nil]; omega)]
 simp [hiA]
theorem zaqv (s : Gs) : ∀ (p : List Gt) (c : Int) (acc : List Gi), acc.length + p.length ≤ 1000 → zbf s p c acc s.Fade.a0.Low s.Fade.a1.Low s.Fade.a2.Low = some (.go (acc ++ p.map loA, s.Fade.a0.Low, s.Fade.a1.Low, s.Fade.a2.Low))
 | [], c, acc, _ => by simp [zbf]
 | e :: p, c, acc, h => by
  simp only [List.length_cons] at h
  simp only [zbf, show boundOk 3 = true from rfl, show Int.toNat (3 - 0) = 3 from rfl, zbj, Int.reduceAdd, Int.reduceBEq, cond_true, cond_false, lbind, room24 (show acc.length ≤ 1000 by omega)]
  rw [zaqv s p (c + 1) _ (by simp only [List.length_append, List.length_cons, List.length_nil]; omega)]
  simp [loA]
theorem zafl (s : Gs) (e : Gt) (p : List Gt) (h : p.length ≤ 900) : zbf s (e :: p) 0 [] 0 0 0 = some (.go ((e :: p).map loA, s.Fade.a0.Low, s.Fade.a1.Low, s.Fade.a2.Low)) := by
 simp only [zbf, show boundOk 3 = true from rfl, show Int.toNat (3 - 0) = 3 from rfl, zbj, Int.reduceAdd, Int.reduceBEq, cond_true, cond_false, lbind, room24 (show ([] : List Gi).length ≤ 1000 by simp)]
 rw [zaqv s p _ _ (by simp only [List.length_append, List.length_cons, List.length_nil]; omega)]
 simp [loA]
theorem zzt {s : Gs} (hs : ShOk s) : zeq s true = some (corT s) ∧ zeq s false = some (corF s) := by
 have hn := hs.n
 rcases hT : s.Tins with _ | ⟨e, p⟩
 ·rw [hT] at hn; simp at hn
 rw [hT] at hn
 simp only [List.length_cons] at hn
 unfold zeq corT corF
 rw [hT, zhh (by simp only [List.length_cons]; omega), zajs s e p (by omega), zafl s e p (by omega)]
 exact ⟨rfl, rfl⟩
theorem zaql {s : Gs} (hs : ShOk s) : TrOk s (corT s) := by
 refine ⟨by simp [corT], ⟨hs.yrs.2.1, Int.le_refl _⟩, fun p => ?_, fun i a c ha hc p => ?_⟩
 ·have := hs.fade p
  cases p <;> exact ⟨this.2.1, Int.le_refl _⟩
 ·have h1 : (s.Tins.map hiA)[i]? = some a := ha
  rw [List.getElem?_map, hc] at h1
  cases h1
  have := hs.tin c (List.mem_of_getElem? hc) p
  cases p <;> exact ⟨this.2.1, Int.le_refl _⟩
theorem zaqk {s : Gs} (hs : ShOk s) : TrOk s (corF s) := by
 refine ⟨by simp [corF], ⟨Int.le_refl _, hs.yrs.2.1⟩, fun p => ?_, fun i a c ha hc p => ?_⟩
 ·have := hs.fade p
  cases p <;> exact ⟨Int.le_refl _, this.2.1⟩
 ·have h1 : (s.Tins.map loA)[i]? = some a := ha
  rw [List.getElem?_map, hc] at h1
  cases h1
  have := hs.tin c (List.mem_of_getElem? hc) p
  cases p <;> exact ⟨Int.le_refl _, this.2.1⟩
theorem zadp (s : Gs) (mix : List Int) (p : P3) : sumT mix (corT s) p = (sumsP s mix p).High ∧ fadT s (corT s) p = (aimP s p).Low := by
 constructor
 ·show dot (fun a => selI a p) mix (s.Tins.map hiA) = dot (highT p) mix s.Tins
  rw [zun]
  congr 1
  funext a
  cases p <;> rfl
 ·cases p <;> rfl
theorem zafj (s : Gs) (mix : List Int) (p : P3) : sumT mix (corF s) p = (sumsP s mix p).Low ∧ fadT s (corF s) p = (aimP s p).High := by
 constructor
 ·show dot (fun a => selI a p) mix (s.Tins.map loA) = dot (lowT p) mix s.Tins
  rw [zun]
  congr 1
  funext a
  cases p <;> rfl
 ·cases p <;> rfl
theorem zaaf {s : Gs} (hs : ShOk s) {mix : List Int} (hm : MixOk s mix) : surelyB s mix = (trueB s mix (corT s) && trueB s mix (corF s)) := by
 rw [Bool.eq_iff_iff, Bool.and_eq_true, zit hs hm, zoc, zoc]
 have key : ∀ p, mostI s mix p ≤ s.Off * sumL mix ↔ absI (sumT mix (corT s) p - sumL mix * fadT s (corT s) p) ≤ s.Off * sumL mix ∧ absI (sumT mix (corF s) p - sumL mix * fadT s (corF s) p) ≤ s.Off * sumL mix := by
  intro p
  rw [(zadp s mix p).1, (zadp s mix p).2, (zafj s mix p).1, (zafj s mix p).2]
  have h1 := zaei hs hm p
  have h2 := zaae hs hm p
  unfold mostI absI
  split <;> split <;> split <;> omega
 constructor
 ·intro h
  exact ⟨fun p => ((key p).1 (h p)).1, fun p => ((key p).1 (h p)).2⟩
 ·rintro ⟨h1, h2⟩ p
  exact (key p).2 ⟨h1 p, h2 p⟩
theorem zys {s : Gs} {t : Gu} (h : TrOk s t) : truthB s t = true := by
 have hz : ∀ (qs : List Gi) (cs : List Gt), qs.length = cs.length → (∀ (i : Nat) a c, qs[i]? = some a → cs[i]? = some c → ∀ p, lowT p c ≤ selI a p ∧ selI a p ≤ highT p c) → zipB withinB qs cs = true := by
  intro qs
  induction qs with
  | nil =>
   intro cs hl _
   cases cs with
   | nil => rfl
   | cons c cs => simp at hl
  | cons a qs ih =>
   intro cs hl hh
   cases cs with
   | nil => simp at hl
   | cons c cs =>
    have h0 := hh 0 a c rfl rfl
    simp only [zipB, Bool.and_eq_true, withinB, zkb]
    exact ⟨⟨h0 .p0, h0 .p1, h0 .p2⟩, ih cs (by simpa using hl) fun i x y hx hy => hh (i + 1) x y (by simpa using hx) (by simpa using hy)⟩
 simp only [truthB, Bool.and_eq_true, decide_eq_true_eq, zkb, withinB]
 exact ⟨h.n, h.y, ⟨h.fade .p0, h.fade .p1, h.fade .p2⟩, hz _ _ h.n h.tin⟩
theorem word3 (s : Gs) (mix : List Int) : (wordI s mix == 3) = surelyB s mix := by
 unfold wordI
 cases surelyB s mix <;> cases (yearsL s mix).isEmpty <;> rfl
theorem zoj (s : Gs) (mix : List Int) (h : lenOk s.Tins = true) (hm : lenOk mix = true) : zfe s mix = some true := by
 unfold zfe
 obtain ⟨b, hb, hbo⟩ := zwz h hm
 rw [hb]
 cases b with
 | false => rfl
 | true =>
 obtain ⟨hs, hmx⟩ := hbo rfl
 have hn := hs.n
 have l1 : lenOk (corT s).Tins = true := zhh (by show (s.Tins.map hiA).length < _; rw [List.length_map]; omega)
 have l2 : lenOk (corF s).Tins = true := zhh (by show (s.Tins.map loA).length < _; rw [List.length_map]; omega)
 simp only [Option.bind_some, cond_true, (zzt hs).1, (zzt hs).2, zakr h, ztm h mix l1, ztm h mix l2, hs.ok, hmx.ok, zys (zaql hs), zys (zaqk hs), Bool.and_self, beq_self_eq_true, word3, zaaf hs hmx]
 cases trueB s mix (corT s) <;> cases trueB s mix (corF s) <;> rfl
end Go.V
end
