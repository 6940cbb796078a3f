/- Part of a proof. -/
import Derived.Test.YtmhlghgbfmcdaaaGreatDoorG1bk
set_option linter.all false
set_option maxRecDepth 4000
set_option maxHeartbeats 40000000
section
namespace Go.V
open Go Go.Proofs
theorem vr (a n b : Int) : j3 a n b = some (inB a b n) := csome _ _
theorem pC (n a b : Int) : gn n a b = some (inB a b n) := csome _ _
theorem KB (a b : Int) : ∀ (p : List Int) (c : Int), oL a b p c = goB (p.all (inB a b))
 | [], _ => rfl
 | e :: p, c => by simp only [oL, vr, Option.bind_some, KB a b p, List.all_cons, m3]
theorem GF {l : List Int} (hl : l.length < 9223372036854775808) (a b : Int) : m4 a l b = some (l.all (inB a b)) := by
 unfold m4
 rw [fU hl, cond_true, KB, kO]
 exact csome _ _ ▸ by cases l.all (inB a b) <;> rfl
def adjB : List Int → Bool
 | a :: b :: l => decide (a < b) && adjB (b :: l)
 | _ => true
theorem KC {ns : List Int} (hn : ns.length < 9223372036854775808) : ∀ (p : List Int) (c a : Int), 1 ≤ c → ns.drop (c - 1).toNat = a :: p → oO ns p c = goB (adjB (a :: p))
 | [], _, _, _, _ => rfl
 | e :: p, c, a, hc, hd => by
  have h1 := dv (by omega) hd
  have hb := (u5 h1).2
  have h2 := dw (by omega) hd
  simp only [oO]
  rw [gM (by omega) (by omega), h1, Option.bind_some, KC hn p (c + 1) e (by omega) (by rw [← h2]; congr 1; omega)]
  have ea : adjB (a :: e :: p) = (decide (a < e) && adjB (e :: p)) := rfl
  rw [ea, m3]
  by_cases h : e ≤ a
  ·rw [decide_eq_true h, decide_eq_false (Int.not_lt.2 h)]; rfl
  ·rw [decide_eq_false h, decide_eq_true (Int.not_le.1 h)]; rfl
theorem GG {l : List Int} (hl : l.length < 9223372036854775808) (a b : Int) : rW a l b = some (adjB l && l.all (inB a b)) := by
 unfold rW
 have hle : leB 0 1 = true := by decide
 rw [fU hl, cond_true, hle, cond_true, GF hl]
 cases l with
 | nil => rfl
 | cons x p =>
  have := KC hl p 1 x (Int.le_refl _) rfl
  simp only [Int.reduceToNat, List.drop_succ_cons, List.drop_zero]
  rw [this, kO, Option.bind_some]
  cases adjB (x :: p) <;> rfl
def strokeB (nb : Nat) (n : Int) (s : GBs) : Bool := inB 0 ((nb : Int) - 1) s.Board && ((inB 1 6 s.Hours.Low && inB s.Hours.Low 6 s.Hours.High) && (s.Needs.all (inB 0 (n - 1)) && adjB s.Needs))
def strokesB (nb : Nat) : Int → List GBs → Bool
 | _, [] => true
 | c, s :: l => strokeB nb c s && strokesB nb (c + 1) l
def benchB (b : GBk) : Bool := inB 0 3 b.Apprentices && ((inB 1 3 b.Boards.length && b.Boards.all (inB 0 60)) && (inB 1 6 b.Strokes.length && strokesB b.Boards.length 0 b.Strokes))
structure Len (b : GBk) : Prop where
 bo : b.Boards.length < 9223372036854775808
 st : b.Strokes.length < 9223372036854775808
 nd : ∀ s ∈ b.Strokes, s.Needs.length < 9223372036854775808
theorem GH (a b : Int) (x : GSpan) : rV a x b = some (inB a b x.Low && inB x.Low b x.High) := by
 unfold rV inB
 by_cases h1 : a ≤ x.Low <;> by_cases h2 : x.Low ≤ x.High <;> by_cases h3 : x.High ≤ b <;> by_cases h4 : x.Low ≤ b <;> simp [h1, h2, h3, h4] <;> omega
theorem KD {b : GBk} (hb : b.Boards.length < 9223372036854775808) : ∀ (p : List GBs) (c : Int), 0 ≤ c → c + p.length < 9223372036854775808 → (∀ s ∈ p, s.Needs.length < 9223372036854775808) → oS b p c = goB (strokesB b.Boards.length c p)
 | [], _, _, _, _ => rfl
 | s :: p, c, h0, h1, h2 => by
  simp only [List.length_cons] at h1
  have hs := h2 s (List.mem_cons_self ..)
  simp only [oS, uD, vr, Option.bind_some, GH]
  rw [gM (by omega) (by omega), gM (by omega) (by omega), GG hs, KD hb p (c + 1) (by omega) (by omega) (fun s hs => h2 s (List.mem_cons_of_mem _ hs))]
  simp only [strokesB, strokeB, m3, Option.bind_some]
  cases inB 0 ((b.Boards.length : Int) - 1) s.Board <;> cases inB 1 6 s.Hours.Low <;> cases inB s.Hours.Low 6 s.Hours.High <;> cases s.Needs.all (inB 0 (c - 1)) <;> cases adjB s.Needs <;> rfl
theorem z8 {b : GBk} (h : Len b) : jt b = some (benchB b) := by
 unfold jt benchB uC uF
 simp only [vr, Option.bind_some, GF h.bo]
 rw [fU h.st, cond_true, KD h.bo b.Strokes 0 (Int.le_refl _) (by have := h.st; omega) h.nd, kO]
 cases inB 0 3 b.Apprentices <;> cases inB 1 3 (b.Boards.length : Int) <;> cases b.Boards.all (inB 0 60) <;> cases inB 1 6 (b.Strokes.length : Int) <;> cases strokesB b.Boards.length 0 b.Strokes <;> rfl
def adjF (a : Option Int) : List Int → Bool
 | [] => true
 | e :: l => (match a with | some x => decide (x < e) | none => true) && adjF (some e) l
theorem KE : ∀ (l : List Int) (a : Int), adjF (some a) l = adjB (a :: l)
 | [], _ => rfl
 | e :: l, a => by unfold adjF adjB; rw [KE l e]
theorem GI (l : List Int) : adjF none l = adjB l := by
 cases l with
 | nil => rfl
 | cons e l => unfold adjF; rw [KE l e]; rfl
theorem KG {n : Int} (hn : -9223372036854775807 ≤ n) (GJ : n < 9223372036854775808) {s : GBs} (hl : s.Needs.length < 9223372036854775808) : ∀ (p : List Int) (c : Int) (a : Option Int), 0 ≤ c → s.Needs.drop c.toNat = p → (c = 0 ∧ a = none ∨ 0 < c ∧ getI s.Needs (c - 1) = a ∧ a ≠ none) →
  mK n s p c = goB (p.all (inB 0 (n - 1)) && adjF a p)
 | [], _, _, _, _, _ => rfl
 | e :: p, c, a, h0, hd, ha => by
  have h1 := dv h0 hd
  have hb := (u5 h1).2
  simp only [mK, pC, Option.bind_some]
  rw [gM (by omega) (by omega), KG hn GJ hl p (c + 1) (some e) (by omega) (dw h0 hd) (.inr ⟨by omega, by rw [show c + 1 - 1 = c by omega]; exact h1, by simp⟩)]
  simp only [List.all_cons, adjF]
  rcases ha with ⟨rfl, rfl⟩ | ⟨hc, ha, hne⟩
  ·cases inB 0 (n - 1) e <;> cases p.all (inB 0 (n - 1)) <;> cases adjF (some e) p <;> rfl
  ·rw [gM (by omega) (by omega), ha, decide_eq_true (show c > 0 from hc)]
   cases a with
   | none => exact absurd rfl hne
   | some x =>
    simp only [cond_true, Option.bind_some]
    by_cases h : e ≤ x
    ·rw [decide_eq_true h, decide_eq_false (Int.not_lt.2 h)]
     cases inB 0 (n - 1) e <;> simp [goB]
    ·rw [decide_eq_false h, decide_eq_true (Int.not_le.1 h)]
     cases inB 0 (n - 1) e <;> cases p.all (inB 0 (n - 1)) <;> cases adjF (some e) p <;> rfl
theorem QL {b : GBk} (h : Len b) {n : Int} {s : GBs} (hs : getI b.Strokes n = some s) : sc b n = some (strokeB b.Boards.length n s) := by
 have hb := u5 hs
 have hst := h.st
 have hl := h.nd s (BO hs)
 have hbo := h.bo
 unfold sc strokeB
 simp only [hs, Option.bind_some, pC]
 rw [gM (by omega) (by omega), fU hl, cond_true, KG (by omega) (by omega) hl s.Needs 0 none (Int.le_refl _) rfl (.inl ⟨rfl, rfl⟩), kO, GI]
 cases inB 0 ((b.Boards.length : Int) - 1) s.Board <;> cases inB 1 6 s.Hours.Low <;> cases inB s.Hours.Low 6 s.Hours.High <;> cases s.Needs.all (inB 0 (n - 1)) <;> cases adjB s.Needs <;> rfl
theorem KH : ∀ (p : List Int) (c : Int), oZ p c = goB (p.all (inB 0 60))
 | [], _ => rfl
 | e :: p, c => by simp only [oZ, pC, Option.bind_some, KH p, List.all_cons, m3]
theorem KI {b : GBk} (h : Len b) : ∀ (p : List GBs) (c : Int), 0 ≤ c → b.Strokes.drop c.toNat = p → oY b p c = goB (strokesB b.Boards.length c p)
 | [], _, _, _ => rfl
 | s :: p, c, h0, hd => by
  simp only [oY, QL h (dv h0 hd), Option.bind_some, KI h p (c + 1) (by omega) (dw h0 hd), strokesB, m3]
theorem GK {b : GBk} (h : Len b) : sh b = some (benchB b) := by
 unfold sh benchB
 simp only [pC, Option.bind_some]
 rw [fU h.bo, fU h.st, KH, KI h b.Strokes 0 (Int.le_refl _) rfl, kO, kO]
 cases inB 0 3 b.Apprentices <;> cases inB 1 3 (b.Boards.length : Int) <;> cases b.Boards.all (inB 0 60) <;> cases inB 1 6 (b.Strokes.length : Int) <;> cases strokesB b.Boards.length 0 b.Strokes <;> rfl
def planL (a : Int) : List GBs → List Int → Bool
 | s :: ss, h :: hs => (inB 0 a h && (h == 0 || !s.Round)) && planL a ss hs
 | _, _ => true
def planB (b : GBk) (pl : List Int) : Bool := decide (pl.length = b.Strokes.length) && planL b.Apprentices b.Strokes pl
def mayL : List GBs → List Int → Bool
 | s :: ss, h :: hs => (h == 0 || !s.Round) && mayL ss hs
 | _, _ => true
theorem KJ {a : Int} : ∀ (ss : List GBs) (hs : List Int), hs.length = ss.length → planL a ss hs = (hs.all (inB 0 a) && mayL ss hs)
 | [], [], _ => rfl
 | s :: ss, h :: hs, e => by
  simp only [planL, mayL, List.all_cons, KJ ss hs (by simpa using e)]
  cases inB 0 a h <;> cases hs.all (inB 0 a) <;> cases (h == 0 || !s.Round) <;> simp
theorem zB {b : GBk} {n h : Int} {s : GBs} (hs : getI b.Strokes n = some s) : jz b n h = some (h == 0 || !s.Round) := by
 unfold jz
 cases h == 0 <;> simp [hs]
theorem KK {b : GBk} : ∀ (p : List Int) (c : Int) (ss : List GBs), 0 ≤ c → b.Strokes.drop c.toNat = ss → p.length = ss.length → oV b p c = goB (mayL ss p)
 | [], _, [], _, _, _ => rfl
 | h :: p, c, s :: ss, h0, hd, hl => by
  simp only [oV, zB (dv h0 hd), Option.bind_some, KK p (c + 1) ss (by omega) (dw h0 hd) (by simpa using hl), mayL, m3]
theorem Iz {b : GBk} (h : Len b) (pl : List Int) : mi b pl = some (planB b pl) := by
 have hst := h.st
 unfold mi planB
 by_cases e : pl.length = b.Strokes.length
 ·have e1 : ((pl.length : Int) != (b.Strokes.length : Int)) = false := by simp [e]
  rw [e1, cond_false, GF (by omega), decide_eq_true e, KJ _ _ e, Option.bind_some, fU (by omega), cond_true, KK pl 0 b.Strokes (Int.le_refl _) rfl e, kO]
  cases pl.all (inB 0 b.Apprentices) <;> cases mayL b.Strokes pl <;> rfl
 ·have e1 : ((pl.length : Int) != (b.Strokes.length : Int)) = true := by simp; omega
  rw [e1, cond_true, decide_eq_false e]; rfl
theorem tv {b : GBk} : ∀ (p : List Int) (c : Int) (ss : List GBs), 0 ≤ c → b.Strokes.drop c.toNat = ss → p.length = ss.length → mT b p c = goB (planL b.Apprentices ss p)
 | [], _, [], _, _, _ => rfl
 | h :: p, c, s :: ss, h0, hd, hl => by
  simp only [mT, pC, dv h0 hd, Option.bind_some, tv p (c + 1) ss (by omega) (dw h0 hd) (by simpa using hl), planL, m3]
  have e : (h != 0) = !(h == 0) := rfl
  rw [e]
  cases inB 0 b.Apprentices h <;> cases s.Round <;> cases h == 0 <;> rfl
theorem GL {b : GBk} (h : Len b) (pl : List Int) : mU b pl = some (planB b pl) := by
 have hst := h.st
 unfold mU planB
 by_cases e : pl.length = b.Strokes.length
 ·have e1 : ((pl.length : Int) != (b.Strokes.length : Int)) = false := by simp [e]
  rw [e1, cond_false, decide_eq_true e, fU (by omega), cond_true, tv pl 0 b.Strokes (Int.le_refl _) rfl e, kO]
  cases planL b.Apprentices b.Strokes pl <;> rfl
 ·have e1 : ((pl.length : Int) != (b.Strokes.length : Int)) = true := by simp; omega
  rw [e1, cond_true, decide_eq_false e]; rfl
theorem GM {b : GBk} (h : Len b) (n : Int) : sj b n = some (inB 0 ((b.Strokes.length : Int) - 1) n) := by
 have := h.st
 unfold sj
 rw [pC, Option.bind_some, gM (by omega) (by omega)]
theorem QM {b : GBk} (h : Len b) (n : Int) : oE b n = some (inB 0 ((b.Strokes.length : Int) - 1) n) := by
 have := h.st
 unfold oE
 rw [vr, Option.bind_some, gM (by omega) (by omega)]
structure BOk (b : GBk) : Prop where
 ap : 0 ≤ b.Apprentices ∧ b.Apprentices ≤ 3
 nb : 1 ≤ b.Boards.length ∧ b.Boards.length ≤ 3
 bo : ∀ x ∈ b.Boards, 0 ≤ x ∧ x ≤ 60
 ns : 1 ≤ b.Strokes.length ∧ b.Strokes.length ≤ 6
 st : ∀ (i : Nat) s, b.Strokes[i]? = some s → strokeB b.Boards.length i s = true
theorem KL {nb : Nat} : ∀ (p : List GBs) (c : Int), strokesB nb c p = true ↔ ∀ (i : Nat) s, p[i]? = some s → strokeB nb (c + i) s = true
 | [], c => by simp [strokesB]
 | s :: p, c => by
  simp only [strokesB, Bool.and_eq_true, KL p]
  constructor
  ·rintro ⟨h1, h2⟩ i x hx
   cases i with
   | zero => simp at hx; subst hx; simpa using h1
   | succ i => have := h2 i x (by simpa using hx); rw [show c + (i + 1 : Nat) = c + 1 + i by omega]; exact this
  ·intro h
   refine ⟨by have := h 0 s rfl; simpa using this, fun i x hx => ?_⟩
   have := h (i + 1) x (by simpa using hx)
   rw [show c + (i + 1 : Nat) = c + 1 + i by omega] at this
   exact this
theorem oB {b : GBk} : benchB b = true ↔ BOk b := by
 unfold benchB
 simp only [Bool.and_eq_true, rC, List.all_eq_true, KL]
 constructor
 ·rintro ⟨h1, ⟨h2, h3⟩, h4, h5⟩
  exact ⟨h1, by omega, h3, by omega, fun i s hs => by have := h5 i s hs; simpa using this⟩
 ·rintro ⟨h1, h2, h3, h4, h5⟩
  exact ⟨h1, ⟨by omega, h3⟩, by omega, fun i s hs => by have := h5 i s hs; simpa using this⟩
structure SOk (nb : Nat) (n : Int) (s : GBs) : Prop where
 bo : 0 ≤ s.Board ∧ s.Board < nb
 hr : 1 ≤ s.Hours.Low ∧ s.Hours.Low ≤ s.Hours.High ∧ s.Hours.High ≤ 6
 nd : ∀ k ∈ s.Needs, 0 ≤ k ∧ k < n
 ad : adjB s.Needs = true
theorem QN {nb : Nat} {n : Int} {s : GBs} : strokeB nb n s = true ↔ SOk nb n s := by
 unfold strokeB
 simp only [Bool.and_eq_true, rC, List.all_eq_true]
 constructor
 ·rintro ⟨h1, ⟨h2, h3⟩, h4, h5⟩
  exact ⟨by omega, by omega, fun k hk => by have := h4 k hk; omega, h5⟩
 ·rintro ⟨h1, h2, h3, h4⟩
  exact ⟨by omega, ⟨by omega, by omega⟩, fun k hk => by have := h3 k hk; omega, h4⟩
theorem BOk.s {b : GBk} (h : BOk b) {i : Nat} {s : GBs} (hs : b.Strokes[i]? = some s) : SOk b.Boards.length i s := QN.1 (h.st i s hs)
structure POk (b : GBk) (pl : List Int) : Prop where
 len : pl.length = b.Strokes.length
 may : ∀ (i : Nat) s h, b.Strokes[i]? = some s → pl[i]? = some h → (0 ≤ h ∧ h ≤ b.Apprentices) ∧ (h = 0 ∨ s.Round = false)
theorem GN {a : Int} : ∀ (ss : List GBs) (hs : List Int), hs.length = ss.length → (planL a ss hs = true ↔ ∀ (i : Nat) s h, ss[i]? = some s → hs[i]? = some h → (0 ≤ h ∧ h ≤ a) ∧ (h = 0 ∨ s.Round = false))
 | [], [], _ => by simp [planL]
 | s :: ss, h :: hs, e => by
  simp only [planL, Bool.and_eq_true, GN ss hs (by simpa using e), rC, Bool.or_eq_true, beq_iff_eq, Bool.not_eq_true']
  constructor
  ·rintro ⟨h1, h2⟩ i x y hx hy
   cases i with
   | zero => simp at hx hy; subst hx hy; exact h1
   | succ i => exact h2 i x y (by simpa using hx) (by simpa using hy)
  ·intro hh
   exact ⟨hh 0 s h rfl rfl, fun i x y hx hy => hh (i + 1) x y (by simpa using hx) (by simpa using hy)⟩
theorem oC {b : GBk} {pl : List Int} : planB b pl = true ↔ POk b pl := by
 unfold planB
 simp only [Bool.and_eq_true, decide_eq_true_eq]
 constructor
 ·rintro ⟨h1, h2⟩; exact ⟨h1, (GN _ _ h1).1 h2⟩
 ·rintro ⟨h1, h2⟩; exact ⟨h1, (GN _ _ h1).2 h2⟩
end Go.V
end
section
namespace Go.V
open Go Go.Proofs
def stepsB (m : List Int → Int → Bool) (lim : Nat) : List Int → List Int → Bool
 | _, [] => true
 | p, j :: t => (decide (0 ≤ j) && decide (j < (lim : Int))) && (m p j && stepsB m lim (p ++ [j]) t)
theorem ux {m : List Int → Int → Bool} {lim : Nat} : ∀ (d : Nat) (p q : List Int), q ∈ listsB m lim d p ↔ ∃ t, q = p ++ t ∧ t.length = d ∧ stepsB m lim p t = true
 | 0, p, q => by
  rw [listsB, List.mem_singleton]
  constructor
  ·rintro rfl; exact ⟨[], by simp, rfl, rfl⟩
  ·rintro ⟨t, rfl, ht, _⟩
   rw [List.length_eq_zero_iff.1 ht, List.append_nil]
 | d + 1, p, q => by
  rw [listsB, List.mem_flatMap]
  constructor
  ·rintro ⟨i, hi, h⟩
   have hi' := (List.mem_range'_1.1 hi).2
   split at h
   ·rename_i hm
    obtain ⟨t, rfl, ht, hs⟩ := (ux d _ q).1 h
    exact ⟨(i : Int) :: t, by simp, by simp [ht], by simp only [stepsB, hm, hs, Bool.and_true, Bool.and_eq_true, decide_eq_true_eq]; omega⟩
   ·cases h
  ·rintro ⟨t, rfl, ht, hs⟩
   cases t with
   | nil => simp at ht
   | cons j t =>
    simp only [stepsB, Bool.and_eq_true, decide_eq_true_eq] at hs
    obtain ⟨⟨h0, h1⟩, h2, h3⟩ := hs
    refine ⟨j.toNat, List.mem_range'_1.2 ⟨Nat.zero_le _, by omega⟩, ?_⟩
    rw [show ((j.toNat : Nat) : Int) = j by omega, if_pos h2]
    exact (ux d _ _).2 ⟨t, by simp, by simpa using ht, h3⟩
section
variable {K V : Type} {q : K → K → Bool} {z : V}
def setR (q : K → K → Bool) (k : K) (v : V) : List (K × V) → List (K × V)
 | [] => [(k, v)]
 | e :: l => if q k e.1 then (k, v) :: l else e :: setR q k v l
theorem tw (k : K) : ∀ (es : List K) (i : Nat), kIdx q k es (i + 1) = (kIdx q k es i).map (· + 1)
 | [], _ => rfl
 | e :: es, i => by
  unfold kIdx
  cases q k e with
  | true => rfl
  | false => exact tw k es (i + 1)
theorem KM (k : K) (v : V) : ∀ l : List (K × V), mapSet q l k v = setR q k v l
 | [] => rfl
 | e :: l => by
  have ih := KM k v l
  unfold mapSet at ih ⊢
  rw [List.map_cons]
  unfold kIdx setR
  cases hq : q k e.1 with
  | true => rfl
  | false =>
   simp only [cond_false, Bool.false_eq_true, if_false]
   rw [tw]
   cases h : kIdx q k (l.map (·.1)) 0 with
   | none => rw [h] at ih; simpa using ih
   | some i => rw [h] at ih; simpa using ih
end
end Go.V
end
section
namespace Go.V
open Go Go.Proofs
def qX (aa : GBk) (ag : List Int) (ar : List Int) (l0 : List (Gbe × Int)) : Option ((GSpan) × List (Gbe × Int)) := Option.bind (vp aa ag ar 0 l0) (fun r1 => Option.bind (j1 r1.1) (fun r2 => Option.bind (vp aa ag ar 1 r1.2) (fun r3 => Option.bind (j1 r3.1) (fun r4 => some ((GSpan.mk r2 r4), r3.2)))))
theorem Iy (aa : GBk) (ag : List Int) (ar : List Int) (l0 : List (Gbe × Int)) (R : (GSpan) × List (Gbe × Int)) (h : qX aa ag ar l0 = some R) : VUpd Tryz.prog G0 70 (fun β => [.agg [.lit (.int .i64 aa.Apprentices), .sl (ae eI aa.Boards) (List.length aa.Boards) false, .sl (ae cGBs aa.Strokes) (List.length aa.Strokes) false, .sl (ae eI ag) (List.length ag) false, .mp β], .sl (ae eI ar) (List.length ar) false]) (encM aO bC l0) (encM aO bC R.2) (fun _ => .agg (cGSpan R.1)) := by
 intro bl nx hlt
 have aZ := fB (β := bl) (nx := nx) hlt
 refine aq.run mixed Tryz.call70 Tryz.func70 rfl (by simp [Tryz.ntmps70]; kernel_rfl) ?_
 obtain ⟨KF, h, kF, kN⟩ := cn h
 simp only [qX] at h
 simp only [vz, mq, mqm, vsi, tyf, mqt, aZ, nm, seval]
 refine kJ (fun tm => tm 1 = .sl (ae eI ar) (List.length ar) false ∧ tm 2 = .ptr nx 0 ∧ tm 4 = .ptr (nx + 1) 0 ∧ True) (by refine ⟨?_, ?_, ?_, trivial⟩ <;> first | (simp only [ua, b5, aZ, nm, seval] <;> rfl) | rfl) ?_
 rintro tm ⟨e5, e6, e7, _⟩
 obtain ⟨r8, o9, h⟩ := optI h kN
 try simp only [hs] at h
 simp only [vz, mq, mqm, vsi, tyf, mqt, aZ, e5, e6, e7, nm, seval]
 refine dkupd (VUpd.at (β := bl) (y := (fun _ => .sl (ae eI r8.1) (List.length r8.1) false)) (K9 _ _ _ _ _ _ o9) (by omega) (by first | rfl | assumption | (simp only [aX, b2, aZ, nm, seval] <;> rfl)) (by first | rfl | (simp only [nrm, aI, @bZ, @dW] <;> rfl)) (ez (fun _ => rfl) _)) ?_
 refine eV (fun tm => tm 1 = .sl (ae eI ar) (List.length ar) false ∧ tm 2 = .ptr nx 0 ∧ tm 4 = .ptr (nx + 1) 0 ∧ tm 7 = .sl (ae eI r8.1) (List.length r8.1) false ∧ True) (by refine ⟨e5, e6, e7, ?_, trivial⟩ <;> first | (simp only [ua, b5, aZ, e5, e6, e7, nm, seval] <;> rfl) | rfl) ?_
 rintro tm ⟨aY, br, bF, bz, _⟩
 obtain ⟨oQ, m5, h⟩ := optI h kN
 try simp only [hs] at h
 simp only [vz, mq, mqm, vsi, tyf, mqt, aZ, aY, br, bF, bz, nm, seval]
 refine dktree (args0 := [.sl (ae eI r8.1) (List.length r8.1) false]) (by first | (simp only [nrm, aI, @bZ] <;> rfl) | rfl) (by simp only [tre, tytre, mqr, Bool.and_self]) (rO _ _ m5) ?_
 refine bw (fun tm => tm 1 = .sl (ae eI ar) (List.length ar) false ∧ tm 2 = .ptr nx 0 ∧ tm 4 = .ptr (nx + 1) 0 ∧ tm 8 = .lit (.int .i64 oQ) ∧ True) (by refine ⟨aY, br, bF, ?_, trivial⟩ <;> first | (simp only [ua, b5, aZ, aY, br, bF, bz, nm, seval] <;> rfl) | rfl) ?_
 rintro tm ⟨bx, bu, bL, bN, _⟩
 obtain ⟨jF, lh, h⟩ := optI h kN
 try simp only [hs] at h
 simp only [vz, mq, mqm, vsi, tyf, mqt, aZ, bx, bu, bL, bN, nm, seval]
 refine dkupd (VUpd.at (β := bl) (y := (fun _ => .sl (ae eI jF.1) (List.length jF.1) false)) (K9 _ _ _ _ _ _ lh) (by omega) (by first | rfl | assumption | (simp only [aX, b2, aZ, nm, seval] <;> rfl)) (by first | rfl | (simp only [nrm, aI, @bZ, @dW] <;> rfl)) (ez (fun _ => rfl) _)) ?_
 refine eV (fun tm => tm 4 = .ptr (nx + 1) 0 ∧ tm 8 = .lit (.int .i64 oQ) ∧ tm 11 = .sl (ae eI jF.1) (List.length jF.1) false ∧ True) (by refine ⟨bL, bN, ?_, trivial⟩ <;> first | (simp only [ua, b5, aZ, bx, bu, bL, bN, nm, seval] <;> rfl) | rfl) ?_
 rintro tm ⟨bV, bM, b6, _⟩
 obtain ⟨ff, mG, h⟩ := optI h kN
 try simp only [hs] at h
 simp only [vz, mq, mqm, vsi, tyf, mqt, aZ, bV, bM, b6, nm, seval]
 refine dktree (args0 := [.sl (ae eI jF.1) (List.length jF.1) false]) (by first | (simp only [nrm, aI, @bZ] <;> rfl) | rfl) (by simp only [tre, tytre, mqr, Bool.and_self]) (rO _ _ mG) ?_
 refine bw (fun tm => tm 4 = .ptr (nx + 1) 0 ∧ tm 8 = .lit (.int .i64 oQ) ∧ tm 12 = .lit (.int .i64 ff) ∧ True) (by refine ⟨bV, bM, ?_, trivial⟩ <;> first | (simp only [ua, b5, aZ, bV, bM, b6, nm, seval] <;> rfl) | rfl) ?_
 rintro tm ⟨bp, cD, ca, _⟩
 simp only [vz, mq, mqm, vsi, tyf, mqt, aZ, bp, cD, ca, nm, seval]
 refine ia ⟨?_, ?_⟩
 ·simp only [ib, ic, dD, ig, and_true, true_and]
  repeat' (first | exact trivial | refine And.intro ?_ ?_ | rw [dD] | rw [ij] | exact Or.inl (by decide +kernel) | exact Or.inl (by dsimp only; decide +kernel) | (refine Or.inr ⟨?_, ?_⟩ <;> simp; done) | (refine Or.inr ⟨?_, ?_⟩ <;> simp <;> omega) | (refine Or.inr ⟨?_, ?_⟩ <;> simp [VEff.wr] <;> omega))
 try simp only [vz, mq, mqm, vsi, tyf, mqt, aZ, bp, cD, ca, nm, seval]
 refine bS (x := (.agg ([.lit (.int .i64 oQ)] ++ [.lit (.int .i64 ff)]))) (by first | (simp only [Tryz.results70, resV, resL, resV1, bX, bY, uw, cr, tyf, mqt, aZ, bp, cD, ca, nm, seval] <;> rfl) | rfl) ?_
 obtain rfl := kF _ h
 refine ⟨(by first | rfl | assumption | (simp only [aX, b2, aZ, nm, seval] <;> rfl)), ?_⟩
 exact sq_of (jg (by first | (simp only [tre, tytre, mqr, Bool.and_self]; done) | rfl) rfl)

theorem kupdF {P : Program} {G : Glob} {H : Nat → Option VObj} {f : FuncId} {args args' cs : List VV} {el : Option TypeId} {y : VV} {d : Option Tmp} {γ β g : Nat} {tm : Nat → VV} {nx : Nat} {df : List VDef} {K : St → Prop} {Qp : VV → St → Prop} {es' : List (Value × VV)} (hγ : H g = some (.cells el cs)) (ha : FrozenL H (without H g) args args')
  (hu : UpdC P G f args' (without H g) nx β es' y) (h : fin d γ tm (without H g) nx df K y (.upd β (.map es'))) : callK P G f args ⟨tm, H, nx, df⟩ d γ K Qp := by
 refine .inr (.inr ?_)
 unfold openK
 refine aq.mono (aq.freeze1 hγ ha hu.open) ?_ (fun _ _ _ h => h.elim)
 rintro v H2 dV ⟨rfl, rfl, rfl⟩
 rw [← c8 (K := K)] at h
 cases d <;> exact h


end Go.V
end
section
namespace Go.V
open Go Go.Proofs
theorem Len.of {b : GBk} (h : lenOk b.Boards = true ∧ lenOk b.Strokes = true ∧ ∀ y ∈ b.Strokes, lenOk y.Needs = true) : Len b := ⟨BN h.1, BN h.2.1, fun s hs => BN (h.2.2 s hs)⟩
theorem KN : ∀ (p : List GBs) (c : Int), mH p c = some (.go ()) ∨ mH p c = some (.ret false)
 | [], c => .inl rfl
 | s :: p, c => by
  simp only [mH]
  cases decide (c < 9) with
  | false => exact .inl rfl
  | true =>
   cases decide ((s.Needs.length : Int) > 8) with
   | true => exact .inr rfl
   | false => exact KN p (c + 1)
theorem QO {b : GBk} (h : Len b) : pf b = some false ∨ (pf b = some true ∧ BOk b) := by
 unfold pf uK
 rw [fU h.st, cond_true, GK h]
 rcases KN b.Strokes 0 with e | e
 ·rw [e]
  simp only [lbind]
  cases h1 : (decide ((b.Boards.length : Int) ≤ 5)) with
  | false => exact .inl rfl
  | true =>
   cases h2 : (decide ((b.Strokes.length : Int) ≤ 8)) with
   | false => exact .inl rfl
   | true =>
    cases h3 : benchB b with
    | false => exact .inl rfl
    | true => exact .inr ⟨rfl, oB.1 h3⟩
 ·rw [e]; exact .inl rfl
theorem BOk.len {b : GBk} (h : BOk b) (hl : ∀ s ∈ b.Strokes, s.Needs.length < 9223372036854775808) : Len b := ⟨by have := h.nb; omega, by have := h.ns; omega, hl⟩
structure HOk (n : Int) (s : GBs) : Prop where
 nd : ∀ k ∈ s.Needs, 0 ≤ k ∧ k < n
 ad : adjB s.Needs = true
 hr : 0 ≤ s.Hours.Low ∧ s.Hours.Low ≤ 15 ∧ 0 ≤ s.Hours.High ∧ s.Hours.High ≤ 15
structure BH (b : GBk) : Prop where
 ns : 1 ≤ b.Strokes.length ∧ b.Strokes.length ≤ 6
 s : ∀ {i : Nat} {s : GBs}, b.Strokes[i]? = some s → HOk i s
theorem BOk.h {b : GBk} (h : BOk b) : BH b := ⟨h.ns, fun hs => by have := h.s hs; have h2 := this.hr; exact ⟨this.nd, this.ad, by omega⟩⟩
def nF (b : GBk) (s : Nat) : List Int := match b.Strokes[s]? with | some x => x.Needs | none => []
def dF (b : GBk) (h : Int) (s : Nat) : Int := match b.Strokes[s]? with | some x => if h = 0 then x.Hours.Low else x.Hours.High | none => 0
def hF (pl : List Int) (s : Nat) : Int := (pl[s]?).getD 0
def EE (b : GBk) (pl : List Int) (h : Int) (s : Nat) : Int := Ed (hF pl) (nF b) (dF b h) s
def BB (b : GBk) (pl : List Int) (h : Int) (s : Nat) : Int := Bg (hF pl) (nF b) (dF b h) s
def FF (b : GBk) (pl : List Int) (h : Int) (s : Nat) : Int := frF (hF pl) (EE b pl h) (hF pl s) s
theorem BH.nd {b : GBk} (h : BH b) : NdOk (nF b) := by
 intro s k hk
 unfold nF at hk
 split at hk
 ·rename_i x hx
  have := (h.s hx).nd k hk
  omega
 ·cases hk
theorem BH.d {b : GBk} (h : BH b) (hr : Int) (s : Nat) : 0 ≤ dF b hr s ∧ dF b hr s ≤ 15 := by
 unfold dF
 split
 ·rename_i x hx
  have := (h.s hx).hr
  split <;> omega
 ·omega
theorem EE_b {b : GBk} (h : BH b) (pl : List Int) (hr : Int) {s : Nat} (hs : s < b.Strokes.length) : 0 ≤ EE b pl hr s ∧ EE b pl hr s ≤ 90 := by
 have h1 := Ed_nn (hd := hF pl) h.nd (fun k => (h.d hr k).1) s
 have h2 := BS (hd := hF pl) h.nd (h.d hr) s
 have := h.ns
 unfold EE
 omega
theorem EE_eq {b : GBk} (h : BH b) (pl : List Int) (hr : Int) (s : Nat) : EE b pl hr s = BB b pl hr s + dF b hr s := Ed_eq h.nd s
theorem BB_b {b : GBk} (h : BH b) (pl : List Int) (hr : Int) {s : Nat} (hs : s < b.Strokes.length) : 0 ≤ BB b pl hr s ∧ BB b pl hr s ≤ 90 := by
 have h1 := EE_b h pl hr hs
 have h2 := h.d hr s
 have h3 := Bg_nn (hd := hF pl) (nd := nF b) (d := dF b hr) s
 rw [EE_eq h] at h1
 have h3 : 0 ≤ BB b pl hr s := h3
 omega
theorem GO {b : GBk} (pl : List Int) (hr : Int) (s : Nat) : BB b pl hr s = max (max 0 (FF b pl hr s)) (mxL ((nF b s).map fun k => EE b pl hr k.toNat)) := rfl
def InvE (b : GBk) (pl : List Int) (l : List (Gbe × Int)) : Prop := ∀ p ∈ l, p.2 = EE b pl p.1.hours p.1.stroke.toNat
theorem InvE.nil {b : GBk} {pl : List Int} : InvE b pl [] := fun _ h => by cases h
theorem InvE.has {b : GBk} {pl : List Int} {l : List (Gbe × Int)} (h : InvE b pl l) {k : Gbe} (hk : mapHas cj l k = true) : mapGet cj 0 l k = EE b pl k.hours k.stroke.toNat := by
 unfold mapHas at hk
 unfold mapGet
 cases hi : kIdx cj k (l.map (·.1)) 0 with
 | none => rw [hi] at hk; cases hk
 | some i =>
  obtain ⟨_, e, he, hq⟩ := vg _ _ _ hi
  rw [Nat.sub_zero, List.getElem?_map] at he
  cases hg : l[i]? with
  | none => rw [hg] at he; cases he
  | some p =>
   rw [hg] at he
   simp only [Option.map_some, Option.some.injEq] at he
   have hpe := iO _ _ hq
   have hv := h p (List.mem_of_getElem? hg)
   rw [he, ← hpe] at hv
   simp only [hg, hv]
theorem tx {K V : Type} {q : K → K → Bool} {k : K} {v : V} : ∀ {l : List (K × V)} {p : K × V}, p ∈ setR q k v l → p ∈ l ∨ p.2 = v ∧ (p.1 = k ∨ q k p.1 = true)
 | [], p, h => by
  simp only [setR, List.mem_singleton] at h
  exact .inr ⟨by rw [h], .inl (by rw [h])⟩
 | a :: l, p, h => by
  unfold setR at h
  split at h
  ·rename_i hq
   rcases List.mem_cons.1 h with rfl | h
   ·exact .inr ⟨rfl, .inl rfl⟩
   ·exact .inl (List.mem_cons_of_mem _ h)
  ·rcases List.mem_cons.1 h with rfl | h
   ·exact .inl (List.mem_cons_self ..)
   ·exact (tx h).imp (List.mem_cons_of_mem _) id
theorem InvE.set {b : GBk} {pl : List Int} {l : List (Gbe × Int)} (h : InvE b pl l) (s hr : Int) : InvE b pl (mapSet cj l ⟨s, hr⟩ (EE b pl hr s.toNat)) := by
 intro p hp
 rw [KM] at hp
 rcases tx hp with hp | ⟨h1, h2⟩
 ·exact h p hp
 ·have e : p.1 = ⟨s, hr⟩ := by
   rcases h2 with h2 | h2
   ·exact h2
   ·exact (iO _ _ h2).symm
  rw [h1, e]
abbrev RC := GBk → List Int → Int → Int → List (Gbe × Int) → Option (Int × List (Gbe × Int))
def RcOk (rc : RC) (b : GBk) (pl : List Int) (h : Int) (n : Nat) : Prop := ∀ (k : Int) l, 0 ≤ k → k.toNat < n → InvE b pl l → ∃ l', rc b pl k h l = some (EE b pl h k.toNat, l') ∧ InvE b pl l'
theorem room8 {n : Nat} (h : n ≤ 1000) : roomOk 8 n = true := by simp [roomOk]; omega
theorem KO : ∀ (p : List Int) (i c : Int), p8 p i c = some (.go (p.foldl max c))
 | [], _, _ => rfl
 | e :: p, i, c => by
  simp only [p8, KO p, List.foldl_cons]
  have : (if c < e then e else c) = max c e := by split <;> omega
  rw [this]
theorem tz {l : List Int} (h : l.length < 9223372036854775808) : j1 l = some (mxL l) := by
 unfold j1
 rw [fU h, cond_true, KO]
 rfl
theorem getP {pl : List Int} {n : Nat} {s : Int} (hl : pl.length = n) (h0 : 0 ≤ s) (h1 : s.toNat < n) : getI pl s = some (hF pl s.toNat) := by
 unfold getI hF
 rw [if_pos h0, List.getElem?_eq_getElem (by omega)]
 rfl
theorem t0 {rc : RC} {b : GBk} {pl : List Int} {h : Int} {s : Int} {N : Nat} (hp : pl.length = N) (cZ : 0 ≤ s) (hs : s.toNat < N) (hN : N ≤ 6) (hrc : RcOk rc b pl h s.toNat) {l : List (Gbe × Int)} (hl : InvE b pl l) :
  ∀ (k0 k : Nat), k < k0 → k ≤ s.toNat → ∃ l', lbind (nz rc b pl s h l k0 ((k : Int) - 1)) (fun r => some r) (fun _ => some (0, l)) (fun _ _ => none) = some (frF (hF pl) (EE b pl h) (hF pl s.toNat) k, l') ∧ InvE b pl l'
 | 0, _, hk, _ => absurd hk (Nat.not_lt_zero _)
 | k0 + 1, 0, _, _ => by
  simp only [nz]
  rw [decide_eq_false (by omega), cond_false]
  exact ⟨l, rfl, hl⟩
 | k0 + 1, k + 1, hk, hks => by
  simp only [nz]
  rw [decide_eq_true (by omega), cond_true, getP hp (by omega) (by omega), getP hp cZ hs]
  have e : (((k + 1 : Nat) : Int) - 1).toNat = k := by omega
  simp only [Option.bind_some, e]
  unfold frF
  by_cases hh : hF pl k = hF pl s.toNat
  ·obtain ⟨l', e1, hl'⟩ := hrc (((k + 1 : Nat) : Int) - 1) l (by omega) (by omega) hl
   rw [show (hF pl k == hF pl s.toNat) = true by simpa using hh, cond_true, e1, if_pos hh, e]
   exact ⟨l', rfl, hl'⟩
  ·rw [show (hF pl k == hF pl s.toNat) = false by simpa using hh, cond_false, if_neg hh, gM (by omega) (by omega), show ((k + 1 : Nat) : Int) - 1 - 1 = (k : Int) - 1 by omega]
   exact t0 hp cZ hs hN hrc hl k0 k (by omega) (by omega)
theorem GP {rc : RC} {b : GBk} {pl : List Int} {h : Int} {s : Int} {N : Nat} (hp : pl.length = N) (cZ : 0 ≤ s) (hs : s.toNat < N) (hN : N ≤ 6) (hrc : RcOk rc b pl h s.toNat) {l : List (Gbe × Int)} (hl : InvE b pl l) :
  ∃ l', td rc b pl s h l = some (FF b pl h s.toNat, l') ∧ InvE b pl l' := by
 unfold td FF
 have := t0 hp cZ hs hN hrc hl 1000000 s.toNat (by omega) (Nat.le_refl _)
 rw [gM (by omega) (by omega)]
 rw [show ((s.toNat : Nat) : Int) - 1 = s - 1 by omega] at this
 exact this
theorem KP {rc : RC} {b : GBk} {pl : List Int} {h : Int} {n : Nat} (hrc : RcOk rc b pl h n) : ∀ (p : List Int) (i : Int) (acc : List Int) (l : List (Gbe × Int)), (∀ k ∈ p, 0 ≤ k ∧ k.toNat < n) → acc.length + p.length ≤ 1000 → InvE b pl l →
  ∃ l', jJ rc b pl h p i acc l = some (.go (acc ++ p.map (fun k => EE b pl h k.toNat), l')) ∧ InvE b pl l'
 | [], i, acc, l, _, _, hl => ⟨l, by simp [jJ], hl⟩
 | k :: p, i, acc, l, hk, hn, hl => by
  have h1 := hk k (List.mem_cons_self ..)
  obtain ⟨l1, e1, cG⟩ := hrc k l h1.1 h1.2 hl
  simp only [jJ, e1, Option.bind_some]
  rw [room8 (by simp at hn ⊢; omega), cond_true]
  obtain ⟨l2, e2, dh⟩ := KP hrc p (i + 1) (acc ++ [EE b pl h k.toNat]) l1 (fun k hk' => hk k (List.mem_cons_of_mem _ hk')) (by simp at hn ⊢; omega) cG
  exact ⟨l2, by rw [e2]; simp, dh⟩
theorem KQ {rc : RC} {b : GBk} {pl : List Int} {h : Int} {n : Nat} (hrc : RcOk rc b pl h n) {p : List Int} (hk : ∀ k ∈ p, 0 ≤ k ∧ k.toNat < n) (hn : p.length ≤ 1000) {l : List (Gbe × Int)} (hl : InvE b pl l) :
  ∃ l', p9 rc b pl p h l = some (p.map (fun k => EE b pl h k.toNat), l') ∧ InvE b pl l' := by
 obtain ⟨l', e, hl'⟩ := KP hrc p 0 [] l hk (by simpa using hn) hl
 unfold p9
 rw [fU (by omega), cond_true, e]
 exact ⟨l', rfl, hl'⟩
theorem KR : ∀ (l : List Int) (a : Int), adjB (a :: l) = true → ∀ m : Int, (∀ k ∈ a :: l, k < m) → (l.length : Int) < m - a
 | [], a, _, m, h => by have := h a (by simp); simp; omega
 | e :: l, a, h, m, hm => by
  have h' : (decide (a < e) && adjB (e :: l)) = true := h
  simp only [Bool.and_eq_true, decide_eq_true_eq] at h'
  have := KR l e h'.2 m (fun k hk => hm k (List.mem_cons_of_mem _ hk))
  simp only [List.length_cons]
  omega
theorem HOk.few {n : Int} {s : GBs} (h : HOk n s) (hn : n ≤ 6) : s.Needs.length ≤ 6 := by
 cases e : s.Needs with
 | nil => simp
 | cons a l =>
  have h1 := h.ad
  rw [e] at h1
  have := KR l a h1 n (fun k hk => (h.nd k (by rw [e]; exact hk)).2)
  have h2 := h.nd a (by rw [e]; simp)
  simp only [List.length_cons]
  omega
theorem getS {b : GBk} {s : Int} (h0 : 0 ≤ s) (h1 : s.toNat < b.Strokes.length) : ∃ x, getI b.Strokes s = some x ∧ b.Strokes[s.toNat]? = some x := by
 refine ⟨b.Strokes[s.toNat], ?_, List.getElem?_eq_getElem h1⟩
 unfold getI
 rw [if_pos h0, List.getElem?_eq_getElem h1]
theorem GQ {rc : RC} {b : GBk} (hb : BH b) {pl : List Int} (hp : pl.length = b.Strokes.length) {h : Int} {s : Int} (cZ : 0 ≤ s) (hs : s.toNat < b.Strokes.length) (hrc : RcOk rc b pl h s.toNat) {l : List (Gbe × Int)} (hl : InvE b pl l) :
  ∃ l', tf rc b pl s h l = some (BB b pl h s.toNat, l') ∧ InvE b pl l' := by
 have hns := hb.ns
 obtain ⟨x, e1, e2⟩ := getS cZ hs
 have hx := hb.s e2
 have hfew := hx.few (by omega)
 obtain ⟨l1, f1, cG⟩ := GP hp cZ hs (by omega) hrc hl
 obtain ⟨l2, f2, dh⟩ := KQ hrc (p := x.Needs) (fun k hk => by have := hx.nd k hk; omega) (by omega) cG
 unfold tf
 simp only [f1, e1, f2, Option.bind_some]
 rw [tz (by simp; omega)]
 simp only [Option.bind_some]
 rw [tz (by simp)]
 refine ⟨l2, ?_, dh⟩
 simp only [Option.bind_some, GO, nF, e2]
 rfl
theorem GR {b : GBk} {pl : List Int} {s : Int} (h0 : 0 ≤ s) (h1 : s.toNat < b.Strokes.length) : tg b pl s = some (dF b 0 s.toNat) := by
 obtain ⟨x, e1, e2⟩ := getS h0 h1
 simp [tg, e1, dF, e2]
theorem QP {b : GBk} {pl : List Int} {s : Int} (h0 : 0 ≤ s) (h1 : s.toNat < b.Strokes.length) : th b pl s = some (dF b 1 s.toNat) := by
 obtain ⟨x, e1, e2⟩ := getS h0 h1
 simp [th, e1, dF, e2]
theorem GS {rc : RC} {b : GBk} (hb : BH b) {pl : List Int} (hp : pl.length = b.Strokes.length) {h : Int} (hh : h = 0 ∨ h = 1) {s : Int} (cZ : 0 ≤ s) (hs : s.toNat < b.Strokes.length) (hrc : RcOk rc b pl h s.toNat) {l : List (Gbe × Int)} (hl : InvE b pl l) :
  ∃ l', tl rc b pl s h l = some (EE b pl h s.toNat, l') ∧ InvE b pl l' := by
 unfold tl
 cases hm : mapHas cj l ⟨s, h⟩ with
 | true =>
  rw [cond_true, hl.has hm]
  exact ⟨l, rfl, hl⟩
 | false =>
  obtain ⟨l1, e1, cG⟩ := GQ hb hp cZ hs hrc hl
  have h1 := BB_b hb pl h hs
  have h2 := hb.d h s.toNat
  rw [cond_false, e1, Option.bind_some]
  rcases hh with rfl | rfl
  ·rw [GR cZ hs]
   simp only [Option.bind_some, beq_self_eq_true, cond_true]
   rw [gM (by omega) (by omega), ← EE_eq hb]
   exact ⟨_, rfl, cG.set s 0⟩
  ·rw [QP cZ hs]
   simp only [Option.bind_some, beq_self_eq_true, cond_true, show ((1 : Int) == 0) = false from rfl, cond_false]
   rw [gM (by omega) (by omega), ← EE_eq hb]
   exact ⟨_, rfl, cG.set s 1⟩
theorem nE {b : GBk} (hb : BH b) {pl : List Int} (hp : pl.length = b.Strokes.length) {h : Int} (hh : h = 0 ∨ h = 1) : ∀ (f n : Nat), n ≤ f → n ≤ b.Strokes.length → RcOk (gEnd f) b pl h n
 | 0, n, hn, _ => fun k l h0 h1 hl => absurd h1 (by omega)
 | f + 1, n, hn, hnl => fun k l h0 h1 hl => GS hb hp hh h0 (by omega) (nE hb hp hh f k.toNat (by omega) (by omega)) hl
section
variable {b : GBk} (hb : BH b) {pl : List Int} (hp : pl.length = b.Strokes.length) {h : Int} (hh : h = 0 ∨ h = 1) {l : List (Gbe × Int)} (hl : InvE b pl l)
include hb hp hh hl
theorem GU {s : Int} (h0 : 0 ≤ s) (h1 : s.toNat < b.Strokes.length) : ∃ l', BJ b pl s h l = some (EE b pl h s.toNat, l') ∧ InvE b pl l' :=
 nE hb hp hh 8 b.Strokes.length (by have := hb.ns; omega) (Nat.le_refl _) s l h0 h1 hl
theorem KS {p : List Int} (hk : ∀ k ∈ p, 0 ≤ k ∧ k.toNat < b.Strokes.length) (hn : p.length ≤ 1000) : ∃ l', vp b pl p h l = some (p.map (fun k => EE b pl h k.toNat), l') ∧ InvE b pl l' :=
 KQ (nE hb hp hh 8 b.Strokes.length (by have := hb.ns; omega) (Nat.le_refl _)) hk hn hl
end
section
variable {b : GBk} (hb : BH b) {pl : List Int} (hp : pl.length = b.Strokes.length) {l : List (Gbe × Int)} (hl : InvE b pl l)
include hb hp hl
theorem z6 {p : List Int} (hk : ∀ k ∈ p, 0 ≤ k ∧ k.toNat < b.Strokes.length) (hn : p.length ≤ 1000) : ∃ l', qX b pl p l = some (⟨mxL (p.map fun k => EE b pl 0 k.toNat), mxL (p.map fun k => EE b pl 1 k.toNat)⟩, l') ∧ InvE b pl l' := by
 obtain ⟨l1, e1, cG⟩ := KS hb hp (.inl rfl) hl hk hn
 obtain ⟨l2, e2, dh⟩ := KS hb hp (.inr rfl) cG hk hn
 unfold qX
 simp only [e1, Option.bind_some]
 rw [tz (by simp; omega)]
 simp only [e2, Option.bind_some]
 rw [tz (by simp; omega)]
 exact ⟨l2, rfl, dh⟩
end
theorem t4 {b : GBk} (hb : BH b) {pl : List Int} (hp : pl.length = b.Strokes.length) : ∀ (p : List GBs) (i : Nat) (l : List (Gbe × Int)), i + p.length = b.Strokes.length → InvE b pl l →
  ∃ l', mz b pl p i (tkF (EE b pl 1) i) l = some (.go (tkF (EE b pl 1) b.Strokes.length, l')) ∧ InvE b pl l'
 | [], i, l, hi, hl => ⟨l, by simp at hi; subst hi; rfl, hl⟩
 | s :: p, i, l, hi, hl => by
  simp only [List.length_cons] at hi
  obtain ⟨l1, e1, cG⟩ := GU hb hp (.inr rfl) hl (s := i) (by omega) (by omega)
  simp only [mz, e1, Option.bind_some]
  rw [tz (by simp)]
  obtain ⟨l2, e2, dh⟩ := t4 hb hp p (i + 1) l1 (by omega) cG
  refine ⟨l2, ?_, dh⟩
  rw [← e2]
  simp only [Option.bind_some, mxL, List.foldl_cons, List.foldl_nil, Int.toNat_natCast]
  have h1 := rS (EE b pl 1) i
  congr 1
  show max (max 0 (tkF (EE b pl 1) i)) (EE b pl 1 i) = max (tkF (EE b pl 1) i) (EE b pl 1 i)
  rw [Int.max_eq_right h1]
def TK (b : GBk) (pl : List Int) : Int := tkF (EE b pl 1) b.Strokes.length
theorem rq {b : GBk} (hb : BH b) {pl : List Int} (hp : pl.length = b.Strokes.length) {l : List (Gbe × Int)} (hl : InvE b pl l) : ∃ l', m2 b pl l = some (TK b pl, l') ∧ InvE b pl l' := by
 obtain ⟨l', e, hl'⟩ := t4 hb hp b.Strokes 0 l (by simp) hl
 unfold m2
 rw [fU (by have := hb.ns; omega), cond_true]
 have e' : mz b pl b.Strokes 0 0 l = _ := e
 rw [e']
 exact ⟨l', rfl, hl'⟩
end Go.V
end
section
namespace Go.V
open Go Go.Proofs
theorem aq.atR {P : Program} {G : Glob} {x : Option (Option Nat)} {f : FuncId} {args : List VV} {H : Nat → Option VObj} {nx : Nat} {R Rp : VV → (Nat → Option VObj) → Nat → Prop} (h : aq P G f args H nx R Rp) : aq P (G.at x) f args H nx R Rp := h
def plM (b : GBk) (p : List Int) (δ : Nat) : VV := .agg [.lit (.int .i64 b.Apprentices), .sl (ae eI b.Boards) (List.length b.Boards) false, .sl (ae cGBs b.Strokes) (List.length b.Strokes) false, .sl (ae eI p) (List.length p) false, .mp δ]
theorem iz {b : GBk} {p : List Int} {δ : Nat} : plM b p δ = .agg [.lit (.int .i64 b.Apprentices), .sl (ae eI b.Boards) (List.length b.Boards) false, .sl (ae cGBs b.Strokes) (List.length b.Strokes) false, .sl (ae eI p) (List.length p) false, .mp δ] := rfl
theorem QQ {b : GBk} {p q : List Int} {δ δ' nx : Nat} {H : Nat → Option VObj} {la lb : List (Gbe × Int)} {Ra Rb : Int × List (Gbe × Int)} (ha : m2 b p la = some Ra) (hb : m2 b q lb = some Rb) (h1 : δ < nx) (h2 : δ' < nx) (hne : δ ≠ δ')
    (Hδ : H δ = some (.map (encM aO bC la))) (Hδ' : H δ' = some (.map (encM aO bC lb))) :
    aq Tryz.prog G0 114 [plM b p δ, plM b q δ'] H nx (fun x H' nx' => x = .lit (.bool (decide (Ra.1 < Rb.1))) ∧ nx ≤ nx' ∧ H' δ = some (.map (encM aO bC Ra.2)) ∧ H' δ' = some (.map (encM aO bC Rb.2)) ∧ ∀ γ, γ < nx → γ ≠ δ → γ ≠ δ' → H' γ = H γ) (fun _ _ _ => False) := by
  have q1 := fB h1
  have q2 := fB h2
  have q3 := ne_f hne
  have q4 := ne_f (Ne.symm hne)
  refine aq.run mixed Tryz.call114 Tryz.func114 rfl (by simp [Tryz.ntmps114]; kernel_rfl) ?_
  simp only [iz, vz, mq, mqm, vsi, tyf, mqt, q1, q2, q3, q4, Hδ, Hδ', nm, seval, ua]
  refine kJ (fun tm => tm 2 = .ptr nx 0 ∧ tm 3 = .ptr (nx + 1) 0) (by refine ⟨?_, ?_⟩ <;> first | (simp only [ua, Nat.add_zero, nm, seval]; done) | rfl) ?_
  rintro tm ⟨e2, e3⟩
  simp only [vz, mq, mqm, vsi, tyf, mqt, q1, q2, q3, q4, Hδ, Hδ', e2, e3, nm, seval, ua]
  refine dkupd (VUpd.at (β := δ) (y := (fun _ => .lit (.int .i64 Ra.1))) (uu _ _ _ _ ha) (by omega) (by first | rfl | assumption | (simp only [aX, b2, q1, q2, q3, q4, Hδ, Hδ', nm, seval] <;> rfl)) (by first | rfl | (simp only [nrm, aI, @bZ, @dW] <;> rfl)) (ez (fun _ => rfl) _)) ?_
  refine eV (fun tm => tm 2 = .ptr nx 0 ∧ tm 3 = .ptr (nx + 1) 0 ∧ tm 6 = .lit (.int .i64 Ra.1)) (by refine ⟨?_, ?_, ?_⟩ <;> first | (simp only [ua, b5, q1, q2, q3, q4, e2, e3, nm, seval] <;> rfl) | rfl) ?_
  clear e2 e3 tm
  rintro tm ⟨e2, e3, e6⟩
  simp only [vz, mq, mqm, vsi, tyf, mqt, q1, q2, q3, q4, Hδ, Hδ', e2, e3, e6, nm, seval, ua]
  refine dkupd (VUpd.at (β := δ') (y := (fun _ => .lit (.int .i64 Rb.1))) (uu _ _ _ _ hb) (by omega) (by first | rfl | assumption | (simp only [aX, b2, q1, q2, q3, q4, Hδ, Hδ', nm, seval] <;> rfl)) (by first | rfl | (simp only [nrm, aI, @bZ, @dW] <;> rfl)) (ez (fun _ => rfl) _)) ?_
  refine eV (fun tm => tm 2 = .ptr nx 0 ∧ tm 3 = .ptr (nx + 1) 0 ∧ tm 6 = .lit (.int .i64 Ra.1) ∧ tm 8 = .lit (.int .i64 Rb.1)) (by refine ⟨?_, ?_, ?_, ?_⟩ <;> first | (simp only [ua, b5, q1, q2, q3, q4, e2, e3, e6, nm, seval] <;> rfl) | rfl) ?_
  clear e2 e3 e6 tm
  rintro tm ⟨e2, e3, e6, e8⟩
  simp only [vz, mq, mqm, vsi, tyf, mqt, q1, q2, q3, q4, Hδ, Hδ', e2, e3, e6, e8, nm, seval, ua]
  refine ia ⟨?_, ?_⟩
  · simp only [ib, ic, dD, ig, and_true, true_and]
    repeat' (first | exact trivial | refine And.intro ?_ ?_ | rw [dD] | rw [ij] | exact Or.inl (by decide +kernel) | exact Or.inl (by dsimp only; decide +kernel) | (refine Or.inr ⟨?_, ?_⟩ <;> simp; done) | (refine Or.inr ⟨?_, ?_⟩ <;> simp <;> omega) | (refine Or.inr ⟨?_, ?_⟩ <;> simp [VEff.wr] <;> omega))
  simp only [vz, mq, mqm, vsi, tyf, mqt, q1, q2, q3, q4, Hδ, Hδ', e2, e3, e6, e8, nm, seval, ua]
  refine bS (x := .lit (.bool (decide (Ra.1 < Rb.1)))) (by first | (simp only [Tryz.results114, resV, resL, resV1, bX, bY, uw, cr, tyf, nm, seval] <;> rfl) | rfl) ?_
  refine ⟨rfl, (show nx ≤ nx + 9 by omega), ?_, ?_, ?_⟩
  · rw [aX, if_neg hne, aX, if_pos rfl]
  · rw [aX, if_pos rfl]
  · intro γ h3 h4 h5
    rw [aX, if_neg h5, aX, if_neg h4, aX, if_neg (by omega), aX, if_neg (by omega)]
def bestP (tk : List Int → Int) : List (List Int) → Option (List Int) → Option (List Int)
  | [], a => a
  | x :: L, none => bestP tk L (some x)
  | x :: L, some r => bestP tk L (if tk x < tk r then some x else some r)
def TakesOk (b : GBk) (L : List (List Int)) (tk : List Int → Int) : Prop := ∀ p ∈ L, ∀ l, InvE b p l → ∃ l', m2 b p l = some (tk p, l') ∧ InvE b p l'
def cPl (b : GBk) (p : List Int) (δ : Nat) : List VV := [.lit (.int .i64 b.Apprentices), .sl (ae eI b.Boards) (List.length b.Boards) false, .sl (ae cGBs b.Strokes) (List.length b.Strokes) false, .sl (ae eI p) (List.length p) false, .mp δ]
theorem nG {b : GBk} {p : List Int} {δ : Nat} : cPl b p δ = [.lit (.int .i64 b.Apprentices), .sl (ae eI b.Boards) (List.length b.Boards) false, .sl (ae cGBs b.Strokes) (List.length b.Strokes) false, .sl (ae eI p) (List.length p) false, .mp δ] := rfl
theorem QR {b : GBk} {itv : VV} {L : List (List Int)} {tk : List Int → Int} {R : List Int} (hit : IterM Tryz.prog G0 itv (L.map (plV b))) (hT : TakesOk b L tk) (hR : bestP tk L none = some R) (H0 : Nat → Option VObj) (nx : Nat) :
    aq Tryz.prog G0 113 [itv, .fn (.func 114) [] []] H0 nx (fun x H' nx' => nx ≤ nx' ∧ (∀ γ, γ < nx → H' γ = H0 γ) ∧ ∃ δ l, x = .tup [plM b R δ, .lit (.bool true)] ∧ nx ≤ δ ∧ δ < nx' ∧ H' δ = some (.map (encM aO bC l)) ∧ InvE b R l) (fun _ _ _ => False) := by
  refine aq.run mixed Tryz.call113 Tryz.func113 rfl (by simp [Tryz.ntmps113]; kernel_rfl) ?_
  simp only [vz, mq, mqm, vsi, tyf, mqt, seval, ua, rg, nm]
  refine uj (fun tm => tm 9 = itv ∧ tm 3 = .ptr nx 0 ∧ tm 4 = .ptr (nx + 1) 0 ∧ tm 6 = .ptr (nx + 3) 0 ∧ tm 7 = .ptr (nx + 4) 0) (by refine ⟨?_, ?_, ?_, ?_, ?_⟩ <;> first | (simp only [ua, Nat.add_zero, nm, seval]; done) | rfl) ?_
  rintro tm ⟨e9, e3, e4, e6, e7⟩
  refine QC hit (by first | (simp only [iJ, so, e9, pj, seval] <;> rfl) | rfl) ?_
  intro LO hLO
  obtain ⟨J, hJ⟩ : ∃ J : Option (List VV) → List (Nat × VObj) → Prop, J = (fun o hp => match o with
    | some l => ∃ (p : List (List Int)) (a : Option (List Int)), l = p.map (plV b) ∧ (∀ q ∈ p, q ∈ L) ∧ bestP tk p a = some R ∧
        ((a = none ∧ hp = [(nx + 7, .deferred (some [])), (nx + 8, LO), (nx, .cells (some 129) [.fn (.func 114) [] []]), (nx + 1, .cells (some 92) [.lit (.int .i64 0), .lit (.slice none 0 0), .lit (.slice none 0 0), .lit (.slice none 0 0), .lit (.map none)]), (nx + 3, .cells (some 92) [.lit (.int .i64 0), .lit (.slice none 0 0), .lit (.slice none 0 0), .lit (.slice none 0 0), .lit (.map none)]), (nx + 4, .cells (some 4) [.lit (.bool false)])]) ∨
         ∃ r δ lr, a = some r ∧ r ∈ L ∧ (nx ≤ δ ∧ δ ≠ nx ∧ δ ≠ nx + 1 ∧ δ ≠ nx + 3 ∧ δ ≠ nx + 4 ∧ δ ≠ nx + 7 ∧ δ ≠ nx + 8) ∧ InvE b r lr ∧ hp = [(nx + 7, .deferred (some [])), (nx + 8, LO), (nx, .cells (some 129) [.fn (.func 114) [] []]), (nx + 1, .cells (some 92) [.lit (.int .i64 0), .lit (.slice none 0 0), .lit (.slice none 0 0), .lit (.slice none 0 0), .lit (.map none)]), (nx + 3, .cells (some 92) (cPl b r δ)), (nx + 4, .cells (some 4) [.lit (.bool true)]), (δ, .map (encM aO bC lr))])
    | none => False) := ⟨_, rfl⟩
  obtain ⟨I, hI⟩ : ∃ I : Inv, I = (fun o Fr H n => (nx + 9 ≤ n ∧ ∀ γ, γ < nx → ¬ Fr γ ∧ H γ = H0 γ) ∧ ownI J o Fr H n) := ⟨_, rfl⟩
  have hst : Stable I := by
    rw [hI]
    rintro o Fr nv H H1 n n1 ⟨⟨h0, h1⟩, h2⟩ h3 h4 h5
    refine ⟨⟨by omega, fun γ hγ => ?_⟩, Pe _ _ _ _ _ _ _ h2 h3 h4 h5⟩
    obtain ⟨k1, k2⟩ := h1 γ hγ
    refine ⟨fun hf => ?_, (h3 γ (by omega) k1).trans k2⟩
    rcases h5 γ hf with hf | hf
    · exact k1 hf
    · omega
  refine ⟨I, hst, ?_, ?_, ?_⟩
  · rintro v rest Fr H n δe hFr hδe hnδ hHδ hi
    rw [hI] at hi
    obtain ⟨⟨vt, hfr⟩, hp, hown, hj⟩ := hi
    rw [hJ] at hj
    obtain ⟨p, a, hl, hpL, hbp, hcase⟩ := hj
    cases p with
    | nil => cases hl
    | cons e p =>
    simp only [List.map_cons, List.cons.injEq, plV, VV.agg.injEq] at hl
    obtain ⟨rfl, rfl⟩ := hl
    have heL := hpL e (List.mem_cons_self ..)
    have hpL' : ∀ q ∈ p, q ∈ L := fun q hq => hpL q (List.mem_cons_of_mem _ hq)
    rcases hcase with ⟨rfl, rfl⟩ | ⟨r, δ, lr, rfl, hrL, hδ9, hinv, rfl⟩
    · obtain ⟨l7, n7, H7⟩ := hown.head
      obtain ⟨l8, n8, H8⟩ := hown.tail.head
      obtain ⟨l0, n0, H0'⟩ := hown.tail.tail.head
      obtain ⟨l1, n1, H1⟩ := hown.tail.tail.tail.head
      obtain ⟨l3, n3, H3⟩ := hown.tail.tail.tail.tail.head
      obtain ⟨l4, n4, H4⟩ := hown.tail.tail.tail.tail.tail.head
      simp only [not_or] at n7 n8 n0 n1 n3 n4
      refine DQ mixed (psl := [10]) hLO H8 DL rfl (by kernel_rfl) (by kernel_rfl) ?_
      intro LB LD hLB hLD
      refine DM (fun tm => tm 10 = plM b e δe ∧ tm 3 = .ptr nx 0 ∧ tm 4 = .ptr (nx + 1) 0 ∧ tm 6 = .ptr (nx + 3) 0 ∧ tm 7 = .ptr (nx + 4) 0) (by refine ⟨?_, ?_, ?_, ?_, ?_⟩ <;> first | (simp only [DJ, DK, Tryz.ntmps113, e3, e4, e6, e7, seval]; done) | rfl) ?_
      clear e9 e3 e4 e6 e7
      rintro tm ⟨aY, e3, e4, e6, e7⟩
      have nb := kK (a := nx) (m := 9) (b := n) vt
      simp only [iz] at aY
      simp only [vz, mq, mqm, vsi, tyf, mqt, seval, ua, nm, rg, RStart, aY, e3, e4, e6, e7, H8, H0', H1, H3, H4, nb, Bool.not_false]
      simp only [bestP] at hbp
      have hδn : nx ≤ δe := Nat.le_of_not_lt fun hh => (hfr δe hh).1 (.inr rfl)
      have hδe9 : nx ≤ δe ∧ δe ≠ nx ∧ δe ≠ nx + 1 ∧ δe ≠ nx + 3 ∧ δe ≠ nx + 4 ∧ δe ≠ nx + 7 ∧ δe ≠ nx + 8 := ⟨hδn, Ne.symm n0.2, Ne.symm n1.2, Ne.symm n3.2, Ne.symm n4.2, Ne.symm n7.2, Ne.symm n8.2⟩
      refine ⟨by simp only [aX, nb, nm, seval], (show n ≤ n + 13 by omega), fun γ hγ => ?_, ?_⟩
      · have := hFr γ hγ
        have g8 : γ ≠ nx + 8 := fun e => n8.1 (e ▸ hγ)
        have g3 : γ ≠ nx + 3 := fun e => n3.1 (e ▸ hγ)
        have g4 : γ ≠ nx + 4 := fun e => n4.1 (e ▸ hγ)
        simp only [updH]
        repeat rw [if_neg (by first | assumption | omega)]
      · rw [hI]
        simp only [if_true]
        refine ⟨⟨(show nx + 9 ≤ n + 13 by omega), fun γ hγ => ⟨fun hf => (hfr γ hγ).1 (.inl hf), ?_⟩⟩, ?_⟩
        · rw [← (hfr γ hγ).2]
          simp only [updH]
          repeat rw [if_neg (by omega)]
        · refine ⟨[(nx + 7, .deferred (some [])), (nx + 8, LO), (nx, .cells (some 129) [.fn (.func 114) [] []]), (nx + 1, .cells (some 92) [.lit (.int .i64 0), .lit (.slice none 0 0), .lit (.slice none 0 0), .lit (.slice none 0 0), .lit (.map none)]), (nx + 3, .cells (some 92) (cPl b e δe)), (nx + 4, .cells (some 4) [.lit (.bool true)]), (δe, .map (encM aO bC []))], Own.cons (show nx + 7 < n + 13 by omega) n7.1 ?_ (Own.cons (show nx + 8 < n + 13 by omega) n8.1 ?_ (Own.cons (show nx < n + 13 by omega) n0.1 ?_ (Own.cons (show nx + 1 < n + 13 by omega) n1.1 ?_ (Own.cons (show nx + 3 < n + 13 by omega) n3.1 ?_ (Own.cons (show nx + 4 < n + 13 by omega) n4.1 ?_ (Own.cons (show δe < n + 13 by omega) hnδ ?_ Own.nil)))))), ?_⟩
          rotate_right
          · rw [hJ]
            exact ⟨p, some e, rfl, hpL', hbp, .inr ⟨e, δe, [], rfl, heL, hδe9, InvE.nil, rfl⟩⟩
          · simp only [aX, nb, nm, seval, H7]
          · simp only [aX, nb, nm, seval]
          · simp only [aX, nb, nm, seval, H0']
          · simp only [aX, nb, nm, seval, H1]
          · simp only [aX, nb, nm, seval]; rfl
          · simp only [aX, nb, nm, seval]
          · simp only [updH]
            repeat rw [if_neg (by omega)]
            rw [hHδ, b5]
    · obtain ⟨l7, n7, H7⟩ := hown.head
      obtain ⟨l8, n8, H8⟩ := hown.tail.head
      obtain ⟨l0, n0, H0'⟩ := hown.tail.tail.head
      obtain ⟨l1, n1, H1⟩ := hown.tail.tail.tail.head
      obtain ⟨l3, n3, H3⟩ := hown.tail.tail.tail.tail.head
      obtain ⟨l4, n4, H4⟩ := hown.tail.tail.tail.tail.tail.head
      obtain ⟨ld, nd, Hd⟩ := hown.tail.tail.tail.tail.tail.tail.head
      simp only [not_or] at n7 n8 n0 n1 n3 n4 nd
      refine DQ mixed (psl := [10]) hLO H8 DL rfl (by kernel_rfl) (by kernel_rfl) ?_
      intro LB LD hLB hLD
      refine DM (fun tm => tm 10 = plM b e δe ∧ tm 3 = .ptr nx 0 ∧ tm 4 = .ptr (nx + 1) 0 ∧ tm 6 = .ptr (nx + 3) 0 ∧ tm 7 = .ptr (nx + 4) 0) (by refine ⟨?_, ?_, ?_, ?_, ?_⟩ <;> first | (simp only [DJ, DK, Tryz.ntmps113, e3, e4, e6, e7, seval]; done) | rfl) ?_
      clear e9 e3 e4 e6 e7
      rintro tm ⟨aY, e3, e4, e6, e7⟩
      have nb := kK (a := nx) (m := 9) (b := n) vt
      simp only [iz] at aY
      rw [nG] at H3
      have hδn : nx ≤ δe := Nat.le_of_not_lt fun hh => (hfr δe hh).1 (.inr rfl)
      have hδe9 : nx ≤ δe ∧ δe ≠ nx ∧ δe ≠ nx + 1 ∧ δe ≠ nx + 3 ∧ δe ≠ nx + 4 ∧ δe ≠ nx + 7 ∧ δe ≠ nx + 8 := ⟨hδn, Ne.symm n0.2, Ne.symm n1.2, Ne.symm n3.2, Ne.symm n4.2, Ne.symm n7.2, Ne.symm n8.2⟩
      obtain ⟨le, ee, ie⟩ := hT e heL [] InvE.nil
      obtain ⟨lr', er, ir⟩ := hT r hrL lr hinv
      simp only [bestP] at hbp
      have hδδ : δe ≠ δ := Ne.symm nd.2
      simp only [vz, mq, mqm, vsi, tyf, mqt, seval, ua, nm, rg, RStart, aY, e3, e4, e6, e7, H8, H0', H1, H3, H4, nb, @kq, Bool.not_true]
      refine kopen ?_
      rw [ja]
      generalize hHH : updH (updH (updH H (n + 0) (VObj.cells (some 92) [.lit (.int .i64 0), .lit (.slice none 0 0), .lit (.slice none 0 0), .lit (.slice none 0 0), .lit (.map none)])) (n + 0) (VObj.cells (some 92) [.lit (.int .i64 b.Apprentices), .sl (ae eI b.Boards) (List.length b.Boards) false, .sl (ae cGBs b.Strokes) (List.length b.Strokes) false, .sl (ae eI e) (List.length e) false, .mp δe])) (nx + 8) LB = HH
      have hδe' : HH δe = some (.map (encM aO bC [])) := by
        rw [← hHH]
        simp only [updH]
        repeat rw [if_neg (by omega)]
        rw [hHδ, b5]
      have hδ' : HH δ = some (.map (encM aO bC lr)) := by
        rw [← hHH]
        simp only [updH]
        repeat rw [if_neg (by omega)]
        exact Hd
      refine aq.mono (aq.atR (QQ (b := b) (p := e) (q := r) ee er (show δe < n + 10 by omega) (show δ < n + 10 by omega) hδδ hδe' hδ')) ?_ (fun _ _ _ h => h.elim)
      rintro v H2 n2 ⟨rfl, g1, g2, g3, g4⟩
      have K8 : H2 (nx + 8) = some LB := by
        rw [g4 _ (by omega) (by omega) (by omega), ← hHH]
        simp only [updH]
        simp
      have K7 : H2 (nx + 7) = some (.deferred (some [])) := by
        rw [g4 _ (by omega) (by omega) (by omega), ← hHH]
        simp only [updH]
        repeat rw [if_neg (by omega)]
        exact H7
      have K0 : H2 (nx) = some (.cells (some 129) [.fn (.func 114) [] []]) := by
        rw [g4 _ (by omega) (by omega) (by omega), ← hHH]
        simp only [updH]
        repeat rw [if_neg (by omega)]
        exact H0'
      have K1 : H2 (nx + 1) = some (.cells (some 92) [.lit (.int .i64 0), .lit (.slice none 0 0), .lit (.slice none 0 0), .lit (.slice none 0 0), .lit (.map none)]) := by
        rw [g4 _ (by omega) (by omega) (by omega), ← hHH]
        simp only [updH]
        repeat rw [if_neg (by omega)]
        exact H1
      have K3 : H2 (nx + 3) = some (.cells (some 92) (cPl b r δ)) := by
        rw [g4 _ (by omega) (by omega) (by omega), ← hHH]
        simp only [updH]
        repeat rw [if_neg (by omega)]
        exact H3
      have K4 : H2 (nx + 4) = some (.cells (some 4) [.lit (.bool true)]) := by
        rw [g4 _ (by omega) (by omega) (by omega), ← hHH]
        simp only [updH]
        repeat rw [if_neg (by omega)]
        exact H4
      have Kx : H2 (n + 0) = some (.cells (some 92) (cPl b e δe)) := by
        rw [g4 _ (by omega) (by omega) (by omega), ← hHH]
        simp only [updH]
        rw [if_neg (by omega), if_pos trivial]
        rfl
      have KF : ∀ γ, γ < n → ¬ γ = δe → ¬ γ = δ → ¬ γ = nx + 8 → H2 γ = H γ := by
        intro γ h1 h2 h3 h4
        rw [g4 γ (by omega) h2 h3, ← hHH]
        simp only [updH]
        repeat rw [if_neg (by omega)]
      rw [nG] at Kx K3
      by_cases hlt : tk e < tk r
      · rw [decide_eq_true hlt]
        rw [if_pos hlt] at hbp
        simp only [vz, mq, mqm, vsi, tyf, mqt, seval, ua, nm, rg, e3, e4, e6, e7, K8, K7, K0, K1, K3, K4, Kx, nb]
        refine ⟨by simp only [aX, K8, nm, seval], (show n ≤ n2 + 3 by omega), fun γ hγ => ?_, ?_⟩
        · have h1 := hFr γ hγ
          have g8 : γ ≠ nx + 8 := fun e => n8.1 (e ▸ hγ)
          have g3 : γ ≠ nx + 3 := fun e => n3.1 (e ▸ hγ)
          have g4' : γ ≠ nx + 4 := fun e => n4.1 (e ▸ hγ)
          have gd : γ ≠ δ := fun e => nd.1 (e ▸ hγ)
          have ge : γ ≠ δe := fun e => hnδ (e ▸ hγ)
          simp only [updH]
          repeat rw [if_neg (by first | assumption | omega)]
          exact KF γ h1 ge gd g8
        · rw [hI]
          simp only [if_true]
          refine ⟨⟨(show nx + 9 ≤ n2 + 3 by omega), fun γ hγ => ⟨fun hf => (hfr γ hγ).1 (.inl hf), ?_⟩⟩, ?_⟩
          · rw [← (hfr γ hγ).2]
            simp only [updH]
            repeat rw [if_neg (by omega)]
            exact KF γ (by omega) (by omega) (by omega) (by omega)
          · refine ⟨[(nx + 7, .deferred (some [])), (nx + 8, LO), (nx, .cells (some 129) [.fn (.func 114) [] []]), (nx + 1, .cells (some 92) [.lit (.int .i64 0), .lit (.slice none 0 0), .lit (.slice none 0 0), .lit (.slice none 0 0), .lit (.map none)]), (nx + 3, .cells (some 92) (cPl b e δe)), (nx + 4, .cells (some 4) [.lit (.bool true)]), (δe, .map (encM aO bC le))], Own.cons (show nx + 7 < n2 + 3 by omega) n7.1 ?_ (Own.cons (show nx + 8 < n2 + 3 by omega) n8.1 ?_ (Own.cons (show nx < n2 + 3 by omega) n0.1 ?_ (Own.cons (show nx + 1 < n2 + 3 by omega) n1.1 ?_ (Own.cons (show nx + 3 < n2 + 3 by omega) n3.1 ?_ (Own.cons (show nx + 4 < n2 + 3 by omega) n4.1 ?_ (Own.cons (show δe < n2 + 3 by omega) hnδ ?_ Own.nil)))))), ?_⟩
            rotate_right
            · rw [hJ]
              exact ⟨p, some e, rfl, hpL', hbp, .inr ⟨e, δe, le, rfl, heL, hδe9, ie, rfl⟩⟩
            · simp only [aX, nm, seval, K7]
            · simp only [aX, nm, seval]
            · simp only [aX, nm, seval, K0]
            · simp only [aX, nm, seval, K1]
            · simp only [aX, nm, seval, K3]; rfl
            · simp only [aX, nm, seval, K4]
            · simp only [updH]
              repeat rw [if_neg (by omega)]
              exact g2
      · rw [decide_eq_false hlt]
        rw [if_neg hlt] at hbp
        simp only [vz, mq, mqm, vsi, tyf, mqt, seval, ua, nm, rg, e3, e4, e6, e7, K8, K7, K0, K1, K3, K4, Kx, nb]
        refine ⟨by simp only [aX, K8, nm, seval], (show n ≤ n2 by omega), fun γ hγ => ?_, ?_⟩
        · have h1 := hFr γ hγ
          have g8 : γ ≠ nx + 8 := fun e => n8.1 (e ▸ hγ)
          have g3 : γ ≠ nx + 3 := fun e => n3.1 (e ▸ hγ)
          have g4' : γ ≠ nx + 4 := fun e => n4.1 (e ▸ hγ)
          have gd : γ ≠ δ := fun e => nd.1 (e ▸ hγ)
          have ge : γ ≠ δe := fun e => hnδ (e ▸ hγ)
          simp only [updH]
          repeat rw [if_neg (by first | assumption | omega)]
          exact KF γ h1 ge gd g8
        · rw [hI]
          simp only [if_true]
          refine ⟨⟨(show nx + 9 ≤ n2 by omega), fun γ hγ => ⟨fun hf => (hfr γ hγ).1 (.inl hf), ?_⟩⟩, ?_⟩
          · rw [← (hfr γ hγ).2]
            simp only [updH]
            repeat rw [if_neg (by omega)]
            exact KF γ (by omega) (by omega) (by omega) (by omega)
          · refine ⟨[(nx + 7, .deferred (some [])), (nx + 8, LO), (nx, .cells (some 129) [.fn (.func 114) [] []]), (nx + 1, .cells (some 92) [.lit (.int .i64 0), .lit (.slice none 0 0), .lit (.slice none 0 0), .lit (.slice none 0 0), .lit (.map none)]), (nx + 3, .cells (some 92) (cPl b r δ)), (nx + 4, .cells (some 4) [.lit (.bool true)]), (δ, .map (encM aO bC lr'))], Own.cons (show nx + 7 < n2 by omega) n7.1 ?_ (Own.cons (show nx + 8 < n2 by omega) n8.1 ?_ (Own.cons (show nx < n2 by omega) n0.1 ?_ (Own.cons (show nx + 1 < n2 by omega) n1.1 ?_ (Own.cons (show nx + 3 < n2 by omega) n3.1 ?_ (Own.cons (show nx + 4 < n2 by omega) n4.1 ?_ (Own.cons (show δ < n2 by omega) nd.1 ?_ Own.nil)))))), ?_⟩
            rotate_right
            · rw [hJ]
              exact ⟨p, some r, rfl, hpL', hbp, .inr ⟨r, δ, lr', rfl, hrL, hδ9, ir, rfl⟩⟩
            · simp only [aX, nm, seval, K7]
            · simp only [aX, nm, seval]
            · simp only [aX, nm, seval, K0]
            · simp only [aX, nm, seval, K1]
            · simp only [aX, nm, seval, K3]; rfl
            · simp only [aX, nm, seval, K4]
            · simp only [updH]
              repeat rw [if_neg (by omega)]
              exact g3
  · rw [hI]
    refine ⟨⟨Nat.le_refl _, fun γ hγ => ⟨fun h => h, ?_⟩⟩, ?_⟩
    · simp only [updH]
      repeat rw [if_neg (by omega)]
    · refine ⟨[(nx + 7, .deferred (some [])), (nx + 8, LO), (nx, .cells (some 129) [.fn (.func 114) [] []]), (nx + 1, .cells (some 92) [.lit (.int .i64 0), .lit (.slice none 0 0), .lit (.slice none 0 0), .lit (.slice none 0 0), .lit (.map none)]), (nx + 3, .cells (some 92) [.lit (.int .i64 0), .lit (.slice none 0 0), .lit (.slice none 0 0), .lit (.slice none 0 0), .lit (.map none)]), (nx + 4, .cells (some 4) [.lit (.bool false)])], Own.cons (show nx + 7 < nx + 9 by omega) (fun h => h) ?_ (Own.cons (show nx + 8 < nx + 9 by omega) (fun h => h) ?_ (Own.cons (show nx < nx + 9 by omega) (fun h => h) ?_ (Own.cons (show nx + 1 < nx + 9 by omega) (fun h => h) ?_ (Own.cons (show nx + 3 < nx + 9 by omega) (fun h => h) ?_ (Own.cons (show nx + 4 < nx + 9 by omega) (fun h => h) ?_ Own.nil))))), ?_⟩
      rotate_right
      · rw [hJ]
        exact ⟨L, none, rfl, fun q h => h, hR, .inl ⟨rfl, rfl⟩⟩
      · simp [updH]
      · simp [updH]
      · simp only [updH]
        rw [if_neg (by omega), if_neg (by omega), if_neg (by omega), if_neg (by omega), if_neg (by omega), if_neg (by omega), if_pos (by omega)]
      · simp [updH]
      · simp [updH]
      · simp [updH]
  · rintro H' nx' hh
    have hh : I (some []) noFr H' nx' := by
      rcases hh with h | h
      · exact h
      · rw [hI] at h
        obtain ⟨_, hp, _, hj⟩ := h
        rw [hJ] at hj
        exact hj.elim
    rw [hI] at hh
    obtain ⟨⟨vt, hfr⟩, hp, hown, hj⟩ := hh
    rw [hJ] at hj
    obtain ⟨p, a, hl, hpL, hbp, hcase⟩ := hj
    cases p with
    | cons e p => cases hl
    | nil =>
    simp only [bestP] at hbp
    rcases hcase with ⟨rfl, rfl⟩ | ⟨r, δ, lr, rfl, hrL, hδ9, hinv, rfl⟩
    · cases hbp
    simp only [Option.some.injEq] at hbp
    subst hbp
    obtain ⟨l7, n7, H7⟩ := hown.head
    obtain ⟨l8, n8, H8⟩ := hown.tail.head
    obtain ⟨l0, n0, H0'⟩ := hown.tail.tail.head
    obtain ⟨l1, n1, H1⟩ := hown.tail.tail.tail.head
    obtain ⟨l3, n3, H3⟩ := hown.tail.tail.tail.tail.head
    obtain ⟨l4, n4, H4⟩ := hown.tail.tail.tail.tail.tail.head
    obtain ⟨ld, nd, Hd⟩ := hown.tail.tail.tail.tail.tail.tail.head
    rw [nG] at H3
    refine Jx hLO H8 ?_
    intro LX
    have nb := kK (a := nx) (m := 9) (b := nx') vt
    simp only [vz, mq, mqm, vsi, tyf, mqt, seval, ua, nm, rg, e4, e6, e7, H1, H3, H4, nb]
    refine kJ (fun tm => tm 4 = .ptr (nx + 1) 0 ∧ tm 6 = .ptr (nx + 3) 0 ∧ tm 7 = .ptr (nx + 4) 0) ⟨e4, e6, e7⟩ ?_
    clear e9 e3 e4 e6 e7
    rintro tm ⟨e4, e6, e7⟩
    simp only [vz, mq, mqm, vsi, tyf, mqt, seval, ua, nm, rg, e4, e6, e7, H1, H3, H4, nb]
    refine ia ⟨?_, ?_⟩
    · simp only [ib, ic, dD, ig, and_true, true_and]
      repeat' (first | exact trivial | refine And.intro ?_ ?_ | rw [dD] | rw [ij] | exact Or.inl (by decide +kernel) | exact Or.inl (by dsimp only; decide +kernel) | (refine Or.inr ⟨?_, ?_⟩ <;> simp; done) | (refine Or.inr ⟨?_, ?_⟩ <;> simp <;> omega) | (refine Or.inr ⟨?_, ?_⟩ <;> simp [VEff.wr] <;> omega))
    simp only [vz, mq, mqm, vsi, tyf, mqt, seval, ua, nm, rg, e4, e6, e7, H1, H3, H4, nb]
    refine sA (by simp only [aX, nm, seval, H7]) ?_
    refine bS (x := .tup [plM b r δ, .lit (.bool true)]) (by first | (simp only [Tryz.results113, resV, resL, resV1, bX, bY, uw, cr, tyf, e4, iz, nm, seval] <;> rfl) | (simp only [Tryz.results113, resV, resL, resV1, bX, bY, uw, cr, tyf, e4, iz, nm, seval]; done)) ?_
    refine ⟨by omega, fun γ hγ => ?_, δ, lr, rfl, hδ9.1, (show δ < nx' + 4 by omega), ?_, hinv⟩
    · rw [← (hfr γ hγ).2]
      simp only [updH]
      repeat rw [if_neg (by omega)]
    · simp only [updH]
      repeat rw [if_neg (by omega)]
      exact Hd
theorem I1 {b : GBk} {itv : VV} {L : List (List Int)} {tk : List Int → Int} {R : List Int} (hit : IterM Tryz.prog G0 itv (L.map (plV b))) (hT : TakesOk b L tk) (hR : bestP tk L none = some R) (H0 : Nat → Option VObj) (nx : Nat) :
    aq Tryz.prog G0 85 [itv] H0 nx (fun x H' nx' => nx ≤ nx' ∧ (∀ γ, γ < nx → H' γ = H0 γ) ∧ ∃ δ l, x = plM b R δ ∧ nx ≤ δ ∧ δ < nx' ∧ H' δ = some (.map (encM aO bC l)) ∧ InvE b R l) (fun _ _ _ => False) := by
  refine aq.run mixed Tryz.call85 Tryz.func85 rfl (by simp [Tryz.ntmps85]; kernel_rfl) ?_
  simp only [vz, mq, mqm, vsi, tyf, mqt, seval, ua, rg, nm]
  refine kopen ?_
  rw [ja]
  refine aq.mono (QR hit hT hR _ _) ?_ (fun _ _ _ h => h.elim)
  rintro v H2 n2 ⟨g1, g2, δ, l, rfl, g3, g4, g5, g6⟩
  have nb := kK (a := nx) (m := 8) (b := n2) (by omega)
  have K0 : H2 (nx + 0) = some (.cells (some 92) [.lit (.int .i64 0), .lit (.slice none 0 0), .lit (.slice none 0 0), .lit (.slice none 0 0), .lit (.map none)]) := by
    rw [g2 _ (by omega)]
    simp [updH]
  simp only [iz, vz, mq, mqm, vsi, tyf, mqt, seval, ua, rg, nm, nb, K0]
  refine bS (x := plM b R δ) (by first | (simp only [Tryz.results85, resV, resL, resV1, bX, bY, uw, cr, tyf, iz, nm, seval] <;> rfl) | (simp only [Tryz.results85, resV, resL, resV1, bX, bY, uw, cr, tyf, iz, nm, seval]; done)) ?_
  refine ⟨by omega, fun γ hγ => ?_, δ, l, rfl, by omega, by omega, ?_, g6⟩
  · simp only [updH]
    repeat rw [if_neg (by omega)]
    rw [g2 γ (by omega)]
    simp only [updH]
    repeat rw [if_neg (by omega)]
  · simp only [updH]
    repeat rw [if_neg (by omega)]
    exact g5
end Go.V
end
