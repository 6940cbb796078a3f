/- Part of a proof. -/
import Derived.Test.YtclkbhbhohdgbaaGreatDoorE3ag
set_option linter.all false
section
namespace Go.V
open Go
def maskE (ms : List Nat) : List Edge → Nat → Nat
 | [], m => m
 | e :: l, m => maskE ms l (if Region.binds .any e then Nat.lor (Nat.lor m (Nat.shiftLeft 1 e.on)) (ms.getD e.on 0) else m)
def masksR (ms : List Nat) : List Oper → List Nat
 | [] => ms
 | o :: l => masksR (ms ++ [maskE ms o.after.toList 0]) l
theorem V9 {ms : List Nat} {i : Nat} : ∀ (es : List Edge) (m : Nat), (maskE ms es m).testBit i = true → m.testBit i = true ∨ ∃ e ∈ es, Region.binds .any e = true ∧ (e.on = i ∨ (ms.getD e.on 0).testBit i = true)
 | [], m, h => .inl h
 | e :: l, m, h => by
  unfold maskE at h
  rcases V9 l _ h with h | ⟨e', he', hb⟩
  ·split at h
   ·rename_i hb
    have h' : ((m ||| (1 <<< e.on)) ||| (ms.getD e.on 0)).testBit i = true := h
    simp only [Nat.testBit_or, Bool.or_eq_true] at h'
    rcases h' with (h' | h') | h'
    ·exact .inl h'
    ·refine .inr ⟨e, qZb, hb, .inl ?_⟩
     rw [Nat.testBit_shiftLeft] at h'
     simp only [Bool.and_eq_true, decide_eq_true_eq, Nat.testBit_one_eq_true_iff_self_eq_zero] at h'
     omega
    ·exact .inr ⟨e, qZb, hb, .inr h'⟩
   ·exact .inl h
  ·exact .inr ⟨e', qZa _ he', hb⟩
def MasksOk (ops : Array Oper) (ms : List Nat) : Prop := ∀ j i, (ms.getD j 0).testBit i = true → ∀ n, j < n → aC ops n i j = true
theorem CY {ops : Array Oper} : ∀ (l : List Oper) (ms : List Nat), (∀ k, l[k]? = ops[ms.length + k]?) → MasksOk ops ms → MasksOk ops (masksR ms l)
 | [], _, _, h => h
 | o :: l, ms, hl, h => by
  unfold masksR
  refine CY l _ (fun k => ?_) ?_
  ·have := hl (k + 1)
   simp only [List.getElem?_cons_succ] at this
   rw [this, List.length_append]
   congr 1
   simp; omega
  ·intro j i hj n hn
   by_cases hjl : j < ms.length
   ·refine h j i ?_ n hn
    rw [List.getD_eq_getElem?_getD, List.getElem?_append_left hjl] at hj
    rw [List.getD_eq_getElem?_getD]
    exact hj
   ·by_cases hje : j = ms.length
    ·subst hje
     rw [List.getD_eq_getElem?_getD, List.getElem?_append_right (qZh _)] at hj
     simp only [Nat.sub_self, List.getElem?_cons_zero, Option.getD_some] at hj
     rcases V9 _ _ hj with hz | ⟨e, he, hb, hor⟩
     ·simp at hz
     ·obtain ⟨n', rfl⟩ : ∃ n', n = n' + 1 := ⟨n - 1, by omega⟩
      have ho : ops[ms.length]? = some o := by have := hl 0; simpa using this.symm
      unfold aC
      rw [ho]
      rw [Array.any_eq_true']
      refine ⟨e, by simpa using he, ?_⟩
      simp only [hb, Bool.true_and, Bool.or_eq_true, beq_iff_eq]
      rcases hor with hor | hor
      ·exact .inl hor
      ·refine .inr (h e.on i hor n' ?_)
       rcases Nat.lt_or_ge e.on ms.length with hlt | hge
       ·omega
       ·rw [List.getD_eq_getElem?_getD, List.getElem?_eq_none hge] at hor
        simp at hor
    ·rw [List.getD_eq_getElem?_getD, List.getElem?_eq_none (by simp; omega)] at hj
     simp at hj
def masks (ops : Array Oper) : List Nat := masksR [] ops.toList
theorem RN (ops : Array Oper) : MasksOk ops (masks ops) := CY _ _ (fun k => by simp) (fun j i h => by simp at h)
def befQ (ms : List Nat) (i j : Nat) : Bool := Nat.testBit (ms.getD j 0) i
variable {ops : Array Oper}
theorem uS {i j : Nat} (hj : j < ops.size) (h : befQ (masks ops) i j = true) : aC ops ops.size i j = true := RN ops j i h _ hj
def apartQ1 (ops : Array Oper) (ms : List Nat) (j : Nat) (oj : Oper) : Nat → List Oper → Bool
 | _, [] => true
 | i, o :: l => if j ≤ i then true else (befQ ms i j || o.apart ops oj) && apartQ1 ops ms j oj (i + 1) l
def apartQ2 (ops : Array Oper) (ms : List Nat) (all : List Oper) : Nat → List Oper → Bool
 | _, [] => true
 | j, o :: l => apartQ1 ops ms j o 0 all && apartQ2 ops ms all (j + 1) l
def apartQ (ops : Array Oper) : Bool := apartQ2 ops (masks ops) ops.toList 0 ops.toList
theorem VA {ops : Array Oper} {ms : List Nat} {j : Nat} {oj : Oper} : ∀ (l : List Oper) (i : Nat), apartQ1 ops ms j oj i l = true → ∀ k o, l[k]? = some o → i + k < j → (befQ ms (i + k) j || o.apart ops oj) = true
 | [], _, _, k, o, hk, _ => by simp at hk
 | o :: l, i, h, k, o', hk, hlt => by
  unfold apartQ1 at h
  rw [if_neg (by omega)] at h
  simp only [Bool.and_eq_true] at h
  cases k with
  | zero => simp at hk; subst hk; exact h.1
  | succ k =>
   have := VA l (i + 1) h.2 k o' (by simpa using hk) (by omega)
   rw [show i + (k + 1) = i + 1 + k by omega]; exact this
theorem VB {ops : Array Oper} {ms : List Nat} {all : List Oper} : ∀ (l : List Oper) (j : Nat), apartQ2 ops ms all j l = true → ∀ k o, l[k]? = some o → apartQ1 ops ms (j + k) o 0 all = true
 | [], _, _, k, o, hk => by simp at hk
 | o :: l, j, h, k, o', hk => by
  unfold apartQ2 at h
  simp only [Bool.and_eq_true] at h
  cases k with
  | zero => simp at hk; subst hk; exact h.1
  | succ k =>
   have := VB l (j + 1) h.2 k o' (by simpa using hk)
   rw [show j + (k + 1) = j + 1 + k by omega]; exact this
theorem V7 (h : apartQ ops = true) : apartOk ops = true := by
 unfold apartOk
 rw [List.all_eq_true]
 intro i hi
 rw [List.all_eq_true]
 intro j hj
 have hi' := List.mem_range.1 hi
 have hj' := List.mem_range.1 hj
 by_cases hlt : i < j
 ·have h2 := VB _ _ h j ops[j] (by simp [hj'])
  have h1 := VA _ _ h2 i ops[i] (by simp [hi']) (by omega)
  simp only [Nat.zero_add, Bool.or_eq_true] at h1
  rcases h1 with h1 | h1
  ·have hb := uS hj' h1
   simp [hb]
  ·have e1 : ops[i]? = some ops[i] := by simp [hi']
   have e2 : ops[j]? = some ops[j] := by simp [hj']
   simp only [e1, e2, h1]
   simp
 ·simp [hlt]
def backQ1 (j : Nat) : List Edge → Bool
 | [] => true
 | e :: l => (!Region.binds .any e || Nat.blt e.on j) && backQ1 j l
def backQ (j : Nat) : List Oper → Bool
 | [] => true
 | o :: l => backQ1 j o.after.toList && backQ (j + 1) l
theorem VC {j : Nat} : ∀ {l : List Edge}, backQ1 j l = true → ∀ e ∈ l, (!Region.binds .any e || decide (e.on < j)) = true
 | [], _, e, he => by cases he
 | e :: l, h, e', he => by
  simp only [backQ1, Bool.and_eq_true] at h
  rcases List.mem_cons.1 he with rfl | he
  ·have := h.1; simpa [Nat.blt_eq] using this
  ·exact VC h.2 e' he
theorem VD : ∀ {l : List Oper} {j : Nat}, backQ j l = true → ∀ k o, l[k]? = some o → backQ1 (j + k) o.after.toList = true
 | [], _, _, k, o, hk => by simp at hk
 | o :: l, j, h, k, o', hk => by
  simp only [backQ, Bool.and_eq_true] at h
  cases k with
  | zero => simp at hk; subst hk; exact h.1
  | succ k =>
   have := VD h.2 k o' (by simpa using hk)
   rw [show j + (k + 1) = j + 1 + k by omega]; exact this
theorem CV (h : backQ 0 ops.toList = true) : backOk ops = true := by
 unfold backOk
 rw [List.all_eq_true]
 intro j hj
 have hj' := List.mem_range.1 hj
 have e2 : ops[j]? = some ops[j] := by simp [hj']
 rw [e2]
 simp only
 rw [Array.all_eq_true']
 intro e he
 have := VD h j ops[j] (by simp [hj'])
 rw [Nat.zero_add] at this
 exact VC this e (by simpa using he)
def dstsQ (n : Nat) : List Oper → Bool
 | [] => true
 | o :: l => (match o.dst with | some d => Nat.blt d n | none => true) && dstsQ n l
theorem zE {n : Nat} (h : dstsQ n ops.toList = true) : dstsOk n ops = true := by
 unfold dstsOk
 rw [Array.all_eq_true']
 have key : ∀ (l : List Oper), dstsQ n l = true → ∀ o ∈ l, dstIn n o = true := by
  intro l
  induction l with
  | nil => intro _ o ho; cases ho
  | cons x l ih =>
   intro h o ho
   simp only [dstsQ, Bool.and_eq_true] at h
   rcases List.mem_cons.1 ho with rfl | ho
   ·have := h.1; unfold dstIn; cases hd : o.dst with
    | none => rfl
    | some d => rw [hd] at this; simpa [Nat.blt_eq] using this
   ·exact ih h.2 o ho
 intro o ho
 exact key _ h o (by simpa using ho)
def codeQ (n : Nat) : Code → Bool
 | .region _ ops false => dstsQ n ops.toList
 | .region _ ops true => backQ 0 ops.toList && dstsQ n ops.toList && apartQ ops
 | .seq a b => codeQ n a && codeQ n b
 | .cond _ a b => codeQ n a && codeQ n b
 | .block _ a => codeQ n a
 | .loop a => codeQ n a
 | .rangeFunc _ _ a b => codeQ n a && codeQ n b
 | .scope a => codeQ n a
 | _ => true
theorem pL {n : Nat} : ∀ {code : Code}, codeQ n code = true → codeOk n code = true
 | .region _ ops false, h => zE h
 | .region _ ops true, h => by
  simp only [codeQ, Bool.and_eq_true] at h
  simp only [codeOk, Bool.and_eq_true]
  exact ⟨⟨CV h.1.1, zE h.1.2⟩, V7 h.2⟩
 | .seq a b, h => by
  simp only [codeQ, Bool.and_eq_true] at h
  simp only [codeOk, Bool.and_eq_true]
  exact ⟨pL h.1, pL h.2⟩
 | .cond _ a b, h => by
  simp only [codeQ, Bool.and_eq_true] at h
  simp only [codeOk, Bool.and_eq_true]
  exact ⟨pL h.1, pL h.2⟩
 | .block _ a, h => pL (code := a) h
 | .loop a, h => pL (code := a) h
 | .rangeFunc _ _ a b, h => by
  simp only [codeQ, Bool.and_eq_true] at h
  simp only [codeOk, Bool.and_eq_true]
  exact ⟨pL h.1, pL h.2⟩
 | .scope a, h => pL (code := a) h
 | .skip, _ => rfl
 | .exit _, _ => rfl
 | .label _, _ => rfl
 | .goto _, _ => rfl
 | .ret, _ => rfl
 | .refuse _, _ => rfl
end Go.V
end
