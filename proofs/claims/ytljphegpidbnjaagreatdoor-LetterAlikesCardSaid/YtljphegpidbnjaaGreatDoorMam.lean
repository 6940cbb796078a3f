/- Part of the proof of a statement of YtljphegpidbnjaaGreatDoor: a logic of values by content, the lifted functions, and what follows. -/
import Derived.Test.YtljphegpidbnjaaGreatDoorMal
import Derived.Test.YtljphegpidbnjaaGreatDoorMaj
import Derived.Scope
set_option linter.unusedVariables false
set_option linter.unusedSimpArgs false
set_option linter.unusedSectionVars false
set_option linter.constructorNameAsVariable false
section
/- States that the kernel can run: tables as tries; loops by rounds. -/
namespace Go.V
open Go

inductive Trie (α : Type) where
  | nil
  | node (v : Option α) (l r : Trie α)

namespace Trie
variable {α : Type}
def get : Trie α → Nat → Option α
  | .nil, _ => none
  | .node v l r, n => match n with
    | 0 => v
    | m + 1 => if m % 2 = 0 then l.get (m / 2) else r.get (m / 2)

def set : Nat → Trie α → Nat → Option α → Trie α
  | 0, t, _, _ => t
  | k + 1, .nil, n, x => match n with
    | 0 => .node x .nil .nil
    | m + 1 => if m % 2 = 0 then .node none (set k .nil (m / 2) x) .nil else .node none .nil (set k .nil (m / 2) x)
  | k + 1, .node v l r, n, x => match n with
    | 0 => .node x l r
    | m + 1 => if m % 2 = 0 then .node v (set k l (m / 2) x) r else .node v l (set k r (m / 2) x)

theorem get_set : ∀ (k : Nat) (t : Trie α) (n : Nat) (x : Option α) (i : Nat), n < k → (set k t n x).get i = if i = n then x else t.get i
  | 0, _, _, _, _, h => by omega
  | k + 1, .nil, 0, x, i, _ => by
    cases i with
    | zero => simp [set, get]
    | succ i => simp [set, get]
  | k + 1, .nil, m + 1, x, i, h => by
    have ih := fun i => get_set k (.nil : Trie α) (m / 2) x i (by omega)
    by_cases hm : m % 2 = 0
    · simp only [set, hm, if_true]
      cases i with
      | zero => simp [get]
      | succ i =>
        simp only [get]
        by_cases hi : i % 2 = 0
        · simp only [hi, if_true, ih, get]
          have : (i / 2 = m / 2) = (i + 1 = m + 1) := by apply propext; omega
          simp only [this]
        · simp only [hi, if_false]
          have : ¬ (i + 1 = m + 1) := by omega
          rw [if_neg this]
          try simp only [get, hi, if_true, if_false]
    · simp only [set, hm, if_false]
      cases i with
      | zero => simp [get]
      | succ i =>
        simp only [get]
        by_cases hi : i % 2 = 0
        · simp only [hi, if_true]
          have : ¬ (i + 1 = m + 1) := by omega
          rw [if_neg this]
          try simp only [get, hi, if_true, if_false]
        · simp only [hi, if_false, ih, get]
          have : (i / 2 = m / 2) = (i + 1 = m + 1) := by apply propext; omega
          simp only [this]
  | k + 1, .node v l r, 0, x, i, _ => by
    cases i with
    | zero => simp [set, get]
    | succ i => simp [set, get]
  | k + 1, .node v l r, m + 1, x, i, h => by
    have ihl := fun i => get_set k l (m / 2) x i (by omega)
    have ihr := fun i => get_set k r (m / 2) x i (by omega)
    by_cases hm : m % 2 = 0
    · simp only [set, hm, if_true]
      cases i with
      | zero => simp [get]
      | succ i =>
        simp only [get]
        by_cases hi : i % 2 = 0
        · simp only [hi, if_true, ihl]
          have : (i / 2 = m / 2) = (i + 1 = m + 1) := by apply propext; omega
          simp only [this]
        · simp only [hi, if_false]
          have : ¬ (i + 1 = m + 1) := by omega
          rw [if_neg this]
          try simp only [get, hi, if_true, if_false]
    · simp only [set, hm, if_false]
      cases i with
      | zero => simp [get]
      | succ i =>
        simp only [get]
        by_cases hi : i % 2 = 0
        · simp only [hi, if_true]
          have : ¬ (i + 1 = m + 1) := by omega
          rw [if_neg this]
          try simp only [get, hi, if_true, if_false]
        · simp only [hi, if_false, ihr]
          have : (i / 2 = m / 2) = (i + 1 = m + 1) := by apply propext; omega
          simp only [this]

/-- A table with a place turned. -/
def put (t : Trie α) (n : Nat) (x : Option α) : Trie α := set (n + 1) t n x
theorem get_put (t : Trie α) (n : Nat) (x : Option α) (i : Nat) : (t.put n x).get i = if i = n then x else t.get i := get_set (n + 1) t n x i (by omega)

def ofList : Nat → List α → Trie α → Trie α
  | _, [], t => t
  | i, x :: xs, t => ofList (i + 1) xs (t.put i (some x))
theorem get_ofList : ∀ (xs : List α) (i : Nat) (t : Trie α) (j : Nat), (ofList i xs t).get j = if j < i then t.get j else (xs[j - i]?).or (t.get j)
  | [], i, t, j => by simp [ofList]
  | x :: xs, i, t, j => by
    rw [ofList, get_ofList xs (i + 1), get_put]
    rcases Nat.lt_trichotomy j i with h | h | h
    · rw [if_pos (by omega), if_neg (by omega), if_pos h]
    · subst h; simp
    · rw [if_neg (by omega), if_neg (by omega), if_neg (by omega)]
      obtain ⟨m, rfl⟩ : ∃ m, j = i + 1 + m := ⟨j - (i + 1), by omega⟩
      rw [show i + 1 + m - i = m + 1 by omega, show i + 1 + m - (i + 1) = m by omega]
      simp
end Trie

/-- A state, in tables. -/
structure RS where
  tm : Trie VV
  H : Trie VObj
  nx : Nat
  df : List VDef

def RS.st (s : RS) : St := ⟨fun t => (s.tm.get t).getD (.lit undef), s.H.get, s.nx, s.df⟩
def RS.put (s : RS) (dst : Option Tmp) (x : VV) : RS := match dst with
  | none => s
  | some d => { s with tm := s.tm.put d (some x) }
theorem RS.put_st (s : RS) (dst : Option Tmp) (x : VV) : (s.put dst x).st = s.st.put dst x := by
  cases dst with
  | none => rfl
  | some d =>
    simp only [RS.put, RS.st, St.put]
    congr 1
    funext t
    rw [Trie.get_put]
    split <;> rfl

def effR (γ : Nat) (H : Trie VObj) : VEff → Trie VObj
  | .none => H
  | .new o => H.put γ (some o)
  | .upd β o => H.put β (some o)
  | .mv β el cs => (H.put β none).put γ (some (.cells el cs))
  | .kill β => H.put β none
theorem effR_get (γ : Nat) (H : Trie VObj) (eff : VEff) : (effR γ H eff).get = eff.app γ H.get := by
  funext i
  cases eff with
  | none => rfl
  | new o => simp only [effR, Trie.get_put, VEff.app]
  | upd β o => simp only [effR, Trie.get_put, VEff.app]
  | mv β el cs => simp only [effR, Trie.get_put, VEff.app, without]
  | kill β => simp only [effR, Trie.get_put, VEff.app, without]

theorem argsR (args : List VV) (H : Trie VObj) (nx : Nat) : (RS.mk (Trie.ofList 0 args .nil) H nx []).st = { tm := argsTm args, H := H.get, nx, df := [] } := by
  simp only [RS.st]
  congr 1
  funext t
  rw [Trie.get_ofList]
  simp [argsTm, Trie.get]

/-- Rounds of a loop, so many at most. -/
def VRounds (P : Program) (G : Glob) (n : Nat) (x : Code) (Q : VExit → St → Prop) : Nat → St → Prop
  | 0, _ => False
  | m + 1, st => VWp P G n x (VExit.then (VRounds P G n x Q m) Q) st
theorem VWp.loopRounds {P : Program} {G : Glob} {n : Nat} {x : Code} {Q : VExit → St → Prop} {st : St} (m : Nat) (h : VRounds P G n x Q m st) : VWp P G n (.loop x) Q st := by
  refine VWp.loop (fun m st => VRounds P G n x Q m st) (m := m) h fun m st hm => ?_
  cases m with
  | zero => exact hm.elim
  | succ m =>
    refine VWp.mono hm fun e s hs => ?_
    cases e with
    | normal => exact ⟨m, by omega, hs⟩
    | exit id => exact hs
    | goto l => exact hs
    | ret => exact hs
    | panic x => exact hs
end Go.V
end
section
/- What comes before what, by masks. -/
namespace Go.V
open Go

def maskE (ms : List Nat) : List Edge → Nat → Nat
  | [], m => m
  | e :: l, m => maskE ms l (if Region.binds .any e then Nat.lor (Nat.lor m (Nat.shiftLeft 1 e.on)) (ms.getD e.on 0) else m)
def masksR (ms : List Nat) : List Oper → List Nat
  | [] => ms
  | o :: l => masksR (ms ++ [maskE ms o.after.toList 0]) l

theorem maskE_spec {ms : List Nat} {i : Nat} : ∀ (es : List Edge) (m : Nat), (maskE ms es m).testBit i = true → m.testBit i = true ∨ ∃ e ∈ es, Region.binds .any e = true ∧ (e.on = i ∨ (ms.getD e.on 0).testBit i = true)
  | [], m, h => .inl h
  | e :: l, m, h => by
    unfold maskE at h
    rcases maskE_spec l _ h with h | ⟨e', he', hb⟩
    · split at h
      · rename_i hb
        have h' : ((m ||| (1 <<< e.on)) ||| (ms.getD e.on 0)).testBit i = true := h
        simp only [Nat.testBit_or, Bool.or_eq_true] at h'
        rcases h' with (h' | h') | h'
        · exact .inl h'
        · refine .inr ⟨e, List.mem_cons_self, hb, .inl ?_⟩
          rw [Nat.testBit_shiftLeft] at h'
          simp only [Bool.and_eq_true, decide_eq_true_eq, Nat.testBit_one_eq_true_iff_self_eq_zero] at h'
          omega
        · exact .inr ⟨e, List.mem_cons_self, hb, .inr h'⟩
      · exact .inl h
    · exact .inr ⟨e', List.mem_cons_of_mem _ he', hb⟩

def MasksOk (ops : Array Oper) (ms : List Nat) : Prop := ∀ j i, (ms.getD j 0).testBit i = true → ∀ n, j < n → isBefore ops n i j = true

theorem masksR_ok {ops : Array Oper} : ∀ (l : List Oper) (ms : List Nat), (∀ k, l[k]? = ops[ms.length + k]?) → MasksOk ops ms → MasksOk ops (masksR ms l)
  | [], _, _, h => h
  | o :: l, ms, hl, h => by
    unfold masksR
    refine masksR_ok l _ (fun k => ?_) ?_
    · have := hl (k + 1)
      simp only [List.getElem?_cons_succ] at this
      rw [this, List.length_append]
      congr 1
      simp; omega
    · intro j i hj n hn
      by_cases hjl : j < ms.length
      · refine h j i ?_ n hn
        rw [List.getD_eq_getElem?_getD, List.getElem?_append_left hjl] at hj
        rw [List.getD_eq_getElem?_getD]
        exact hj
      · by_cases hje : j = ms.length
        · subst hje
          rw [List.getD_eq_getElem?_getD, List.getElem?_append_right (Nat.le_refl _)] at hj
          simp only [Nat.sub_self, List.getElem?_cons_zero, Option.getD_some] at hj
          rcases maskE_spec _ _ hj with hz | ⟨e, he, hb, hor⟩
          · simp at hz
          · obtain ⟨n', rfl⟩ : ∃ n', n = n' + 1 := ⟨n - 1, by omega⟩
            have ho : ops[ms.length]? = some o := by have := hl 0; simpa using this.symm
            unfold isBefore
            rw [ho]
            rw [Array.any_eq_true']
            refine ⟨e, by simpa using he, ?_⟩
            simp only [hb, Bool.true_and, Bool.or_eq_true, beq_iff_eq]
            rcases hor with hor | hor
            · exact .inl hor
            · refine .inr (h e.on i hor n' ?_)
              rcases Nat.lt_or_ge e.on ms.length with hlt | hge
              · omega
              · rw [List.getD_eq_getElem?_getD, List.getElem?_eq_none hge] at hor
                simp at hor
        · rw [List.getD_eq_getElem?_getD, List.getElem?_eq_none (by simp; omega)] at hj
          simp at hj

def masks (ops : Array Oper) : List Nat := masksR [] ops.toList
theorem masks_ok (ops : Array Oper) : MasksOk ops (masks ops) := masksR_ok _ _ (fun k => by simp) (fun j i h => by simp at h)

/-- One comes before the other. -/
def befQ (ms : List Nat) (i j : Nat) : Bool := Nat.testBit (ms.getD j 0) i
theorem befQ_ok {ops : Array Oper} {i j : Nat} (hj : j < ops.size) (h : befQ (masks ops) i j = true) : isBefore ops ops.size i j = true := masks_ok ops j i h _ hj

/-! ### What is so of a code by its text, quickly -/
def apartQ1 (ops : Array Oper) (ms : List Nat) (j : Nat) (oj : Oper) : Nat → List Oper → Bool
  | _, [] => true
  | i, o :: l => if j ≤ i then true else (befQ ms i j || o.apart ops oj) && apartQ1 ops ms j oj (i + 1) l
def apartQ2 (ops : Array Oper) (ms : List Nat) (all : List Oper) : Nat → List Oper → Bool
  | _, [] => true
  | j, o :: l => apartQ1 ops ms j o 0 all && apartQ2 ops ms all (j + 1) l
def apartQ (ops : Array Oper) : Bool := apartQ2 ops (masks ops) ops.toList 0 ops.toList

theorem apartQ1_spec {ops : Array Oper} {ms : List Nat} {j : Nat} {oj : Oper} : ∀ (l : List Oper) (i : Nat), apartQ1 ops ms j oj i l = true → ∀ k o, l[k]? = some o → i + k < j → (befQ ms (i + k) j || o.apart ops oj) = true
  | [], _, _, k, o, hk, _ => by simp at hk
  | o :: l, i, h, k, o', hk, hlt => by
    unfold apartQ1 at h
    rw [if_neg (by omega)] at h
    simp only [Bool.and_eq_true] at h
    cases k with
    | zero => simp at hk; subst hk; exact h.1
    | succ k =>
      have := apartQ1_spec l (i + 1) h.2 k o' (by simpa using hk) (by omega)
      rw [show i + (k + 1) = i + 1 + k by omega]; exact this
theorem apartQ2_spec {ops : Array Oper} {ms : List Nat} {all : List Oper} : ∀ (l : List Oper) (j : Nat), apartQ2 ops ms all j l = true → ∀ k o, l[k]? = some o → apartQ1 ops ms (j + k) o 0 all = true
  | [], _, _, k, o, hk => by simp at hk
  | o :: l, j, h, k, o', hk => by
    unfold apartQ2 at h
    simp only [Bool.and_eq_true] at h
    cases k with
    | zero => simp at hk; subst hk; exact h.1
    | succ k =>
      have := apartQ2_spec l (j + 1) h.2 k o' (by simpa using hk)
      rw [show j + (k + 1) = j + 1 + k by omega]; exact this
theorem apartQ_ok {ops : Array Oper} (h : apartQ ops = true) : apartOk ops = true := by
  unfold apartOk
  rw [List.all_eq_true]
  intro i hi
  rw [List.all_eq_true]
  intro j hj
  have hi' := List.mem_range.1 hi
  have hj' := List.mem_range.1 hj
  by_cases hlt : i < j
  · have h2 := apartQ2_spec _ _ h j ops[j] (by simp [hj'])
    have h1 := apartQ1_spec _ _ h2 i ops[i] (by simp [hi']) (by omega)
    simp only [Nat.zero_add, Bool.or_eq_true] at h1
    rcases h1 with h1 | h1
    · have hb := befQ_ok hj' h1
      simp [hb]
    · have e1 : ops[i]? = some ops[i] := by simp [hi']
      have e2 : ops[j]? = some ops[j] := by simp [hj']
      simp only [e1, e2, h1]
      simp
  · simp [hlt]

def backQ1 (j : Nat) : List Edge → Bool
  | [] => true
  | e :: l => (!Region.binds .any e || Nat.blt e.on j) && backQ1 j l
def backQ (j : Nat) : List Oper → Bool
  | [] => true
  | o :: l => backQ1 j o.after.toList && backQ (j + 1) l
theorem backQ1_spec {j : Nat} : ∀ {l : List Edge}, backQ1 j l = true → ∀ e ∈ l, (!Region.binds .any e || decide (e.on < j)) = true
  | [], _, e, he => by cases he
  | e :: l, h, e', he => by
    simp only [backQ1, Bool.and_eq_true] at h
    rcases List.mem_cons.1 he with rfl | he
    · have := h.1; simpa [Nat.blt_eq] using this
    · exact backQ1_spec h.2 e' he
theorem backQ_spec : ∀ {l : List Oper} {j : Nat}, backQ j l = true → ∀ k o, l[k]? = some o → backQ1 (j + k) o.after.toList = true
  | [], _, _, k, o, hk => by simp at hk
  | o :: l, j, h, k, o', hk => by
    simp only [backQ, Bool.and_eq_true] at h
    cases k with
    | zero => simp at hk; subst hk; exact h.1
    | succ k =>
      have := backQ_spec h.2 k o' (by simpa using hk)
      rw [show j + (k + 1) = j + 1 + k by omega]; exact this
theorem backQ_ok {ops : Array Oper} (h : backQ 0 ops.toList = true) : backOk ops = true := by
  unfold backOk
  rw [List.all_eq_true]
  intro j hj
  have hj' := List.mem_range.1 hj
  have e2 : ops[j]? = some ops[j] := by simp [hj']
  rw [e2]
  simp only
  rw [Array.all_eq_true']
  intro e he
  have := backQ_spec h j ops[j] (by simp [hj'])
  rw [Nat.zero_add] at this
  exact backQ1_spec this e (by simpa using he)

def dstsQ (n : Nat) : List Oper → Bool
  | [] => true
  | o :: l => (match o.dst with | some d => Nat.blt d n | none => true) && dstsQ n l
theorem dstsQ_ok {n : Nat} {ops : Array Oper} (h : dstsQ n ops.toList = true) : dstsOk n ops = true := by
  unfold dstsOk
  rw [Array.all_eq_true']
  have key : ∀ (l : List Oper), dstsQ n l = true → ∀ o ∈ l, dstIn n o = true := by
    intro l
    induction l with
    | nil => intro _ o ho; cases ho
    | cons x l ih =>
      intro h o ho
      simp only [dstsQ, Bool.and_eq_true] at h
      rcases List.mem_cons.1 ho with rfl | ho
      · have := h.1; unfold dstIn; cases hd : o.dst with
        | none => rfl
        | some d => rw [hd] at this; simpa [Nat.blt_eq] using this
      · exact ih h.2 o ho
  intro o ho
  exact key _ h o (by simpa using ho)

def codeQ (n : Nat) : Code → Bool
  | .region _ ops false => dstsQ n ops.toList
  | .region _ ops true => backQ 0 ops.toList && dstsQ n ops.toList && apartQ ops
  | .seq a b => codeQ n a && codeQ n b
  | .cond _ a b => codeQ n a && codeQ n b
  | .block _ a => codeQ n a
  | .loop a => codeQ n a
  | .rangeFunc _ _ a b => codeQ n a && codeQ n b
  | .scope a => codeQ n a
  | _ => true
theorem codeQ_ok {n : Nat} : ∀ {code : Code}, codeQ n code = true → codeOk n code = true
  | .region _ ops false, h => dstsQ_ok h
  | .region _ ops true, h => by
    simp only [codeQ, Bool.and_eq_true] at h
    simp only [codeOk, Bool.and_eq_true]
    exact ⟨⟨backQ_ok h.1.1, dstsQ_ok h.1.2⟩, apartQ_ok h.2⟩
  | .seq a b, h => by
    simp only [codeQ, Bool.and_eq_true] at h
    simp only [codeOk, Bool.and_eq_true]
    exact ⟨codeQ_ok h.1, codeQ_ok h.2⟩
  | .cond _ a b, h => by
    simp only [codeQ, Bool.and_eq_true] at h
    simp only [codeOk, Bool.and_eq_true]
    exact ⟨codeQ_ok h.1, codeQ_ok h.2⟩
  | .block _ a, h => codeQ_ok (code := a) h
  | .loop a, h => codeQ_ok (code := a) h
  | .rangeFunc _ _ a b, h => by
    simp only [codeQ, Bool.and_eq_true] at h
    simp only [codeOk, Bool.and_eq_true]
    exact ⟨codeQ_ok h.1, codeQ_ok h.2⟩
  | .scope a, h => codeQ_ok (code := a) h
  | .skip, _ => rfl
  | .exit _, _ => rfl
  | .label _, _ => rfl
  | .goto _, _ => rfl
  | .ret, _ => rfl
  | .refuse _, _ => rfl
end Go.V
end
section
/- Code that the kernel runs: results, steps. -/
namespace Go.V
open Go

/-! ### A scope through which the run goes without a goto -/
section scope
variable {P : Program} {b : Frame} {a : Act} {k : List Item} {cs : List Frame} {w : World} {Q : Exit → Act → World → Prop} {F : Fence} {n : Nat}
theorem stepR_scope {c : Code} : step P (lone (b.atR a (.code (.scope c) :: k)) cs w) = .next (lone (b.atR a (.code c :: .inScope c :: k)) cs w) :=
  step_lone_go (by simp [stepG, stepG.exec, Frame.atR])
theorem stepR_inScope {c : Code} : step P (lone (b.atR a (.inScope c :: k)) cs w) = .next (lone (b.atR a k) cs w) :=
  step_lone_go (by simp [stepG, stepG.exec, Frame.atR])
theorem wpIn_scope {c : Code} (h : c.wpIn F n P (Exit.noGoto Q) a w) : (Code.scope c).wpIn F n P Q a w := by
  intro b k cs hro hb hr
  have h0 : (lone (b.atR a (.code (.scope c) :: k)) cs w).fenced P F := fenced_calm hb hr rfl
  obtain ⟨e, a₁, w₁, hq, harr⟩ := h b (.inScope c :: k) cs hro hb hr
  cases e with
  | normal => exact ⟨.normal, a₁, w₁, hq, .head h0 stepR_scope (StepsIn.trans harr (.one (fenced_calm hb hr rfl) stepR_inScope))⟩
  | exit id' =>
    have hx : exitTo id' (.inScope c :: k) = exitTo id' k := by simp [exitTo]
    exact ⟨.exit id', a₁, w₁, hq, fun k' hk => .head h0 stepR_scope (harr.1 k' (by rw [hx]; exact hk)),
      fun hr' hk => let ⟨k₁, h1, h2⟩ := harr.2 hr' (by rw [hx]; exact hk); ⟨k₁, h1, .head h0 stepR_scope h2⟩⟩
  | goto l => exact hq.elim
  | ret => exact ⟨_, a₁, w₁, hq, .of_steps (.one h0 stepR_scope) harr⟩
  | panic ch => exact ⟨_, a₁, w₁, hq, .of_steps (.one h0 stepR_scope) harr⟩
  | outgrown => exact ⟨_, a₁, w₁, hq, .of_steps (.one h0 stepR_scope) harr⟩
end scope

def VExit.noGoto (Q : VExit → St → Prop) : VExit → St → Prop
  | .goto _, _ => False
  | e, st => Q e st
theorem VWp.scope {P : Program} {G : Glob} {n : Nat} {Q : VExit → St → Prop} {st : St} {x : Code} (h : VWp P G n x (VExit.noGoto Q) st) : VWp P G n (.scope x) Q st := by
  intro ro c W a hro s hr hs
  refine wpIn_scope (wpIn_mono (h ro c W a hro s hr hs) ?_)
  rintro e a' W' ⟨ve, c', st', h1, h2, h3, h4, h5, h6, h7, h8⟩
  cases ve with
  | goto l => exact h8.elim
  | normal => have e1 : e = .normal := h1; subst e1; exact ⟨.normal, c', st', rfl, h2, h3, h4, h5, h6, h7, h8⟩
  | exit id => have e1 : e = .exit id := h1; subst e1; exact ⟨.exit id, c', st', rfl, h2, h3, h4, h5, h6, h7, h8⟩
  | ret => have e1 : e = .ret := h1; subst e1; exact ⟨.ret, c', st', rfl, h2, h3, h4, h5, h6, h7, h8⟩
  | panic x =>
    obtain ⟨v, e1, hv⟩ := h1
    subst e1
    exact ⟨.panic x, c', st', ⟨v, rfl, hv⟩, h2, h3, h4, h5, h6, h7, h8⟩

/-! ### Results -/
inductive Why where
  | fuel
  | op (o : Oper)
  | code (c : Code)
  | fn (f : FuncId)
  | sealx (f : FuncId) (x : VV)
  | order (o : Oper)
  | text (n : Nat)
  | deep (o : Oper) (w : Why)
inductive CR where
  | ret (x : VV) (H : Trie VObj) (nx : Nat)
  | pan (x : VV) (H : Trie VObj) (nx : Nat)
  | no (w : Why)
inductive SR where
  | ok (s : RS)
  | pan (x : VV) (s : RS)
  | no (w : Why)
inductive ER where
  | mk (e : VExit) (s : RS)
  | no (w : Why)

abbrev CallR := FuncId → List VV → Trie VObj → Nat → CR
abbrev RunR := Option Nat → Nat → Code → RS → ER
def CallOk (P : Program) (G : Glob) (cf : CallR) : Prop :=
  (∀ f args H nx x H' nx', cf f args H nx = .ret x H' nx' → VOpen P G f args H.get nx (fun y H1 n1 => y = x ∧ H1 = H'.get ∧ n1 = nx') (fun _ _ _ => False)) ∧
  (∀ f args H nx x H' nx', cf f args H nx = .pan x H' nx' → VOpen P G f args H.get nx (fun _ _ _ => False) (fun y H1 n1 => y = x ∧ H1 = H'.get ∧ n1 = nx'))
def RunOk (P : Program) (G : Glob) (run : RunR) : Prop := ∀ ro n code s e s', run ro n code s = .mk e s' → ∀ Q : VExit → St → Prop, Q e s'.st → VWp P (G.at (some ro)) n code Q s.st

/-! ### Steps -/
def opR (P : Program) (G : Glob) (γ : Nat) (o : Oper) (s : RS) : SR :=
  match vop P o (s.st.ρ G) s.H.get γ with
  | some (x, eff) => .ok { s.put o.dst x with H := effR γ s.H eff }
  | none => .no (.op o)

def jumpOf : VExit → Option (Option Code)
  | .normal => some none
  | .ret => some (some .ret)
  | .exit id => some (some (.exit id))
  | .goto l => some (some (.goto l))
  | .panic _ => none

/-- One round. -/
def yieldR (run : RunR) (o : Oper) (β : Nat) (args : List VV) (s : RS) : SR :=
  match s.H.get β with
  | some (.loop .ready _ tm ps as bo _) =>
    if Nat.beq args.length ps.size then
      match run (some β) tm.length as (RS.mk (Trie.ofList 0 (roundTm tm ps.toList args) .nil) s.H s.nx []) with
      | .mk .normal s1 =>
        match s1.H.get β with
        | some (.loop .ready pe tm1 ps1 as1 bo1 df1) =>
          match run (some β) tm.length bo { s1 with H := s1.H.put β (some (.loop .busy pe tm1 ps1 as1 bo1 df1)) } with
          | .mk e s2 =>
            match jumpOf e with
            | some jump => match s2.H.get β with
              | some (.loop _ _ tm2 ps2 as2 bo2 df2) => .ok { s.put o.dst (.lit (.bool jump.isNone)) with H := s2.H.put β (some (.loop (if jump.isNone then .ready else .done) jump tm2 ps2 as2 bo2 df2)), nx := s2.nx }
              | _ => .no (.op o)
            | none => .no (.op o)
          | .no w => .no (.deep o w)
        | _ => .no (.op o)
      | .mk _ _ => .no (.op o)
      | .no w => .no (.deep o w)
    else .no (.op o)
  | _ => .no (.op o)

/-- Whether a function is called into. -/
def hasBody (P : Program) (f : FuncId) : Bool := match P.funcs[f]? with
  | some fn => fn.body.isSome
  | none => false

def stepR (P : Program) (G : Glob) (run : RunR) (cf : CallR) (ro : Option Nat) (ops : Array Oper) (γ : Nat) (o : Oper) (s : RS) : SR :=
  match wantV ops s.st.tm o with
  | none => .no (.op o)
  | some false => .ok (s.put o.dst (.lit undef))
  | some true => match o.op with
    | .call k => match k.callee with
      | .value fo => match s.st.ρ G fo with
        | .fn (.func f) first captured =>
          match hasBody P f with
          | true => match cf f (first ++ k.args.toList.map (s.st.ρ G) ++ captured) s.H s.nx with
            | .ret x H' nx' => .ok { s.put o.dst x with H := H', nx := nx' }
            | .pan x H' nx' => .pan x { s with H := H', nx := nx' }
            | .no w => .no (.deep o w)
          | false => opR P G γ o s
        | .yl β => yieldR run o β (k.args.toList.map (s.st.ρ G)) s
        | _ => .no (.op o)
      | _ => opR P G γ o s
    | .defer k => match ro, k.callee with
      | none, .value fo => match s.st.ρ G fo with
        | .fn f first captured => .ok { s.put o.dst (.lit undef) with df := .fn f captured (first ++ k.args.toList.map (s.st.ρ G)) :: s.df }
        | _ => .no (.op o)
      | _, _ => .no (.op o)
    | .panic x => match s.st.ρ G x with
      | .ifc t y => .pan (.ifc t y) s
      | _ => .no (.op o)
    | _ => opR P G γ o s

theorem put_H (s : RS) (d : Option Tmp) (x : VV) : (s.put d x).H = s.H := by cases d <;> rfl
theorem put_st_H (s : RS) (d : Option Tmp) (x : VV) (H : Trie VObj) (nx : Nat) : ({ s.put d x with H := H, nx := nx } : RS).st = { s.st.put d x with H := H.get, nx := nx } := by rw [← RS.put_st]; rfl
theorem put_st_df (s : RS) (d : Option Tmp) (x : VV) (df : List VDef) : ({ s.put d x with df := df } : RS).st = { s.st.put d x with df := df } := by rw [← RS.put_st]; rfl
theorem updH_put (H : Trie VObj) (β : Nat) (o : VObj) : (H.put β (some o)).get = updH H.get β o := by
  funext i; rw [Trie.get_put]; rfl

theorem opR_sound {P : Program} {G : Glob} {n : Nat} {ops : Array Oper} {base i : Nat} {o : Oper} {s s' : RS} (h : opR P G (base + i) o s = .ok s') (ho : ops[i]? = some o) (hd : dstsOk n ops = true) (hw : wantV ops s.st.tm o = some true) {K : St → Prop} {Qp : VV → St → Prop}
    (hk : K s'.st) : SStep P G n ops base i s.st K Qp := by
  unfold opR at h
  split at h
  · rename_i x eff hv
    cases h
    refine SStep.quiet ho hd (.op hw hv) ?_
    have e : ({ s.put o.dst x with H := effR (base + i) s.H eff } : RS).st = { s.st.put o.dst x with H := eff.app (base + i) s.st.H } := by
      rw [← RS.put_st]
      show St.mk _ _ _ _ = St.mk _ _ _ _
      congr 1
      exact effR_get _ _ _
    rwa [e] at hk
  · cases h
theorem opR_pan {P : Program} {G : Glob} {γ : Nat} {o : Oper} {s s' : RS} {x : VV} (h : opR P G γ o s = .pan x s') : False := by
  unfold opR at h; split at h <;> cases h

theorem yieldR_pan {run : RunR} {o : Oper} {β : Nat} {args : List VV} {s s' : RS} {x : VV} (h : yieldR run o β args s = .pan x s') : False := by
  unfold yieldR at h
  repeat' split at h
  all_goals cases h

theorem yieldR_sound {P : Program} {G : Glob} {run : RunR} (hrun : RunOk P G run) {ro : Option Nat} {n : Nat} {ops : Array Oper} {base i : Nat} {o : Oper} {s s' : RS} {k : Call} {fo : Operand} {β : Nat}
    (h : yieldR run o β (k.args.toList.map (s.st.ρ (G.at (some ro)))) s = .ok s') (ho : ops[i]? = some o) (hd : dstsOk n ops = true) (hw : wantV ops s.st.tm o = some true) (hop : o.op = .call k) (hk : k.callee = .value fo) (hf : s.st.ρ (G.at (some ro)) fo = .yl β) {K : St → Prop} {Qp : VV → St → Prop}
    (hK : K s'.st) : SStep P (G.at (some ro)) n ops base i s.st K Qp := by
  unfold yieldR at h
  split at h
  · rename_i pe tm ps as bo df hβ
    split at h
    · rename_i hn
      split at h
      · rename_i s1 h1
        split at h
        · rename_i pe1 tm1 ps1 as1 bo1 df1 hβ1
          split at h
          · rename_i e s2 h2
            split at h
            · rename_i jump hj
              split at h
              · rename_i st2 pe2 tm2 ps2 as2 bo2 df2 hβ2
                cases h
                refine SStep.yield ho hd hw hop hk hf hβ (by simpa using hn) ?_
                have a1 := hrun (some β) tm.length as _ .normal s1 h1 (RoundStart P (G.at (some ro)) tm.length β bo o s.st K) ⟨pe1, tm1, ps1, as1, bo1, df1, hβ1, ?_⟩
                · rw [argsR] at a1
                  exact a1
                · have a2 := hrun (some β) tm.length bo _ e s2 h2 (RoundEnd β o s.st K) ?_
                  · have e2 : ({ s1 with H := s1.H.put β (some (.loop .busy pe1 tm1 ps1 as1 bo1 df1)) } : RS).st = { s1.st with H := updH s1.st.H β (.loop .busy pe1 tm1 ps1 as1 bo1 df1) } := by
                      simp only [RS.st, updH_put]
                    rw [e2] at a2
                    exact a2
                  · have done : RoundDone β o s.st K jump s2.st := by
                      refine ⟨st2, pe2, tm2, ps2, as2, bo2, df2, hβ2, ?_⟩
                      rw [put_st_H, updH_put] at hK
                      exact hK
                    cases e <;> simp only [jumpOf] at hj <;> cases hj <;> exact done
              · cases h
            · cases h
          · cases h
        · cases h
      · cases h
      · cases h
    · cases h
  · cases h

theorem stepR_sound {P : Program} {G : Glob} {run : RunR} {cf : CallR} (hrun : RunOk P G run) (hcf : CallOk P G cf) {ro : Option Nat} {n : Nat} {ops : Array Oper} {base i : Nat} {o : Oper} {s : RS} (ho : ops[i]? = some o) (hd : dstsOk n ops = true) {K : St → Prop} {Qp : VV → St → Prop}
    (hk : ∀ s', stepR P (G.at (some ro)) run cf ro ops (base + i) o s = .ok s' → K s'.st) (hq : ∀ x s', stepR P (G.at (some ro)) run cf ro ops (base + i) o s = .pan x s' → Qp x s'.st) (hno : ∀ w, stepR P (G.at (some ro)) run cf ro ops (base + i) o s ≠ .no w) :
    SStep P (G.at (some ro)) n ops base i s.st K Qp := by
  have opk : wantV ops s.st.tm o = some true → stepR P (G.at (some ro)) run cf ro ops (base + i) o s = opR P (G.at (some ro)) (base + i) o s → SStep P (G.at (some ro)) n ops base i s.st K Qp := by
    intro hw e
    cases h : opR P (G.at (some ro)) (base + i) o s with
    | ok s' => exact opR_sound h ho hd hw (hk s' (e.trans h))
    | pan x s' => exact (opR_pan h).elim
    | no w => exact absurd (e.trans h) (hno w)
  cases hw : wantV ops s.st.tm o with
  | none => exact absurd (by simp only [stepR, hw]) (hno (.op o))
  | some b =>
    cases b with
    | false =>
      refine SStep.quiet ho hd (.skip hw) ?_
      rw [← RS.put_st]
      exact hk _ (by simp only [stepR, hw])
    | true =>
      cases hop : o.op with
      | call k =>
        obtain ⟨callee, as, ats⟩ := k
        cases callee with
        | value fo =>
          cases hρ : s.st.ρ (G.at (some ro)) fo with
          | fn fn first captured =>
            cases fn with
            | func f =>
              cases hb : hasBody P f with
              | false => exact opk hw (by simp only [stepR, hw, hop, hρ, hb])
              | true =>
                have hf : callee? (G.at (some ro)) s.st o.op = some (f, first ++ as.toList.map (s.st.ρ (G.at (some ro))) ++ captured) := by simp [callee?, hop, hρ]
                cases hc : cf f (first ++ as.toList.map (s.st.ρ (G.at (some ro))) ++ captured) s.H s.nx with
                | ret x H' nx' =>
                  refine SStep.open ho hd hw hf ((hcf.1 _ _ _ _ _ _ _ hc).mono ?_ ?_)
                  · rintro y H1 n1 ⟨rfl, rfl, rfl⟩
                    have := hk { s.put o.dst y with H := H', nx := n1 } (by simp only [stepR, hw, hop, hρ, hb, hc])
                    rw [put_st_H] at this
                    exact this
                  · rintro y H1 n1 h; exact h.elim
                | pan x H' nx' =>
                  refine SStep.open ho hd hw hf ((hcf.2 _ _ _ _ _ _ _ hc).mono ?_ ?_)
                  · rintro y H1 n1 h; exact h.elim
                  · rintro y H1 n1 ⟨rfl, rfl, rfl⟩
                    exact hq y { s with H := H', nx := n1 } (by simp only [stepR, hw, hop, hρ, hb, hc])
                | no w => exact absurd (by simp only [stepR, hw, hop, hρ, hb, hc]) (hno (.deep o w))
            | method _ => exact absurd (by simp only [stepR, hw, hop, hρ]) (hno (.op o))
            | methodOf _ _ => exact absurd (by simp only [stepR, hw, hop, hρ]) (hno (.op o))
            | via _ _ _ _ => exact absurd (by simp only [stepR, hw, hop, hρ]) (hno (.op o))
            | yield _ => exact absurd (by simp only [stepR, hw, hop, hρ]) (hno (.op o))
          | yl β =>
            have e : stepR P (G.at (some ro)) run cf ro ops (base + i) o s = yieldR run o β (as.toList.map (s.st.ρ (G.at (some ro)))) s := by simp only [stepR, hw, hop, hρ]
            cases hy : yieldR run o β (as.toList.map (s.st.ρ (G.at (some ro)))) s with
            | ok s' => exact yieldR_sound (k := ⟨.value fo, as, ats⟩) hrun hy ho hd hw hop rfl hρ (hk s' (e.trans hy))
            | pan x s' => exact (yieldR_pan hy).elim
            | no w => exact absurd (e.trans hy) (hno w)
          | any => exact absurd (by simp only [stepR, hw, hop, hρ]) (hno (.op o))
          | lit _ => exact absurd (by simp only [stepR, hw, hop, hρ]) (hno (.op o))
          | agg _ => exact absurd (by simp only [stepR, hw, hop, hρ]) (hno (.op o))
          | tup _ => exact absurd (by simp only [stepR, hw, hop, hρ]) (hno (.op o))
          | sl _ _ _ => exact absurd (by simp only [stepR, hw, hop, hρ]) (hno (.op o))
          | tp _ => exact absurd (by simp only [stepR, hw, hop, hρ]) (hno (.op o))
          | ref _ _ _ _ => exact absurd (by simp only [stepR, hw, hop, hρ]) (hno (.op o))
          | ptr _ _ => exact absurd (by simp only [stepR, hw, hop, hρ]) (hno (.op o))
          | mt _ _ => exact absurd (by simp only [stepR, hw, hop, hρ]) (hno (.op o))
          | mp _ => exact absurd (by simp only [stepR, hw, hop, hρ]) (hno (.op o))
          | it _ => exact absurd (by simp only [stepR, hw, hop, hρ]) (hno (.op o))
          | ifc _ _ => exact absurd (by simp only [stepR, hw, hop, hρ]) (hno (.op o))
        | invoke r m => exact opk hw (by simp only [stepR, hw, hop])
        | builtin b => exact opk hw (by simp only [stepR, hw, hop])
      | defer k =>
        obtain ⟨callee, as, ats⟩ := k
        cases ro with
        | some β => exact absurd (by simp only [stepR, hw, hop]) (hno (.op o))
        | none =>
          cases callee with
          | value fo =>
            have e : stepR P (G.at (some none)) run cf none ops (base + i) o s = (match s.st.ρ (G.at (some none)) fo with
              | .fn f first captured => .ok { s.put o.dst (.lit undef) with df := .fn f captured (first ++ as.toList.map (s.st.ρ (G.at (some none)))) :: s.df }
              | _ => .no (.op o)) := by simp only [stepR, hw, hop]
            split at e
            · rename_i f first captured hρ
              refine SStep.defer rfl ho hd hw hop rfl hρ ?_
              have := hk _ e
              rw [put_st_df] at this
              exact this
            · exact absurd e (hno _)
          | invoke r m => exact absurd (by simp only [stepR, hw, hop]) (hno (.op o))
          | builtin b => exact absurd (by simp only [stepR, hw, hop]) (hno (.op o))
      | panic x =>
        have e : stepR P (G.at (some ro)) run cf ro ops (base + i) o s = (match s.st.ρ (G.at (some ro)) x with
          | .ifc t y => .pan (.ifc t y) s
          | _ => .no (.op o)) := by simp only [stepR, hw, hop]
        split at e
        · rename_i t y hx
          exact SStep.panic ho hw hop hx (hq _ _ e)
        · exact absurd e (hno _)
      | _ => exact opk hw (by simp only [stepR, hw, hop])
end Go.V
end
