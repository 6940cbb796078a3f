/- Part of a proof. -/
import Derived.Test.YtlkognggeadanaaGreatDoorWbk
set_option linter.all false
set_option maxRecDepth 4000
set_option maxHeartbeats 40000000
section
namespace Go.V
open Go Go.Proofs
def dropTo (e : GLe) : List GLe → Option (List GLe)
 | [] => none
 | f :: r => if e = f then some r else dropTo e r
def areE : List GLe → List GLe → Bool
 | [], r => r.isEmpty
 | e :: p, r => match dropTo e r with
  | none => false
  | some r' => areE p r'
theorem Bm (a b : GLe) : (a.Word == b.Word && (a.Letters == b.Letters)) = decide (a = b) := by
 obtain ⟨a1, a2⟩ := a
 obtain ⟨b1, b2⟩ := b
 simp only [GLe.mk.injEq]
 by_cases h1 : a1 = b1 <;> by_cases h2 : a2 = b2 <;> simp [h1, h2]
theorem Vu (e : GLe) : ∀ (p : List GLe) (i : Int), match dropTo e p with
  | none => tK e p i = some (.go ())
  | some r => ∃ k : Nat, tK e p i = some (.ret (i + k)) ∧ k < p.length ∧ r = p.drop (k + 1)
 | [], i => rfl
 | f :: p, i => by
  unfold dropTo
  by_cases h : e = f
  ·simp only [h, if_true]
   exact ⟨0, by simp [tK, Bm], by simp, by simp⟩
  ·rw [if_neg h]
   have ih := Vu e p (i + 1)
   cases hd : dropTo e p with
   | none =>
    rw [hd] at ih
    simp only at ih ⊢
    simp only [tK, Bm, decide_eq_false h, cond_false, ih]
   | some r =>
    rw [hd] at ih
    simp only at ih ⊢
    obtain ⟨k, h1, h2, h3⟩ := ih
    refine ⟨k + 1, ?_, by simpa using h2, by simpa using h3⟩
    simp only [tK, Bm, decide_eq_false h, cond_false, h1]
    congr 2
    omega
theorem Vv : ∀ (p : List GLe) (i : Int) (r : List GLe), r.length ≤ 1000 → (wE p i r = some (.ret false) ∧ areE p r = false) ∨ ∃ r', wE p i r = some (.go r') ∧ areE p r = r'.isEmpty
 | [], i, r, _ => .inr ⟨r, rfl, rfl⟩
 | e :: p, i, r, h => by
  have hx := Vu e r 0
  have hl := pa (xs := r) (by omega)
  unfold areE
  simp only [wE, FK, hl, cond_true]
  cases hd : dropTo e r with
  | none =>
   rw [hd] at hx
   simp only at hx ⊢
   left
   rw [hx]
   simp [lbind]
  | some r' =>
   rw [hd] at hx
   simp only at hx ⊢
   obtain ⟨k, h1, h2, h3⟩ := hx
   rw [h1, Hl, Option.bind_some, decide_eq_false (show ¬ ((0 : Int) + k < 0) by omega), cond_false, kO (by omega) (by omega)]
   have hs : sliceO r (0 + (k : Int) + 1) (r.length : Int) = some r' := by
    unfold sliceO
    rw [if_pos (by omega)]
    congr 1
    rw [show ((0 : Int) + k + 1).toNat = k + 1 by omega, h3]
    exact List.take_of_length_le (by simp; omega)
   rw [hs, Option.bind_some]
   exact Vv p (i + 1) r' (by rw [h3]; simp; omega)
theorem KQ (ends r : List GLe) (hl : lenOk ends = true) (hr : r.length ≤ 1000) : Bn ends r = some (areE ends r) := by
 simp only [Bn, hl, cond_true]
 rcases Vv ends 0 r hr with ⟨h1, h2⟩ | ⟨r', h1, h2⟩
 ·rw [h1, h2]; rfl
 ·rw [h1, h2, qu]
  cases r' with
  | nil => rfl
  | cons a l => simp; omega
def IsS (poss ends : List GLe) : Prop := ends.Pairwise befE ∧ (∀ e ∈ ends, e ∈ poss) ∧ ends.getLast? = poss.getLast?
theorem KR {e : GLe} : ∀ {r r' : List GLe}, dropTo e r = some r' → ∃ a, r = a ++ e :: r'
 | [], _, h => by cases h
 | f :: r, r', h => by
  unfold dropTo at h
  split at h
  ·rename_i hf
   simp only [Option.some.injEq] at h
   subst h hf
   exact ⟨[], rfl⟩
  ·obtain ⟨a, ha⟩ := KR h
   exact ⟨f :: a, by rw [ha]; rfl⟩
theorem Vw {e : GLe} : ∀ {r : List GLe}, e ∈ r → ∃ r', dropTo e r = some r'
 | [], h => by cases h
 | f :: r, h => by
  unfold dropTo
  split
  ·exact ⟨r, rfl⟩
  ·rename_i hf
   rcases List.mem_cons.1 h with h | h
   ·exact absurd h hf
   ·exact Vw h
theorem Bo : ∀ (p r : List GLe), r.Pairwise befE → (areE p r = true ↔ IsS r p)
 | [], r, _ => by
  unfold areE IsS
  cases r with
  | nil => simp
  | cons a l =>
   simp only [List.isEmpty_cons, Bool.false_eq_true, false_iff]
   rintro ⟨_, _, h⟩
   simp [List.getLast?_cons] at h
 | e :: p, r, hr => by
  unfold areE
  constructor
  ·intro h
   cases hd : dropTo e r with
   | none => rw [hd] at h; cases h
   | some r' =>
    rw [hd] at h
    obtain ⟨a, rfl⟩ := KR hd
    rw [List.pairwise_append] at hr
    obtain ⟨_, mU, _⟩ := hr
    rw [List.pairwise_cons] at mU
    obtain ⟨h1, h2, h3⟩ := (Bo p r' mU.2).1 h
    refine ⟨List.pairwise_cons.2 ⟨fun x hx => mU.1 x (h2 x hx), h1⟩, fun x hx => ?_, ?_⟩
    ·rcases List.mem_cons.1 hx with rfl | hx
     ·simp
     ·have := h2 x hx
      simp [this]
    ·rw [List.getLast?_append, List.getLast?_cons, List.getLast?_cons, h3]
     simp
  ·rintro ⟨h1, h2, h3⟩
   obtain ⟨r', hd⟩ := Vw (h2 e (List.mem_cons_self ..))
   rw [hd]
   obtain ⟨a, rfl⟩ := KR hd
   rw [List.pairwise_append] at hr
   obtain ⟨hra, mU, KS⟩ := hr
   rw [List.pairwise_cons] at mU h1
   refine (Bo p r' mU.2).2 ⟨h1.2, fun x hx => ?_, ?_⟩
   ·have hb := h1.1 x hx
    rcases List.mem_append.1 (h2 x (List.mem_cons_of_mem _ hx)) with hx' | hx'
    ·exact absurd (wF hb (KS x hx' e (List.mem_cons_self ..))) vo
    ·rcases List.mem_cons.1 hx' with rfl | hx'
     ·exact absurd hb vo
     ·exact hx'
   ·rw [List.getLast?_append, List.getLast?_cons, List.getLast?_cons] at h3
    simp only [Option.some_or, Option.some.injEq] at h3
    cases hp : p.getLast? with
    | none =>
     rw [hp] at h3
     cases hr' : r'.getLast? with
     | none => rfl
     | some y =>
      rw [hr'] at h3
      simp only [Option.getD_none, Option.getD_some] at h3
      subst h3
      exact absurd (mU.1 _ (List.mem_of_getLast? hr')) vo
    | some z =>
     rw [hp] at h3
     cases hr' : r'.getLast? with
     | none =>
      rw [hr'] at h3
      simp only [Option.getD_none, Option.getD_some] at h3
      subst h3
      exact absurd (h1.1 _ (List.mem_of_getLast? hp)) vo
     | some y =>
      rw [hr'] at h3
      simp only [Option.getD_some] at h3
      rw [h3]
abbrev poss (s : GLs) (out : List Int) : List GLe := possL out s.Words 0
theorem wG {s : GLs} (h : Sh s) (out : List Int) : (poss s out).Pairwise befE := Bp out _ _ fun w hw => ⟨(h.wcut w hw).1, (h.wcut w hw).2.1⟩
theorem KT {s : GLs} (h : Sh s) (out : List Int) : (possL out s.Words 0).length ≤ 24 := by
 have := Vx out s.Words 0 fun w hw => (h.wcut w hw).2.2
 have := h.nw
 omega
theorem Zn {s : GLs} (h : Sh s) (x : GLx) (hl : lenOk x.Out = true) (he : lenOk x.Ends = true) : tL s x = some (outB s x.Out && areE x.Ends (poss s x.Out)) := by
 have := h.nw
 have hn := KT h x.Out
 simp only [tL, KU s _ hl (by omega), KV h _ hl, Option.bind_some]
 rw [KQ _ _ he (by omega), Option.bind_some, csome]
instance {a b : GLe} : Decidable (befE a b) := inferInstanceAs (Decidable (_ ∨ _))
theorem KW (a b : GLe) : AX a b = some (decide (befE a b)) := by
 unfold AX befE
 by_cases h1 : a.Word < b.Word
 ·simp [h1]
 ·by_cases h2 : a.Word = b.Word
  ·simp [h1, h2]
  ·have : (a.Word == b.Word) = false := by simpa using h2
   simp [h1, h2, this]
def letB (s : GLs) (e : GLe) : Bool := match getI s.Words e.Word with
 | some w => (e.Letters == (w.Signs.length : Int)) || w.Cuts.contains e.Letters
 | none => false
def memB (s : GLs) (out : List Int) (e : GLe) : Bool := inB 0 ((s.Words.length : Int) - 1) e.Word && (!out.contains e.Word && letB s e)
theorem KX {s : GLs} {out : List Int} {e : GLe} : memB s out e = true ↔ e ∈ possL out s.Words 0 := by
 rw [FM]
 unfold memB letB
 simp only [Bool.and_eq_true, tM, Bool.not_eq_true']
 constructor
 ·rintro ⟨h1, h2, h3⟩
  refine ⟨e.Word.toNat, ?_⟩
  have hk : (0 : Int) + (e.Word.toNat : Int) = e.Word := by omega
  rw [hk]
  split at h3
  ·rename_i w hw
   unfold getI at hw
   rw [if_pos h1.1] at hw
   refine ⟨w, hw, h2, zg.2 ⟨rfl, ?_⟩⟩
   simp only [Bool.or_eq_true, beq_iff_eq, List.contains_eq_mem, decide_eq_true_eq] at h3
   exact h3.symm
  ·cases h3
 ·rintro ⟨k, w, hk, h2, h3⟩
  obtain ⟨h3, h4⟩ := zg.1 h3
  have hlt : k < s.Words.length := by
   rcases Nat.lt_or_ge k s.Words.length with h | h
   ·exact h
   ·rw [List.getElem?_eq_none h] at hk; cases hk
  rw [← h3] at h2
  refine ⟨by omega, h2, ?_⟩
  have hg : getI s.Words e.Word = some w := by
   unfold getI
   rw [if_pos (by omega), show e.Word.toNat = k by omega]
   exact hk
  simp only [hg, Bool.or_eq_true, beq_iff_eq, List.contains_eq_mem, decide_eq_true_eq]
  exact h4.symm
def stgG (s : GLs) (out : List Int) : Option GLe → List GLe → Bool
 | _, [] => true
 | none, e :: p => memB s out e && stgG s out (some e) p
 | some q, e :: p => memB s out e && (decide (befE q e) && stgG s out (some e) p)
theorem Vy (s : GLs) (out : List Int) : ∀ (p : List GLe) (q : GLe), stgG s out (some q) p = true ↔ (q :: p).Pairwise befE ∧ ∀ e ∈ p, memB s out e = true
 | [], q => by simp [stgG]
 | e :: p, q => by
  have ih := Vy s out p e
  simp only [stgG, Bool.and_eq_true, ih, decide_eq_true_eq]
  constructor
  ·rintro ⟨h1, h2, h3, h4⟩
   refine ⟨List.pairwise_cons.2 ⟨fun x hx => ?_, h3⟩, fun x hx => ?_⟩
   ·rcases List.mem_cons.1 hx with rfl | hx
    ·exact h2
    ·exact wF h2 ((List.pairwise_cons.1 h3).1 x hx)
   ·rcases List.mem_cons.1 hx with rfl | hx
    ·exact h1
    ·exact h4 x hx
  ·rintro ⟨h1, h2⟩
   rw [List.pairwise_cons] at h1
   exact ⟨h2 e (List.mem_cons_self ..), h1.1 e (List.mem_cons_self ..), h1.2, fun x hx => h2 x (List.mem_cons_of_mem _ hx)⟩
theorem Vz (s : GLs) (out : List Int) : ∀ (p : List GLe), stgG s out none p = true ↔ p.Pairwise befE ∧ ∀ e ∈ p, e ∈ possL out s.Words 0
 | [] => by simp [stgG]
 | e :: p => by
  simp only [stgG, Bool.and_eq_true, Vy, KX]
  constructor
  ·rintro ⟨h1, h2, h3⟩
   refine ⟨h2, fun x hx => ?_⟩
   rcases List.mem_cons.1 hx with rfl | hx
   ·exact h1
   ·exact h3 x hx
  ·rintro ⟨h1, h2⟩
   exact ⟨h2 e (List.mem_cons_self ..), h1, fun x hx => h2 x (List.mem_cons_of_mem _ hx)⟩
theorem Bq {s : GLs} (h : Sh s) (x : GLx) (ho : lenOk x.Out = true) (hl : lenOk x.Ends = true) : ∀ (p : List GLe) (q : GLe) (i : Int), 1 ≤ i → x.Ends.drop (i - 1).toNat = q :: p → qY s x p i = goB (stgG s x.Out (some q) p)
 | [], _, _, _, _ => rfl
 | e :: p, q, i, h0, hd => by
  have hb := wC hl
  have hle := za hd
  simp only [List.length_cons] at hle
  have hi : i < 9223372036854775808 := by
   rcases hle with hle | hle
   ·omega
   ·cases hle
  have hn : x.Ends.drop (i + 1 - 1).toNat = e :: p := by
   have := bJ (i := i - 1) (by omega) hd
   rwa [show i - 1 + 1 = i + 1 - 1 by omega] at this
  have hp : decide (i > 0) = true := by simp; omega
  have hw := h.nw
  simp only [qY, in_eq, Option.bind_some]
  rw [kO (by omega) (by omega)]
  simp only [stgG, memB]
  cases hin : inB 0 ((s.Words.length : Int) - 1) e.Word with
  | false => simp only [cond_false, Bool.false_and]; rfl
  | true =>
   obtain ⟨w, hw', hwm⟩ := Br hin
   have hc := (h.wcut w hwm).2.2
   simp only [cond_true, Bs _ _ ho, Option.bind_some, hp, yZ h0 hi hd, KW, hw', Bs w.Cuts _ (pa (by omega)), Bq h x ho hl p e (i + 1) (by omega) hn, letB, Bool.true_and]
   cases x.Out.contains e.Word with
   | true => rfl
   | false =>
    simp only [cond_false, Bool.not_false, Bool.true_and, bne]
    cases decide (befE q e) <;> cases (e.Letters == (w.Signs.length : Int)) <;> cases w.Cuts.contains e.Letters <;> simp <;> rfl
theorem KY {s : GLs} (h : Sh s) (x : GLx) (ho : lenOk x.Out = true) (hl : lenOk x.Ends = true) : qY s x x.Ends 0 = goB (stgG s x.Out none x.Ends) := by
 generalize hx : x.Ends = es
 cases es with
 | nil => rfl
 | cons e p =>
  have ih := Bq h x ho hl p e (0 + 1) (by omega) (by rw [hx]; rfl)
  have hw := h.nw
  simp only [qY, in_eq, Option.bind_some]
  rw [kO (by omega) (by omega)]
  simp only [stgG, memB]
  cases hin : inB 0 ((s.Words.length : Int) - 1) e.Word with
  | false => simp only [cond_false, Bool.false_and]; rfl
  | true =>
   obtain ⟨w, hw', hwm⟩ := Br hin
   have hc := (h.wcut w hwm).2.2
   simp only [cond_true, Bs _ _ ho, Option.bind_some, show decide ((0 : Int) > 0) = false from rfl, cond_false, hw', Bs w.Cuts _ (pa (by omega)), ih, letB, Bool.true_and]
   cases x.Out.contains e.Word with
   | true => rfl
   | false =>
    simp only [cond_false, Bool.not_false, Bool.true_and, bne]
    cases (e.Letters == (w.Signs.length : Int)) <;> cases w.Cuts.contains e.Letters <;> simp <;> rfl
theorem Bt {hi : Int} : ∀ (p : List Int) (q : Int), incr q p = true → (p.length : Int) < hi - q → ∃ j, q < j ∧ j ≤ hi ∧ j ∉ p
 | [], q, _, h => ⟨q + 1, by omega, by simp at h; omega, by simp⟩
 | e :: p, q, h1, h2 => by
  simp only [incr, Bool.and_eq_true, Bool.not_eq_true', decide_eq_false_iff_not] at h1
  simp only [List.length_cons] at h2
  by_cases he : e = q + 1
  ·obtain ⟨j, a, b, c⟩ := Bt (hi := hi) p e h1.2 (by omega)
   refine ⟨j, by omega, b, fun hm => ?_⟩
   rcases List.mem_cons.1 hm with hm | hm
   ·omega
   ·exact c hm
  ·refine ⟨q + 1, by omega, by omega, fun hm => ?_⟩
   have hpw := wH p e h1.2
   rcases List.mem_cons.1 hm with hm | hm
   ·omega
   ·have := (List.pairwise_cons.1 hpw).1 _ hm
    omega
theorem Bu {s : GLs} {out : List Int} (h : outB s out = true) : ∃ j : Nat, j < s.Words.length ∧ out.contains (j : Int) = false := by
 simp only [outB, Bool.and_eq_true, decide_eq_true_eq] at h
 obtain ⟨h1, ⟨h2, h2'⟩, _⟩ := h
 have : ∃ j, (-1 : Int) < j ∧ j ≤ (s.Words.length : Int) - 1 ∧ j ∉ out := by
  cases out with
  | nil => exact ⟨0, by omega, by simp at h1; omega, by simp⟩
  | cons e p =>
   simp only [List.length_cons] at h1
   refine Bt (e :: p) (-1) ?_ (by simp only [List.length_cons]; omega)
   simp only [List.all_cons, Bool.and_eq_true, tM] at h2'
   simp only [incrL] at h2
   simp only [incr, h2, Bool.and_true, Bool.not_eq_true', decide_eq_false_iff_not]
   omega
 obtain ⟨j, a, b, c⟩ := this
 exact ⟨j.toNat, by omega, by rw [show ((j.toNat : Nat) : Int) = j by omega]; simpa using c⟩
theorem V0 {α : Type} {xs : List α} {i : Nat} {x : α} (h : xs[i]? = some x) : getI xs (i : Int) = some x := by
 unfold getI
 simp [h]
theorem Bv {out : List Int} (hl : lenOk out = true) : ∀ (n f : Nat), n < f → n < 1000 → (∃ j : Nat, j ≤ n ∧ out.contains (j : Int) = false) → ∃ m : Nat, m ≤ n ∧ yS out f (n : Int) = some (.go (m : Int)) ∧ out.contains (m : Int) = false ∧ ∀ k : Nat, m < k → k ≤ n → out.contains (k : Int) = true
 | n, 0, h, _, _ => by omega
 | n, f + 1, h, hn, hj => by
  simp only [yS, Bs _ _ hl, Option.bind_some]
  cases hc : out.contains (n : Int) with
  | false => exact ⟨n, Nat.le_refl _, rfl, hc, fun k h1 h2 => by omega⟩
  | true =>
   simp only [cond_true]
   obtain ⟨j, h1, h2⟩ := hj
   have hne : j ≠ n := fun e => by rw [e, hc] at h2; cases h2
   cases n with
   | zero => omega
   | succ n =>
    obtain ⟨m, q1, q2, q3, q4⟩ := Bv hl n f (by omega) (by omega) ⟨j, by omega, h2⟩
    rw [kO (by omega) (by omega), show (((n + 1 : Nat) : Int) - 1) = (n : Int) by omega]
    refine ⟨m, by omega, q2, q3, fun k h3 h4 => ?_⟩
    by_cases hk : k = n + 1
    ·rw [hk]; exact hc
    ·exact q4 k h3 (by omega)
theorem V1 (out : List Int) : ∀ (ws : List GLw) (i : Int), (∀ k : Nat, k < ws.length → out.contains (i + k) = true) → possL out ws i = []
 | [], _, _ => rfl
 | w :: ws, i, h => by
  have h0 := h 0 (by simp)
  rw [Int.natCast_zero, Int.add_zero] at h0
  unfold possL
  rw [h0, cond_true]
  exact V1 out ws (i + 1) fun k hk => by
   have := h (k + 1) (by simp; omega)
   rwa [show i + ((k + 1 : Nat) : Int) = i + 1 + k by omega] at this
theorem V2 (out : List Int) : ∀ (ws : List GLw) (i : Int) (m : Nat) (w : GLw), ws[m]? = some w → out.contains (i + m) = false → (∀ k : Nat, m < k → k < ws.length → out.contains (i + k) = true) → (possL out ws i).getLast? = some (GLe.mk (i + m) (w.Signs.length : Int))
 | [], _, m, w, h, _, _ => by simp at h
 | v :: ws, i, 0, w, h, h1, h2 => by
  simp only [List.getElem?_cons_zero, Option.some.injEq] at h
  subst h
  have hn := V1 out ws (i + 1) fun k hk => by
   have := h2 (k + 1) (by omega) (by simp; omega)
   rwa [show i + ((k + 1 : Nat) : Int) = i + 1 + k by omega] at this
  rw [Int.natCast_zero, Int.add_zero] at h1 ⊢
  unfold possL
  rw [h1, cond_false, hn, List.append_nil]
  simp [posW]
 | v :: ws, i, m + 1, w, h, h1, h2 => by
  have e1 : i + ((m + 1 : Nat) : Int) = i + 1 + m := by omega
  rw [e1] at h1 ⊢
  have ih := V2 out ws (i + 1) m w (by simpa using h) h1 fun k h3 h4 => by
   have := h2 (k + 1) (by omega) (by simp; omega)
   rwa [show i + ((k + 1 : Nat) : Int) = i + 1 + k by omega] at this
  unfold possL
  cases out.contains i with
  | true => exact ih
  | false => rw [cond_false, List.getLast?_append, ih]; rfl
theorem KZ {s : GLs} {out : List Int} (h : outB s out = true) : possL out s.Words 0 ≠ [] := by
 obtain ⟨j, h1, h2⟩ := Bu h
 intro hn
 have : GLe.mk (j : Int) (s.Words[j].Signs.length : Int) ∈ possL out s.Words 0 := by
  rw [FM]
  exact ⟨j, s.Words[j], List.getElem?_eq_getElem h1, by rw [Int.zero_add]; exact h2, zg.2 ⟨by simp, .inr rfl⟩⟩
 rw [hn] at this
 cases this
theorem La {s : GLs} (h : Sh s) (x : GLx) (ho : lenOk x.Out = true) (he : lenOk x.Ends = true) : AZ s x = some (outB s x.Out && areE x.Ends (possL x.Out s.Words 0)) := by
 have hw := h.nw
 simp only [AZ, Lb s _ ho (by omega), Option.bind_some]
 cases hob : outB s x.Out with
 | false => rfl
 | true =>
  simp only [cond_true, Bool.true_and]
  have hiff := Bo x.Ends (possL x.Out s.Words 0) (wG h x.Out)
  have hpn := KZ hob
  cases hx : x.Ends with
  | nil =>
   rw [hx] at hiff
   simp only [List.length_nil, Int.natCast_zero, beq_self_eq_true, cond_true]
   cases ha : areE [] (possL x.Out s.Words 0) with
   | false => rfl
   | true =>
    have := (hiff.1 ha).2.2
    rw [List.getLast?_nil] at this
    exact absurd (List.getLast?_eq_none_iff.1 this.symm) hpn
  | cons e p =>
   have hz : (((e :: p).length : Int) == 0) = false := by simp; omega
   rw [hz, cond_false, ← hx, he, cond_true, KY h x ho he, vm]
   cases hg : stgG s x.Out none x.Ends with
   | false =>
    simp only [cond_false]
    cases ha : areE x.Ends (possL x.Out s.Words 0) with
    | false => rfl
    | true =>
     obtain ⟨h1, h2, _⟩ := hiff.1 ha
     rw [(Vz s x.Out x.Ends).2 ⟨h1, h2⟩] at hg
     cases hg
   | true =>
    simp only [cond_true]
    obtain ⟨h1, h2⟩ := (Vz s x.Out x.Ends).1 hg
    obtain ⟨j, hj1, Zo⟩ := Bu hob
    obtain ⟨m, q1, q2, q3, q4⟩ := Bv ho (s.Words.length - 1) 1000000 (by omega) (by omega) ⟨j, by omega, Zo⟩
    have hm : m < s.Words.length := by omega
    have hwm : s.Words[m]? = some s.Words[m] := List.getElem?_eq_getElem hm
    have hlast := V2 x.Out s.Words 0 m _ hwm (by rw [Int.zero_add]; exact q3) fun k h3 h4 => by rw [Int.zero_add]; exact q4 k h3 (by omega)
    rw [Int.zero_add] at hlast
    have hgw : getI s.Words (m : Int) = some s.Words[m] := V0 hwm
    have hel : x.Ends.length = p.length + 1 := by rw [hx]; rfl
    have hlE := wC he
    simp only [FE]
    rw [kO (by omega) (by omega), show ((s.Words.length : Int) - 1) = ((s.Words.length - 1 : Nat) : Int) by omega, q2, qu, Option.bind_some, Lc (by omega) hlE]
    obtain ⟨y, hy⟩ : ∃ y, x.Ends.getLast? = some y := by
     rw [hx, List.getLast?_cons]; exact ⟨_, rfl⟩
    rw [hy, Option.bind_some, hgw, Option.bind_some]
    congr 1
    rw [Bm y (GLe.mk (m : Int) (s.Words[m].Signs.length : Int))]
    cases ha : areE x.Ends (possL x.Out s.Words 0) with
    | true =>
     have := (hiff.1 ha).2.2
     rw [hy, hlast, Option.some.injEq] at this
     simpa using this
    | false =>
     rw [decide_eq_false_iff_not]
     intro hh
     rw [hiff.2 ⟨h1, h2, by rw [hy, hlast, hh]⟩] at ha
     cases ha
end Go.V
end
section
namespace Go.V
open Go Go.Proofs
section
variable {P : Program} {K V : Type} {q : K → K → Bool} {kv : K → Value} {ew : V → VV} {t kt et : TypeId} {H : Nat → Option VObj}
theorem Zp {fs : Array Field} {z : V} (hm : P.underlying t = some (.map kt et)) (hu : P.underlying kt = some (.struct fs)) (he : ∀ a b, aD P (Op.equal kt (kv a) (kv b)) = some (q a b)) (hc : ∀ b k, aD P (Instr.checkKey b 10000 kt (kv k)) = some ())
  (hz : ((P.info? et).bind (·.zero)).map ofVal2 = some (ew z)) {l : List (K × V)} {kx : VV} {k : K} (hk : kx.val? = some (kv k)) :
  vlookup P H t (.mt (mtK kv l) (mtV ew l)) kx true = some (.tup [ew (mapGet q z l k), .lit (.bool (mapHas q l k))]) := by
 have := Y5 (H := fun _ => some (.map (encM kv ew l))) (β := 0) hm hu he hc hz hk rfl
 unfold vlookup at this ⊢
 rw [Au]
 exact this
end
end Go.V
end
section
namespace Go.V
open Go Go.Proofs
def ed (a b : Glp) : Bool := ((a.left == b.left) && ((a.right == b.right) && true))
theorem rb (a b : Glp) : aD Tryz.prog (Op.equal 142 (dp a) (dp b)) = some (ed a b) := by
 unfold Op.equal
 exact Jq 5 142 _ _ _ (by kernel_rfl) 9995
theorem re (b : Bool) (k : Glp) : aD Tryz.prog (Instr.checkKey b 10000 142 (dp k)) = some () := by
 cases b <;> kernel_rfl
theorem vp (a b : Glp) (h : ed a b = true) : a = b := by
 obtain ⟨aleft, aright⟩ := a
 obtain ⟨bleft, bright⟩ := b
 simp only [ed, Bool.and_true, Bool.and_eq_true, beq_iff_eq] at h
 simp only [h]
theorem wI (a : Glp) : ed a a = true := by simp [ed]
theorem Bw (a : Glp) : Instr.sameBits 10000 (dp a) (dp a) = true := by
 simp [dp, Instr.sameBits]
theorem Bx : ((Tryz.prog.info? 25).bind (·.zero)).map ofVal2 = some (fy (GSpan.mk 0 0)) := by kernel_rfl
theorem By (k : Glp) : VV.val? (.agg [.lit (.int .i64 k.left), .lit (.int .i64 k.right)]) = some (dp k) := rfl
theorem Ld {β : Nat} (l : List (Glp × GSpan)) (k : Glp) (n : GSpan) (H : Nat → Option VObj) (hb : H β = some (.map (encM dp fy l))) : vmapUpdate Tryz.prog H 90 (.mp β) (.agg [.lit (.int .i64 k.left), .lit (.int .i64 k.right)]) (.agg [.lit (.int .i64 n.Low), .lit (.int .i64 n.High)]) = some (.upd β (.map (encM dp fy (mapSet ed l k n)))) :=
 J3 Tryz.underlying90 Tryz.underlying142 rb re vp Bw (By k) hb
theorem Le {c : VV} {cs : List VV} : an Tryz.prog 90 (c :: cs) = some c := by
 have h1 : aggT Tryz.prog 90 = some false := by kernel_rfl
 simp [an, aA, h1]
theorem Lf : szT Tryz.prog 90 = some 1 := by kernel_rfl
theorem Bz : vzl Tryz.prog 90 = some [.lit (.map none)] := by kernel_rfl
theorem B0 {l : List (Glp × GSpan)} {a_left a_right : Int} {H : Nat → Option VObj} : vlookup Tryz.prog H 90 (.mt (mtK dp l) (mtV fy l)) (.agg [.lit (.int .i64 a_left), .lit (.int .i64 a_right)]) false = some (.agg (cGSpan (mapGet ed (GSpan.mk 0 0) l (Glp.mk a_left a_right)))) :=
 Y4 Tryz.underlying90 Tryz.underlying142 rb re Bx (k := (Glp.mk a_left a_right)) rfl
theorem lkto90 {l : List (Glp × GSpan)} {a_left a_right : Int} {H : Nat → Option VObj} : vlookup Tryz.prog H 90 (.mt (mtK dp l) (mtV fy l)) (.agg [.lit (.int .i64 a_left), .lit (.int .i64 a_right)]) true = some (.tup [.agg (cGSpan (mapGet ed (GSpan.mk 0 0) l (Glp.mk a_left a_right))), .lit (.bool (mapHas ed l (Glp.mk a_left a_right)))]) :=
 Zp Tryz.underlying90 Tryz.underlying142 rb re Bx (k := (Glp.mk a_left a_right)) rfl
theorem Lg (H : Nat → Option VObj) (d : Nat) (n : GSpan) : showV H d (fy n) = fy n := by cases d <;> simp [fy, showV, aE, nrm]
theorem Lh {kv : Glp → Value} {l : List (Glp × GSpan)} {H : Nat → Option VObj} {d : Nat} : ((encM kv fy l).map (·.2)).map (showV H d) = mtV fy l := JE Lg
def mqr := And.intro (And.intro @F3 @Av) (And.intro @rh True.intro)
def mqt := And.intro (And.intro (And.intro @Le @Lf) (And.intro @Bz (And.intro @B0 @lkto90))) (And.intro (And.intro @F3 @Av) (And.intro @iG @Lh))
end Go.V
end
