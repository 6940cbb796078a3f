/- Part of the proof of a statement of YtgjcaeapffpamaaGreatDoor: a logic of values by content, the lifted functions, and what follows. -/
import Derived.Test.YtgjcaeapffpamaaGreatDoorMbn
import Derived.Test.YtgjcaeapffpamaaGreatDoorMbo
set_option linter.unusedVariables false
set_option linter.unusedSimpArgs false
set_option linter.unusedSectionVars false
set_option linter.constructorNameAsVariable false
section
namespace Go.V
open Go
/-! The law LetterFell, for all sheets whose lists are short enough. -/
theorem findL_some {f : GLetterWord → Bool} : ∀ (p : List GLetterWord) (i j : Int), findL f p i = some j → ∃ k : Nat, j = i + k ∧ ∃ e, p[k]? = some e ∧ f e = true
  | [], _, _, h => by cases h
  | e :: p, i, j, h => by
    unfold findL at h
    cases hf : f e with
    | true =>
      rw [hf] at h
      simp only [cond_true, Option.some.injEq] at h
      exact ⟨0, by omega, e, rfl, hf⟩
    | false =>
      rw [hf] at h
      simp only [cond_false] at h
      obtain ⟨k, hk, x, hx, hfx⟩ := findL_some p (i + 1) j h
      exact ⟨k + 1, by omega, x, by simpa using hx, hfx⟩
theorem findL_le {f : GLetterWord → Bool} : ∀ (p : List GLetterWord) (i : Int) (k : Nat) (e : GLetterWord), p[k]? = some e → f e = true → ∃ j, findL f p i = some j ∧ j ≤ i + k
  | [], _, _, _, h, _ => by simp at h
  | x :: p, i, k, e, h, hf => by
    unfold findL
    cases hx : f x with
    | true => exact ⟨i, rfl, by omega⟩
    | false =>
      cases k with
      | zero =>
        simp only [List.getElem?_cons_zero, Option.some.injEq] at h
        rw [h, hf] at hx; cases hx
      | succ k =>
        obtain ⟨j, hj, hle⟩ := findL_le p (i + 1) k e (by simpa using h) hf
        exact ⟨j, hj, by omega⟩
/-- What is found lies in order, and is mistaken. -/
theorem find2_some {ws : List GLetterWord} : ∀ (p : List GLetterWord) (i : Int), 0 ≤ i → ws.drop i.toNat = p → ∀ x y, find2 ws p i = some (x, y) → 0 ≤ x ∧ x < y ∧ ∃ a b, getI ws x = some a ∧ getI ws y = some b ∧ MB a b = true
  | [], _, _, _, _, _, h => by cases h
  | e :: p, i, h0, hp, x, y, h => by
    unfold find2 at h
    split at h
    · rename_i j hj
      cases h
      obtain ⟨k, hk, b, hb, hf⟩ := findL_some _ _ _ hj
      refine ⟨h0, by omega, e, b, getI_of_drop h0 hp, ?_, hf⟩
      unfold getI
      rw [if_pos (by omega)]
      rw [List.getElem?_drop] at hb
      rw [show y.toNat = (i + 1).toNat + k by omega]
      exact hb
    · exact find2_some p (i + 1) (by omega) (drop_next h0 hp) x y h
theorem find2_le {ws : List GLetterWord} : ∀ (p : List GLetterWord) (i : Int), 0 ≤ i → ws.drop i.toNat = p → ∀ (one other : Int) a b, i ≤ one → one < other → getI ws one = some a → getI ws other = some b → MB a b = true →
    ∃ x y, find2 ws p i = some (x, y) ∧ (x < one ∨ x = one ∧ y ≤ other)
  | [], i, h0, hp, one, _, _, _, h1, _, ha, _, _ => by
    have := (getI_drop ha).2.1
    have := List.drop_eq_nil_iff.1 hp
    omega
  | e :: p, i, h0, hp, one, other, a, b, h1, h2, ha, hb, hm => by
    unfold find2
    cases hj : findL (MB e) (List.drop (i + 1).toNat ws) (i + 1) with
    | some j =>
      refine ⟨i, j, rfl, ?_⟩
      by_cases hi : i < one
      · exact .inl hi
      · right
        have he : i = one := by omega
        subst he
        rw [getI_of_drop h0 hp] at ha
        cases ha
        refine ⟨rfl, ?_⟩
        have hb' : (List.drop (i + 1).toNat ws)[(other - (i + 1)).toNat]? = some b := by
          unfold getI at hb
          rw [if_pos (by omega)] at hb
          rw [List.getElem?_drop, show (i + 1).toNat + (other - (i + 1)).toNat = other.toNat by omega]
          exact hb
        obtain ⟨j', hj', hle⟩ := findL_le _ (i + 1) _ b hb' hm
        rw [hj] at hj'
        cases hj'
        omega
    | none =>
      by_cases hi : i < one
      · exact find2_le p (i + 1) (by omega) (drop_next h0 hp) one other a b (by omega) h2 ha hb hm
      · exfalso
        have he : i = one := by omega
        subst he
        rw [getI_of_drop h0 hp] at ha
        cases ha
        have hb' : (List.drop (i + 1).toNat ws)[(other - (i + 1)).toNat]? = some b := by
          unfold getI at hb
          rw [if_pos (by omega)] at hb
          rw [List.getElem?_drop, show (i + 1).toNat + (other - (i + 1)).toNat = other.toNat by omega]
          exact hb
        obtain ⟨j', hj', _⟩ := findL_le (f := MB e) _ (i + 1) _ b hb' hm
        rw [hj] at hj'
        cases hj'
theorem looks_len {xs e : List Int} (h1 : 1 ≤ xs.length) (h : e ∈ looksF xs) : e.length = xs.length ∨ e.length + 1 = xs.length := by
  unfold looksF at h
  split at h
  · simp only [List.mem_singleton] at h
    subst h; exact .inl rfl
  · simp only [List.mem_cons, List.mem_map, List.mem_range] at h
    rcases h with h | ⟨k, hk, h⟩
    · subst h; exact .inl rfl
    · subst h
      right
      rw [List.length_eraseIdx_of_lt hk]; omega
theorem mist_len {a b : List Int} (ha : 1 ≤ a.length) (hb : 1 ≤ b.length) (h : mistB a b = true) : a.length ≤ b.length + 1 ∧ b.length ≤ a.length + 1 := by
  unfold mistB at h
  simp only [List.any_eq_true] at h
  obtain ⟨x, hx, y, hy, e⟩ := h
  have e' : x = y := by simpa using e
  subst e'
  have h1 := looks_len ha hx
  have h2 := looks_len hb hy
  omega
theorem fall_mem {xs : List Int} {a : Int} (h1 : 1 ≤ xs.length) (hne : fallFrom a 0 xs ≠ []) : fallFrom a 0 xs ∈ looksF xs := by
  by_cases h0 : 0 ≤ a ∧ a < xs.length
  · have e := fallFrom_eq a xs 0 a.toNat (by omega)
    rw [e] at hne ⊢
    unfold looksF
    split
    · rename_i hl
      match xs, hl with
      | [x], _ =>
        exfalso
        apply hne
        have : a.toNat = 0 := by simp at h0; omega
        rw [this]
        rfl
    · refine List.mem_cons_of_mem _ (List.mem_map.2 ⟨a.toNat, List.mem_range.2 (by omega), rfl⟩)
  · have e : fallFrom a 0 xs = xs := by
      by_cases ha : a < 0
      · exact fallFrom_lt a xs 0 ha
      · have hk : a = 0 + (a.toNat : Int) := by omega
        rw [fallFrom_eq a xs 0 a.toNat hk]
        exact List.eraseIdx_of_length_le (by omega)
    rw [e]
    unfold looksF
    split
    · exact List.mem_singleton.2 rfl
    · exact List.mem_cons_self ..
theorem getI_some {α : Type} {xs : List α} {i : Int} (h0 : 0 ≤ i) (h1 : i < xs.length) : ∃ x, getI xs i = some x ∧ x ∈ xs := by
  unfold getI
  rw [if_pos h0]
  have h : i.toNat < xs.length := by omega
  exact ⟨xs[i.toNat], List.getElem?_eq_getElem h, List.getElem_mem h⟩
theorem getI_mem {α : Type} {xs : List α} {i : Int} {x : α} (h : getI xs i = some x) : x ∈ xs := by
  unfold getI at h
  split at h
  · exact List.mem_of_getElem? h
  · cases h
theorem LetterFell_true (s : GLetterSheet) (one other a b : Int) (h : FineS s) : g_law01_LetterFell s one other a b = some true := by
  obtain ⟨bs, hb⟩ := short_some s h.2.2.1
  simp only [g_law01_LetterFell, hb, Option.bind_some, refSheet_eq s h, letAlike_eq s h, g_law01_known]
  cases bs
  · rfl
  cases hs : sheetB s
  · rfl
  have hg := good_of s hs
  by_cases h1 : one < 0
  · simp only [h1, decide_true, cond_true]
  by_cases h2 : one ≥ other
  · simp only [h1, h2, decide_true, decide_false, cond_true, cond_false]
  by_cases h3 : other ≥ (s.Words.length : Int)
  · simp only [h1, h2, h3, decide_true, decide_false, cond_true, cond_false]
  simp only [h1, h2, h3, decide_false, cond_true, cond_false]
  obtain ⟨w1, hw1, hm1⟩ := getI_some (xs := s.Words) (i := one) (by omega) (by omega)
  obtain ⟨w2, hw2, hm2⟩ := getI_some (xs := s.Words) (i := other) (by omega) (by omega)
  have g1 := hg w1 hm1
  have g2 := hg w2 hm2
  have f1 := fallen_eq w1 a g1.2
  have f2 := fallen_eq w2 b g2.2
  have hl : lenOk (fallFrom a 0 w1.Signs) = true := by
    by_cases hn : fallFrom a 0 w1.Signs = []
    · rw [hn]; rfl
    · exact lenOk_of (by have := looks_mem g1.1 (fall_mem g1.1 hn); have := g1.2; omega)
  have hsame := same_eq (fallFrom a 0 w1.Signs) (fallFrom b 0 w2.Signs) hl
  have key : (fallFrom a 0 w1.Signs).length ≠ 0 → (fallFrom a 0 w1.Signs == fallFrom b 0 w2.Signs) = true → ∃ x y, find2 s.Words s.Words 0 = some (x, y) ∧ (x < one ∨ x = one ∧ y ≤ other) := by
    intro hne he
    have he' : fallFrom a 0 w1.Signs = fallFrom b 0 w2.Signs := by simpa using he
    have hne1 : fallFrom a 0 w1.Signs ≠ [] := by intro h; rw [h] at hne; exact hne rfl
    have hne2 : fallFrom b 0 w2.Signs ≠ [] := by rw [← he']; exact hne1
    have hmb : MB w1 w2 = true := by
      unfold MB mistB
      rw [List.any_eq_true]
      refine ⟨_, fall_mem g1.1 hne1, ?_⟩
      rw [List.any_eq_true]
      exact ⟨_, fall_mem g2.1 hne2, he⟩
    exact find2_le s.Words 0 (by omega) rfl one other w1 w2 (by omega) (by omega) hw1 hw2 hmb
  simp only [hw1, hw2, f1, f2, hsame, Option.bind_some]
  by_cases hz : (fallFrom a 0 w1.Signs).length = 0
  · have hz' : (((fallFrom a 0 w1.Signs).length : Int) == 0) = true := by rw [hz]; rfl
    simp only [hz', cond_true]
    cases hf : find2 s.Words s.Words 0 with
    | none => rfl
    | some xy =>
      obtain ⟨x, y⟩ := xy
      obtain ⟨q0, q1, wa, wb, ha, hb', hm⟩ := find2_some s.Words 0 (by omega) rfl x y hf
      have l1 := mist_len (hg wa (getI_mem ha)).1 (hg wb (getI_mem hb')).1 hm
      have l2 := (hg wa (getI_mem ha)).2
      have l3 := (hg wb (getI_mem hb')).2
      have hy := (getI_drop hb').2.1
      have w0 : IntKind.i64.wrap ((wa.Signs.length : Int) - (wb.Signs.length : Int)) = (wa.Signs.length : Int) - (wb.Signs.length : Int) := wrap_eq (by omega) (by omega)
      have c1 : decide (x < 0) = false := decide_eq_false (by omega)
      have c2 : decide (x ≥ y) = false := decide_eq_false (by omega)
      have c3 : decide (y ≥ (s.Words.length : Int)) = false := decide_eq_false (by omega)
      have c4 : decide ((wa.Signs.length : Int) - (wb.Signs.length : Int) < -1) = false := decide_eq_false (by omega)
      have c5 : decide ((wa.Signs.length : Int) - (wb.Signs.length : Int) > 1) = false := decide_eq_false (by omega)
      have c6 : ((0 : Int) != 0) = false := rfl
      have c7 : ((0 : Int) == 0) = true := rfl
      simp only [cond_true, cond_false, c1, c2, c3, c4, c5, c6, c7, ha, hb', Option.bind_some, w0]
  · have hz' : (((fallFrom a 0 w1.Signs).length : Int) == 0) = false := by
      simp only [beq_eq_false_iff_ne, ne_eq]; omega
    simp only [hz', cond_false]
    cases hf : find2 s.Words s.Words 0 with
    | none =>
      cases he : (fallFrom a 0 w1.Signs == fallFrom b 0 w2.Signs)
      · rfl
      · obtain ⟨x, y, hxy, _⟩ := key hz he
        rw [hf] at hxy; cases hxy
    | some xy =>
      obtain ⟨x, y⟩ := xy
      obtain ⟨q0, q1, wa, wb, ha, hb', hm⟩ := find2_some s.Words 0 (by omega) rfl x y hf
      have l1 := mist_len (hg wa (getI_mem ha)).1 (hg wb (getI_mem hb')).1 hm
      have l2 := (hg wa (getI_mem ha)).2
      have l3 := (hg wb (getI_mem hb')).2
      have hy := (getI_drop hb').2.1
      have w0 : IntKind.i64.wrap ((wa.Signs.length : Int) - (wb.Signs.length : Int)) = (wa.Signs.length : Int) - (wb.Signs.length : Int) := wrap_eq (by omega) (by omega)
      have c1 : decide (x < 0) = false := decide_eq_false (by omega)
      have c2 : decide (x ≥ y) = false := decide_eq_false (by omega)
      have c3 : decide (y ≥ (s.Words.length : Int)) = false := decide_eq_false (by omega)
      have c4 : decide ((wa.Signs.length : Int) - (wb.Signs.length : Int) < -1) = false := decide_eq_false (by omega)
      have c5 : decide ((wa.Signs.length : Int) - (wb.Signs.length : Int) > 1) = false := decide_eq_false (by omega)
      have c6 : ((0 : Int) != 0) = false := rfl
      have c7 : ((0 : Int) == 0) = true := rfl
      simp only [cond_true, cond_false, c1, c2, c3, c4, c5, c6, c7, ha, hb', Option.bind_some, w0]
      cases he : (fallFrom a 0 w1.Signs == fallFrom b 0 w2.Signs)
      · rfl
      · obtain ⟨x', y', hxy, hle⟩ := key hz he
        rw [hf] at hxy
        cases hxy
        rcases hle with hle | ⟨hle, hle2⟩
        · have d1 : decide (x < one) = true := decide_eq_true hle
          simp only [d1, cond_true]
        · have d1 : decide (x < one) = false := decide_eq_false (by omega)
          have d2 : (x == one) = true := by simp [hle]
          have d3 : decide (y ≤ other) = true := decide_eq_true hle2
          simp only [d1, d2, d3, cond_true, cond_false]
end Go.V
end
