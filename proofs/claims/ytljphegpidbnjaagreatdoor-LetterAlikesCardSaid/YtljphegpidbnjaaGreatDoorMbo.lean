/- Part of the proof of a statement of YtljphegpidbnjaaGreatDoor: a logic of values by content, the lifted functions, and what follows. -/
import Derived.Test.YtljphegpidbnjaaGreatDoorMbn
import Derived.Test.YtljphegpidbnjaaGreatDoorMbg
import Derived.Test.YtljphegpidbnjaaGreatDoorMaz
set_option linter.unusedVariables false
set_option linter.unusedSimpArgs false
set_option linter.unusedSectionVars false
set_option linter.constructorNameAsVariable false
section
namespace Go.V
open Go
/-! Pairs; a sheet, as defined, both ways. -/
theorem csome (a b : Bool) : cond a (some b) (some false) = some (a && b) := by cases a <;> rfl
def sgn (a b : Int) : Int := if a < b then -1 else if a > b then 1 else 0
theorem compare_eq (a b : Int) : g_cmp_Compare_int a b = some (sgn a b) := by
  unfold g_cmp_Compare_int g_cmp_isNaN_int sgn
  by_cases h1 : a < b <;> by_cases h2 : a > b <;> simp [h1, h2]
def pairGe (a b : GLetterPair) : Bool := cond (decide (a.Left > b.Left)) true (cond (a.Left == b.Left) (decide (a.Right ≥ b.Right)) false)
theorem or_eq (a b : Int) : g_cmp_Or_int [a, b] = some (if a = 0 then b else a) := by
  have e : (fun x : Int => x != 0) a = !decide (a = 0) := by by_cases h : a = 0 <;> simp [h]
  have e' : (b != 0) = !decide (b = 0) := by by_cases h : b = 0 <;> simp [h]
  simp only [] at e
  by_cases h : a = 0 <;> by_cases h' : b = 0 <;> simp [g_cmp_Or_int, g_cmp_Or_int_l0, lenOk, lbind, e, e', h, h']
theorem comparePairs_eq (a b : GLetterPair) : ∃ r, g_letter_comparePairs a b = some r ∧ decide (r ≥ 0) = pairGe a b := by
  refine ⟨_, by simp only [g_letter_comparePairs, compare_eq, or_eq, Option.bind_some]; rfl, ?_⟩
  unfold sgn pairGe
  by_cases h1 : a.Left < b.Left
  · have : ¬ a.Left > b.Left := by omega
    have h3 : ¬ a.Left = b.Left := by omega
    simp [h1, this, h3]
  · by_cases h2 : a.Left > b.Left
    · simp [h1, h2]
    · have h3 : a.Left = b.Left := by omega
      by_cases h4 : a.Right < b.Right
      · have : ¬ a.Right ≥ b.Right := by omega
        simp [h3, h4]
      · by_cases h5 : a.Right > b.Right
        · simp [h3, h4, h5]; omega
        · simp [h3, h4, h5]; omega
def pairB (m : Int) (e : GLetterPair) : Bool := inB 0 m e.Left && (inB 0 m e.Right && spanB 9 e.Space)
def pairsG (m : Int) : Option GLetterPair → List GLetterPair → Bool
  | _, [] => true
  | none, e :: p => pairB m e && pairsG m (some e) p
  | some q, e :: p => pairB m e && (!pairGe q e && pairsG m (some e) p)
theorem cif {α : Type} (a b : Bool) (x y : α) : cond a x (cond b x y) = cond (cond a true b) x y := by cases a <;> rfl
theorem cff {α : Type} (a b : Bool) (x y : α) : cond a (cond b x y) y = cond (cond a b false) x y := by cases a <;> rfl
theorem refpairs_l0_eq (s : GLetterSheet) (hl : lenOk s.Pairs = true) : ∀ (p : List GLetterPair) (q : GLetterPair) (i : Int), 1 ≤ i → s.Pairs.drop (i - 1).toNat = q :: p →
    g_ref01_pairs_l0 s p i = goB (pairsG (IntKind.i64.wrap ((s.Widths.length : Int) - 1)) (some q) p)
  | [], _, _, _, _ => rfl
  | e :: p, q, i, h0, h => by
    have hb := lenOk_lt hl
    have hle := drop_le h
    simp only [List.length_cons] at hle
    have hi : i < 9223372036854775808 := by
      rcases hle with hle | hle
      · omega
      · cases hle
    have hn : s.Pairs.drop (i + 1 - 1).toNat = e :: p := by
      have := drop_next (i := i - 1) (by omega) h
      rwa [show i - 1 + 1 = i + 1 - 1 by omega] at this
    have hp : decide (i > 0) = true := by simp; omega
    simp only [g_ref01_pairs_l0, goB_and, cnot, sign_eq, span_eq, getI_prev h0 hi h, hp, Option.bind_some, refpairs_l0_eq s hl p e (i + 1) (by omega) hn, pairsG, pairB, cand, cond_true, pairGe]
    cases decide (q.Left > e.Left) <;> cases (q.Left == e.Left) <;> rfl
theorem refpairs_l0_eq0 (s : GLetterSheet) (hl : lenOk s.Pairs = true) : g_ref01_pairs_l0 s s.Pairs 0 = goB (pairsG (IntKind.i64.wrap ((s.Widths.length : Int) - 1)) none s.Pairs) := by
  generalize hc : s.Pairs = cs
  cases cs with
  | nil => rfl
  | cons e p =>
    have := refpairs_l0_eq s hl p e (0 + 1) (by omega) (by rw [hc]; rfl)
    simp only [g_ref01_pairs_l0, goB_and, cnot, cand, sign_eq, span_eq, Option.bind_some, this, pairsG, pairB, show decide ((0 : Int) > 0) = false from rfl, cond_false]
theorem arePairs_l0_eq (xs : List GLetterPair) (n : Int) (hl : lenOk xs = true) : ∀ (p : List GLetterPair) (q : GLetterPair) (i : Int), 1 ≤ i → xs.drop (i - 1).toNat = q :: p →
    g_letter_arePairs_l0 xs n p i = goB (pairsG (IntKind.i64.wrap (n - 1)) (some q) p)
  | [], _, _, _, _ => rfl
  | e :: p, q, i, h0, h => by
    have hb := lenOk_lt hl
    have hle := drop_le h
    simp only [List.length_cons] at hle
    have hi : i < 9223372036854775808 := by
      rcases hle with hle | hle
      · omega
      · cases hle
    have hn : xs.drop (i + 1 - 1).toNat = e :: p := by
      have := drop_next (i := i - 1) (by omega) h
      rwa [show i - 1 + 1 = i + 1 - 1 by omega] at this
    have hp : decide (i > 0) = true := by simp; omega
    obtain ⟨r, hr, hr'⟩ := comparePairs_eq q e
    simp only [g_letter_arePairs_l0, goB_and, cnot, isFrom_eq, isSpan_eq, getI_prev h0 hi h, hp, hr, hr', Option.bind_some, arePairs_l0_eq xs n hl p e (i + 1) (by omega) hn, pairsG, pairB, cand, cond_true]
theorem arePairs_l0_eq0 (xs : List GLetterPair) (n : Int) (hl : lenOk xs = true) : g_letter_arePairs_l0 xs n xs 0 = goB (pairsG (IntKind.i64.wrap (n - 1)) none xs) := by
  cases xs with
  | nil => rfl
  | cons e p =>
    have := arePairs_l0_eq (e :: p) n hl p e (0 + 1) (by omega) rfl
    simp only [g_letter_arePairs_l0, goB_and, cnot, cand, isFrom_eq, isSpan_eq, Option.bind_some, this, pairsG, pairB, show decide ((0 : Int) > 0) = false from rfl, cond_false]
/-- All lists short enough. -/
def FineS (s : GLetterSheet) : Prop := lenOk s.Widths = true ∧ lenOk s.Pairs = true ∧ lenOk s.Words = true ∧ ∀ w ∈ s.Words, Fine w
def sheetB (s : GLetterSheet) : Bool :=
  inB 1 6 s.Widths.length && s.Widths.all (inB 1 20) &&
  (decide ((s.Pairs.length : Int) ≤ 6) && pairsG (IntKind.i64.wrap ((s.Widths.length : Int) - 1)) none s.Pairs) &&
  spanB 9 s.Other && spanB 20 s.Gap && inB 1 20 s.Hyphen &&
  (inB 1 4 s.Words.length && s.Words.all (wordB (IntKind.i64.wrap ((s.Widths.length : Int) - 1)))) &&
  inB 1 400 s.Wide && inB 1 3 s.Rows
theorem front_eq (n : Int) : g_ref01_Front n = some (inB 1 400 n) := by
  simp only [g_ref01_Front, in_eq, Option.bind_some]
theorem goB_lbind {X : Type} (b : Bool) (kr : Bool → Option X) (kg : Unit → Option X) (kb : Nat → Unit → Option X) : lbind (goB b) kr kg kb = cond b (kg ()) (kr false) := by cases b <;> rfl
theorem refpairs_eq (s : GLetterSheet) (h : lenOk s.Pairs = true) : g_ref01_pairs s = some (decide ((s.Pairs.length : Int) ≤ 6) && pairsG (IntKind.i64.wrap ((s.Widths.length : Int) - 1)) none s.Pairs) := by
  simp only [g_ref01_pairs, h, cond_true, refpairs_l0_eq0 s h, goB_lbind, csome]
  rw [Bool.and_comm]
theorem arePairs_eq (xs : List GLetterPair) (n : Int) (h : lenOk xs = true) : g_letter_arePairs xs n = some (decide ((xs.length : Int) ≤ 6) && pairsG (IntKind.i64.wrap (n - 1)) none xs) := by
  simp only [g_letter_arePairs, h, cond_true, arePairs_l0_eq0 xs n h, goB_lbind]
  by_cases hn : (xs.length : Int) ≤ 6
  · have : ¬ (xs.length : Int) > 6 := by omega
    simp only [hn, this, decide_true, decide_false, cond_false, Bool.true_and]
    cases pairsG _ _ xs <;> rfl
  · have : (xs.length : Int) > 6 := by omega
    simp only [hn, this, decide_true, decide_false, cond_true, Bool.false_and]
theorem refSheet_eq (s : GLetterSheet) (h : FineS s) : g_ref01_Sheet s = some (sheetB s) := by
  obtain ⟨h1, h2, h3, h4⟩ := h
  simp only [g_ref01_Sheet, h1, h3, cond_true, sheet_l0_eq, sheet_l1_eq s _ _ h4, goB_lbind, in_eq, span_eq, front_eq, refpairs_eq s h2, Option.bind_some, csome, sheetB, ← Bool.and_assoc]
  congr 1
  simp only [Bool.and_assoc]
  cases s.Widths.all _ <;> cases s.Words.all _ <;> simp [Bool.and_comm, Bool.and_left_comm]
theorem areWidths_eq (xs : List Int) (h : lenOk xs = true) : g_letter_areWidths xs = some (inB 1 6 xs.length && xs.all (inB 1 20)) := by
  simp only [g_letter_areWidths, isFrom_eq, areFrom_eq _ _ _ h, Option.bind_some, csome]
theorem areWords_eq (xs : List GLetterWord) (n : Int) (h : lenOk xs = true) (hw : ∀ w ∈ xs, Fine w) : g_letter_areWords xs n = some (inB 1 4 xs.length && xs.all (wordB (IntKind.i64.wrap (n - 1)))) := by
  simp only [g_letter_areWords, isFrom_eq, Option.bind_some, h, cond_true, areWords_l0_eq n xs 0 hw, goB_lbind, csome, Bool.and_true]
theorem isSheet_eq (s : GLetterSheet) (h : FineS s) : g_letter_isSheet s = some (sheetB s) := by
  obtain ⟨h1, h2, h3, h4⟩ := h
  simp only [g_letter_isSheet, areWidths_eq _ h1, arePairs_eq _ _ h2, areWords_eq _ _ h3 h4, isFrom_eq, isSpan_eq, Option.bind_some, csome, sheetB, Bool.and_assoc]
end Go.V
end
section
namespace Go.V
open Go
/-! Letters that fall; words that are mistaken for each other. -/
def fallFrom (x : Int) : Int → List Int → List Int
  | _, [] => []
  | i, e :: p => if i = x then fallFrom x (i + 1) p else e :: fallFrom x (i + 1) p
theorem fallen_l0_eq (x : Int) : ∀ (p : List Int) (i : Int) (acc : List Int), acc.length + p.length ≤ 100 → g_ref01_Fallen_l0 x p i acc = some (.go (acc ++ fallFrom x i p))
  | [], _, acc, _ => by simp [g_ref01_Fallen_l0, fallFrom]
  | e :: p, i, acc, h => by
    simp only [List.length_cons] at h
    have hr : roomOk 8 (acc ++ [e]).length = true := by simp [roomOk]; omega
    have h1 := fallen_l0_eq x p (i + 1) (acc ++ [e]) (by simp; omega)
    have h2 := fallen_l0_eq x p (i + 1) acc (by omega)
    simp only [g_ref01_Fallen_l0, hr, h1, h2, cond_true, fallFrom]
    by_cases hx : i = x
    · have : (i != x) = false := by simp [hx]
      simp only [this, cond_false, if_pos hx]
    · have : (i != x) = true := by simp [hx]
      simp only [this, cond_true, if_neg hx, List.append_assoc, List.singleton_append]
theorem fallFrom_lt (x : Int) : ∀ (p : List Int) (i : Int), x < i → fallFrom x i p = p
  | [], _, _ => rfl
  | e :: p, i, h => by
    rw [fallFrom, if_neg (by omega), fallFrom_lt x p (i + 1) (by omega)]
theorem fallFrom_eq (x : Int) : ∀ (p : List Int) (i : Int) (k : Nat), x = i + k → fallFrom x i p = p.eraseIdx k
  | [], _, _, _ => rfl
  | e :: p, i, 0, h => by
    rw [fallFrom, if_pos (by omega), fallFrom_lt x p (i + 1) (by omega)]
    rfl
  | e :: p, i, k + 1, h => by
    rw [fallFrom, if_neg (by omega), fallFrom_eq x p (i + 1) k (by omega)]
    rfl
theorem fallen_eq (w : GLetterWord) (x : Int) (h : w.Signs.length ≤ 6) : g_ref01_Fallen w x = some (fallFrom x 0 w.Signs) := by
  have hl : lenOk w.Signs = true := lenOk_of (by omega)
  simp only [g_ref01_Fallen, hl, cond_true, fallen_l0_eq x w.Signs 0 [] (by simp; omega), lbind, List.nil_append]
theorem same_l0_eq (b : List Int) : ∀ (p r : List Int) (i : Int), 0 ≤ i → b.drop i.toNat = r → p.length = r.length → g_ref01_Same_l0 b p i = goB (p == r)
  | [], [], _, _, _, _ => rfl
  | [], _ :: _, _, _, _, hl => by simp at hl
  | _ :: _, [], _, _, _, hl => by simp at hl
  | e :: p, q :: r, i, h0, h, hl => by
    have := same_l0_eq b p r (i + 1) (by omega) (drop_next h0 h) (by simpa using hl)
    simp only [g_ref01_Same_l0, getI_of_drop h0 h, Option.bind_some, this, List.cons_beq_cons, goB_and, bne, cnot]
theorem same_eq (a b : List Int) (h : lenOk a = true) : g_ref01_Same a b = some (a == b) := by
  unfold g_ref01_Same
  by_cases hl : a.length = b.length
  · have : ((a.length : Int) != (b.length : Int)) = false := by simp [hl]
    simp only [this, cond_false, h, cond_true, same_l0_eq b a b 0 (by omega) rfl hl, goB_lbind]
    cases a == b <;> rfl
  · have : ((a.length : Int) != (b.length : Int)) = true := by simp; omega
    have h2 : (a == b) = false := by
      simp only [beq_eq_false_iff_ne, ne_eq]
      intro hh; exact hl (by rw [hh])
    simp only [this, cond_true, h2]
theorem equal_l0_eq (b : List Int) : ∀ (p r : List Int) (i : Int), 0 ≤ i → b.drop i.toNat = r → p.length = r.length → g_slices_Equal_int_int_l0 b p i = goB (p == r)
  | [], [], _, _, _, _ => rfl
  | [], _ :: _, _, _, _, hl => by simp at hl
  | _ :: _, [], _, _, _, hl => by simp at hl
  | e :: p, q :: r, i, h0, h, hl => by
    have := equal_l0_eq b p r (i + 1) (by omega) (drop_next h0 h) (by simpa using hl)
    simp only [g_slices_Equal_int_int_l0, getI_of_drop h0 h, Option.bind_some, this, List.cons_beq_cons, goB_and, bne, cnot]
theorem equal_eq (a b : List Int) (h : lenOk a = true) : g_slices_Equal_int_int a b = some (a == b) := by
  unfold g_slices_Equal_int_int
  by_cases hl : a.length = b.length
  · have : ((a.length : Int) != (b.length : Int)) = false := by simp [hl]
    simp only [this, cond_false, h, cond_true, equal_l0_eq b a b 0 (by omega) rfl hl, goB_lbind]
    cases a == b <;> rfl
  · have : ((a.length : Int) != (b.length : Int)) = true := by simp; omega
    have h2 : (a == b) = false := by
      simp only [beq_eq_false_iff_ne, ne_eq]
      intro hh; exact hl (by rw [hh])
    simp only [this, cond_true, h2]
/-- A loop that gives true at once, or goes through. -/
def goT (b : Bool) : Option (LOut Bool Unit) := cond b (some (.ret true)) (some (.go ()))
theorem goT_lbind {X : Type} (b : Bool) (kr : Bool → Option X) (kg : Unit → Option X) (kb : Nat → Unit → Option X) : lbind (goT b) kr kg kb = cond b (kr true) (kg ()) := by cases b <;> rfl
theorem goT_or (a b : Bool) : goT (a || b) = cond a (some (.ret true)) (goT b) := by cases a <;> rfl
theorem letmist_l1_eq (e : List Int) (he : lenOk e = true) : ∀ (p : List (List Int)) (i : Int), g_letter_mistaken_l1 e p i = goT (p.any (fun y => e == y))
  | [], _ => rfl
  | y :: p, i => by
    simp only [g_letter_mistaken_l1, equal_eq _ _ he, Option.bind_some, letmist_l1_eq e he p, List.any_cons, goT_or]
theorem letmist_l0_eq (b : List Int) (h1 : 1 ≤ b.length) (h6 : b.length ≤ 6) : ∀ (p : List (List Int)) (i : Int), (∀ e ∈ p, lenOk e = true) → g_letter_mistaken_l0 b p i = goT (p.any (fun x => (looksF b).any (fun y => x == y)))
  | [], _, _ => rfl
  | e :: p, i, h => by
    have hk : lenOk (looksF b) = true := lenOk_of (by unfold looksF; split <;> simp <;> omega)
    simp only [g_letter_mistaken_l0, g_letter_looks, if_pos (And.intro h1 h6), Option.bind_some, hk, cond_true, letmist_l1_eq e (h e (List.mem_cons_self ..)), goT_lbind, letmist_l0_eq b h1 h6 p _ (fun x hx => h x (List.mem_cons_of_mem _ hx)), List.any_cons, goT_or]
theorem looks_mem {xs e : List Int} (h1 : 1 ≤ xs.length) (h : e ∈ looksF xs) : 1 ≤ e.length ∧ e.length ≤ xs.length := by
  unfold looksF at h
  split at h
  · simp only [List.mem_singleton] at h
    subst h; omega
  · simp only [List.mem_cons, List.mem_map, List.mem_range] at h
    rcases h with h | ⟨k, hk, h⟩
    · subst h; omega
    · subst h
      rw [List.length_eraseIdx_of_lt hk]; omega
def mistB (a b : List Int) : Bool := (looksF a).any (fun x => (looksF b).any (fun y => x == y))
theorem letmist_eq (a b : List Int) (ha : 1 ≤ a.length) (ha' : a.length ≤ 6) (hb : 1 ≤ b.length) (hb' : b.length ≤ 6) : g_letter_mistaken a b = some (mistB a b) := by
  have hk : lenOk (looksF a) = true := lenOk_of (by unfold looksF; split <;> simp <;> omega)
  simp only [g_letter_mistaken, g_letter_looks, if_pos (And.intro ha ha'), Option.bind_some, hk, cond_true, letmist_l0_eq b hb hb' _ 0 (fun e he => lenOk_of (by have := looks_mem ha he; omega)), goT_lbind, mistB]
  cases List.any _ _ <;> rfl
def anyI : Nat → Int → (Int → Bool) → Bool
  | 0, _, _ => false
  | k + 1, c, f => f c || anyI k (c + 1) f
theorem anyI_range : ∀ (n : Nat) (c : Int) (f : Int → Bool), anyI n c f = (List.range n).any (fun k => f (c + k))
  | 0, _, _ => rfl
  | n + 1, c, f => by
    rw [anyI, anyI_range n (c + 1) f, List.range_succ_eq_map]
    simp only [List.any_cons, List.any_map, Int.natCast_zero, Int.add_zero]
    congr 1
    congr 1
    funext k
    show f (c + 1 + k) = f (c + ((k + 1 : Nat) : Int))
    congr 1
    omega
theorem refmist_l1_eq (a b : GLetterWord) (ha : a.Signs.length ≤ 6) (hb : b.Signs.length ≤ 6) (x : Int) : ∀ (k : Nat) (c : Int),
    g_ref01_mistaken_l1 a b x k c = goT (anyI k c (fun j => decide (0 < (fallFrom x 0 a.Signs).length) && (fallFrom x 0 a.Signs == fallFrom j 0 b.Signs)))
  | 0, _ => rfl
  | k + 1, c => by
    have hl : lenOk (fallFrom x 0 a.Signs) = true := by
      have : ∀ (p : List Int) (i : Int), (fallFrom x i p).length ≤ p.length := by
        intro p
        induction p with
        | nil => intro i; exact Nat.le_refl _
        | cons e p ih =>
          intro i
          rw [fallFrom]
          have := ih (i + 1)
          split
          · simp only [List.length_cons]; omega
          · simp only [List.length_cons]; omega
      have := this a.Signs 0
      exact lenOk_of (by omega)
    have hd : decide (((fallFrom x 0 a.Signs).length : Int) > 0) = decide (0 < (fallFrom x 0 a.Signs).length) := by
      by_cases h : 0 < (fallFrom x 0 a.Signs).length
      · have : ((fallFrom x 0 a.Signs).length : Int) > 0 := by omega
        simp only [h, this, decide_true]
      · have : ¬ ((fallFrom x 0 a.Signs).length : Int) > 0 := by omega
        simp only [h, this, decide_false]
    simp only [g_ref01_mistaken_l1, fallen_eq a x ha, fallen_eq b c hb, same_eq _ _ hl, Option.bind_some, refmist_l1_eq a b ha hb x k (c + 1), anyI, goT_or, cand, hd]
theorem refmist_l0_eq (a b : GLetterWord) (ha : a.Signs.length ≤ 6) (hb : b.Signs.length ≤ 6) : ∀ (k : Nat) (c : Int),
    g_ref01_mistaken_l0 a b k c = goT (anyI k c (fun i => anyI (b.Signs.length + 1) (-1) (fun j => decide (0 < (fallFrom i 0 a.Signs).length) && (fallFrom i 0 a.Signs == fallFrom j 0 b.Signs))))
  | 0, _ => rfl
  | k + 1, c => by
    have hk : boundOk (b.Signs.length : Int) = true := by simp [boundOk]; omega
    have hn : Int.toNat ((b.Signs.length : Int) - (-1)) = b.Signs.length + 1 := by omega
    have e : ∀ f, anyI (k + 1) c f = (f c || anyI k (c + 1) f) := fun _ => rfl
    rw [e]
    simp only [g_ref01_mistaken_l0, hk, cond_true, hn, refmist_l1_eq a b ha hb, goT_lbind, refmist_l0_eq a b ha hb k, goT_or]
theorem anyI_fall (xs : List Int) (F : List Int → Bool) : anyI (xs.length + 1) (-1) (fun i => F (fallFrom i 0 xs)) = (xs :: (List.range xs.length).map xs.eraseIdx).any F := by
  rw [anyI, anyI_range, List.any_cons, List.any_map, fallFrom_lt _ _ _ (by omega)]
  congr 1
  congr 1
  funext k
  show F _ = F _
  rw [fallFrom_eq _ xs 0 k (by omega)]
theorem looks_any (xs : List Int) (h1 : 1 ≤ xs.length) (F G : List Int → Bool) (h0 : F [] = false) (hF : ∀ e, 1 ≤ e.length → F e = G e) : (xs :: (List.range xs.length).map xs.eraseIdx).any F = (looksF xs).any G := by
  have he : (looksF xs).any G = (looksF xs).any F := by
    rw [Bool.eq_iff_iff, List.any_eq_true, List.any_eq_true]
    constructor
    · rintro ⟨e, he, h⟩; exact ⟨e, he, by rw [hF e (looks_mem h1 he).1]; exact h⟩
    · rintro ⟨e, he, h⟩; exact ⟨e, he, by rw [← hF e (looks_mem h1 he).1]; exact h⟩
  rw [he]
  unfold looksF
  split
  · rename_i h
    match xs, h with
    | [x], _ => simp [h0]
  · rfl
theorem refmist_eq (a b : GLetterWord) (ha : 1 ≤ a.Signs.length) (ha' : a.Signs.length ≤ 6) (hb : 1 ≤ b.Signs.length) (hb' : b.Signs.length ≤ 6) : g_ref01_mistaken a b = some (mistB a.Signs b.Signs) := by
  have hk : boundOk (a.Signs.length : Int) = true := by simp [boundOk]; omega
  have hn : Int.toNat ((a.Signs.length : Int) - (-1)) = a.Signs.length + 1 := by omega
  simp only [g_ref01_mistaken, hk, cond_true, hn, refmist_l0_eq a b ha' hb', goT_lbind]
  have e : anyI (a.Signs.length + 1) (-1) (fun i => anyI (b.Signs.length + 1) (-1) (fun j => decide (0 < (fallFrom i 0 a.Signs).length) && (fallFrom i 0 a.Signs == fallFrom j 0 b.Signs))) = mistB a.Signs b.Signs := by
    rw [anyI_fall a.Signs (fun x => anyI (b.Signs.length + 1) (-1) (fun j => decide (0 < x.length) && (x == fallFrom j 0 b.Signs)))]
    refine looks_any a.Signs ha _ _ ?_ ?_
    · rw [anyI_range]; simp
    · intro x hx
      show anyI (b.Signs.length + 1) (-1) _ = _
      rw [anyI_fall b.Signs (fun y => decide (0 < x.length) && (x == y))]
      have hd : decide (0 < x.length) = true := by simp; omega
      refine looks_any b.Signs hb _ _ ?_ ?_
      · simp only [hd, Bool.true_and, beq_eq_false_iff_ne, ne_eq]
        intro hh; subst hh; simp at hx
      · intro y _
        show (decide (0 < x.length) && (x == y)) = _
        rw [hd, Bool.true_and]
  rw [e]
  cases mistB a.Signs b.Signs <;> rfl
end Go.V
end
section
namespace Go.V
open Go
/-! The law LetterAlikes, for all sheets whose lists are short enough. -/
def findL (f : GLetterWord → Bool) : List GLetterWord → Int → Option Int
  | [], _ => none
  | e :: p, i => cond (f e) (some i) (findL f p (i + 1))
def MB (a b : GLetterWord) : Bool := mistB a.Signs b.Signs
def Good (w : GLetterWord) : Prop := 1 ≤ w.Signs.length ∧ w.Signs.length ≤ 6
def oL : Option Int → Int → Int → Int → Int → Option (LOut (Int × Int × Int) (Int × Int × Int))
  | some j, i, _, _, _ => some (.brk 0 (i, j, 0))
  | none, _, a, b, c => some (.go (a, b, c))
def oR : Option Int → Int → Option (LOut (Int × Int × Bool) Unit)
  | some j, i => some (.ret (i, j, true))
  | none, _ => some (.go ())
theorem letAlike_l1_eq (i : Int) (e : GLetterWord) (he : Good e) (a b c : Int) : ∀ (p : List GLetterWord) (j : Int), (∀ w ∈ p, Good w) → g_letter_Alike_l1 i e p j a b c = oL (findL (MB e) p j) i a b c
  | [], _, _ => rfl
  | w :: p, j, h => by
    have hw := h w (List.mem_cons_self ..)
    simp only [g_letter_Alike_l1, letmist_eq _ _ he.1 he.2 hw.1 hw.2, Option.bind_some, letAlike_l1_eq i e he a b c p (j + 1) (fun x hx => h x (List.mem_cons_of_mem _ hx)), findL, MB]
    cases mistB e.Signs w.Signs <;> rfl
theorem refAlike_l1_eq (i : Int) (e : GLetterWord) (he : Good e) : ∀ (p : List GLetterWord) (j : Int), (∀ w ∈ p, Good w) → g_ref01_Alike_l1 i e p j = oR (findL (MB e) p j) i
  | [], _, _ => rfl
  | w :: p, j, h => by
    have hw := h w (List.mem_cons_self ..)
    simp only [g_ref01_Alike_l1, refmist_eq _ _ he.1 he.2 hw.1 hw.2, Option.bind_some, refAlike_l1_eq i e he p (j + 1) (fun x hx => h x (List.mem_cons_of_mem _ hx)), findL, MB]
    cases mistB e.Signs w.Signs <;> rfl
def find2 (ws : List GLetterWord) : List GLetterWord → Int → Option (Int × Int)
  | [], _ => none
  | e :: p, i => match findL (MB e) (ws.drop (i + 1).toNat) (i + 1) with
    | some j => some (i, j)
    | none => find2 ws p (i + 1)
def oL2 : Option (Int × Int) → Option (LOut (Int × Int × Int) (Int × Int × Int))
  | some x => some (.go (x.1, x.2, 0))
  | none => some (.go (0, 0, 5))
def oR2 : Option (Int × Int) → Option (LOut (Int × Int × Bool) Unit)
  | some x => some (.ret (x.1, x.2, true))
  | none => some (.go ())
theorem letAlike_l0_eq (s : GLetterSheet) (hl : lenOk s.Words = true) (hg : ∀ w ∈ s.Words, Good w) : ∀ (p : List GLetterWord) (i : Int), 0 ≤ i → i.toNat + p.length ≤ s.Words.length → (∀ w ∈ p, Good w) → g_letter_Alike_l0 s p i 0 0 5 = oL2 (find2 s.Words p i)
  | [], _, _, _, _ => rfl
  | e :: p, i, h0, hp, h => by
    have hb := lenOk_lt hl
    simp only [List.length_cons] at hp
    have hw : IntKind.i64.wrap (i + 1) = i + 1 := wrap_eq (by omega) (by omega)
    have h1 : leB 0 (i + 1) = true := by unfold leB; exact decide_eq_true (by omega)
    simp only [g_letter_Alike_l0, hl, cond_true, hw, h1, letAlike_l1_eq i e (h e (List.mem_cons_self ..)) 0 0 5 _ (i + 1) (fun w hx => hg w (List.mem_of_mem_drop hx)), find2]
    cases findL (MB e) (List.drop (i + 1).toNat s.Words) (i + 1) with
    | some j => rfl
    | none =>
      simp only [oL, lbind]
      exact letAlike_l0_eq s hl hg p (i + 1) (by omega) (by omega) (fun x hx => h x (List.mem_cons_of_mem _ hx))
theorem refAlike_l0_eq (s : GLetterSheet) (hl : lenOk s.Words = true) (hg : ∀ w ∈ s.Words, Good w) : ∀ (p : List GLetterWord) (i : Int), 0 ≤ i → i.toNat + p.length ≤ s.Words.length → (∀ w ∈ p, Good w) → g_ref01_Alike_l0 s p i = oR2 (find2 s.Words p i)
  | [], _, _, _, _ => rfl
  | e :: p, i, h0, hp, h => by
    have hb := lenOk_lt hl
    simp only [List.length_cons] at hp
    have hw : IntKind.i64.wrap (i + 1) = i + 1 := wrap_eq (by omega) (by omega)
    have h1 : leB 0 (i + 1) = true := by unfold leB; exact decide_eq_true (by omega)
    simp only [g_ref01_Alike_l0, hl, cond_true, hw, h1, refAlike_l1_eq i e (h e (List.mem_cons_self ..)) _ (i + 1) (fun w hx => hg w (List.mem_of_mem_drop hx)), find2]
    cases findL (MB e) (List.drop (i + 1).toNat s.Words) (i + 1) with
    | some j => rfl
    | none =>
      simp only [oR, lbind]
      exact refAlike_l0_eq s hl hg p (i + 1) (by omega) (by omega) (fun x hx => h x (List.mem_cons_of_mem _ hx))
theorem good_of (s : GLetterSheet) (h : sheetB s = true) : ∀ w ∈ s.Words, Good w := by
  intro w hw
  simp only [sheetB, Bool.and_eq_true, List.all_eq_true] at h
  have := h.1.1.2.2 w hw
  simp only [wordB, inB, Bool.and_eq_true, decide_eq_true_eq] at this
  exact ⟨by omega, by omega⟩
theorem letAlike_eq (s : GLetterSheet) (h : FineS s) : g_letter_Alike s = some (cond (sheetB s) (match find2 s.Words s.Words 0 with | some x => (x.1, x.2, 0) | none => (0, 0, 5) : Int × Int × Int) (0, 0, 2)) := by
  simp only [g_letter_Alike, isSheet_eq s h, Option.bind_some, h.2.2.1, cond_true]
  cases hs : sheetB s
  · rfl
  · have hg := good_of s hs
    simp only [cond_true, letAlike_l0_eq s h.2.2.1 hg s.Words 0 (by omega) (by simp) hg]
    cases find2 s.Words s.Words 0 <;> rfl
theorem refAlike_eq (s : GLetterSheet) (h : FineS s) (hs : sheetB s = true) : g_ref01_Alike s = some (match find2 s.Words s.Words 0 with | some x => (x.1, x.2, true) | none => (0, 0, false)) := by
  have hg := good_of s hs
  simp only [g_ref01_Alike, h.2.2.1, cond_true, refAlike_l0_eq s h.2.2.1 hg s.Words 0 (by omega) (by simp) hg]
  cases find2 s.Words s.Words 0 <;> rfl
theorem short_l0_some : ∀ (p : List GLetterWord) (i : Int), ∃ r, g_law01_short_l0 p i = some r ∧ (∀ k c, r ≠ .brk k c)
  | [], _ => ⟨_, rfl, by intro _ _ h; cases h⟩
  | e :: p, i => by
    obtain ⟨r, hr, h⟩ := short_l0_some p (i + 1)
    simp only [g_law01_short_l0, hr]
    cases decide (i < 6)
    · exact ⟨_, rfl, by intro _ _ h; cases h⟩
    · cases decide ((e.Signs.length : Int) > 8)
      · cases decide ((e.Cuts.length : Int) > 8)
        · exact ⟨_, rfl, h⟩
        · exact ⟨_, rfl, by intro _ _ h; cases h⟩
      · exact ⟨_, rfl, by intro _ _ h; cases h⟩
theorem short_some (s : GLetterSheet) (h : lenOk s.Words = true) : ∃ b, g_law01_short s = some b := by
  obtain ⟨r, hr, hk⟩ := short_l0_some s.Words 0
  simp only [g_law01_short, h, cond_true, hr]
  match r, hk with
  | .ret b, _ => exact ⟨_, rfl⟩
  | .go _, _ =>
    simp only [lbind]
    cases decide ((s.Widths.length : Int) ≤ 8)
    · exact ⟨_, rfl⟩
    · cases decide ((s.Pairs.length : Int) ≤ 8)
      · exact ⟨_, rfl⟩
      · exact ⟨_, rfl⟩
  | .brk k c, hk => exact absurd rfl (hk k c)
theorem LetterAlikes_true (s : GLetterSheet) (h : FineS s) : g_law01_LetterAlikes s = some true := by
  obtain ⟨b, hb⟩ := short_some s h.2.2.1
  simp only [g_law01_LetterAlikes, hb, Option.bind_some, letAlike_eq s h, refSheet_eq s h, g_law01_known]
  cases b
  · rfl
  · cases hs : sheetB s
    · rfl
    · simp only [cond_true, refAlike_eq s h hs, Option.bind_some]
      cases find2 s.Words s.Words 0 <;> simp
end Go.V
end
section
set_option maxRecDepth 100000
set_option linter.constructorNameAsVariable false
set_option linter.unusedSimpArgs false
set_option linter.unusedVariables false
namespace Go.V
open Go Go.Proofs
/-! The law's argument: a tree of its type is a sheet. -/
/-- What holds a thing of a type. -/
def Dec (P : Program) (n : Nat) (t : TypeId) {α : Type} (enc : α → List VV) (R : α → Prop) : Prop := ∀ xs, ShapeT P n t xs → ∃ x : α, R x ∧ normL xs = enc x
theorem dec_int {P : Program} {n : Nat} {t : TypeId} (hu : P.underlying t = some (.int .i64)) : Dec P (n + 1) t eI (fun _ => True) := by
  intro xs h
  simp only [ShapeT, hu] at h
  obtain ⟨i, _, rfl⟩ := h
  exact ⟨i, trivial, by simp only [normL_cons, normL_nil, normV_int, eI]⟩
theorem dec_bool {P : Program} {n : Nat} {t : TypeId} (hu : P.underlying t = some .bool) : Dec P (n + 1) t eB (fun _ => True) := by
  intro xs h
  simp only [ShapeT, hu] at h
  obtain ⟨b, rfl⟩ := h
  exact ⟨b, trivial, by simp only [normL_cons, normL_nil, normV_bool, eB]⟩
theorem dec_list {P : Program} {n : Nat} {t : TypeId} {α : Type} {enc : α → List VV} {R : α → Prop} (h : Dec P n t enc R) : ∀ yss : List (List VV), (∀ ys ∈ yss, ShapeT P n t ys) → ∃ l : List α, l.length = yss.length ∧ (∀ x ∈ l, R x) ∧ normL yss.flatten = cellsL enc l
  | [], _ => ⟨[], rfl, fun _ hx => (by cases hx), rfl⟩
  | ys :: yss, hs => by
    obtain ⟨x, hx, e⟩ := h ys (hs ys (List.mem_cons_self ..))
    obtain ⟨l, h1, h2, h3⟩ := dec_list h yss (fun y hy => hs y (List.mem_cons_of_mem _ hy))
    refine ⟨x :: l, by simp [h1], fun y hy => ?_, by rw [List.flatten_cons, normL_append, e, h3, cellsL_cons]⟩
    rcases List.mem_cons.1 hy with rfl | hy
    · exact hx
    · exact h2 y hy
theorem dec_slice {P : Program} {n : Nat} {t e : TypeId} {α : Type} {enc : α → List VV} {R : α → Prop} (hu : P.underlying t = some (.slice e)) (h : Dec P n e enc R) : Dec P (n + 1) t (fun l : List α => [.sl (cellsL enc l) l.length false]) (fun l => lenOk l = true ∧ ∀ x ∈ l, R x) := by
  intro xs hs
  simp only [ShapeT, hu] at hs
  rcases hs with rfl | ⟨yss, hl, hall, rfl⟩
  · exact ⟨[], ⟨rfl, fun _ hx => (by cases hx)⟩, by simp only [normL_cons, normL_nil, normV_nil]; rfl⟩
  · obtain ⟨l, h1, h2, h3⟩ := dec_list h yss hall
    refine ⟨l, ⟨?_, h2⟩, by simp only [normL_cons, normL_nil, normV_sl, h3, h1]⟩
    refine lenOk_of ?_
    have : maxLen = 9223372036854775807 := by decide
    omega
theorem dec_fields {P : Program} {n : Nat} {t : TypeId} {fs : Array Field} {xs : List VV} (hu : P.underlying t = some (.struct fs)) (h : ShapeT P (n + 1) t xs) : ∃ yss, FieldsS (ShapeT P n) fs.toList yss ∧ xs = yss.flatten := by
  simp only [ShapeT, hu] at h
  exact h
def TypesS (S : TypeId → List VV → Prop) : List TypeId → List (List VV) → Prop
  | [], [] => True
  | t :: ts, ys :: yss => S t ys ∧ TypesS S ts yss
  | _, _ => False
theorem types_of {S : TypeId → List VV → Prop} : ∀ (fs : List Field) (yss : List (List VV)), FieldsS S fs yss → TypesS S (fs.map Field.type) yss
  | [], [], _ => trivial
  | f :: fs, ys :: yss, ⟨h1, h2⟩ => ⟨h1, types_of fs yss h2⟩
  | [], _ :: _, h => h
  | _ :: _, [], h => h
theorem dec_struct {P : Program} {n : Nat} {t : TypeId} {fs : Array Field} {ts : List TypeId} {xs : List VV} (hu : P.underlying t = some (.struct fs)) (ht : fs.toList.map Field.type = ts) (h : ShapeT P (n + 1) t xs) : ∃ yss, TypesS (ShapeT P n) ts yss ∧ xs = yss.flatten := by
  obtain ⟨yss, h1, h2⟩ := dec_fields hu h
  exact ⟨yss, ht ▸ types_of _ _ h1, h2⟩
section
variable {P : Program} (hu3 : P.underlying 3 = some (.int .i64)) (hu4 : P.underlying 4 = some .bool) (hu22 : P.underlying 22 = some (.slice 3)) (hu23 : P.underlying 23 = some (.slice 92)) (hu26 : P.underlying 26 = some (.slice 49))
  {f25 f92 f49 f28 : Array Field} (hu25 : P.underlying 25 = some (.struct f25)) (ht25 : f25.toList.map Field.type = [3, 3]) (hu92 : P.underlying 92 = some (.struct f92)) (ht92 : f92.toList.map Field.type = [3, 3, 25]) (hu49 : P.underlying 49 = some (.struct f49)) (ht49 : f49.toList.map Field.type = [22, 22, 4]) (hu28 : P.underlying 28 = some (.struct f28)) (ht28 : f28.toList.map Field.type = [22, 23, 25, 25, 3, 26, 3, 3])
include hu3 hu25 ht25
theorem dec_span {n : Nat} : Dec P (n + 2) 25 cGSpan (fun _ => True) := by
  intro xs h
  obtain ⟨yss, hf, rfl⟩ := dec_struct hu25 ht25 h
  match yss, hf with
  | [a, b], ⟨ha, hb, _⟩ =>
    obtain ⟨x1, _, e1⟩ := dec_int hu3 _ ha
    obtain ⟨x2, _, e2⟩ := dec_int hu3 _ hb
    exact ⟨⟨x1, x2⟩, trivial, by simp only [List.flatten_cons, List.flatten_nil, List.append_nil, normL_append, e1, e2, eI, cGSpan_eq, List.cons_append, List.nil_append]⟩
include hu92 ht92
theorem dec_pair {n : Nat} : Dec P (n + 3) 92 cGLetterPair (fun _ => True) := by
  intro xs h
  obtain ⟨yss, hf, rfl⟩ := dec_struct hu92 ht92 h
  match yss, hf with
  | [a, b, c], ⟨ha, hb, hc, _⟩ =>
    obtain ⟨x1, _, e1⟩ := dec_int hu3 _ ha
    obtain ⟨x2, _, e2⟩ := dec_int hu3 _ hb
    obtain ⟨x3, _, e3⟩ := (dec_span hu3 hu25 ht25) _ hc
    exact ⟨⟨x1, x2, x3⟩, trivial, by simp only [List.flatten_cons, List.flatten_nil, List.append_nil, normL_append, e1, e2, e3, eI, cGSpan_eq, cGLetterPair_eq, List.cons_append, List.nil_append]⟩
include hu22 hu4 hu49 ht49
theorem dec_word {n : Nat} : Dec P (n + 3) 49 cGLetterWord Fine := by
  intro xs h
  obtain ⟨yss, hf, rfl⟩ := dec_struct hu49 ht49 h
  match yss, hf with
  | [a, b, c], ⟨ha, hb, hc, _⟩ =>
    obtain ⟨x1, h1, e1⟩ := dec_slice hu22 (dec_int hu3) _ ha
    obtain ⟨x2, h2, e2⟩ := dec_slice hu22 (dec_int hu3) _ hb
    obtain ⟨x3, _, e3⟩ := dec_bool hu4 _ hc
    exact ⟨⟨x1, x2, x3⟩, ⟨h1.1, h2.1⟩, by simp only [List.flatten_cons, List.flatten_nil, List.append_nil, normL_append, e1, e2, e3, eB, cGLetterWord_eq, List.cons_append, List.nil_append]⟩
include hu23 hu26 hu28 ht28
theorem dec_sheet {n : Nat} : Dec P (n + 5) 28 cGLetterSheet FineS := by
  intro xs h
  obtain ⟨yss, hf, rfl⟩ := dec_struct hu28 ht28 h
  match yss, hf with
  | [a, b, c, d, e, f, g, i], ⟨ha, hb, hc, hd, he, hf, hg, hi, _⟩ =>
    obtain ⟨x1, h1, e1⟩ := dec_slice hu22 (dec_int hu3) _ ha
    obtain ⟨x2, h2, e2⟩ := dec_slice hu23 (dec_pair hu3 hu25 ht25 hu92 ht92) _ hb
    obtain ⟨x3, _, e3⟩ := (dec_span hu3 hu25 ht25) _ hc
    obtain ⟨x4, _, e4⟩ := (dec_span hu3 hu25 ht25) _ hd
    obtain ⟨x5, _, e5⟩ := dec_int hu3 _ he
    obtain ⟨x6, h6, e6⟩ := dec_slice hu26 (dec_word hu3 hu4 hu22 hu25 ht25 hu92 ht92 hu49 ht49) _ hf
    obtain ⟨x7, _, e7⟩ := dec_int hu3 _ hg
    obtain ⟨x8, _, e8⟩ := dec_int hu3 _ hi
    exact ⟨⟨x1, x2, x3, x4, x5, x6, x7, x8⟩, ⟨h1.1, h2.1, h6.1, h6.2⟩, by simp only [List.flatten_cons, List.flatten_nil, List.append_nil, normL_append, e1, e2, e3, e4, e5, e6, e7, e8, eI, cGSpan_eq, cGLetterSheet_eq, List.cons_append, List.nil_append]⟩
end
theorem tryz_sheet : Dec Tryz.prog 10 28 cGLetterSheet FineS :=
  dec_sheet (n := 5) Tryz.underlying3 Tryz.underlying4 Tryz.underlying22 Tryz.underlying23 Tryz.underlying26 Tryz.underlying25 (by kernel_rfl) Tryz.underlying92 (by kernel_rfl) Tryz.underlying49 (by kernel_rfl) Tryz.underlying28 (by kernel_rfl)
theorem LetterAlikes_law (xs : List VV) (h : ArgsS Tryz.prog 10 [28] xs) : VPure Tryz.prog ⟨fun _ => none, some none⟩ 4 xs (.tree (.lit (.bool true))) := by
  match xs, h with
  | [x], ⟨⟨ys, hy, hx⟩, _⟩ =>
    rw [Tryz.underlying28] at hx
    obtain rfl : x = .agg ys := hx
    obtain ⟨s, hs, e⟩ := tryz_sheet ys hy
    refine VPure.norm ?_
    simp only [normL_cons, normL_nil, normV_agg, e]
    exact g_law01_LetterAlikes_ok s true (LetterAlikes_true s hs)
end Go.V
end
