/- Part of the proof of statements of YtbpeickbdiihcaaGreatDoor: a logic of values by content, the lifted functions, and what follows. -/
import Derived.Test.YtbpeickbdiihcaaGreatDoorNbc
import Derived.Test.YtbpeickbdiihcaaGreatDoorNbd
set_option linter.unusedVariables false
set_option linter.unusedSimpArgs false
set_option linter.unusedSectionVars false
set_option linter.constructorNameAsVariable false
set_option linter.defProp false
set_option maxRecDepth 4000
set_option maxHeartbeats 4000000
section
set_option maxRecDepth 100000
namespace Go.V
open Go Go.Proofs
def Ok_GSightBoard (x : GSightBoard) : Prop := lenOk x.Letters = true
def Ok_GSightStreet (x : GSightStreet) : Prop := lenOk x.Boards = true ∧ (∀ y ∈ x.Boards, Ok_GSightBoard y) ∧ lenOk x.Blocks = true
section
variable {P : Program} (hu3 : P.underlying 3 = some (.int .i64)) {f23 : Array Field} (hu23 : P.underlying 23 = some (.struct f23)) (ht23 : f23.toList.map Field.type = [3, 3]) {f61 : Array Field} (hu61 : P.underlying 61 = some (.struct f61)) (ht61 : f61.toList.map Field.type = [3, 3, 3, 3]) (hu40 : P.underlying 40 = some (.slice 61)) {f42 : Array Field} (hu42 : P.underlying 42 = some (.struct f42)) (ht42 : f42.toList.map Field.type = [3, 40]) (hu24 : P.underlying 24 = some (.slice 42)) (hu4 : P.underlying 4 = some (.bool)) {f68 : Array Field} (hu68 : P.underlying 68 = some (.struct f68)) (ht68 : f68.toList.map Field.type = [23, 23, 4]) (hu25 : P.underlying 25 = some (.slice 68)) {f27 : Array Field} (hu27 : P.underlying 27 = some (.struct f27)) (ht27 : f27.toList.map Field.type = [3, 3, 23, 23, 24, 25]) {f29 : Array Field} (hu29 : P.underlying 29 = some (.struct f29)) (ht29 : f29.toList.map Field.type = [3, 3])
include hu3 hu23 ht23 hu61 ht61 hu40 hu42 ht42 hu24 hu4 hu68 ht68 hu25 hu27 ht27 hu29 ht29
theorem gd_3 {n : Nat} : Dec P (n + 1) 3 eI (fun _ => True) := dec_int hu3
theorem gd_23 {n : Nat} : Dec P (n + 2) 23 cGSpan (fun _ => True) := by
 intro xs h
 obtain ⟨yss, hf, rfl⟩ := dec_struct (n := n + 1) (ts := [3, 3]) hu23 ht23 h
 match yss, hf with
 | [y0, y1], ⟨h0, h1, _⟩ =>
  obtain ⟨x0, r0, e0⟩ := gd_3 hu3 hu23 ht23 hu61 ht61 hu40 hu42 ht42 hu24 hu4 hu68 ht68 hu25 hu27 ht27 hu29 ht29 (n := n + 0) _ h0
  obtain ⟨x1, r1, e1⟩ := gd_3 hu3 hu23 ht23 hu61 ht61 hu40 hu42 ht42 hu24 hu4 hu68 ht68 hu25 hu27 ht27 hu29 ht29 (n := n + 0) _ h1
  exact ⟨⟨x0, x1⟩, trivial, by simp only [List.flatten_cons, List.flatten_nil, List.append_nil, normL_append, e0, e1, eI, eU8, eB, eS, eSl, cGSpan_eq, List.cons_append, List.nil_append]⟩
theorem gd_61 {n : Nat} : Dec P (n + 2) 61 cGSightLetter (fun _ => True) := by
 intro xs h
 obtain ⟨yss, hf, rfl⟩ := dec_struct (n := n + 1) (ts := [3, 3, 3, 3]) hu61 ht61 h
 match yss, hf with
 | [y0, y1, y2, y3], ⟨h0, h1, h2, h3, _⟩ =>
  obtain ⟨x0, r0, e0⟩ := gd_3 hu3 hu23 ht23 hu61 ht61 hu40 hu42 ht42 hu24 hu4 hu68 ht68 hu25 hu27 ht27 hu29 ht29 (n := n + 0) _ h0
  obtain ⟨x1, r1, e1⟩ := gd_3 hu3 hu23 ht23 hu61 ht61 hu40 hu42 ht42 hu24 hu4 hu68 ht68 hu25 hu27 ht27 hu29 ht29 (n := n + 0) _ h1
  obtain ⟨x2, r2, e2⟩ := gd_3 hu3 hu23 ht23 hu61 ht61 hu40 hu42 ht42 hu24 hu4 hu68 ht68 hu25 hu27 ht27 hu29 ht29 (n := n + 0) _ h2
  obtain ⟨x3, r3, e3⟩ := gd_3 hu3 hu23 ht23 hu61 ht61 hu40 hu42 ht42 hu24 hu4 hu68 ht68 hu25 hu27 ht27 hu29 ht29 (n := n + 0) _ h3
  exact ⟨⟨x0, x1, x2, x3⟩, trivial, by simp only [List.flatten_cons, List.flatten_nil, List.append_nil, normL_append, e0, e1, e2, e3, eI, eU8, eB, eS, eSl, cGSightLetter_eq, List.cons_append, List.nil_append]⟩
theorem gd_40 {n : Nat} : Dec P (n + 3) 40 (eSl cGSightLetter) (fun l => lenOk l = true ∧ ∀ x ∈ l, True) := dec_slice hu40 (gd_61 hu3 hu23 ht23 hu61 ht61 hu40 hu42 ht42 hu24 hu4 hu68 ht68 hu25 hu27 ht27 hu29 ht29 (n := n))
theorem gd_42 {n : Nat} : Dec P (n + 4) 42 cGSightBoard (Ok_GSightBoard) := by
 intro xs h
 obtain ⟨yss, hf, rfl⟩ := dec_struct (n := n + 3) (ts := [3, 40]) hu42 ht42 h
 match yss, hf with
 | [y0, y1], ⟨h0, h1, _⟩ =>
  obtain ⟨x0, r0, e0⟩ := gd_3 hu3 hu23 ht23 hu61 ht61 hu40 hu42 ht42 hu24 hu4 hu68 ht68 hu25 hu27 ht27 hu29 ht29 (n := n + 2) _ h0
  obtain ⟨x1, r1, e1⟩ := gd_40 hu3 hu23 ht23 hu61 ht61 hu40 hu42 ht42 hu24 hu4 hu68 ht68 hu25 hu27 ht27 hu29 ht29 (n := n + 0) _ h1
  exact ⟨⟨x0, x1⟩, r1.1, by simp only [List.flatten_cons, List.flatten_nil, List.append_nil, normL_append, e0, e1, eI, eU8, eB, eS, eSl, cGSightBoard_eq, List.cons_append, List.nil_append]⟩
theorem gd_24 {n : Nat} : Dec P (n + 5) 24 (eSl cGSightBoard) (fun l => lenOk l = true ∧ ∀ x ∈ l, Ok_GSightBoard x) := dec_slice hu24 (gd_42 hu3 hu23 ht23 hu61 ht61 hu40 hu42 ht42 hu24 hu4 hu68 ht68 hu25 hu27 ht27 hu29 ht29 (n := n))
theorem gd_4 {n : Nat} : Dec P (n + 1) 4 eB (fun _ => True) := dec_bool hu4
theorem gd_68 {n : Nat} : Dec P (n + 3) 68 cGSightBlock (fun _ => True) := by
 intro xs h
 obtain ⟨yss, hf, rfl⟩ := dec_struct (n := n + 2) (ts := [23, 23, 4]) hu68 ht68 h
 match yss, hf with
 | [y0, y1, y2], ⟨h0, h1, h2, _⟩ =>
  obtain ⟨x0, r0, e0⟩ := gd_23 hu3 hu23 ht23 hu61 ht61 hu40 hu42 ht42 hu24 hu4 hu68 ht68 hu25 hu27 ht27 hu29 ht29 (n := n + 0) _ h0
  obtain ⟨x1, r1, e1⟩ := gd_23 hu3 hu23 ht23 hu61 ht61 hu40 hu42 ht42 hu24 hu4 hu68 ht68 hu25 hu27 ht27 hu29 ht29 (n := n + 0) _ h1
  obtain ⟨x2, r2, e2⟩ := gd_4 hu3 hu23 ht23 hu61 ht61 hu40 hu42 ht42 hu24 hu4 hu68 ht68 hu25 hu27 ht27 hu29 ht29 (n := n + 1) _ h2
  exact ⟨⟨x0, x1, x2⟩, trivial, by simp only [List.flatten_cons, List.flatten_nil, List.append_nil, normL_append, e0, e1, e2, eI, eU8, eB, eS, eSl, cGSightBlock_eq, cGSpan_eq, List.cons_append, List.nil_append]⟩
theorem gd_25 {n : Nat} : Dec P (n + 4) 25 (eSl cGSightBlock) (fun l => lenOk l = true ∧ ∀ x ∈ l, True) := dec_slice hu25 (gd_68 hu3 hu23 ht23 hu61 ht61 hu40 hu42 ht42 hu24 hu4 hu68 ht68 hu25 hu27 ht27 hu29 ht29 (n := n))
theorem gd_27 {n : Nat} : Dec P (n + 6) 27 cGSightStreet (Ok_GSightStreet) := by
 intro xs h
 obtain ⟨yss, hf, rfl⟩ := dec_struct (n := n + 5) (ts := [3, 3, 23, 23, 24, 25]) hu27 ht27 h
 match yss, hf with
 | [y0, y1, y2, y3, y4, y5], ⟨h0, h1, h2, h3, h4, h5, _⟩ =>
  obtain ⟨x0, r0, e0⟩ := gd_3 hu3 hu23 ht23 hu61 ht61 hu40 hu42 ht42 hu24 hu4 hu68 ht68 hu25 hu27 ht27 hu29 ht29 (n := n + 4) _ h0
  obtain ⟨x1, r1, e1⟩ := gd_3 hu3 hu23 ht23 hu61 ht61 hu40 hu42 ht42 hu24 hu4 hu68 ht68 hu25 hu27 ht27 hu29 ht29 (n := n + 4) _ h1
  obtain ⟨x2, r2, e2⟩ := gd_23 hu3 hu23 ht23 hu61 ht61 hu40 hu42 ht42 hu24 hu4 hu68 ht68 hu25 hu27 ht27 hu29 ht29 (n := n + 3) _ h2
  obtain ⟨x3, r3, e3⟩ := gd_23 hu3 hu23 ht23 hu61 ht61 hu40 hu42 ht42 hu24 hu4 hu68 ht68 hu25 hu27 ht27 hu29 ht29 (n := n + 3) _ h3
  obtain ⟨x4, r4, e4⟩ := gd_24 hu3 hu23 ht23 hu61 ht61 hu40 hu42 ht42 hu24 hu4 hu68 ht68 hu25 hu27 ht27 hu29 ht29 (n := n + 0) _ h4
  obtain ⟨x5, r5, e5⟩ := gd_25 hu3 hu23 ht23 hu61 ht61 hu40 hu42 ht42 hu24 hu4 hu68 ht68 hu25 hu27 ht27 hu29 ht29 (n := n + 1) _ h5
  exact ⟨⟨x0, x1, x2, x3, x4, x5⟩, ⟨r4.1, r4.2, r5.1⟩, by simp only [List.flatten_cons, List.flatten_nil, List.append_nil, normL_append, e0, e1, e2, e3, e4, e5, eI, eU8, eB, eS, eSl, cGSightStreet_eq, cGSpan_eq, List.cons_append, List.nil_append]⟩
theorem gd_29 {n : Nat} : Dec P (n + 2) 29 cGSightPlace (fun _ => True) := by
 intro xs h
 obtain ⟨yss, hf, rfl⟩ := dec_struct (n := n + 1) (ts := [3, 3]) hu29 ht29 h
 match yss, hf with
 | [y0, y1], ⟨h0, h1, _⟩ =>
  obtain ⟨x0, r0, e0⟩ := gd_3 hu3 hu23 ht23 hu61 ht61 hu40 hu42 ht42 hu24 hu4 hu68 ht68 hu25 hu27 ht27 hu29 ht29 (n := n + 0) _ h0
  obtain ⟨x1, r1, e1⟩ := gd_3 hu3 hu23 ht23 hu61 ht61 hu40 hu42 ht42 hu24 hu4 hu68 ht68 hu25 hu27 ht27 hu29 ht29 (n := n + 0) _ h1
  exact ⟨⟨x0, x1⟩, trivial, by simp only [List.flatten_cons, List.flatten_nil, List.append_nil, normL_append, e0, e1, eI, eU8, eB, eS, eSl, cGSightPlace_eq, List.cons_append, List.nil_append]⟩
end
theorem dec_3 {n : Nat} : Dec Tryz.prog (n + 1) 3 eI (fun _ => True) := gd_3 Tryz.underlying3 Tryz.underlying23 (by kernel_rfl) Tryz.underlying61 (by kernel_rfl) Tryz.underlying40 Tryz.underlying42 (by kernel_rfl) Tryz.underlying24 Tryz.underlying4 Tryz.underlying68 (by kernel_rfl) Tryz.underlying25 Tryz.underlying27 (by kernel_rfl) Tryz.underlying29 (by kernel_rfl)
theorem dec_27 {n : Nat} : Dec Tryz.prog (n + 6) 27 cGSightStreet (Ok_GSightStreet) := gd_27 Tryz.underlying3 Tryz.underlying23 (by kernel_rfl) Tryz.underlying61 (by kernel_rfl) Tryz.underlying40 Tryz.underlying42 (by kernel_rfl) Tryz.underlying24 Tryz.underlying4 Tryz.underlying68 (by kernel_rfl) Tryz.underlying25 Tryz.underlying27 (by kernel_rfl) Tryz.underlying29 (by kernel_rfl)
theorem dec_29 {n : Nat} : Dec Tryz.prog (n + 2) 29 cGSightPlace (fun _ => True) := gd_29 Tryz.underlying3 Tryz.underlying23 (by kernel_rfl) Tryz.underlying61 (by kernel_rfl) Tryz.underlying40 Tryz.underlying42 (by kernel_rfl) Tryz.underlying24 Tryz.underlying4 Tryz.underlying68 (by kernel_rfl) Tryz.underlying25 Tryz.underlying27 (by kernel_rfl) Tryz.underlying29 (by kernel_rfl)
end Go.V
end
section
namespace Go.V
def cmb : Option Bool → List Bool → Option (Option Bool)
  | st, [] => some st
  | none, x :: l => cmb (some x) l
  | some b, x :: l => cond (b == x) (cmb (some b) l) none
def ea : Option Bool → Bool | none => true | some b => b
def eo : Option Bool → Bool | none => false | some b => b
theorem cmb_append : ∀ (a b : List Bool) (st : Option Bool), cmb st (a ++ b) = match cmb st a with | some st' => cmb st' b | none => none
  | [], _, none => rfl
  | [], _, some _ => rfl
  | x :: a, b, none => cmb_append a b (some x)
  | x :: a, b, some y => by
    simp only [List.cons_append, cmb]
    cases y == x
    · rfl
    · exact cmb_append a b (some y)
def rowT (T : Int → Bool) : Nat → Int → List Bool
  | 0, _ => []
  | k + 1, c => T c :: rowT T k (c + 1)
def gridT (T : Int → Int → Bool) (n : Nat) : Nat → Int → List Bool
  | 0, _ => []
  | k + 1, c => rowT (T c) n 0 ++ gridT T n k (c + 1)
theorem mem_row {T : Int → Bool} {b : Bool} : ∀ (k : Nat) (c : Int), b ∈ rowT T k c ↔ ∃ i : Int, c ≤ i ∧ i < c + k ∧ b = T i
  | 0, c => by
    simp only [rowT, List.not_mem_nil, false_iff]
    rintro ⟨i, h1, h2, _⟩; omega
  | k + 1, c => by
    rw [rowT, List.mem_cons, mem_row k (c + 1)]
    constructor
    · rintro (rfl | ⟨i, h1, h2, h3⟩)
      · exact ⟨c, by omega, by omega, rfl⟩
      · exact ⟨i, by omega, by omega, h3⟩
    · rintro ⟨i, h1, h2, h3⟩
      by_cases hi : i = c
      · subst hi; exact .inl h3
      · exact .inr ⟨i, by omega, by omega, h3⟩
theorem mem_grid {T : Int → Int → Bool} {n : Nat} {b : Bool} : ∀ (k : Nat) (c : Int), b ∈ gridT T n k c ↔ ∃ i j : Int, c ≤ i ∧ i < c + k ∧ 0 ≤ j ∧ j < n ∧ b = T i j
  | 0, c => by
    simp only [gridT, List.not_mem_nil, false_iff]
    rintro ⟨i, j, h1, h2, _⟩; omega
  | k + 1, c => by
    rw [gridT, List.mem_append, mem_row, mem_grid k (c + 1)]
    constructor
    · rintro (⟨j, h1, h2, h3⟩ | ⟨i, j, h1, h2, h3⟩)
      · exact ⟨c, j, by omega, by omega, by omega, by omega, h3⟩
      · exact ⟨i, j, by omega, by omega, h3⟩
    · rintro ⟨i, j, h1, h2, h3, h4, h5⟩
      by_cases hi : i = c
      · subst hi; exact .inl ⟨j, h3, by omega, h5⟩
      · exact .inr ⟨i, j, by omega, by omega, h3, h4, h5⟩
def wordT (o : Option (Option Bool)) : Int := match o with | some (some true) => 3 | some none => 3 | some (some false) => 1 | none => 2
theorem cmb_some {x : Bool} : ∀ (l : List Bool), (∀ b ∈ l, b = x) → cmb (some x) l = some (some x)
  | [], _ => rfl
  | b :: l, h => by
    have hb := h b (List.mem_cons_self ..)
    subst hb
    simp only [cmb, beq_self_eq_true, cond_true]
    exact cmb_some l (fun c hc => h c (List.mem_cons_of_mem _ hc))
theorem cmb_none {x : Bool} : ∀ (l : List Bool), (!x) ∈ l → cmb (some x) l = none
  | [], h => by cases h
  | b :: l, h => by
    simp only [cmb]
    cases hx : x == b with
    | false => rfl
    | true =>
      have : x = b := by simpa using hx
      subst this
      rcases List.mem_cons.1 h with h | h
      · cases x <;> cases h
      · exact cmb_none l h
theorem word_grid {L : List Bool} {m M : Bool} (hm : m ∈ L) (hM : M ∈ L) (h1 : m = true → ∀ b ∈ L, b = true) (h2 : M = false → ∀ b ∈ L, b = false) : wordT (cmb none L) = cond m 3 (cond M 2 1) := by
  cases L with
  | nil => cases hm
  | cons x l =>
    simp only [cmb]
    cases m with
    | true =>
      have h := h1 rfl
      have hx := h x (List.mem_cons_self ..)
      subst hx
      rw [cmb_some l (fun b hb => h b (List.mem_cons_of_mem _ hb))]
      rfl
    | false =>
      cases M with
      | false =>
        have h := h2 rfl
        have hx := h x (List.mem_cons_self ..)
        subst hx
        rw [cmb_some l (fun b hb => h b (List.mem_cons_of_mem _ hb))]
        rfl
      | true =>
        have : (!x) ∈ l := by
          cases x with
          | true => rcases List.mem_cons.1 hm with h | h; · cases h
                    · exact h
          | false => rcases List.mem_cons.1 hM with h | h; · cases h
                     · exact h
        rw [cmb_none l this]
        rfl
end Go.V
end
