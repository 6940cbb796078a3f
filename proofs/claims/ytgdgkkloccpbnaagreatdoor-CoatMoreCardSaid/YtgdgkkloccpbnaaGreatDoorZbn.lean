/- Part of a proof: a logic of values by content, lifted functions, what follows. -/
import Derived.Test.YtgdgkkloccpbnaaGreatDoorZbl
import Derived.Test.YtgdgkkloccpbnaaGreatDoorZbm
import Derived.Test.YtgdgkkloccpbnaaGreatDoorZbf
import Derived.Test.YtgdgkkloccpbnaaGreatDoorZbi
import Derived.Test.YtgdgkkloccpbnaaGreatDoorZbh
import Derived.Test.YtgdgkkloccpbnaaGreatDoorZbk
import Derived.Test.YtgdgkkloccpbnaaGreatDoorZbj
import Derived.Test.YtgdgkkloccpbnaaGreatDoorZal
import Derived.Test.YtgdgkkloccpbnaaGreatDoorZbe
set_option linter.all false
set_option maxRecDepth 4000
set_option maxHeartbeats 40000000
section
set_option linter.unusedVariables false
namespace Go.V
open Go
def stepsB (m : List Int → Int → Bool) (lim : Nat) : List Int → List Int → Bool
 | _, [] => true
 | p, j :: t => (decide (0 ≤ j) && decide (j < (lim : Int))) && (m p j && stepsB m lim (p ++ [j]) t)
theorem mem_listsB {m : List Int → Int → Bool} {lim : Nat} : ∀ (d : Nat) (p q : List Int), q ∈ listsB m lim d p ↔ ∃ t, q = p ++ t ∧ t.length = d ∧ stepsB m lim p t = true
 | 0, p, q => by
  rw [listsB, List.mem_singleton]
  constructor
  ·rintro rfl; exact ⟨[], by simp, rfl, rfl⟩
  ·rintro ⟨t, rfl, ht, _⟩
   rw [List.length_eq_zero_iff.1 ht, List.append_nil]
 | d + 1, p, q => by
  rw [listsB, List.mem_flatMap]
  constructor
  ·rintro ⟨i, hi, h⟩
   have hi' := (List.mem_range'_1.1 hi).2
   split at h
   ·rename_i hm
    obtain ⟨t, rfl, ht, hs⟩ := (mem_listsB d _ q).1 h
    exact ⟨(i : Int) :: t, by simp, by simp [ht], by simp only [stepsB, hm, hs, Bool.and_true, Bool.and_eq_true, decide_eq_true_eq]; omega⟩
   ·cases h
  ·rintro ⟨t, rfl, ht, hs⟩
   cases t with
   | nil => simp at ht
   | cons j t =>
    simp only [stepsB, Bool.and_eq_true, decide_eq_true_eq] at hs
    obtain ⟨⟨h0, h1⟩, h2, h3⟩ := hs
    refine ⟨j.toNat, List.mem_range'_1.2 ⟨Nat.zero_le _, by omega⟩, ?_⟩
    rw [show ((j.toNat : Nat) : Int) = j by omega, if_pos h2]
    exact (mem_listsB d _ _).2 ⟨t, by simp, by simpa using ht, h3⟩
def lexL : List Int → List Int → Prop
 | a :: x, b :: y => a < b ∨ a = b ∧ lexL x y
 | [], _ :: _ => True
 | _, [] => False
theorem lexL_app (p : List Int) {x y : List Int} : lexL (p ++ x) (p ++ y) ↔ lexL x y := by
 induction p with
 | nil => exact Iff.rfl
 | cons a p ih =>
  show (a < a ∨ a = a ∧ lexL (p ++ x) (p ++ y)) ↔ _
  rw [ih]
  constructor
  ·rintro (h | h)
   ·omega
   ·exact h.2
  ·exact fun h => .inr ⟨rfl, h⟩
theorem lexL_irrefl : ∀ {x : List Int}, ¬ lexL x x
 | [], h => h
 | a :: x, h => by
  rcases h with h | ⟨_, h⟩
  ·omega
  ·exact lexL_irrefl h
theorem lexL_trans : ∀ {x y z : List Int}, lexL x y → lexL y z → lexL x z
 | [], [], _, h, _ => h.elim
 | [], _ :: _, [], _, h => h.elim
 | [], _ :: _, _ :: _, _, _ => trivial
 | _ :: _, [], _, h, _ => h.elim
 | _ :: _, _ :: _, [], _, h => h.elim
 | a :: x, b :: y, c :: z, h, k => by
  rcases h with h | ⟨rfl, h⟩ <;> rcases k with k | ⟨rfl, k⟩
  ·exact .inl (by omega)
  ·exact .inl h
  ·exact .inl k
  ·exact .inr ⟨rfl, lexL_trans h k⟩
theorem pairwise_listsB {m : List Int → Int → Bool} {lim : Nat} : ∀ (d : Nat) (p : List Int), (listsB m lim d p).Pairwise lexL
 | 0, p => by rw [listsB]; exact List.pairwise_singleton _ _
 | d + 1, p => by
  rw [listsB, List.pairwise_flatMap]
  refine ⟨fun i _ => ?_, ?_⟩
  ·split
   ·exact pairwise_listsB d _
   ·exact List.Pairwise.nil
  ·refine List.Pairwise.imp ?_ (List.pairwise_lt_range' (s := 0) (n := lim))
   intro i j hij x hx y hy
   split at hx
   ·split at hy
    ·obtain ⟨t, rfl, _, _⟩ := (mem_listsB d _ _).1 hx
     obtain ⟨u, rfl, _, _⟩ := (mem_listsB d _ _).1 hy
     rw [List.append_assoc, List.append_assoc, lexL_app]
     exact .inl (by omega)
    ·cases hy
   ·cases hx
section
variable {K V : Type} {q : K → K → Bool} {z : V}
def getR (q : K → K → Bool) (z : V) (k : K) : List (K × V) → V
 | [] => z
 | e :: l => if q k e.1 then e.2 else getR q z k l
def setR (q : K → K → Bool) (k : K) (v : V) : List (K × V) → List (K × V)
 | [] => [(k, v)]
 | e :: l => if q k e.1 then (k, v) :: l else e :: setR q k v l
theorem kIdx_suc (k : K) : ∀ (es : List K) (i : Nat), kIdx q k es (i + 1) = (kIdx q k es i).map (· + 1)
 | [], _ => rfl
 | e :: es, i => by
  unfold kIdx
  cases q k e with
  | true => rfl
  | false => exact kIdx_suc k es (i + 1)
theorem mapGet_eq (k : K) : ∀ l : List (K × V), mapGet q z l k = getR q z k l
 | [] => rfl
 | e :: l => by
  have ih := mapGet_eq k l
  unfold mapGet at ih ⊢
  rw [List.map_cons]
  unfold kIdx getR
  cases hq : q k e.1 with
  | true => rfl
  | false =>
   simp only [cond_false, Bool.false_eq_true, if_false]
   rw [kIdx_suc]
   cases h : kIdx q k (l.map (·.1)) 0 with
   | none => rw [h] at ih; exact ih
   | some i => rw [h] at ih; simpa using ih
theorem mapSet_eq (k : K) (v : V) : ∀ l : List (K × V), mapSet q l k v = setR q k v l
 | [] => rfl
 | e :: l => by
  have ih := mapSet_eq k v l
  unfold mapSet at ih ⊢
  rw [List.map_cons]
  unfold kIdx setR
  cases hq : q k e.1 with
  | true => rfl
  | false =>
   simp only [cond_false, Bool.false_eq_true, if_false]
   rw [kIdx_suc]
   cases h : kIdx q k (l.map (·.1)) 0 with
   | none => rw [h] at ih; simpa using ih
   | some i => rw [h] at ih; simpa using ih
theorem getR_setR (hq : ∀ a b, q a b = true ↔ a = b) (k k' : K) (v : V) : ∀ l : List (K × V), getR q z k' (setR q k v l) = if q k' k then v else getR q z k' l
 | [] => rfl
 | e :: l => by
  have ih := getR_setR hq k k' v l
  unfold setR
  cases he : q k e.1 with
  | true =>
   have e1 := (hq _ _).1 he
   simp only [if_true, getR, ← e1]
   split <;> rfl
  | false =>
   simp only [Bool.false_eq_true, if_false, getR, ih]
   cases h1 : q k' e.1 with
   | true =>
    have e1 := (hq _ _).1 h1
    have : q k' k = false := by
     cases h2 : q k' k with
     | false => rfl
     | true =>
      have e2 := (hq _ _).1 h2
      rw [e2] at e1
      rw [e1, (hq _ _).2 rfl] at he
      cases he
    rw [this]
    simp
   | false => simp
theorem mapGet_set (hq : ∀ a b, q a b = true ↔ a = b) (k k' : K) (v : V) (l : List (K × V)) : mapGet q z (mapSet q l k v) k' = if q k' k then v else mapGet q z l k' := by
 rw [mapGet_eq, mapGet_eq, mapSet_eq, getR_setR hq]
end
end Go.V
end
section
namespace Go.V
open Go
set_option linter.unusedVariables false
set_option linter.unusedSimpArgs false
theorem q121_iff (a b : Gcoatlaying) : q121 a b = true ↔ a = b := by
 obtain ⟨a1, a2⟩ := a
 obtain ⟨b1, b2⟩ := b
 simp [q121]
def kGet (l : List (Gcoatlaying × Bool)) (c d : Int) : Bool := mapGet q121 false l (Gcoatlaying.mk c d)
theorem kGet_set (l : List (Gcoatlaying × Bool)) (c d c' d' : Int) (v : Bool) : kGet (mapSet q121 l (Gcoatlaying.mk c d) v) c' d' = if c' = c ∧ d' = d then v else kGet l c' d' := by
 unfold kGet
 rw [mapGet_set q121_iff]
 by_cases h : c' = c ∧ d' = d
 ·rw [if_pos h, if_pos]
  rw [q121_iff, h.1, h.2]
 ·rw [if_neg h, if_neg]
  rw [q121_iff]
  intro e
  cases e
  exact h ⟨rfl, rfl⟩
def dryOk (lo hi : Int → Int) (k : GCoatCoat) (last : Bool) (a b : Int) : Bool := decide (a < b) && (!decide (lo b - lo a < k.Need) && (last || !decide (hi b - hi a > k.Peel)))
def GS (lo hi : Int → Int) (n : Int) (W : List Int) : List GCoatCoat → Int → Bool
 | [], _ => false
 | [k], a => dryOk lo hi k true a n
 | k :: k2 :: cs, a => W.any fun b => GS lo hi n W (k2 :: cs) b && dryOk lo hi k false a b
structure ShOk (s : GCoatSheet) : Prop where
 dk : DOk s.Dry
 c : 1 ≤ s.Coats.length ∧ s.Coats.length ≤ 5
 w : ∀ d ∈ s.Work, 0 ≤ d ∧ d ≤ (s.Dry.length : Int) - 1
 wl : lenOk s.Work = true
 u : upB s.Work = true
theorem upB_len : ∀ (l : List Int) (a n : Int), upB (a :: l) = true → (∀ d ∈ a :: l, d ≤ n) → a + l.length ≤ n
 | [], a, n, _, h => by have := h a (by simp); simp; omega
 | b :: l, a, n, hu, h => by
  rw [upB_cons] at hu
  simp only [Bool.and_eq_true, decide_eq_true_eq] at hu
  have := upB_len l b n hu.2 (fun d hd => h d (List.mem_cons_of_mem _ hd))
  simp only [List.length_cons]
  omega
theorem ShOk.of {s : GCoatSheet} (h : sheetB s = true) : ShOk s := by
 unfold sheetB incB dayB at h
 simp only [Bool.and_eq_true, inB_iff, List.all_eq_true, decide_eq_true_eq] at h
 have hw : ∀ d ∈ s.Work, 0 ≤ d ∧ d ≤ (s.Dry.length : Int) - 1 := fun d hd => h.2.1.2 d hd
 refine ⟨⟨h.1.2, by omega⟩, by omega, hw, ?_, h.2.1.1⟩
 cases hW : s.Work with
 | nil => rfl
 | cons a l =>
  have h1 := upB_len l a ((s.Dry.length : Int) - 1) (by rw [← hW]; exact h.2.1.1) (fun d hd => (hw d (by rw [hW]; exact hd)).2)
  have h2 := hw a (by rw [hW]; simp)
  exact lenOk_of (by simp only [List.length_cons]; omega)
section
variable {s : GCoatSheet} (h : ShOk s)
abbrev loS (s : GCoatSheet) : Int → Int := SI (lowsL s.Dry)
abbrev hiS (s : GCoatSheet) : Int → Int := SI (highsL s.Dry)
abbrev GSs (s : GCoatSheet) : List GCoatCoat → Int → Bool := GS (loS s) (hiS s) s.Dry.length s.Work
include h
theorem dries_eq2 {c a b : Int} {k : GCoatCoat} {cs : List GCoatCoat} (h0 : 0 ≤ c) (hk : s.Coats.drop c.toNat = k :: cs) (ha : 0 ≤ a ∧ a ≤ s.Dry.length) (hb : 0 ≤ b ∧ b ≤ s.Dry.length) :
  g_coat_sums_dries (sumsOf s) c a b = some (dryOk (loS s) (hiS s) k cs.isEmpty a b) := by
 have hcl : lenOk (sumsOf s).CoatSheet.Coats = true := lenOk_of (show s.Coats.length < _ by have := h.c; omega)
 have hk' : (sumsOf s).CoatSheet.Coats.drop c.toNat = k :: cs := hk
 have e1 := least_eq (x := sumsOf s) (lo := loS s) (fun k h0 h1 => getI_pre h0 h1) (SI_bd h.dk.low) ha hb
 have e2 := greatest_eq (x := sumsOf s) (hi := hiS s) (fun k h0 h1 => getI_pre h0 h1) (SI_bd h.dk.high) ha hb
 have e3 := isLast_eq (x := sumsOf s) hcl (p := cs.map fun _ => (0 : Int)) h0 hk' (by simp)
 have e4 : (cs.map fun _ => (0 : Int)).isEmpty = cs.isEmpty := by cases cs <;> rfl
 rw [e4] at e3
 unfold g_coat_sums_dries dryOk
 rw [e1, getI_of_drop h0 hk', e3, e2]
 simp only [Option.bind_some]
 cases decide (a < b) <;> cases decide (loS s b - loS s a < k.Need) <;> cases cs.isEmpty <;> cases decide (hiS s b - hiS s a > k.Peel) <;> rfl
theorem goesOn_l0 {M : List (Gcoatlaying × Bool)} {c a : Int} {k k2 : GCoatCoat} {cs : List GCoatCoat} (h0 : 0 ≤ c) (hk : s.Coats.drop c.toNat = k :: k2 :: cs) (ha : 0 ≤ a ∧ a ≤ s.Dry.length) : ∀ (p : List Int) (i : Int), (∀ b ∈ p, 0 ≤ b ∧ b ≤ (s.Dry.length : Int)) →
  g_coat_sums_goesOn_l0 (sumsOf s) M c a p i = cond (p.any fun b => kGet M (c + 1) b && dryOk (loS s) (hiS s) k false a b) (some (.ret true)) (some (.go ()))
 | [], _, _ => rfl
 | b :: p, i, hp => by
  have hc := h.c
  have hlen := drop_len hk
  have hb := hp b (by simp)
  have ih := goesOn_l0 (M := M) h0 hk ha p (i + 1) (fun d hd => hp d (List.mem_cons_of_mem _ hd))
  rw [g_coat_sums_goesOn_l0, wrap_eq (by omega) (by omega), dries_eq2 h h0 hk ha hb, ih, List.any_cons]
  simp only [Option.bind_some, List.isEmpty_cons, kGet]
  cases mapGet q121 false M (Gcoatlaying.mk (c + 1) b) <;> cases dryOk (loS s) (hiS s) k false a b <;> rfl
theorem goesOn_eq {M : List (Gcoatlaying × Bool)} {c a : Int} {k : GCoatCoat} {cs : List GCoatCoat} (h0 : 0 ≤ c) (hk : s.Coats.drop c.toNat = k :: cs) (ha : 0 ≤ a ∧ a ≤ s.Dry.length) :
  g_coat_sums_goesOn (sumsOf s) M c a = some (if cs.isEmpty then dryOk (loS s) (hiS s) k true a s.Dry.length else s.Work.any fun b => kGet M (c + 1) b && dryOk (loS s) (hiS s) k false a b) := by
 have hcl : lenOk (sumsOf s).CoatSheet.Coats = true := lenOk_of (show s.Coats.length < _ by have := h.c; omega)
 have hk' : (sumsOf s).CoatSheet.Coats.drop c.toNat = k :: cs := hk
 have e3 := isLast_eq (x := sumsOf s) hcl (p := cs.map fun _ => (0 : Int)) h0 hk' (by simp)
 have e4 : (cs.map fun _ => (0 : Int)).isEmpty = cs.isEmpty := by cases cs <;> rfl
 rw [e4] at e3
 unfold g_coat_sums_goesOn
 rw [e3]
 simp only [Option.bind_some]
 cases cs with
 | nil =>
  rw [show ((sumsOf s).CoatSheet.Dry.length : Int) = (s.Dry.length : Int) from rfl, dries_eq2 h h0 hk ha ⟨by omega, Int.le_refl _⟩]
  rfl
 | cons k2 cs =>
  have hW : lenOk (sumsOf s).CoatSheet.Work = true := h.wl
  rw [hW, show (sumsOf s).CoatSheet.Work = s.Work from rfl, goesOn_l0 h h0 hk ha s.Work 0 (fun b hb => by have := h.w b hb; omega)]
  simp only [List.isEmpty_cons, cond_false, cond_true, Bool.false_eq_true, if_false]
  cases s.Work.any fun b => kGet M (c + 1) b && dryOk (loS s) (hiS s) k false a b <;> rfl
def InvK (s : GCoatSheet) (M : List (Gcoatlaying × Bool)) (b : Int) (pre : List Int) : Prop := ∀ c d, kGet M c d = true ↔ ((b ≤ c ∧ c < s.Coats.length ∧ d ∈ s.Work) ∨ (c = b - 1 ∧ d ∈ pre)) ∧ GSs s (s.Coats.drop c.toNat) d = true
theorem goesOn_GS {M : List (Gcoatlaying × Bool)} {c a : Int} {pre : List Int} (h0 : 0 ≤ c) (h1 : c < s.Coats.length) (hM : InvK s M (c + 1) pre) (ha : 0 ≤ a ∧ a ≤ s.Dry.length) : g_coat_sums_goesOn (sumsOf s) M c a = some (GSs s (s.Coats.drop c.toNat) a) := by
 obtain ⟨k, hk⟩ : ∃ k, s.Coats[c.toNat]? = some k := ⟨_, List.getElem?_eq_getElem (by omega)⟩
 have hd : s.Coats.drop c.toNat = k :: s.Coats.drop (c.toNat + 1) := by
  obtain ⟨hlt, rfl⟩ := List.getElem?_eq_some_iff.1 hk
  exact List.drop_eq_getElem_cons hlt
 rw [goesOn_eq h h0 hd ha, hd]
 cases hc : s.Coats.drop (c.toNat + 1) with
 | nil => rfl
 | cons k2 cs =>
  simp only [List.isEmpty_cons, Bool.false_eq_true, if_false, GSs, GS, Option.some.injEq]
  have hlen : c.toNat + 1 < s.Coats.length := by
   have := congrArg List.length hc
   rw [List.length_drop, List.length_cons] at this
   omega
  rw [Bool.eq_iff_iff, List.any_eq_true, List.any_eq_true]
  have key : ∀ b ∈ s.Work, kGet M (c + 1) b = GS (loS s) (hiS s) s.Dry.length s.Work (k2 :: cs) b := by
   intro b hb
   rw [Bool.eq_iff_iff, hM (c + 1) b, show (c + 1).toNat = c.toNat + 1 by omega, hc]
   constructor
   ·exact fun h => h.2
   ·exact fun h => ⟨.inl ⟨Int.le_refl _, by omega, hb⟩, h⟩
  constructor
  ·rintro ⟨b, hb, hh⟩
   rw [key b hb] at hh
   exact ⟨b, hb, hh⟩
  ·rintro ⟨b, hb, hh⟩
   rw [← key b hb] at hh
   exact ⟨b, hb, hh⟩
theorem goingOn_l1 {c0 b : Int} (h0 : 0 ≤ c0) (h1 : c0 < s.Coats.length) (hb : b = s.Coats.length - c0) : ∀ (p : List Int) (i : Int) (pre : List Int) (M : List (Gcoatlaying × Bool)), pre ++ p = s.Work → InvK s M b pre →
  ∃ M', g_coat_sums_goingOn_l1 (sumsOf s) c0 p i M = some (.go M') ∧ InvK s M' b s.Work
 | [], i, pre, M, hp, hM => by
  rw [List.append_nil] at hp
  subst hp
  exact ⟨M, rfl, hM⟩
 | a :: p, i, pre, M, hp, hM => by
  have hc := h.c
  have ha := h.w a (by rw [← hp]; simp)
  have hw1 : IntKind.i64.wrap ((IntKind.i64.wrap (((sumsOf s).CoatSheet.Coats.length : Int) - 1)) - c0) = b - 1 := by
   have e : IntKind.i64.wrap ((s.Coats.length : Int) - 1) = (s.Coats.length : Int) - 1 := wrap_eq (by omega) (by omega)
   rw [show ((sumsOf s).CoatSheet.Coats.length : Int) = (s.Coats.length : Int) from rfl, e, wrap_eq (by omega) (by omega)]
   omega
  rw [g_coat_sums_goingOn_l1, hw1, goesOn_GS h (c := b - 1) (by omega) (by omega) (pre := pre) (by rw [show b - 1 + 1 = b by omega]; exact hM) (by omega), Option.bind_some]
  refine goingOn_l1 h0 h1 hb p (i + 1) (pre ++ [a]) _ (by rw [← hp]; simp) ?_
  intro c d
  rw [kGet_set]
  by_cases he : c = b - 1 ∧ d = a
  ·obtain ⟨rfl, rfl⟩ := he
   rw [if_pos ⟨rfl, rfl⟩]
   constructor
   ·exact fun hh => ⟨.inr ⟨rfl, by simp⟩, hh⟩
   ·exact fun hh => hh.2
  ·rw [if_neg he, hM c d]
   constructor
   ·rintro ⟨hh | hh, h2⟩
    ·exact ⟨.inl hh, h2⟩
    ·exact ⟨.inr ⟨hh.1, List.mem_append.2 (.inl hh.2)⟩, h2⟩
   ·rintro ⟨hh | hh, h2⟩
    ·exact ⟨.inl hh, h2⟩
    ·rcases List.mem_append.1 hh.2 with hm | hm
     ·exact ⟨.inr ⟨hh.1, hm⟩, h2⟩
     ·exact absurd ⟨hh.1, List.mem_singleton.1 hm⟩ he
theorem goingOn_l0 : ∀ (p : List GCoatCoat) (c0 : Int) (M : List (Gcoatlaying × Bool)), 0 ≤ c0 → c0 + p.length = s.Coats.length → InvK s M (s.Coats.length - c0) [] →
  ∃ M', g_coat_sums_goingOn_l0 (sumsOf s) p c0 M = some (.go M') ∧ InvK s M' 0 []
 | [], c0, M, h0, hl, hM => by
  have hl : c0 = s.Coats.length := by simpa using hl
  refine ⟨M, rfl, ?_⟩
  have : (s.Coats.length : Int) - c0 = 0 := by omega
  rw [this] at hM
  exact hM
 | k :: p, c0, M, h0, hl, hM => by
  simp only [List.length_cons] at hl
  obtain ⟨M1, e1, hM1⟩ := goingOn_l1 h h0 (by omega) rfl s.Work 0 [] M rfl hM
  have hM2 : InvK s M1 (s.Coats.length - (c0 + 1)) [] := by
   intro c d
   rw [hM1 c d]
   constructor
   ·rintro ⟨hh | hh, h2⟩
    ·exact ⟨.inl ⟨by omega, hh.2⟩, h2⟩
    ·exact ⟨.inl ⟨by omega, by omega, hh.2⟩, h2⟩
   ·rintro ⟨hh | hh, h2⟩
    ·by_cases hc : c = s.Coats.length - c0 - 1
     ·exact ⟨.inr ⟨hc, hh.2.2⟩, h2⟩
     ·exact ⟨.inl ⟨by omega, hh.2⟩, h2⟩
    ·exact absurd hh.2 (by simp)
  obtain ⟨M2, e2, hM3⟩ := goingOn_l0 p (c0 + 1) M1 (by omega) (by omega) hM2
  refine ⟨M2, ?_, hM3⟩
  have hW : lenOk (sumsOf s).CoatSheet.Work = true := h.wl
  rw [g_coat_sums_goingOn_l0, hW, show (sumsOf s).CoatSheet.Work = s.Work from rfl, e1]
  exact e2
theorem goingOn_eq : ∃ M, g_coat_sums_goingOn (sumsOf s) = some M ∧ ∀ c d, kGet M c d = true ↔ (0 ≤ c ∧ c < s.Coats.length ∧ d ∈ s.Work) ∧ GSs s (s.Coats.drop c.toNat) d = true := by
 have hc := h.c
 obtain ⟨M, e, hM⟩ := goingOn_l0 h s.Coats 0 [] (Int.le_refl _) (by omega) (by
  intro c d
  constructor
  ·intro hh; cases hh
  ·rintro ⟨hh | hh, _⟩
   ·omega
   ·exact absurd hh.2 (by simp))
 refine ⟨M, ?_, fun c d => ?_⟩
 ·unfold g_coat_sums_goingOn
  rw [show (sumsOf s).CoatSheet.Coats = s.Coats from rfl, lenOk_of (by omega), e]
  rfl
 ·rw [hM c d]
  constructor
  ·rintro ⟨hh | hh, h2⟩
   ·exact ⟨hh, h2⟩
   ·exact absurd hh.2 (by simp)
  ·exact fun hh => ⟨.inl hh.1, hh.2⟩
def mayP (s : GCoatSheet) (M : List (Gcoatlaying × Bool)) (p : List Int) (j : Int) : Bool := kGet M p.length j && match p.getLast?, s.Coats.drop (p.length - 1) with
 | some a, k :: _ => dryOk (loS s) (hiS s) k false a j
 | _, _ => true
theorem plans1_eq {M : List (Gcoatlaying × Bool)} {p : List Int} {j : Int} (hp : p.length < s.Coats.length) (hd : ∀ a ∈ p, 0 ≤ a ∧ a < (s.Dry.length : Int)) (h0 : 0 ≤ j) (h1 : j < (s.Dry.length : Int)) : g_coat_sums_plans_1 p j M (sumsOf s) = some (mayP s M p j) := by
 have hc := h.c
 unfold g_coat_sums_plans_1 mayP
 rw [show mapGet q121 false M (Gcoatlaying.mk (p.length : Int) j) = kGet M p.length j from rfl]
 cases hk : kGet M p.length j with
 | false => rfl
 | true =>
 rcases List.eq_nil_or_concat p with rfl | ⟨q, a, rfl⟩
 ·rfl
 ·have hl : (q ++ [a]).length = q.length + 1 := by simp
  rw [List.concat_eq_append] at *
  have hne : (((q ++ [a]).length : Int) == 0) = false := by rw [hl]; exact beq_false_of_ne (by omega)
  have hw : IntKind.i64.wrap (((q ++ [a]).length : Int) - 1) = (q.length : Int) := by rw [wrap_eq (by omega) (by omega)]; omega
  have hg : getI (q ++ [a]) (q.length : Int) = some a := by
   refine getI_of_drop (post := []) (by omega) ?_
   rw [show ((q.length : Int)).toNat = q.length by omega, List.drop_left]
  obtain ⟨k, hk2⟩ : ∃ k, s.Coats[q.length]? = some k := ⟨_, List.getElem?_eq_getElem (by omega)⟩
  have hdr : s.Coats.drop q.length = k :: s.Coats.drop (q.length + 1) := by
   obtain ⟨hlt, rfl⟩ := List.getElem?_eq_some_iff.1 hk2
   exact List.drop_eq_getElem_cons hlt
  have ha := hd a (by simp)
  have hem : (s.Coats.drop (q.length + 1)).isEmpty = false := by
   cases hcc : s.Coats.drop (q.length + 1) with
   | nil =>
    have := congrArg List.length hcc
    rw [List.length_drop, List.length_nil] at this
    omega
   | cons _ _ => rfl
  have e := dries_eq2 h (c := (q.length : Int)) (a := a) (b := j) (by omega) (by rw [show ((q.length : Int)).toNat = q.length by omega]; exact hdr) (by omega) (by omega)
  rw [hem] at e
  rw [hne, hw, hg]
  simp only [cond_true, cond_false, Option.bind_some, e, hl, Nat.add_sub_cancel, hdr, List.getLast?_append, List.getLast?_singleton, Option.some_or, Bool.true_and]
end
end Go.V
end
section
namespace Go.V
open Go
set_option linter.unusedVariables false
set_option linter.unusedSimpArgs false
def CHN (lo hi : Int → Int) (n : Int) (W : List Int) : List GCoatCoat → List Int → Prop
 | [], [] => True
 | [k], [a] => a ∈ W ∧ dryOk lo hi k true a n = true
 | k :: k2 :: cs, a :: b :: t => a ∈ W ∧ dryOk lo hi k false a b = true ∧ CHN lo hi n W (k2 :: cs) (b :: t)
 | _, _ => False
section
variable {lo hi : Int → Int} {n : Int} {W : List Int}
theorem CHN_head : ∀ {cs : List GCoatCoat} {a : Int} {t : List Int}, CHN lo hi n W cs (a :: t) → a ∈ W
 | [_], _, [], h => h.1
 | _ :: _ :: _, _, _ :: _, h => h.1
 | [], _, _, h => h.elim
 | [_], _, _ :: _, h => h.elim
 | _ :: _ :: _, _, [], h => h.elim
theorem CHN_GS : ∀ {cs : List GCoatCoat} {a : Int} {t : List Int}, CHN lo hi n W cs (a :: t) → GS lo hi n W cs a = true
 | [_], _, [], h => h.2
 | k :: k2 :: cs, a, b :: t, h => by
  rw [GS, List.any_eq_true]
  exact ⟨b, CHN_head h.2.2, by rw [CHN_GS h.2.2, h.2.1]; rfl⟩
 | [], _, _, h => h.elim
 | [_], _, _ :: _, h => h.elim
 | _ :: _ :: _, _, [], h => h.elim
theorem dryOk_true {k : GCoatCoat} {l : Bool} {a b : Int} : dryOk lo hi k l a b = true ↔ a < b ∧ decide (lo b - lo a < k.Need) = false ∧ (l = true ∨ decide (hi b - hi a > k.Peel) = false) := by
 unfold dryOk
 simp only [Bool.and_eq_true, decide_eq_true_eq, Bool.not_eq_true', Bool.or_eq_true]
theorem CHN_iff (hW : ∀ d ∈ W, d < n) : ∀ (cs : List GCoatCoat) (q : List Int) (i : Int), q.length = cs.length → (CHN lo hi n W cs q ↔ (∀ d ∈ q, d ∈ W) ∧ upB q = true ∧ failW lo hi n q cs i = none)
 | [], [], i, _ => by simp [CHN, upB, failW]
 | [], _ :: _, i, h => by simp at h
 | _ :: _, [], i, h => by simp at h
 | [k], [a], i, _ => by
  rw [show failW lo hi n [a] [k] i = cond (decide (lo n - lo a < k.Need)) (some (i, 1)) none from rfl, CHN, dryOk_true]
  simp only [List.mem_singleton, forall_eq]
  constructor
  ·rintro ⟨h1, h2, h3, _⟩
   exact ⟨h1, rfl, by rw [h3]; rfl⟩
  ·rintro ⟨h1, _, h3⟩
   refine ⟨h1, hW a h1, ?_, .inl trivial⟩
   cases hd : decide (lo n - lo a < k.Need) with
   | false => rfl
   | true => rw [hd] at h3; cases h3
 | [k], _ :: _ :: _, i, h => by simp at h
 | _ :: _ :: _, [_], i, h => by simp at h
 | k :: k2 :: cs, a :: b :: t, i, h => by
  have ih := CHN_iff hW (k2 :: cs) (b :: t) (i + 1) (by simpa using h)
  rw [CHN, ih, dryOk_true, upB_cons]
  simp only [List.mem_cons, forall_eq_or_imp, Bool.and_eq_true, decide_eq_true_eq, Bool.false_eq_true, false_or]
  rw [show failW lo hi n (a :: b :: t) (k :: k2 :: cs) i = cond (decide (lo b - lo a < k.Need)) (some (i, 1)) (cond (decide (hi b - hi a > k.Peel)) (some (i, 2)) (failW lo hi n (b :: t) (k2 :: cs) (i + 1))) from rfl]
  constructor
  ·rintro ⟨h1, ⟨h2, h3, h4⟩, h5, h6, h7⟩
   exact ⟨⟨h1, h5⟩, ⟨h2, h6⟩, by rw [h3, h4]; exact h7⟩
  ·rintro ⟨⟨h1, h5⟩, ⟨h2, h6⟩, h7⟩
   cases hd : decide (lo b - lo a < k.Need) with
   | true => rw [hd] at h7; cases h7
   | false =>
    cases hd2 : decide (hi b - hi a > k.Peel) with
    | true => rw [hd, hd2] at h7; cases h7
    | false =>
     rw [hd, hd2] at h7
     exact ⟨h1, ⟨h2, rfl, rfl⟩, h5, h6, h7⟩
end
section
variable {s : GCoatSheet} (h : ShOk s)
abbrev CHs (s : GCoatSheet) : List GCoatCoat → List Int → Prop := CHN (loS s) (hiS s) s.Dry.length s.Work
def prevB (s : GCoatSheet) (p : List Int) (j : Int) : Bool := match p.getLast?, s.Coats.drop (p.length - 1) with
 | some a, k :: _ => dryOk (loS s) (hiS s) k false a j
 | _, _ => true
include h
theorem steps_iff {M : List (Gcoatlaying × Bool)} (hM : ∀ c d, kGet M c d = true ↔ (0 ≤ c ∧ c < s.Coats.length ∧ d ∈ s.Work) ∧ GSs s (s.Coats.drop c.toNat) d = true) : ∀ (t p : List Int) (cs : List GCoatCoat), s.Coats.drop p.length = cs → t.length = cs.length →
  (stepsB (mayP s M) s.Dry.length p t = true ↔ (∀ j t', t = j :: t' → prevB s p j = true) ∧ CHs s cs t)
 | [], p, cs, hcs, hl => by
  have : cs = [] := List.length_eq_zero_iff.1 hl.symm
  subst this
  simp [stepsB, CHs, CHN]
 | j :: t, p, [], hcs, hl => by simp at hl
 | j :: t, p, k :: cs, hcs, hl => by
  have hlen := drop_len hcs
  have hd1 : s.Coats.drop (p ++ [j]).length = cs := by
   rw [show (p ++ [j]).length = p.length + 1 by simp, ← List.drop_drop, hcs]
   rfl
  have ih := steps_iff hM t (p ++ [j]) cs hd1 (by simpa using hl)
  have hpv : ∀ b, prevB s (p ++ [j]) b = dryOk (loS s) (hiS s) k false j b := by
   intro b
   unfold prevB
   rw [show (p ++ [j]).length - 1 = p.length by simp, hcs]
   simp
  have hmy : mayP s M p j = (kGet M p.length j && prevB s p j) := rfl
  have hk : kGet M p.length j = true ↔ j ∈ s.Work ∧ GSs s (k :: cs) j = true := by
   rw [hM, show ((p.length : Int)).toNat = p.length by omega, hcs]
   constructor
   ·exact fun hh => ⟨hh.1.2.2, hh.2⟩
   ·exact fun hh => ⟨⟨by omega, by omega, hh.1⟩, hh.2⟩
  simp only [stepsB, Bool.and_eq_true, decide_eq_true_eq, ih, hmy, hk]
  constructor
  ·rintro ⟨⟨h0, h1⟩, ⟨⟨hw, hg⟩, hp⟩, h2, h3⟩
   refine ⟨fun j' t' e => by cases e; exact hp, ?_⟩
   cases t with
   | nil =>
    cases cs with
    | nil => exact ⟨hw, hg⟩
    | cons _ _ => simp at hl
   | cons b t =>
    cases cs with
    | nil => simp at hl
    | cons k2 cs =>
     have := h2 b t rfl
     rw [hpv] at this
     exact ⟨hw, this, h3⟩
  ·rintro ⟨hp, hc⟩
   have hw : j ∈ s.Work := CHN_head hc
   have hb := h.w j hw
   refine ⟨⟨hb.1, by omega⟩, ⟨⟨hw, CHN_GS hc⟩, hp j t rfl⟩, ?_⟩
   cases t with
   | nil =>
    cases cs with
    | nil => exact ⟨fun _ _ e => (by cases e), trivial⟩
    | cons _ _ => simp at hl
   | cons b t =>
    cases cs with
    | nil => simp at hl
    | cons k2 cs => exact ⟨fun j' t' e => by cases e; rw [hpv]; exact hc.2.1, hc.2.2⟩
theorem plans_eq : ∃ L, it_coat_plans (sumsOf s) = some L ∧ (∀ q, q ∈ L ↔ planB s q = true ∧ sureB s.Dry s.Coats q = true) ∧ L.Pairwise lexL ∧ ∃ m, L = listsB m s.Dry.length s.Coats.length [] ∧ ∀ p j, m p j = true → j ∈ s.Work ∧ (∀ a, p.getLast? = some a → p.length ≤ s.Coats.length → a < j) := by
 have hc := h.c
 have hd := h.dk.l
 obtain ⟨M, e1, hM⟩ := goingOn_eq h
 have e2 : listsO (fun p j => g_coat_sums_plans_1 p j M (sumsOf s)) s.Dry.length s.Coats.length [] = some (listsB (mayP s M) s.Dry.length s.Coats.length []) :=
  listsO_eq (ln := s.Coats.length) (fun p j h1 h2 h3 h4 => plans1_eq h h1 h2 h3 h4) s.Coats.length [] (by simp) (by simp)
 refine ⟨listsB (mayP s M) s.Dry.length s.Coats.length [], ?_, fun q => ?_, pairwise_listsB _ _, mayP s M, rfl, ?_⟩
 ·unfold it_coat_plans
  rw [e1, Option.bind_some, show (sumsOf s).CoatSheet.Coats = s.Coats from rfl, show (sumsOf s).CoatSheet.Dry = s.Dry from rfl, e2]
  have : smallOk s.Coats.length s.Dry.length = true := by simp only [smallOk, Bool.and_eq_true, decide_eq_true_eq]; omega
  rw [this]; rfl
 ·rw [mem_listsB]
  constructor
  ·rintro ⟨t, ht0, ht, hs⟩
   rw [List.nil_append] at ht0
   subst ht0
   have h2 := ((steps_iff h hM q [] s.Coats rfl ht).1 hs).2
   obtain ⟨h3, h4, h5⟩ := (CHN_iff (fun d hd => by have := h.w d hd; omega) s.Coats q 0 ht).1 h2
   refine ⟨?_, by unfold sureB worstW; rw [h5]; rfl⟩
   unfold planB incB dayB
   simp only [Bool.and_eq_true, decide_eq_true_eq, List.all_eq_true, inB_iff, List.contains_iff_mem]
   exact ⟨⟨ht, h4, fun d hd => h.w d (h3 d hd)⟩, h3⟩
  ·rintro ⟨h1, h2⟩
   unfold planB incB dayB at h1
   simp only [Bool.and_eq_true, decide_eq_true_eq, List.all_eq_true, inB_iff, List.contains_iff_mem] at h1
   refine ⟨q, rfl, h1.1.1, ?_⟩
   rw [steps_iff h hM q [] s.Coats rfl h1.1.1]
   refine ⟨fun j t' e => rfl, ?_⟩
   refine (CHN_iff (fun d hd => by have := h.w d hd; omega) s.Coats q 0 h1.1.1).2 ?_
   refine ⟨h1.2, h1.1.2.1, ?_⟩
   unfold sureB worstW at h2
   cases hf : failW (SI (lowsL s.Dry)) (SI (highsL s.Dry)) (s.Dry.length : Int) q s.Coats 0 with
   | none => rfl
   | some r => rw [hf] at h2; cases h2
 ·intro p j hm
  unfold mayP at hm
  rw [Bool.and_eq_true, hM] at hm
  refine ⟨hm.1.1.2.2, fun a ha hl => ?_⟩
  have hm2 := hm.2
  rw [ha] at hm2
  have hpl : 1 ≤ p.length := by
   cases p with
   | nil => cases ha
   | cons _ _ => simp
  cases hcc : s.Coats.drop (p.length - 1) with
  | nil =>
   have := congrArg List.length hcc
   rw [List.length_drop, List.length_nil] at this
   omega
  | cons k cs =>
   rw [hcc] at hm2
   exact (dryOk_true.1 hm2).1
end
end Go.V
end
section
namespace Go.V
open Go Go.Proofs
end Go.V
end
section
namespace Go.V
open Go Go.Proofs
end Go.V
end
section
namespace Go.V
open Go Go.Proofs
end Go.V
end
section
namespace Go.V
open Go
set_option linter.unusedVariables false
set_option linter.unusedSimpArgs false
structure PlansL (s : GCoatSheet) (L : List (List Int)) : Prop where
 it : it_coat_plans (sumsOf s) = some L
 mem : ∀ q, q ∈ L ↔ planB s q = true ∧ sureB s.Dry s.Coats q = true
 pw : L.Pairwise lexL
 ch : ∃ m, L = listsB m s.Dry.length s.Coats.length [] ∧ ∀ p j, m p j = true → j ∈ s.Work ∧ (∀ a, p.getLast? = some a → p.length ≤ s.Coats.length → a < j)
theorem first_eq {s : GCoatSheet} (hs : OkS s) (h1 : sheetB s = true) : ∃ L, PlansL s L ∧ g_coat_First s = some (headE L) := by
 have h := ShOk.of h1
 obtain ⟨L, e, hL, hp, hm⟩ := plans_eq h
 refine ⟨L, ⟨e, hL, hp, hm⟩, ?_⟩
 unfold g_coat_First
 rw [isSheet_eq hs, h1, Option.bind_some, cond_true, summed_of h.dk, Option.bind_some, e]
 rfl
end Go.V
end
section
namespace Go.V
open Go Go.Proofs
end Go.V
end
section
namespace Go.V
open Go Go.Proofs
end Go.V
end
section
namespace Go.V
open Go Go.Proofs
end Go.V
end
section
namespace Go.V
open Go
def leL : List Int → List Int → Prop
 | [], [] => True
 | a :: x, b :: y => a ≤ b ∧ leL x y
 | _, _ => False
theorem leL_take : ∀ {x y : List Int} (a b : Nat), leL x y → a ≤ b → (x.take b).sum - (x.take a).sum ≤ (y.take b).sum - (y.take a).sum
 | [], [], a, b, _, _ => by simp
 | u :: x, v :: y, 0, 0, _, _ => by simp
 | u :: x, v :: y, 0, b + 1, h, _ => by
  have := leL_take 0 b h.2 (Nat.zero_le _)
  have h1 := h.1
  simp only [List.take_zero, List.sum_nil, List.take_succ_cons, List.sum_cons] at this ⊢
  omega
 | u :: x, v :: y, a + 1, 0, _, hab => by omega
 | u :: x, v :: y, a + 1, b + 1, h, hab => by
  have := leL_take a b h.2 (by omega)
  simp only [List.take_succ_cons, List.sum_cons] at this ⊢
  omega
 | [], _ :: _, _, _, h, _ => h.elim
 | _ :: _, [], _, _, h, _ => h.elim
theorem leL_SI {x y : List Int} (h : leL x y) {a b : Int} (hab : a ≤ b) : SI x b - SI x a ≤ SI y b - SI y a := leL_take _ _ h (by omega)
theorem failW_mono {lo lo' hi hi' : Int → Int} {n : Int} (h1 : ∀ a b, a ≤ b → lo b - lo a ≤ lo' b - lo' a) (h2 : ∀ a b, a ≤ b → hi' b - hi' a ≤ hi b - hi a) : ∀ (p : List Int) (cs : List GCoatCoat) (i : Int), upB p = true → (∀ x ∈ p, x ≤ n) → (failW lo hi n p cs i).isNone = true → (failW lo' hi' n p cs i).isNone = true
 | [], _, _, _, _, _ => by simp [failW]
 | _ :: _, [], _, _, _, _ => by simp [failW]
 | a :: p, c :: cs, i, hu, hn, h => by
  have ha := hn a (by simp)
  have hb : a ≤ p.headD n := up_head hu ha
  have e1 := h1 a _ hb
  have e2 := h2 a _ hb
  simp only [failW] at h ⊢
  cases d1 : decide (lo (p.headD n) - lo a < c.Need) with
  | true => rw [d1] at h; simp at h
  | false =>
  rw [d1] at h
  have d1' := of_decide_eq_false d1
  rw [decide_eq_false (by omega)]
  cases d2 : (!p.isEmpty && decide (hi (p.headD n) - hi a > c.Peel)) with
  | true => rw [d2] at h; simp at h
  | false =>
  rw [d2] at h
  have d3 : (!p.isEmpty && decide (hi' (p.headD n) - hi' a > c.Peel)) = false := by
   cases hp : p.isEmpty with
   | true => rfl
   | false =>
    rw [hp] at d2
    have d2' := of_decide_eq_false (show decide (hi (p.headD n) - hi a > c.Peel) = false from d2)
    exact decide_eq_false (by omega)
  rw [d3]
  simp only [cond_false] at h ⊢
  exact failW_mono h1 h2 p cs (i + 1) (up_tail hu) (fun x hx => hn x (by simp [hx])) h
def inD : List GSpan → List GSpan → Prop
 | [], [] => True
 | x :: xs, y :: ys => x.Low ≤ y.Low ∧ y.High ≤ x.High ∧ inD xs ys
 | _, _ => False
theorem inD_refl : ∀ d : List GSpan, inD d d
 | [] => trivial
 | x :: d => ⟨Int.le_refl _, Int.le_refl _, inD_refl d⟩
theorem inD_lows : ∀ {d e : List GSpan}, inD d e → leL (lowsL d) (lowsL e) ∧ leL (highsL e) (highsL d)
 | [], [], _ => ⟨trivial, trivial⟩
 | x :: d, y :: e, h => ⟨⟨h.1, (inD_lows h.2.2).1⟩, ⟨h.2.1, (inD_lows h.2.2).2⟩⟩
 | [], _ :: _, h => h.elim
 | _ :: _, [], h => h.elim
theorem sure_in {d e : List GSpan} {cs : List GCoatCoat} {p : List Int} (hl : d.length = e.length) (h : VP d cs p) (hi : inD d e) (hs : sureB d cs p = true) : sureB e cs p = true := by
 obtain ⟨h1, h2⟩ := inD_lows hi
 unfold sureB worstW at hs ⊢
 rw [← hl]
 exact failW_mono (fun a b hab => leL_SI h1 hab) (fun a b hab => leL_SI h2 hab) p cs 0 h.u (fun x hx => by have := h.r x hx; omega) hs
def ltL : List Int → List Int → Bool
 | a :: x, b :: y => cond (a != b) (decide (a < b)) (ltL x y)
 | _, _ => false
structure FP (cs : List GCoatCoat) (p : List Int) (pre : List Int) (rest : List GSpan) (r : List Int) : Prop where
 i : inW rest r = true
 f : sureB ((pre ++ r).map ptS) cs p = false
 m : ∀ w, inW rest w = true → sureB ((pre ++ w).map ptS) cs p = false → ltL w r = false
section
variable {cs : List GCoatCoat} {p : List Int} {wk : List Int} {n : Nat} (hn : n ≤ 12) (hc : 1 ≤ cs.length ∧ cs.length ≤ 5) (hl : p.length = cs.length) (hu : upB p = true) (hr : ∀ x ∈ p, 0 ≤ x ∧ x ≤ (n : Int) - 1)
include hn hc hl hu hr
end
end Go.V
end
section
namespace Go.V
open Go Go.Proofs
def g_law03_surely (x0_s : GCoatSheet) (x1_plan : List Int) : Option (Bool × Bool) := Option.bind (g_coat_Word x0_s x1_plan) (fun r1 => cond (r1.2 == 0) (cond (decide (r1.1 ≥ 1)) (some (r1.1 == 3, decide (r1.1 ≤ 3))) (some (r1.1 == 3, false))) (some (false, false)))
theorem g_law03_surely_ok (x0_s : GCoatSheet) (x1_plan : List Int) (R : Bool × Bool) (h : g_law03_surely x0_s x1_plan = some R) : VPure Tryz.prog G0 23 [.agg (cGCoatSheet x0_s), .sl (cellsL eI x1_plan) (List.length x1_plan) false] (.tree (.tup [.lit (.bool R.1), .lit (.bool R.2)])) := by
 refine VPure.runR mixed Tryz.call23 Tryz.func23 rfl (by simp [Tryz.ntmps23]; kernel_rfl) ?_
 obtain ⟨KF, h, kF, kN⟩ := fun_intro h
 simp only [g_law03_surely] at h
 rcases o3 : (g_coat_Word x0_s x1_plan) with _ | r2
 ·simp only [o3, hs] at h
  exact absurd h kN
 simp only [o3, hs] at h
 simp only [vz, tyf, nm, seval]
 refine ktree (args0 := [.agg (cGCoatSheet x0_s), .sl (cellsL eI x1_plan) (List.length x1_plan) false]) (by first | (simp only [nrm, tynrm] <;> rfl) | rfl) (by simp only [tre, tytre, Bool.and_self]) (g_coat_Word_ok _ _ _ o3) ?_
 refine fin_cut (fun tm => tm 11 = .tup [.lit (.int .i64 r2.1), .lit (.int .i64 r2.2)] ∧ True) (by refine ⟨?_, trivial⟩ <;> first | (simp only [ua, nm, seval] <;> rfl) | rfl) ?_
 rintro tm ⟨e4, _⟩
 cases d5 : (r2.2 == 0)
 ·simp only [d5, hs] at h
  try simp only [vz, tyf, e4, d5, nm, seval]
  refine opd_ret (x := (.tup [.lit (.bool false), .lit (.bool false)])) (by first | (simp only [Tryz.results23, resV, resL, resV1, tgt_ptr, tgt_tp, uw, cr, tyf, d5, nm, seval] <;> rfl) | rfl) ?_
  obtain rfl := kF _ h
  refine rr_tree ?_ ?_
  ·simp only [tre, tytre, Bool.and_self]
  ·first | (simp only [outV, uw, showV_ref, cr, tyf, nrm, tynrm, e4, d5, nm, seval] <;> rfl) | rfl
 simp only [d5, hs] at h
 cases d6 : (decide (r2.1 ≥ 1))
 ·simp only [d6, hs] at h
  try simp only [vz, tyf, e4, d5, d6, nm, seval]
  refine opd_ret (x := (.tup [.lit (.bool (r2.1 == 3)), .lit (.bool false)])) (by first | (simp only [Tryz.results23, resV, resL, resV1, tgt_ptr, tgt_tp, uw, cr, tyf, d5, d6, nm, seval] <;> rfl) | rfl) ?_
  obtain rfl := kF _ h
  refine rr_tree ?_ ?_
  ·simp only [tre, tytre, Bool.and_self]
  ·first | (simp only [outV, uw, showV_ref, cr, tyf, nrm, tynrm, e4, d5, d6, nm, seval] <;> rfl) | rfl
 simp only [d6, hs] at h
 try simp only [vz, tyf, e4, d5, d6, nm, seval]
 refine opd_ret (x := (.tup [.lit (.bool (r2.1 == 3)), .lit (.bool (decide (r2.1 ≤ 3)))])) (by first | (simp only [Tryz.results23, resV, resL, resV1, tgt_ptr, tgt_tp, uw, cr, tyf, d5, d6, nm, seval] <;> rfl) | rfl) ?_
 obtain rfl := kF _ h
 refine rr_tree ?_ ?_
 ·simp only [tre, tytre, Bool.and_self]
 ·first | (simp only [outV, uw, showV_ref, cr, tyf, nrm, tynrm, e4, d5, d6, nm, seval] <;> rfl) | rfl
end Go.V
end
section
namespace Go.V
open Go Go.Proofs
end Go.V
end
section
namespace Go.V
open Go
set_option linter.unusedVariables false
set_option linter.unusedSimpArgs false
theorem short_eq' (s : GCoatSheet) : ∃ b, g_law03_short s = some b := by
 unfold g_law03_short
 cases decide ((s.Dry.length : Int) ≤ 14) with
 | false => exact ⟨_, rfl⟩
 | true =>
 cases decide ((s.Work.length : Int) ≤ 16) with
 | false => exact ⟨_, rfl⟩
 | true => exact ⟨_, rfl⟩
theorem right_eq' {s : GCoatSheet} {p : List Int} (hs : OkS s) (hp : lenOk p = true) : ∃ b, g_law03_right s p = some b ∧ (b = true → sheetB s = true ∧ planB s p = true) := by
 unfold g_law03_right
 obtain ⟨b, hb⟩ := short_eq' s
 rw [hb, rSheet_eq hs, rPlan_eq hs hp]
 simp only [Option.bind_some]
 cases b with
 | false => exact ⟨false, rfl, fun h => by cases h⟩
 | true =>
 cases decide ((p.length : Int) ≤ 7) with
 | false => exact ⟨false, rfl, fun h => by cases h⟩
 | true =>
 cases sheetB s with
 | false => exact ⟨false, rfl, fun h => by cases h⟩
 | true => exact ⟨planB s p, rfl, fun h => ⟨rfl, h⟩⟩
theorem surelyL_eq {s : GCoatSheet} {p : List Int} (hs : OkS s) (hp : lenOk p = true) (h1 : sheetB s = true) (h2 : planB s p = true) : g_law03_surely s p = some (sureB s.Dry s.Coats p, true) := by
 unfold g_law03_surely
 rw [word_eq hs hp, h1, h2]
 simp only [cond_true, Option.bind_some]
 unfold wordW
 cases sureB s.Dry s.Coats p <;> cases (bestW s.Dry s.Coats p).isNone <;> rfl
def binN : Nat → Nat → Nat
 | _, 0 => 1
 | 0, _ + 1 => 0
 | n + 1, d + 1 => binN n d + binN n (d + 1)
def fromN (p : List Int) : Nat := match p.getLast? with
 | some a => (a + 1).toNat
 | none => 0
theorem length_listsB {m : List Int → Int → Bool} {lim N : Nat} (hm : ∀ p j, m p j = true → ∀ a, p.getLast? = some a → p.length ≤ N → a < j) : ∀ (d : Nat) (p : List Int), p.length + d ≤ N + 1 → (listsB m lim d p).length ≤ binN (lim - fromN p) d
 | 0, p, _ => by rw [listsB]; cases lim - fromN p <;> exact Nat.le_refl _
 | d + 1, p, hp => by
  rw [listsB]
  have key : ∀ (k c : Nat), c + k = lim → ((List.range' c k).flatMap fun i : Nat => if m p (i : Int) then listsB m lim d (p ++ [(i : Int)]) else []).length ≤ binN (lim - max c (fromN p)) (d + 1) := by
   intro k
   induction k with
   | zero => intro c _; exact Nat.zero_le _
   | succ k ih =>
    intro c hc
    rw [List.range'_succ, List.flatMap_cons, List.length_append]
    have ih' := ih (c + 1) (by omega)
    by_cases hcf : c < fromN p
    ·have hw : m p (c : Int) = false := by
      cases hmm : m p (c : Int) with
      | false => rfl
      | true =>
       unfold fromN at hcf
       cases hl : p.getLast? with
       | none => rw [hl] at hcf; simp at hcf
       | some a =>
        rw [hl] at hcf
        have := hm p c hmm a hl (by omega)
        simp only at hcf
        omega
     rw [hw, show max c (fromN p) = max (c + 1) (fromN p) by omega]
     simpa using ih'
    ·have e1 : lim - max c (fromN p) = k + 1 := by omega
     have e2 : lim - max (c + 1) (fromN p) = k := by omega
     rw [e2] at ih'
     rw [e1]
     show _ ≤ binN k d + binN k (d + 1)
     have hw : (if m p (c : Int) then listsB m lim d (p ++ [(c : Int)]) else []).length ≤ binN k d := by
      split
      ·have := length_listsB (lim := lim) hm d (p ++ [(c : Int)]) (by simp; omega)
       have e3 : fromN (p ++ [(c : Int)]) = c + 1 := by
        unfold fromN
        simp
       rw [e3, show lim - (c + 1) = k by omega] at this
       exact this
      ·exact Nat.zero_le _
     omega
  have := key lim 0 (by omega)
  rw [show max 0 (fromN p) = fromN p by omega] at this
  exact this
theorem binN_le : ∀ n, n < 13 → ∀ d, d < 6 → binN n d ≤ 792 := by decide
theorem plansL_len {s : GCoatSheet} (h : ShOk s) {L : List (List Int)} (hP : PlansL s L) : L.length ≤ 792 := by
 obtain ⟨m, rfl, hm⟩ := hP.ch
 have hc := h.c
 have hd := h.dk.l
 have := length_listsB (m := m) (lim := s.Dry.length) (N := s.Coats.length) (fun p j hj a ha hl => (hm p j hj).2 a ha hl) s.Coats.length [] (by simp)
 have e : fromN [] = 0 := rfl
 rw [e, Nat.sub_zero] at this
 exact Nat.le_trans this (binN_le _ (by omega) _ (by omega))
theorem count_eq {s : GCoatSheet} (hs : OkS s) (h1 : sheetB s = true) {L : List (List Int)} (hP : PlansL s L) : g_coat_Count s = some ((L.length : Int), 0) := by
 have h := ShOk.of h1
 have := plansL_len h hP
 unfold g_coat_Count
 rw [isSheet_eq hs, h1, Option.bind_some, cond_true, summed_of h.dk, Option.bind_some, hP.it, Option.bind_some, lenOk_of (by omega)]
 rfl
end Go.V
end
section
namespace Go.V
open Go Go.Proofs
set_option linter.unusedSimpArgs false
set_option linter.unusedVariables false
set_option maxRecDepth 4000
set_option maxHeartbeats 4000000
end Go.V
end
section
namespace Go.V
open Go Go.Proofs
end Go.V
end
section
namespace Go.V
open Go Go.Proofs
end Go.V
end
section
namespace Go.V
open Go Go.Proofs
set_option linter.unusedSimpArgs false
set_option linter.unusedVariables false
set_option maxRecDepth 4000
set_option maxHeartbeats 4000000
end Go.V
end
section
namespace Go.V
open Go Go.Proofs
set_option linter.unusedSimpArgs false
set_option linter.unusedVariables false
set_option maxRecDepth 4000
set_option maxHeartbeats 4000000
def bestO (better : List Int → List Int → Option Bool) : List (List Int) → List Int × Bool → Option (List Int × Bool)
 | [], acc => some acc
 | x :: L, acc => cond acc.2 (Option.bind (better x acc.1) fun t => bestO better L (cond t (x, true) acc)) (bestO better L (x, true))
theorem bestOf_ok {itv : VV} {bf : Nat} {mc : List VV} {L : List (List Int)} (hit : Iter Tryz.prog G0 itv (L.map sI)) (hmt : treeL mc = true) {better : List Int → List Int → Option Bool}
  (hb : ∀ a b t, better a b = some t → VPure Tryz.prog G0 bf (sI a :: sI b :: mc) (.tree (.lit (.bool t)))) (R : List Int × Bool) (h : bestO better L ([], false) = some R) :
  VPure Tryz.prog G0 68 [itv, .fn (.func bf) [] mc] (.tree (.tup [sI R.1, .lit (.bool R.2)])) := by
 refine VPure.runR mixed Tryz.call68 Tryz.func68 rfl (by simp [Tryz.ntmps68]; kernel_rfl) ?_
 simp only [vz, tyf, seval, ua, rg]
 refine cwp_cutF (fun tm => tm 9 = itv ∧ tm 3 = .ptr 0 0 ∧ tm 6 = .ptr 3 0 ∧ tm 7 = .ptr 4 0) (by refine ⟨?_, ?_, ?_, ?_⟩ <;> simp only [ua, seval]) ?_
 rintro tm ⟨e9, e3, e6, e7⟩
 refine range_iter hit (by first | (simp only [ev_tmp, ev_func, e9, upd_apply, seval] <;> rfl) | rfl) ?_
 intro LO hLO
 obtain ⟨J, hJ⟩ : ∃ J : Option (List VV) → List (Nat × VObj) → Prop, J = (fun o hp => match o with
  | some l => ∃ (p : List (List Int)) (r : List Int) (fd : Bool) (y : VV), l = p.map sI ∧ hp = [(7, .deferred (some [])), (8, LO), (0, .cells (some 36) [.fn (.func bf) [] mc]), (3, .cells (some 23) [y]), (4, .cells (some 4) [.lit (.bool fd)])] ∧ ((fd = true ∧ y = sI r) ∨ (fd = false ∧ y = .lit (.slice none 0 0) ∧ r = [])) ∧ bestO better p (r, fd) = some R
  | none => False) := ⟨_, rfl⟩
 refine ⟨ownI J, ownI_stable, ?_, ?_, ?_⟩
 ·rintro v rest Fr H nx hFr ⟨hp, hown, hj⟩
  rw [hJ] at hj
  obtain ⟨p, r, fd, y, hl, rfl, hy, hR⟩ := hj
  cases p with
  | nil => cases hl
  | cons e p =>
  simp only [List.map_cons, List.cons.injEq] at hl
  obtain ⟨rfl, rfl⟩ := hl
  obtain ⟨l7, n7, H7⟩ := hown.head
  obtain ⟨l8, n8, H8⟩ := hown.tail.head
  obtain ⟨l0, n0, H0⟩ := hown.tail.tail.head
  obtain ⟨l3, n3, H3⟩ := hown.tail.tail.tail.head
  obtain ⟨l4, n4, H4⟩ := hown.tail.tail.tail.tail.head
  refine yields_open mixed (psl := [10]) hLO H8 tmL_length rfl (by kernel_rfl) (by kernel_rfl) ?_
  intro LB LD hLB hLD
  refine cwp_tmcut (fun tm => tm 10 = sI e ∧ tm 3 = .ptr 0 0 ∧ tm 6 = .ptr 3 0 ∧ tm 7 = .ptr 4 0) (by refine ⟨?_, ?_, ?_, ?_⟩ <;> simp only [round_tm, round_tm0, Tryz.ntmps68, e3, e6, e7, seval]) ?_
  clear e9 e3 e6 e7
  rintro tm ⟨e10, e3, e6, e7⟩
  unfold bestO at hR
  rcases hy with ⟨rfl, rfl⟩ | ⟨rfl, rfl, rfl⟩
  ·simp only [cond_true] at hR
   rcases hbt : better e r with _ | t
   ·rw [hbt] at hR; cases hR
   rw [hbt, Option.bind_some] at hR
   simp only [vz, tyf, seval, ua, nm, rg, RStart, e10, e3, e6, e7, H8, H0, H3, H4, Bool.not_true]
   refine ktreeR ?_ (hb e r t hbt) ?_
   ·have h1 : treeL (cellsL eI e) = true := eI_ok.treeL e
    have h2 : treeL (cellsL eI r) = true := eI_ok.treeL r
    simp [treeL, VV.tree, h1, h2, hmt]
   cases t with
   | true =>
    simp only [vz, tyf, seval, ua, nm, rg, RStart, e10, e3, e6, e7, H8, H0, H3, H4]
    refine ⟨by simp only [updH_apply, seval], (show nx ≤ nx + 12 by omega), fun γ hγ => ?_, ?_⟩
    ·have g8 : γ ≠ 8 := fun e => n8 (e ▸ hγ)
     have g3 : γ ≠ 3 := fun e => n3 (e ▸ hγ)
     have g4 : γ ≠ 4 := fun e => n4 (e ▸ hγ)
     simp only [updH]
     repeat rw [if_neg (by first | assumption | omega)]
    ·simp only [if_true]
     refine ⟨[(7, .deferred (some [])), (8, LO), (0, .cells (some 36) [.fn (.func bf) [] mc]), (3, .cells (some 23) [sI e]), (4, .cells (some 4) [.lit (.bool true)])], Own.cons (show 7 < nx + 12 by omega) n7 ?_ (Own.cons (show 8 < nx + 12 by omega) n8 ?_ (Own.cons (show 0 < nx + 12 by omega) n0 ?_ (Own.cons (show 3 < nx + 12 by omega) n3 ?_ (Own.cons (show 4 < nx + 12 by omega) n4 ?_ (Own.nil))))), ?_⟩
     rotate_left 5
     ·rw [hJ]
      exact ⟨p, e, true, sI e, rfl, rfl, .inl ⟨rfl, rfl⟩, hR⟩
     all_goals simp only [updH_apply, seval, H7, H0, H3, H4]
   | false =>
    simp only [vz, tyf, seval, ua, nm, rg, RStart, e10, e3, e6, e7, H8, H0, H3, H4]
    refine ⟨by simp only [updH_apply, seval], (show nx ≤ nx + 9 by omega), fun γ hγ => ?_, ?_⟩
    ·have g8 : γ ≠ 8 := fun e => n8 (e ▸ hγ)
     have g3 : γ ≠ 3 := fun e => n3 (e ▸ hγ)
     have g4 : γ ≠ 4 := fun e => n4 (e ▸ hγ)
     simp only [updH]
     repeat rw [if_neg (by first | assumption | omega)]
    ·simp only [if_true]
     refine ⟨[(7, .deferred (some [])), (8, LO), (0, .cells (some 36) [.fn (.func bf) [] mc]), (3, .cells (some 23) [sI r]), (4, .cells (some 4) [.lit (.bool true)])], Own.cons (show 7 < nx + 9 by omega) n7 ?_ (Own.cons (show 8 < nx + 9 by omega) n8 ?_ (Own.cons (show 0 < nx + 9 by omega) n0 ?_ (Own.cons (show 3 < nx + 9 by omega) n3 ?_ (Own.cons (show 4 < nx + 9 by omega) n4 ?_ (Own.nil))))), ?_⟩
     rotate_left 5
     ·rw [hJ]
      exact ⟨p, r, true, sI r, rfl, rfl, .inl ⟨rfl, rfl⟩, hR⟩
     all_goals simp only [updH_apply, seval, H7, H0, H3, H4]
  ·simp only [cond_false] at hR
   simp only [vz, tyf, seval, ua, nm, rg, RStart, e10, e3, e6, e7, H8, H0, H3, H4, Bool.not_false]
   refine ⟨by simp only [updH_apply, seval], (show nx ≤ nx + 12 by omega), fun γ hγ => ?_, ?_⟩
   ·have g8 : γ ≠ 8 := fun e => n8 (e ▸ hγ)
    have g3 : γ ≠ 3 := fun e => n3 (e ▸ hγ)
    have g4 : γ ≠ 4 := fun e => n4 (e ▸ hγ)
    simp only [updH]
    repeat rw [if_neg (by first | assumption | omega)]
   ·simp only [if_true]
    refine ⟨[(7, .deferred (some [])), (8, LO), (0, .cells (some 36) [.fn (.func bf) [] mc]), (3, .cells (some 23) [sI e]), (4, .cells (some 4) [.lit (.bool true)])], Own.cons (show 7 < nx + 12 by omega) n7 ?_ (Own.cons (show 8 < nx + 12 by omega) n8 ?_ (Own.cons (show 0 < nx + 12 by omega) n0 ?_ (Own.cons (show 3 < nx + 12 by omega) n3 ?_ (Own.cons (show 4 < nx + 12 by omega) n4 ?_ (Own.nil))))), ?_⟩
    rotate_left 5
    ·rw [hJ]
     exact ⟨p, e, true, sI e, rfl, rfl, .inl ⟨rfl, rfl⟩, hR⟩
    all_goals simp only [updH_apply, seval, H7, H0, H3, H4]
 ·refine ⟨[(7, .deferred (some [])), (8, LO), (0, .cells (some 36) [.fn (.func bf) [] mc]), (3, .cells (some 23) [.lit (.slice none 0 0)]), (4, .cells (some 4) [.lit (.bool false)])], Own.cons (show 7 < 9 by omega) (fun h => h) ?_ (Own.cons (show 8 < 9 by omega) (fun h => h) ?_ (Own.cons (show 0 < 9 by omega) (fun h => h) ?_ (Own.cons (show 3 < 9 by omega) (fun h => h) ?_ (Own.cons (show 4 < 9 by omega) (fun h => h) ?_ (Own.nil))))), ?_⟩
  rotate_left 5
  ·rw [hJ]
   exact ⟨L, [], false, .lit (.slice none 0 0), rfl, rfl, .inr ⟨rfl, rfl, rfl⟩, h⟩
  all_goals simp only [updH_apply, seval]
 ·rintro H' nx' (⟨hp, hown, hj⟩ | ⟨hp, hown, hj⟩)
  ·rw [hJ] at hj
   obtain ⟨p, r, fd, y, hl, rfl, hy, hR⟩ := hj
   cases p with
   | cons e p => cases hl
   | nil =>
   simp only [bestO, Option.some.injEq] at hR
   subst hR
   obtain ⟨l7, n7, H7⟩ := hown.head
   obtain ⟨l8, n8, H8⟩ := hown.tail.head
   obtain ⟨l0, n0, H0⟩ := hown.tail.tail.head
   obtain ⟨l3, n3, H3⟩ := hown.tail.tail.tail.head
   obtain ⟨l4, n4, H4⟩ := hown.tail.tail.tail.tail.head
   refine rangeEnd_go hLO H8 ?_
   intro LX
   simp only [vz, tyf, seval, ua, nm, rg, e6, e7, H3, H4]
   refine cwp_drwQF (fun tm => tm 6 = .ptr 3 0 ∧ tm 7 = .ptr 4 0) ⟨e6, e7⟩ ?_
   clear e9 e3 e6 e7
   rintro tm ⟨e6, e7⟩
   simp only [vz, tyf, seval, ua, nm, rg, e6, e7, H3, H4]
   refine opd_coll (by simp only [updH_apply, seval, H7]) ?_
   refine opd_ret (x := .tup [y, .lit (.bool fd)]) (by simp only [Tryz.results68, resV, resL, resV1, tgt_ptr, tgt_tp, uw, cr, tyf, nm, seval] <;> rfl) ?_
   have hs := eI_ok.treeL r
   rcases hy with ⟨rfl, rfl⟩ | ⟨rfl, rfl, rfl⟩
   ·refine rr_tree (by simp only [tre, tytre, hs, Bool.and_self]) ?_
    simp only [outV, nrm, seval, List.map_cons, List.map_nil]
   ·refine rr_tree (by simp only [tre, tytre, Bool.and_self]) ?_
    simp only [outV, nrm, seval, List.map_cons, List.map_nil, cellsL_nil, List.length_nil]
    rfl
  ·rw [hJ] at hj
   exact hj.elim
end Go.V
end
section
namespace Go.V
open Go Go.Proofs
end Go.V
end
section
namespace Go.V
open Go Go.Proofs
end Go.V
end
section
namespace Go.V
open Go Go.Proofs
end Go.V
end
section
namespace Go.V
open Go Go.Proofs
end Go.V
end
section
set_option linter.unusedVariables false
namespace Go.V
open Go
theorem VPure.runRQ {P : Program} {G : Glob} (hm : P.follows .mixedOrders = true) {f : FuncId} {fn : Func} {code : Code} {args : List VV} {r : PRes} (hc : Callable P f) (hf : P.funcs[f]? = some fn) (hb : fn.body = some code)
  (hst : (decide (args.length ≤ fn.ntmps) && codeQ fn.ntmps code) = true) (h : CWp P (G.at (some none)) fn.ntmps code (OpenPostD P G fn (RR r) (RPn r)) { tm := argsTm args, H := fun _ => none, nx := 0, df := [] }) : VPure P G f args r := by
 rw [Bool.and_eq_true] at hst
 exact VPure.runR hm hc hf hb (by rw [Bool.and_eq_true]; exact ⟨hst.1, codeQ_ok hst.2⟩) h
end Go.V
end
section
namespace Go.V
open Go Go.Proofs
end Go.V
end
section
namespace Go.V
open Go Go.Proofs
end Go.V
end
section
namespace Go.V
open Go
set_option linter.unusedVariables false
set_option linter.unusedSimpArgs false
theorem bestO_spec {better : List Int → List Int → Option Bool} {f : List Int → Int} : ∀ (M : List (List Int)) (r : List Int), (∀ a ∈ M, ∀ c, c ∈ r :: M → better a c = some (decide (f a < f c))) → (∀ x ∈ M, lexL r x) → M.Pairwise lexL →
  ∃ q, bestO better M (r, true) = some (q, true) ∧ q ∈ r :: M ∧ ∀ x ∈ r :: M, f q ≤ f x ∧ (f x = f q → x = q ∨ lexL q x)
 | [], r, _, _, _ => ⟨r, rfl, by simp, fun x hx => by rw [List.mem_singleton.1 hx]; exact ⟨Int.le_refl _, fun _ => .inl rfl⟩⟩
 | y :: M, r, hb, hr, hp => by
  have hp' := List.pairwise_cons.1 hp
  have e : bestO better (y :: M) (r, true) = bestO better M (cond (decide (f y < f r)) (y, true) (r, true)) := by
   show Option.bind (better y r) _ = _
   rw [hb y (by simp) r (by simp)]
   rfl
  rw [e]
  by_cases hlt : f y < f r
  ·rw [decide_eq_true hlt, cond_true]
   obtain ⟨q, h1, h2, h3⟩ := bestO_spec M y (fun a ha c hc => hb a (List.mem_cons_of_mem _ ha) c (List.mem_cons_of_mem _ hc)) hp'.1 hp'.2
   refine ⟨q, h1, List.mem_cons_of_mem _ h2, fun x hx => ?_⟩
   rcases List.mem_cons.1 hx with rfl | hx
   ·have := (h3 y (by simp)).1
    exact ⟨by omega, fun hh => by omega⟩
   ·exact h3 x hx
  ·rw [decide_eq_false hlt, cond_false]
   obtain ⟨q, h1, h2, h3⟩ := bestO_spec M r (fun a ha c hc => hb a (List.mem_cons_of_mem _ ha) c (by
    rcases List.mem_cons.1 hc with rfl | hc
    ·simp
    ·exact List.mem_cons_of_mem _ (List.mem_cons_of_mem _ hc))) (fun x hx => hr x (List.mem_cons_of_mem _ hx)) hp'.2
   refine ⟨q, h1, ?_, fun x hx => ?_⟩
   ·rcases List.mem_cons.1 h2 with rfl | h2
    ·simp
    ·exact List.mem_cons_of_mem _ (List.mem_cons_of_mem _ h2)
   ·have hr0 := h3 r (by simp)
    rcases List.mem_cons.1 hx with rfl | hx
    ·exact hr0
    ·rcases List.mem_cons.1 hx with rfl | hx
     ·refine ⟨by omega, fun hh => .inr ?_⟩
      have hrx := hr x (by simp)
      rcases hr0.2 (by omega) with rfl | hq
      ·exact hrx
      ·exact lexL_trans hq hrx
     ·exact h3 x (List.mem_cons_of_mem _ hx)
theorem bestO_some {better : List Int → List Int → Option Bool} {f : List Int → Int} {y : List Int} {M : List (List Int)} (hb : ∀ a, a ∈ y :: M → ∀ c, c ∈ y :: M → better a c = some (decide (f a < f c))) (hp : (y :: M).Pairwise lexL) :
  ∃ q, bestO better (y :: M) ([], false) = some (q, true) ∧ q ∈ y :: M ∧ ∀ x ∈ y :: M, f q ≤ f x ∧ (f x = f q → x = q ∨ lexL q x) := by
 have hp' := List.pairwise_cons.1 hp
 exact bestO_spec M y (fun a ha c hc => hb a (List.mem_cons_of_mem _ ha) c hc) hp'.1 hp'.2
end Go.V
end
section
set_option linter.unusedVariables false
set_option linter.unusedSimpArgs false
namespace Go.V
open Go
theorem neB_false {α : Type} {xs : List α} (h : neB xs = false) : xs = [] := by
 cases xs with
 | nil => rfl
 | cons a l => cases h
section
variable {P : Program} {G : Glob} {H : Nat → Option VObj} {γ : Nat} {α : Type} {enc : α → List VV} {t t2 e e2 w b : Nat} {xs ys : List α} {el : Option TypeId} {β : Nat} {f : Bool} {k : VV → VEff → Prop}
theorem k_appSE (he : ∀ x, (enc x).length = w) (hl : ∀ x, leafL (enc x) = true) (ha : appOk P t = some (e, w, b)) (hu2 : P.underlying t2 = some (.slice e2)) (hb : H β = some (.cells el (cellsL enc xs)))
  (hm : neB ys = false) (h : k (.ref β 0 xs.length w xs.length) (.upd β (.cells el (cellsL enc xs)))) :
  oeK (vappend P H γ t t2 (.ref β 0 xs.length w xs.length) (.sl (cellsL enc ys) ys.length f)) k := by
 have hm := neB_false hm
 subst hm
 obtain ⟨hu, inf, z, hi, hz, rfl, rfl, hs0, hb0, hzs⟩ := appOk_some ha
 have h1 := cellsL_length he xs
 have key : vappend P H γ t t2 (.ref β 0 xs.length inf.size xs.length) (.sl (cellsL enc ([] : List α)) ([] : List α).length f) = some (.ref β 0 xs.length inf.size xs.length, .upd β (.cells el (cellsL enc xs))) := by
  simp only [vappend, nilS, vappend1, hu, hu2, hi, hz, srcV, sls, hs0, hb0, hzs, hb, cellsL_nil, List.length_nil]
  simp [h1, overwrite]
 rw [key]
 exact h
theorem fin_updS {d : Tmp} {γ : Nat} {tm : Nat → VV} {nx : Nat} {df : List VDef} {K : St → Prop} {x : VV} {β : Nat} {o : VObj} : fin (some d) γ tm H nx df K x (.upd β o) = K ⟨upd tm d x, updH H β o, nx, df⟩ := rfl
end
end Go.V
namespace Go.V
open Go
end Go.V
namespace Go.V
open Go
theorem nilS_some {y : VV} (h : nilS y = .sl [] 0 true) : y = .lit (.slice none 0 0) ∨ y = .sl [] 0 true := by
 unfold nilS at h
 split at h
 ·exact .inl rfl
 ·exact .inr h
theorem vap_y {y : VV} (hy : nilS y = .sl [] 0 true) (P : Program) (H : Nat → Option VObj) (γ : Nat) (t t2 : TypeId) (x : VV) : vappend P H γ t t2 y x = vappend P H γ t t2 (.lit (.slice none 0 0)) x := by
 show vappend1 P H γ t t2 (nilS y) x = vappend1 P H γ t t2 (.sl [] 0 true) x
 rw [hy]
theorem outV_y {y : VV} (hy : nilS y = .sl [] 0 true) (H : Nat → Option VObj) : outV H y = .sl [] 0 false := by
 rcases nilS_some hy with rfl | rfl <;> simp [outV, showV, normV, normL]
end Go.V
namespace Go.V
open Go
set_option linter.defProp false
end Go.V
end
section
namespace Go.V
open Go Go.Proofs
end Go.V
end
section
namespace Go.V
open Go Go.Proofs
set_option linter.unusedVariables false
end Go.V
end
section
namespace Go.V
open Go Go.Proofs
end Go.V
end
section
namespace Go.V
open Go
set_option linter.unusedVariables false
set_option linter.unusedSimpArgs false
theorem eq_of_sorted {α : Type} {r : α → α → Prop} (irr : ∀ x, ¬ r x x) (tr : ∀ x y z, r x y → r y z → r x z) : ∀ (a b : List α), a.Pairwise r → b.Pairwise r → (∀ x, x ∈ a ↔ x ∈ b) → a = b
 | [], [], _, _, _ => rfl
 | [], y :: b, _, _, h => absurd ((h y).2 (by simp)) (by simp)
 | x :: a, [], _, _, h => absurd ((h x).1 (by simp)) (by simp)
 | x :: a, y :: b, ha, hb, h => by
  obtain ⟨ha1, ha2⟩ := List.pairwise_cons.1 ha
  obtain ⟨hb1, hb2⟩ := List.pairwise_cons.1 hb
  have hxy : x = y := by
   rcases List.mem_cons.1 ((h x).1 (by simp)) with e | hx
   ·exact e
   rcases List.mem_cons.1 ((h y).2 (by simp)) with e | hy
   ·exact e.symm
   exact absurd (tr _ _ _ (hb1 x hx) (ha1 y hy)) (irr _)
  subst hxy
  refine congrArg (x :: ·) (eq_of_sorted irr tr a b ha2 hb2 fun z => ⟨fun hz => ?_, fun hz => ?_⟩)
  ·rcases List.mem_cons.1 ((h z).1 (List.mem_cons_of_mem _ hz)) with e | hz2
   ·rw [e] at hz; exact absurd (ha1 _ hz) (irr _)
   ·exact hz2
  ·rcases List.mem_cons.1 ((h z).2 (List.mem_cons_of_mem _ hz)) with e | hz2
   ·rw [e] at hz; exact absurd (hb1 _ hz) (irr _)
   ·exact hz2
theorem up_pw : ∀ {l : List Int}, upB l = true → l.Pairwise (· < ·)
 | [], _ => List.Pairwise.nil
 | [a], _ => List.pairwise_singleton _ _
 | a :: b :: l, h => by
  rw [upB_cons] at h
  simp only [Bool.and_eq_true, decide_eq_true_eq] at h
  have ih := up_pw h.2
  refine List.pairwise_cons.2 ⟨fun x hx => ?_, ih⟩
  rcases List.mem_cons.1 hx with rfl | hx
  ·exact h.1
  ·have := (List.pairwise_cons.1 ih).1 x hx
   omega
theorem work_len {s : GCoatSheet} (h : ShOk s) : s.Work.length ≤ 12 := by
 have hd := h.dk.l
 cases hW : s.Work with
 | nil => simp
 | cons a l =>
  have h1 := upB_len l a ((s.Dry.length : Int) - 1) (by rw [← hW]; exact h.u) (fun d hd => (h.w d (by rw [hW]; exact hd)).2)
  have h2 := h.w a (by rw [hW]; simp)
  simp only [List.length_cons]
  omega
theorem VP.ofS {s : GCoatSheet} (h : ShOk s) {q : List Int} (h2 : planB s q = true) : VP s.Dry s.Coats q := by
 unfold planB incB at h2
 simp only [Bool.and_eq_true, inB_iff, List.all_eq_true, decide_eq_true_eq] at h2
 refine ⟨h.dk, h.c, h2.1.1, h2.1.2.1, fun x hx => ?_⟩
 have := h2.1.2.2 x hx
 unfold dayB at this
 exact inB_iff.1 this
end Go.V
end
section
namespace Go.V
open Go Go.Proofs
def g_coat_length (x0_plan : List Int) : Option (Int) := Option.bind (getI x0_plan (IntKind.i64.wrap ((List.length x0_plan : Int) - 1))) (fun x1 => Option.bind (getI x0_plan 0) (fun x2 => some (IntKind.i64.wrap (x1 - x2))))
theorem g_coat_length_ok (x0_plan : List Int) (R : Int) (h : g_coat_length x0_plan = some R) : VPure Tryz.prog G0 71 [.sl (cellsL eI x0_plan) (List.length x0_plan) false] (.tree (.lit (.int .i64 R))) := by
 refine VPure.runR mixed Tryz.call71 Tryz.func71 rfl (by simp [Tryz.ntmps71]; kernel_rfl) ?_
 obtain ⟨KF, h, kF, kN⟩ := fun_intro h
 simp only [g_coat_length] at h
 simp only [vz, tyf, nm, seval]
 refine cwp_drwQF (fun tm => tm 0 = .sl (cellsL eI x0_plan) (List.length x0_plan) false ∧ True) (by refine ⟨?_, trivial⟩ <;> first | (simp only [ua, nm, seval] <;> rfl) | rfl) ?_
 rintro tm ⟨e3, _⟩
 rcases o5 : (getI x0_plan (IntKind.i64.wrap ((List.length x0_plan : Int) - 1))) with _ | x4
 ·simp only [o5, hs] at h
  exact absurd h kN
 simp only [o5, hs] at h
 rcases o7 : (getI x0_plan 0) with _ | x6
 ·simp only [o7, hs] at h
  exact absurd h kN
 simp only [o7, hs] at h
 try simp only [vz, tyf, e3, (ix23 o5), (ix23 o7), nm, seval]
 refine opd_ret (x := (.lit (.int .i64 (IntKind.i64.wrap (x4 - x6))))) (by first | (simp only [Tryz.results71, resV, resL, resV1, tgt_ptr, tgt_tp, uw, cr, tyf, (ix23 o5), (ix23 o7), nm, seval] <;> rfl) | rfl) ?_
 obtain rfl := kF _ h
 refine rr_tree ?_ ?_
 ·simp only [tre, tytre, Bool.and_self]
 ·first | (simp only [outV, uw, showV_ref, cr, tyf, nrm, tynrm, e3, (ix23 o5), (ix23 o7), nm, seval] <;> rfl) | rfl
end Go.V
end
