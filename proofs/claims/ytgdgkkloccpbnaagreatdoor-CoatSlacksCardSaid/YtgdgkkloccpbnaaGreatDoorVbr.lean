/- Part of a proof: a logic of values by content, lifted functions, what follows. -/
import Derived.Test.YtgdgkkloccpbnaaGreatDoorVbq
import Derived.Test.YtgdgkkloccpbnaaGreatDoorVay
import Derived.Test.YtgdgkkloccpbnaaGreatDoorVbf
import Derived.Test.YtgdgkkloccpbnaaGreatDoorProg
import Derived.Test.YtgdgkkloccpbnaaGreatDoorVbi
import Derived.Test.YtgdgkkloccpbnaaGreatDoorVbh
set_option linter.all false
set_option maxRecDepth 4000
set_option maxHeartbeats 40000000
section
namespace Go.V
open Go
set_option linter.unusedVariables false
set_option linter.unusedSimpArgs false
def nevB (s : GCoatSheet) (p : List Int) (cs : List GCoatCoat) : Bool := (failW (loS s) (hiS s) s.Dry.length p (cs.map nevK) 0).isNone
theorem failW_ix {lo hi : Int → Int} {n : Int} : ∀ (p : List Int) (cs : List GCoatCoat) (i j : Int), (failW lo hi n p cs i).isNone = (failW lo hi n p cs j).isNone
 | [], cs, i, j => by simp [failW]
 | a :: p, [], i, j => by simp [failW]
 | a :: p, k :: cs, i, j => by
  rw [failW, failW]
  generalize decide (lo (p.headD n) - lo a < k.Need) = b1
  generalize (!p.isEmpty && decide (hi (p.headD n) - hi a > k.Peel)) = b2
  cases b1 with
  | true => rfl
  | false =>
   cases b2 with
   | true => rfl
   | false => exact failW_ix p cs (i + 1) (j + 1)
theorem lacks_l0 {s : GCoatSheet} (h : ShOk s) (hk : ∀ k ∈ s.Coats, 0 ≤ k.Peel ∧ k.Peel ≤ 400) {q : List Int} (hv : VP s.Dry s.Coats q) : ∀ (p : List Int) (cs : List GCoatCoat) (c acc : Int), 0 ≤ c → q.drop c.toNat = p → s.Coats.drop c.toNat = cs → p.length = cs.length → 0 ≤ acc →
  g_ref03_lacks_l0 s q p c acc = some (if nevB s p cs then .go (if acc < exL (hiS s) p cs then exL (hiS s) p cs else acc) else .ret (-1))
 | [], [], c, acc, _, _, _, _, ha => by
  rw [show nevB s [] [] = true by simp [nevB, failW], if_pos rfl, show exL (hiS s) [] [] = 0 by simp [exL], if_neg (by omega)]
  rfl
 | a :: p, k :: cs, c, acc, h0, hp, hc, hl, ha => by
  have hcl := h.c
  have hq := hv.l
  have hW := h.dk.low
  have hWh := h.dk.high
  have e1 := early_eq hv hW (by simp [lowsL]) rfl h0 hp hc
  have e2 := dries_eq hv hWh (by simp [highsL]) h0 hp
  have e3 := getI_of_drop h0 hc
  have hlen := drop_len hp
  have mk : k ∈ s.Coats := List.mem_of_mem_drop (by rw [hc]; simp)
  have hk1 := hk k mk
  have hp2 := drop_next h0 hp
  have hc2 := drop_next h0 hc
  have ih := fun acc' (ha' : 0 ≤ acc') => lacks_l0 h hk hv p cs (c + 1) acc' (by omega) hp2 hc2 (by simpa using hl) ha'
  rw [g_ref03_lacks_l0, lows_eq h.dk, Option.bind_some, e1, Option.bind_some]
  have hnev : nevB s (a :: p) (k :: cs) = (!decide (loS s (p.headD s.Dry.length) - loS s a < k.Need) && nevB s p cs) := by
   unfold nevB
   rw [List.map_cons, failW, show (nevK k).Need = k.Need from rfl, show (nevK k).Peel = 288 from rfl]
   have b1 := SI_bd h.dk.high a
   have b2 := SI_bd h.dk.high (p.headD s.Dry.length)
   rw [show decide (hiS s (p.headD s.Dry.length) - hiS s a > 288) = false from decide_eq_false (by show ¬ (SI _ _ - SI _ _ > 288); omega), Bool.and_false, cond_false]
   cases decide (loS s (p.headD s.Dry.length) - loS s a < k.Need) with
   | true => rfl
   | false => exact failW_ix _ _ _ _
  rw [hnev]
  show cond (decide (loS s (p.headD s.Dry.length) - loS s a < k.Need)) _ _ = _
  cases decide (loS s (p.headD s.Dry.length) - loS s a < k.Need) with
  | true => rfl
  | false =>
   rw [cond_false, Bool.not_false, Bool.true_and]
   cases p with
   | nil =>
    simp only [List.length_nil] at hlen
    rw [decide_eq_false (by omega), cond_false, ih acc ha]
    have : cs = [] := by cases cs with | nil => rfl | cons _ _ => simp at hl
    subst this
    rw [show exL (hiS s) [] [] = 0 by simp [exL], show exL (hiS s) [a] [k] = 0 by simp [exL]]
   | cons b p =>
    simp only [List.length_cons] at hlen
    rw [decide_eq_true (by omega), cond_true, highs_eq h.dk, Option.bind_some, e2, Option.bind_some, e3, Option.bind_some]
    have b1 := SI_bd h.dk.high a
    have b2 := SI_bd h.dk.high b
    have hw : IntKind.i64.wrap (SI (highsL s.Dry) ((b :: p).headD s.Dry.length) - SI (highsL s.Dry) a - k.Peel) = hiS s b - hiS s a - k.Peel := by
     rw [List.headD_cons]
     exact wrap_eq (by omega) (by omega)
    rw [hw, ih _ (by split <;> omega)]
    cases nevB s (b :: p) cs with
    | false => rfl
    | true =>
     rw [if_pos rfl, if_pos rfl, exL]
     congr 2
     split <;> split <;> split <;> (try split) <;> omega
def lkF (s : GCoatSheet) (q : List Int) : Int := if nevB s q s.Coats then exL (hiS s) q s.Coats else -1
theorem lacks_eq {s : GCoatSheet} (h : ShOk s) (hk : ∀ k ∈ s.Coats, 0 ≤ k.Peel ∧ k.Peel ≤ 400) {q : List Int} (hq : planB s q = true) : g_ref03_lacks s q = some (lkF s q) := by
 have hv := VP.ofS h hq
 unfold g_ref03_lacks lkF
 rw [hv.pl, cond_true, lacks_l0 h hk hv q s.Coats 0 0 (by omega) rfl rfl hv.l (by omega)]
 have := exL_nonneg (hi := hiS s) q s.Coats
 cases nevB s q s.Coats with
 | false => rfl
 | true =>
  rw [if_pos rfl, if_pos rfl]
  show some _ = some _
  congr 1
  split <;> omega
theorem rslack_l0 {s : GCoatSheet} : ∀ (p : List (List Int)) (c acc : Int), (∀ q ∈ p, g_ref03_lacks s q = some (lkF s q)) → ∃ r, g_ref03_Slack_l0 s p c acc = some (.go r) ∧ (0 ≤ acc → 0 ≤ r ∧ r ≤ acc) ∧ (r = acc ∨ 0 ≤ r ∧ ∃ q ∈ p, lkF s q = r) ∧ ∀ q ∈ p, 0 ≤ lkF s q → 0 ≤ r ∧ r ≤ lkF s q
 | [], c, acc, _ => ⟨acc, rfl, fun h => ⟨h, Int.le_refl _⟩, .inl rfl, fun q hq => by cases hq⟩
 | e :: p, c, acc, hp => by
  rw [g_ref03_Slack_l0, hp e (by simp), Option.bind_some]
  have ih := fun acc' => rslack_l0 p (c + 1) acc' (fun q hq => hp q (List.mem_cons_of_mem _ hq))
  by_cases h1 : lkF s e ≥ 0
  ·rw [decide_eq_true h1, cond_true]
   have new : (acc < 0 ∨ lkF s e < acc) → ∃ r, g_ref03_Slack_l0 s p (c + 1) (lkF s e) = some (.go r) ∧ (0 ≤ acc → 0 ≤ r ∧ r ≤ acc) ∧ (r = acc ∨ 0 ≤ r ∧ ∃ q ∈ e :: p, lkF s q = r) ∧ ∀ q ∈ e :: p, 0 ≤ lkF s q → 0 ≤ r ∧ r ≤ lkF s q := by
    intro hacc
    obtain ⟨r, e1, h2, h3, h4⟩ := ih (lkF s e)
    have h5 := h2 h1
    refine ⟨r, e1, fun h0 => ⟨h5.1, by omega⟩, .inr ⟨h5.1, ?_⟩, fun q hq hl => ?_⟩
    ·rcases h3 with h3 | ⟨_, q, hq, h3⟩
     ·exact ⟨e, by simp, h3.symm⟩
     ·exact ⟨q, List.mem_cons_of_mem _ hq, h3⟩
    ·rcases List.mem_cons.1 hq with rfl | hq
     ·exact h5
     ·exact h4 q hq hl
   by_cases h2 : acc < 0
   ·rw [decide_eq_true h2, cond_true]
    exact new (.inl h2)
   ·rw [decide_eq_false h2, cond_false]
    by_cases h3 : lkF s e < acc
    ·rw [decide_eq_true h3, cond_true]
     exact new (.inr h3)
    ·rw [decide_eq_false h3, cond_false]
     obtain ⟨r, e1, h4, h5, h6⟩ := ih acc
     have h7 := h4 (by omega)
     refine ⟨r, e1, h4, ?_, fun q hq hl => ?_⟩
     ·rcases h5 with h5 | ⟨h8, q, hq, h5⟩
      ·exact .inl h5
      ·exact .inr ⟨h8, q, List.mem_cons_of_mem _ hq, h5⟩
     ·rcases List.mem_cons.1 hq with rfl | hq
      ·omega
      ·exact h6 q hq hl
  ·rw [decide_eq_false h1, cond_false]
   obtain ⟨r, e1, h4, h5, h6⟩ := ih acc
   refine ⟨r, e1, h4, ?_, fun q hq hl => ?_⟩
   ·rcases h5 with h5 | ⟨h8, q, hq, h5⟩
    ·exact .inl h5
    ·exact .inr ⟨h8, q, List.mem_cons_of_mem _ hq, h5⟩
   ·rcases List.mem_cons.1 hq with rfl | hq
    ·omega
    ·exact h6 q hq hl
theorem nev_planB (s : GCoatSheet) (q : List Int) : planB (nevS s) q = planB s q := by
 unfold planB nevS
 simp only [List.length_map]
theorem nev_sure (s : GCoatSheet) (q : List Int) : sureB s.Dry (nevS s).Coats q = nevB s q s.Coats := rfl
theorem rslack_eq {s : GCoatSheet} (h : ShOk s) (hk : ∀ k ∈ s.Coats, 0 ≤ k.Peel ∧ k.Peel ≤ 400) : ∃ r, g_ref03_Slack s = some r ∧ (r = -1 ∨ 0 ≤ r ∧ ∃ q, planB s q = true ∧ nevB s q s.Coats = true ∧ exL (hiS s) q s.Coats = r) ∧ ∀ q, planB s q = true → nevB s q s.Coats = true → 0 ≤ r ∧ r ≤ exL (hiS s) q s.Coats := by
 have hl := allP_len h
 obtain ⟨r, e, _, h2, h3⟩ := rslack_l0 (s := s) (allP s) 0 (-1) (fun q hq => lacks_eq h hk ((mem_allP h q).1 hq))
 refine ⟨r, ?_, ?_, fun q hq hn => ?_⟩
 ·unfold g_ref03_Slack
  rw [rplansR_eq h, Option.bind_some, lenOk_of (by omega), cond_true, e]
  rfl
 ·rcases h2 with h2 | ⟨h0, q, hq, h2⟩
  ·exact .inl h2
  ·refine .inr ⟨h0, q, (mem_allP h q).1 hq, ?_⟩
   unfold lkF at h2
   cases hn : nevB s q s.Coats with
   | false => rw [hn] at h2; simp at h2; omega
   | true => rw [hn] at h2; exact ⟨rfl, h2⟩
 ·have := h3 q ((mem_allP h q).2 hq)
  unfold lkF at this
  rw [hn] at this
  exact this (exL_nonneg _ _)
end Go.V
end
section
namespace Go.V
open Go Go.Proofs
theorem hmix : Tryz.prog.follows .mixedOrders = true := by kernel_rfl
def kA : VV := (Go.V.VV.agg [(Go.V.VV.sl [(Go.V.VV.lit (Go.Value.int Go.IntKind.i64 (Int.ofNat 6))), (Go.V.VV.lit (Go.Value.int Go.IntKind.i64 (Int.ofNat 8))), (Go.V.VV.lit (Go.Value.int Go.IntKind.i64 (Int.ofNat 4))), (Go.V.VV.lit (Go.Value.int Go.IntKind.i64 (Int.ofNat 6))), (Go.V.VV.lit (Go.Value.int Go.IntKind.i64 (Int.ofNat 8))), (Go.V.VV.lit (Go.Value.int Go.IntKind.i64 (Int.ofNat 10))), (Go.V.VV.lit (Go.Value.int Go.IntKind.i64 (Int.ofNat 2))), (Go.V.VV.lit (Go.Value.int Go.IntKind.i64 (Int.ofNat 4))), (Go.V.VV.lit (Go.Value.int Go.IntKind.i64 (Int.ofNat 6))), (Go.V.VV.lit (Go.Value.int Go.IntKind.i64 (Int.ofNat 6))), (Go.V.VV.lit (Go.Value.int Go.IntKind.i64 (Int.ofNat 5))), (Go.V.VV.lit (Go.Value.int Go.IntKind.i64 (Int.ofNat 9))), (Go.V.VV.lit (Go.Value.int Go.IntKind.i64 (Int.ofNat 8))), (Go.V.VV.lit (Go.Value.int Go.IntKind.i64 (Int.ofNat 12))), (Go.V.VV.lit (Go.Value.int Go.IntKind.i64 (Int.ofNat 4))), (Go.V.VV.lit (Go.Value.int Go.IntKind.i64 (Int.ofNat 4)))] 8 Bool.false), (Go.V.VV.sl [(Go.V.VV.lit (Go.Value.int Go.IntKind.i64 (Int.ofNat 0))), (Go.V.VV.lit (Go.Value.int Go.IntKind.i64 (Int.ofNat 2))), (Go.V.VV.lit (Go.Value.int Go.IntKind.i64 (Int.ofNat 3))), (Go.V.VV.lit (Go.Value.int Go.IntKind.i64 (Int.ofNat 5))), (Go.V.VV.lit (Go.Value.int Go.IntKind.i64 (Int.ofNat 6)))] 5 Bool.false), (Go.V.VV.sl [(Go.V.VV.lit (Go.Value.int Go.IntKind.i64 (Int.ofNat 9))), (Go.V.VV.lit (Go.Value.int Go.IntKind.i64 (Int.ofNat 20))), (Go.V.VV.lit (Go.Value.int Go.IntKind.i64 (Int.ofNat 10))), (Go.V.VV.lit (Go.Value.int Go.IntKind.i64 (Int.ofNat 20))), (Go.V.VV.lit (Go.Value.int Go.IntKind.i64 (Int.ofNat 8))), (Go.V.VV.lit (Go.Value.int Go.IntKind.i64 (Int.ofNat 30)))] 3 Bool.false)])
def kB : VV := (Go.V.VV.agg [(Go.V.VV.sl [(Go.V.VV.lit (Go.Value.int Go.IntKind.i64 (Int.ofNat 6))), (Go.V.VV.lit (Go.Value.int Go.IntKind.i64 (Int.ofNat 8))), (Go.V.VV.lit (Go.Value.int Go.IntKind.i64 (Int.ofNat 4))), (Go.V.VV.lit (Go.Value.int Go.IntKind.i64 (Int.ofNat 6))), (Go.V.VV.lit (Go.Value.int Go.IntKind.i64 (Int.ofNat 8))), (Go.V.VV.lit (Go.Value.int Go.IntKind.i64 (Int.ofNat 10))), (Go.V.VV.lit (Go.Value.int Go.IntKind.i64 (Int.ofNat 2))), (Go.V.VV.lit (Go.Value.int Go.IntKind.i64 (Int.ofNat 4))), (Go.V.VV.lit (Go.Value.int Go.IntKind.i64 (Int.ofNat 6))), (Go.V.VV.lit (Go.Value.int Go.IntKind.i64 (Int.ofNat 6))), (Go.V.VV.lit (Go.Value.int Go.IntKind.i64 (Int.ofNat 5))), (Go.V.VV.lit (Go.Value.int Go.IntKind.i64 (Int.ofNat 9))), (Go.V.VV.lit (Go.Value.int Go.IntKind.i64 (Int.ofNat 8))), (Go.V.VV.lit (Go.Value.int Go.IntKind.i64 (Int.ofNat 12))), (Go.V.VV.lit (Go.Value.int Go.IntKind.i64 (Int.ofNat 4))), (Go.V.VV.lit (Go.Value.int Go.IntKind.i64 (Int.ofNat 4)))] 8 Bool.false), (Go.V.VV.sl [(Go.V.VV.lit (Go.Value.int Go.IntKind.i64 (Int.ofNat 0))), (Go.V.VV.lit (Go.Value.int Go.IntKind.i64 (Int.ofNat 2))), (Go.V.VV.lit (Go.Value.int Go.IntKind.i64 (Int.ofNat 3))), (Go.V.VV.lit (Go.Value.int Go.IntKind.i64 (Int.ofNat 5))), (Go.V.VV.lit (Go.Value.int Go.IntKind.i64 (Int.ofNat 6)))] 5 Bool.false), (Go.V.VV.sl [(Go.V.VV.lit (Go.Value.int Go.IntKind.i64 (Int.ofNat 9))), (Go.V.VV.lit (Go.Value.int Go.IntKind.i64 (Int.ofNat 20))), (Go.V.VV.lit (Go.Value.int Go.IntKind.i64 (Int.ofNat 10))), (Go.V.VV.lit (Go.Value.int Go.IntKind.i64 (Int.ofNat 18))), (Go.V.VV.lit (Go.Value.int Go.IntKind.i64 (Int.ofNat 8))), (Go.V.VV.lit (Go.Value.int Go.IntKind.i64 (Int.ofNat 30)))] 3 Bool.false)])
def kE : VV := (Go.V.VV.agg [(Go.V.VV.sl [(Go.V.VV.lit (Go.Value.int Go.IntKind.i64 (Int.ofNat 6))), (Go.V.VV.lit (Go.Value.int Go.IntKind.i64 (Int.ofNat 8))), (Go.V.VV.lit (Go.Value.int Go.IntKind.i64 (Int.ofNat 4))), (Go.V.VV.lit (Go.Value.int Go.IntKind.i64 (Int.ofNat 6))), (Go.V.VV.lit (Go.Value.int Go.IntKind.i64 (Int.ofNat 8))), (Go.V.VV.lit (Go.Value.int Go.IntKind.i64 (Int.ofNat 10))), (Go.V.VV.lit (Go.Value.int Go.IntKind.i64 (Int.ofNat 2))), (Go.V.VV.lit (Go.Value.int Go.IntKind.i64 (Int.ofNat 4))), (Go.V.VV.lit (Go.Value.int Go.IntKind.i64 (Int.ofNat 6))), (Go.V.VV.lit (Go.Value.int Go.IntKind.i64 (Int.ofNat 6))), (Go.V.VV.lit (Go.Value.int Go.IntKind.i64 (Int.ofNat 5))), (Go.V.VV.lit (Go.Value.int Go.IntKind.i64 (Int.ofNat 9))), (Go.V.VV.lit (Go.Value.int Go.IntKind.i64 (Int.ofNat 8))), (Go.V.VV.lit (Go.Value.int Go.IntKind.i64 (Int.ofNat 12))), (Go.V.VV.lit (Go.Value.int Go.IntKind.i64 (Int.ofNat 4))), (Go.V.VV.lit (Go.Value.int Go.IntKind.i64 (Int.ofNat 4)))] 8 Bool.false), (Go.V.VV.sl [(Go.V.VV.lit (Go.Value.int Go.IntKind.i64 (Int.ofNat 0))), (Go.V.VV.lit (Go.Value.int Go.IntKind.i64 (Int.ofNat 1))), (Go.V.VV.lit (Go.Value.int Go.IntKind.i64 (Int.ofNat 2))), (Go.V.VV.lit (Go.Value.int Go.IntKind.i64 (Int.ofNat 3))), (Go.V.VV.lit (Go.Value.int Go.IntKind.i64 (Int.ofNat 4))), (Go.V.VV.lit (Go.Value.int Go.IntKind.i64 (Int.ofNat 5))), (Go.V.VV.lit (Go.Value.int Go.IntKind.i64 (Int.ofNat 6))), (Go.V.VV.lit (Go.Value.int Go.IntKind.i64 (Int.ofNat 7)))] 8 Bool.false), (Go.V.VV.sl [(Go.V.VV.lit (Go.Value.int Go.IntKind.i64 (Int.ofNat 9))), (Go.V.VV.lit (Go.Value.int Go.IntKind.i64 (Int.ofNat 20))), (Go.V.VV.lit (Go.Value.int Go.IntKind.i64 (Int.ofNat 10))), (Go.V.VV.lit (Go.Value.int Go.IntKind.i64 (Int.ofNat 20))), (Go.V.VV.lit (Go.Value.int Go.IntKind.i64 (Int.ofNat 8))), (Go.V.VV.lit (Go.Value.int Go.IntKind.i64 (Int.ofNat 30)))] 3 Bool.false)])
def kHolds : VV := (Go.V.VV.tup [(Go.V.VV.lit (Go.Value.bool Bool.false)), (Go.V.VV.lit (Go.Value.int Go.IntKind.i64 (Int.ofNat 0)))])
def kWord : VV := (Go.V.VV.tup [(Go.V.VV.lit (Go.Value.int Go.IntKind.i64 (Int.ofNat 1))), (Go.V.VV.lit (Go.Value.int Go.IntKind.i64 (Int.ofNat 0)))])
def kFails : VV := (Go.V.VV.tup [(Go.V.VV.lit (Go.Value.int Go.IntKind.i64 (Int.ofNat 0))), (Go.V.VV.lit (Go.Value.int Go.IntKind.i64 (Int.ofNat 2))), (Go.V.VV.lit (Go.Value.int Go.IntKind.i64 (Int.ofNat 0)))])
def kProof : VV := (Go.V.VV.tup [(Go.V.VV.sl [(Go.V.VV.lit (Go.Value.int Go.IntKind.i64 (Int.ofNat 6))), (Go.V.VV.lit (Go.Value.int Go.IntKind.i64 (Int.ofNat 5))), (Go.V.VV.lit (Go.Value.int Go.IntKind.i64 (Int.ofNat 10))), (Go.V.VV.lit (Go.Value.int Go.IntKind.i64 (Int.ofNat 2))), (Go.V.VV.lit (Go.Value.int Go.IntKind.i64 (Int.ofNat 6))), (Go.V.VV.lit (Go.Value.int Go.IntKind.i64 (Int.ofNat 5))), (Go.V.VV.lit (Go.Value.int Go.IntKind.i64 (Int.ofNat 8))), (Go.V.VV.lit (Go.Value.int Go.IntKind.i64 (Int.ofNat 4)))] 8 Bool.false), (Go.V.VV.lit (Go.Value.int Go.IntKind.i64 (Int.ofNat 0)))])
def kFirst : VV := (Go.V.VV.tup [(Go.V.VV.sl [(Go.V.VV.lit (Go.Value.int Go.IntKind.i64 (Int.ofNat 0))), (Go.V.VV.lit (Go.Value.int Go.IntKind.i64 (Int.ofNat 2))), (Go.V.VV.lit (Go.Value.int Go.IntKind.i64 (Int.ofNat 5)))] 3 Bool.false), (Go.V.VV.lit (Go.Value.int Go.IntKind.i64 (Int.ofNat 0)))])
def kCount : VV := (Go.V.VV.tup [(Go.V.VV.lit (Go.Value.int Go.IntKind.i64 (Int.ofNat 5))), (Go.V.VV.lit (Go.Value.int Go.IntKind.i64 (Int.ofNat 0)))])
def kDays : VV := (Go.V.VV.tup [(Go.V.VV.sl [(Go.V.VV.lit (Go.Value.int Go.IntKind.i64 (Int.ofNat 2))), (Go.V.VV.lit (Go.Value.int Go.IntKind.i64 (Int.ofNat 3))), (Go.V.VV.lit (Go.Value.int Go.IntKind.i64 (Int.ofNat 4)))] 3 Bool.false), (Go.V.VV.lit (Go.Value.int Go.IntKind.i64 (Int.ofNat 0)))])
def kLate : VV := (Go.V.VV.tup [(Go.V.VV.lit (Go.Value.int Go.IntKind.i64 (Int.ofNat 2))), (Go.V.VV.lit (Go.Value.int Go.IntKind.i64 (Int.ofNat 0)))])
def kQuick : VV := (Go.V.VV.tup [(Go.V.VV.lit (Go.Value.int Go.IntKind.i64 (Int.ofNat 4))), (Go.V.VV.lit (Go.Value.int Go.IntKind.i64 (Int.ofNat 0)))])
def kStuck : VV := (Go.V.VV.tup [(Go.V.VV.lit (Go.Value.int Go.IntKind.i64 (Int.ofNat 2))), (Go.V.VV.lit (Go.Value.int Go.IntKind.i64 (Int.ofNat 0)))])
def kSlack : VV := (Go.V.VV.tup [(Go.V.VV.lit (Go.Value.int Go.IntKind.i64 (Int.ofNat 2))), (Go.V.VV.lit (Go.Value.int Go.IntKind.i64 (Int.ofNat 0)))])
def kMend : VV := (Go.V.VV.tup [(Go.V.VV.sl [(Go.V.VV.lit (Go.Value.int Go.IntKind.i64 (Int.ofNat 0))), (Go.V.VV.lit (Go.Value.int Go.IntKind.i64 (Int.ofNat 2))), (Go.V.VV.lit (Go.Value.int Go.IntKind.i64 (Int.ofNat 4)))] 3 Bool.false), (Go.V.VV.lit (Go.Value.int Go.IntKind.i64 (Int.ofNat 2))), (Go.V.VV.lit (Go.Value.int Go.IntKind.i64 (Int.ofNat 0)))])
def kRead : VV := (Go.V.VV.tup [(Go.V.VV.agg [(Go.V.VV.sl [(Go.V.VV.lit (Go.Value.int Go.IntKind.i64 (Int.ofNat 1))), (Go.V.VV.lit (Go.Value.int Go.IntKind.i64 (Int.ofNat 2)))] 1 Bool.false), (Go.V.VV.sl [(Go.V.VV.lit (Go.Value.int Go.IntKind.i64 (Int.ofNat 0)))] 1 Bool.false), (Go.V.VV.sl [(Go.V.VV.lit (Go.Value.int Go.IntKind.i64 (Int.ofNat 1))), (Go.V.VV.lit (Go.Value.int Go.IntKind.i64 (Int.ofNat 3)))] 1 Bool.false)]), (Go.V.VV.lit (Go.Value.int Go.IntKind.i64 (Int.ofNat 0)))])
end Go.V
end
section
namespace Go.V
open Go Go.Proofs
theorem pA : VPure Tryz.prog G0 52 [] (.tree kA) := VPure.closedB hmix 1000 (by kernel_rfl)
theorem pB : VPure Tryz.prog G0 55 [] (.tree kB) := VPure.closedB hmix 1000 (by kernel_rfl)
theorem pE : VPure Tryz.prog G0 54 [] (.tree kE) := VPure.closedB hmix 1000 (by kernel_rfl)
theorem pHolds : VPure Tryz.prog G0 51 [kA, .sl [.lit (.int .i64 (0)), .lit (.int .i64 (3)), .lit (.int .i64 (6))] 3 false, .sl [.lit (.int .i64 (6)), .lit (.int .i64 (5)), .lit (.int .i64 (10)), .lit (.int .i64 (2)), .lit (.int .i64 (6)), .lit (.int .i64 (5)), .lit (.int .i64 (8)), .lit (.int .i64 (4))] 8 false] (.tree kHolds) := VPure.closedB hmix 1000 (by kernel_rfl)
theorem pWord : VPure Tryz.prog G0 53 [kA, .sl [.lit (.int .i64 (3)), .lit (.int .i64 (5)), .lit (.int .i64 (6))] 3 false] (.tree kWord) := VPure.closedB hmix 1000 (by kernel_rfl)
theorem pFails : VPure Tryz.prog G0 47 [kA, .sl [.lit (.int .i64 (0)), .lit (.int .i64 (3)), .lit (.int .i64 (6))] 3 false] (.tree kFails) := VPure.closedB hmix 1000 (by kernel_rfl)
end Go.V
end
section
namespace Go.V
open Go Go.Proofs
theorem pProof : VPure Tryz.prog G0 48 [kA, .sl [.lit (.int .i64 (0)), .lit (.int .i64 (3)), .lit (.int .i64 (6))] 3 false] (.tree kProof) := VPure.closedB hmix 1000 (by kernel_rfl)
end Go.V
end
section
namespace Go.V
open Go Go.Proofs
theorem pFirst : VPure Tryz.prog G0 17 [kA] (.tree kFirst) := VPure.closedB hmix 1000 (by kernel_rfl)
end Go.V
end
section
namespace Go.V
open Go Go.Proofs
theorem pCount : VPure Tryz.prog G0 18 [kE] (.tree kCount) := VPure.closedB hmix 1000 (by kernel_rfl)
end Go.V
end
section
namespace Go.V
open Go Go.Proofs
theorem pDays : VPure Tryz.prog G0 26 [kE, .lit (.int .i64 (1))] (.tree kDays) := VPure.closedB hmix 1000 (by kernel_rfl)
end Go.V
end
section
namespace Go.V
open Go Go.Proofs
theorem pLate : VPure Tryz.prog G0 27 [kE] (.tree kLate) := VPure.closedB hmix 1000 (by kernel_rfl)
end Go.V
end
section
namespace Go.V
open Go Go.Proofs
theorem pQuick : VPure Tryz.prog G0 28 [kE] (.tree kQuick) := VPure.closedB hmix 1000 (by kernel_rfl)
end Go.V
end
section
namespace Go.V
open Go Go.Proofs
theorem pStuck : VPure Tryz.prog G0 34 [kB] (.tree kStuck) := VPure.closedB hmix 1000 (by kernel_rfl)
end Go.V
end
section
namespace Go.V
open Go Go.Proofs
theorem pSlack : VPure Tryz.prog G0 38 [kB] (.tree kSlack) := VPure.closedB hmix 1000 (by kernel_rfl)
end Go.V
end
section
namespace Go.V
open Go Go.Proofs
theorem pMend : VPure Tryz.prog G0 41 [kE, .sl [.lit (.int .i64 (0)), .lit (.int .i64 (3)), .lit (.int .i64 (6))] 3 false, .lit (.int .i64 (1))] (.tree kMend) := VPure.closedB hmix 1000 (by kernel_rfl)
end Go.V
end
section
namespace Go.V
open Go Go.Proofs
theorem pRead : VPure Tryz.prog G0 56 [.lit (.string ⟨⟨[100, 97, 121, 32, 49, 32, 50, 32, 121, 101, 115, 10, 99, 111, 97, 116, 32, 49, 32, 51, 10, 101, 110, 100, 32, 49, 48, 52, 10]⟩⟩)] (.tree kRead) := VPure.closedB hmix 1000 (by kernel_rfl)
end Go.V
end
section
namespace Go.V
open Go Go.Proofs
def kTab : KTab := [
  (52, [], kA),
  (55, [], kB),
  (54, [], kE),
  (51, [kA, .sl [.lit (.int .i64 (0)), .lit (.int .i64 (3)), .lit (.int .i64 (6))] 3 false, .sl [.lit (.int .i64 (6)), .lit (.int .i64 (5)), .lit (.int .i64 (10)), .lit (.int .i64 (2)), .lit (.int .i64 (6)), .lit (.int .i64 (5)), .lit (.int .i64 (8)), .lit (.int .i64 (4))] 8 false], kHolds),
  (53, [kA, .sl [.lit (.int .i64 (3)), .lit (.int .i64 (5)), .lit (.int .i64 (6))] 3 false], kWord),
  (47, [kA, .sl [.lit (.int .i64 (0)), .lit (.int .i64 (3)), .lit (.int .i64 (6))] 3 false], kFails),
  (48, [kA, .sl [.lit (.int .i64 (0)), .lit (.int .i64 (3)), .lit (.int .i64 (6))] 3 false], kProof),
  (17, [kA], kFirst),
  (18, [kE], kCount),
  (26, [kE, .lit (.int .i64 (1))], kDays),
  (27, [kE], kLate),
  (28, [kE], kQuick),
  (34, [kB], kStuck),
  (38, [kB], kSlack),
  (41, [kE, .sl [.lit (.int .i64 (0)), .lit (.int .i64 (3)), .lit (.int .i64 (6))] 3 false, .lit (.int .i64 (1))], kMend),
  (56, [.lit (.string ⟨⟨[100, 97, 121, 32, 49, 32, 50, 32, 121, 101, 115, 10, 99, 111, 97, 116, 32, 49, 32, 51, 10, 101, 110, 100, 32, 49, 48, 52, 10]⟩⟩)], kRead)]
theorem kTabOk : KTabOk Tryz.prog G0 kTab := ⟨⟨by kernel_rfl, pA⟩, ⟨⟨by kernel_rfl, pB⟩, ⟨⟨by kernel_rfl, pE⟩, ⟨⟨by kernel_rfl, pHolds⟩, ⟨⟨by kernel_rfl, pWord⟩, ⟨⟨by kernel_rfl, pFails⟩, ⟨⟨by kernel_rfl, pProof⟩, ⟨⟨by kernel_rfl, pFirst⟩, ⟨⟨by kernel_rfl, pCount⟩, ⟨⟨by kernel_rfl, pDays⟩, ⟨⟨by kernel_rfl, pLate⟩, ⟨⟨by kernel_rfl, pQuick⟩, ⟨⟨by kernel_rfl, pStuck⟩, ⟨⟨by kernel_rfl, pSlack⟩, ⟨⟨by kernel_rfl, pMend⟩, ⟨⟨by kernel_rfl, pRead⟩, trivial⟩⟩⟩⟩⟩⟩⟩⟩⟩⟩⟩⟩⟩⟩⟩⟩
theorem pKnown : VPure Tryz.prog G0 16 [] (.tree (.lit (.bool true))) := VPure.closedT hmix kTabOk 1000 (by kernel_rfl)
#print axioms pKnown
end Go.V
end
section
namespace Go.V
open Go Go.Proofs
theorem g_law03_known_ok : VPure Tryz.prog G0 16 [] (.tree (.lit (.bool true))) := pKnown
end Go.V
end
section
namespace Go.V
open Go Go.Proofs
def g_law03_CoatSlacks (x0_s : GCoatSheet) : Option (Bool) := Option.bind (g_law03_short x0_s) (fun r1 => cond (r1) (Option.bind (g_coat_Slack x0_s) (fun r2 => Option.bind (g_ref03_Sheet x0_s) (fun r3 => cond (r3) (Option.bind (g_ref03_Slack x0_s) (fun r4 => cond (decide (r4 < 0)) (cond (r2.2 == 5) (cond (r2.1 == 0) (some true) (some false)) (some false)) (cond (r2.2 == 0) (cond (r2.1 == r4) (some true) (some false)) (some false)))) (cond (r2.2 == 2) (cond (r2.1 == 0) (some true) (some false)) (some false))))) (some true))
theorem g_law03_CoatSlacks_ok (x0_s : GCoatSheet) (R : Bool) (h : g_law03_CoatSlacks x0_s = some R) : VPure Tryz.prog G0 9 [.agg (cGCoatSheet x0_s)] (.tree (.lit (.bool R))) := by
 refine VPure.runR mixed Tryz.call9 Tryz.func9 rfl (by simp [Tryz.ntmps9]; kernel_rfl) ?_
 obtain ⟨KF, h, kF, kN⟩ := fun_intro h
 simp only [g_law03_CoatSlacks] at h
 rcases o6 : (g_law03_short x0_s) with _ | r5
 ·simp only [o6, hs] at h
  exact absurd h kN
 simp only [o6, hs] at h
 simp only [vz, tyf, nm, seval]
 refine ktree (args0 := [.agg (cGCoatSheet x0_s)]) (by first | (simp only [nrm, tynrm] <;> rfl) | rfl) (by simp only [tre, tytre, Bool.and_self]) (g_law03_short_ok _ _ o6) ?_
 refine fin_cut (fun tm => tm 1 = .ptr 0 0 ∧ tm 7 = .lit (.bool r5) ∧ True) (by refine ⟨?_, ?_, trivial⟩ <;> first | (simp only [ua, nm, seval] <;> rfl) | rfl) ?_
 rintro tm ⟨e7, e8, _⟩
 cases d9 : (r5)
 ·simp only [d9, hs] at h
  simp only [vz, tyf, e7, e8, d9, nm, seval]
  refine ktree0 g_law03_known_ok ?_
  try simp only [vz, tyf, e7, e8, d9, nm, seval]
  obtain rfl := kF _ h
  exact opd_bool Tryz.results9 rfl
 simp only [d9, hs] at h
 rcases o11 : (g_coat_Slack x0_s) with _ | r10
 ·simp only [o11, hs] at h
  exact absurd h kN
 simp only [o11, hs] at h
 simp only [vz, tyf, e7, e8, d9, nm, seval]
 refine ktree (args0 := [.agg (cGCoatSheet x0_s)]) (by first | (simp only [nrm, tynrm] <;> rfl) | rfl) (by simp only [tre, tytre, Bool.and_self]) (g_coat_Slack_ok _ _ o11) ?_
 refine fin_cut (fun tm => tm 1 = .ptr 0 0 ∧ tm 12 = .tup [.lit (.int .i64 r10.1), .lit (.int .i64 r10.2)] ∧ True) (by refine ⟨e7, ?_, trivial⟩ <;> first | (simp only [ua, e7, e8, d9, nm, seval] <;> rfl) | rfl) ?_
 rintro tm ⟨e12, e13, _⟩
 rcases o15 : (g_ref03_Sheet x0_s) with _ | r14
 ·simp only [o15, hs] at h
  exact absurd h kN
 simp only [o15, hs] at h
 simp only [vz, tyf, d9, e12, e13, nm, seval]
 refine ktree (args0 := [.agg (cGCoatSheet x0_s)]) (by first | (simp only [nrm, tynrm] <;> rfl) | rfl) (by simp only [tre, tytre, Bool.and_self]) (g_ref03_Sheet_ok _ _ o15) ?_
 refine fin_cut (fun tm => tm 1 = .ptr 0 0 ∧ tm 3 = .lit (.int .i64 r10.1) ∧ tm 4 = .lit (.int .i64 r10.2) ∧ tm 16 = .lit (.bool r14) ∧ True) (by refine ⟨e12, ?_, ?_, ?_, trivial⟩ <;> first | (simp only [ua, d9, e12, e13, nm, seval] <;> rfl) | rfl) ?_
 rintro tm ⟨e16, e17, e18, e19, _⟩
 cases d20 : (r14)
 ·simp only [d20, hs] at h
  cases d21 : (r10.2 == 2)
  ·simp only [d21, hs] at h
   try simp only [vz, tyf, d9, e16, e17, e18, e19, d20, d21, nm, seval]
   obtain rfl := kF _ h
   exact opd_bool Tryz.results9 rfl
  simp only [d21, hs] at h
  cases d22 : (r10.1 == 0)
  ·simp only [d22, hs] at h
   try simp only [vz, tyf, d9, e16, e17, e18, e19, d20, d21, d22, nm, seval]
   obtain rfl := kF _ h
   exact opd_bool Tryz.results9 rfl
  simp only [d22, hs] at h
  simp only [vz, tyf, d9, e16, e17, e18, e19, d20, d21, d22, nm, seval]
  refine ktree0 g_law03_known_ok ?_
  try simp only [vz, tyf, d9, e16, e17, e18, e19, d20, d21, d22, nm, seval]
  obtain rfl := kF _ h
  exact opd_bool Tryz.results9 rfl
 simp only [d20, hs] at h
 rcases o24 : (g_ref03_Slack x0_s) with _ | r23
 ·simp only [o24, hs] at h
  exact absurd h kN
 simp only [o24, hs] at h
 simp only [vz, tyf, d9, e16, e17, e18, e19, d20, nm, seval]
 refine ktree (args0 := [.agg (cGCoatSheet x0_s)]) (by first | (simp only [nrm, tynrm] <;> rfl) | rfl) (by simp only [tre, tytre, Bool.and_self]) (g_ref03_Slack_ok _ _ o24) ?_
 refine fin_cut (fun tm => tm 3 = .lit (.int .i64 r10.1) ∧ tm 4 = .lit (.int .i64 r10.2) ∧ tm 28 = .lit (.int .i64 r23) ∧ True) (by refine ⟨e17, e18, ?_, trivial⟩ <;> first | (simp only [ua, d9, e16, e17, e18, e19, d20, nm, seval] <;> rfl) | rfl) ?_
 rintro tm ⟨e25, e26, e27, _⟩
 cases d28 : (decide (r23 < 0))
 ·simp only [d28, hs] at h
  cases d29 : (r10.2 == 0)
  ·simp only [d29, hs] at h
   try simp only [vz, tyf, d9, d20, e25, e26, e27, d28, d29, nm, seval]
   obtain rfl := kF _ h
   exact opd_bool Tryz.results9 rfl
  simp only [d29, hs] at h
  cases d30 : (r10.1 == r23)
  ·simp only [d30, hs] at h
   try simp only [vz, tyf, d9, d20, e25, e26, e27, d28, d29, d30, nm, seval]
   obtain rfl := kF _ h
   exact opd_bool Tryz.results9 rfl
  simp only [d30, hs] at h
  simp only [vz, tyf, d9, d20, e25, e26, e27, d28, d29, d30, nm, seval]
  refine ktree0 g_law03_known_ok ?_
  try simp only [vz, tyf, d9, d20, e25, e26, e27, d28, d29, d30, nm, seval]
  obtain rfl := kF _ h
  exact opd_bool Tryz.results9 rfl
 simp only [d28, hs] at h
 cases d31 : (r10.2 == 5)
 ·simp only [d31, hs] at h
  try simp only [vz, tyf, d9, d20, e25, e26, e27, d28, d31, nm, seval]
  obtain rfl := kF _ h
  exact opd_bool Tryz.results9 rfl
 simp only [d31, hs] at h
 cases d32 : (r10.1 == 0)
 ·simp only [d32, hs] at h
  try simp only [vz, tyf, d9, d20, e25, e26, e27, d28, d31, d32, nm, seval]
  obtain rfl := kF _ h
  exact opd_bool Tryz.results9 rfl
 simp only [d32, hs] at h
 simp only [vz, tyf, d9, d20, e25, e26, e27, d28, d31, d32, nm, seval]
 refine ktree0 g_law03_known_ok ?_
 try simp only [vz, tyf, d9, d20, e25, e26, e27, d28, d31, d32, nm, seval]
 obtain rfl := kF _ h
 exact opd_bool Tryz.results9 rfl
end Go.V
end
section
namespace Go.V
open Go
theorem CoatSlacks_true (s : GCoatSheet) (h : lenOk s.Dry = true ∧ lenOk s.Work = true ∧ lenOk s.Coats = true) : g_law03_CoatSlacks s = some true := by
 have hs : OkS s := ⟨h.1, h.2.1, h.2.2⟩
 unfold g_law03_CoatSlacks
 obtain ⟨b, hb⟩ := short_eq' s
 rw [hb, rSheet_eq hs]
 simp only [Option.bind_some]
 cases b with
 | false => rfl
 | true =>
 simp only [cond_true]
 cases h1 : sheetB s with
 | false =>
  have e1 : g_coat_Slack s = some (0, 2) := by unfold g_coat_Slack; rw [isSheet_eq hs, h1]; rfl
  rw [e1]
  rfl
 | true =>
  have hS := ShOk.of h1
  have hk : ∀ k ∈ s.Coats, 0 ≤ k.Peel ∧ k.Peel ≤ 400 := by
   intro k hk
   unfold sheetB at h1
   simp only [Bool.and_eq_true, List.all_eq_true] at h1
   have := h1.2.2.2 k hk
   unfold coatB at this
   simp only [Bool.and_eq_true, inB_iff] at this
   omega
  obtain ⟨r, e2, h2, h3⟩ := rslack_eq hS hk
  rcases slack_eq hs h1 hk with ⟨e1, hq⟩ | ⟨q, e1, hq, hx⟩
  ·have hr : r = -1 := by
    rcases h2 with h2 | ⟨_, q, h4, h5, _⟩
    ·exact h2
    ·exact absurd ⟨by rw [nev_planB]; exact h4, by rw [nev_sure]; exact h5⟩ (hq q)
   subst hr
   rw [e1, e2]
   rfl
  ·have hq1 : planB s q = true := by rw [← nev_planB]; exact hq.1
   have hq2 : nevB s q s.Coats = true := by rw [← nev_sure]; exact hq.2
   have h4 := h3 q hq1 hq2
   have hr : r = exL (hiS s) q s.Coats := by
    rcases h2 with h2 | ⟨_, x, h5, h6, h7⟩
    ·omega
    ·have := hx x ⟨by rw [nev_planB]; exact h5, by rw [nev_sure]; exact h6⟩
     omega
   rw [e1, e2, ← hr]
   simp only [Option.bind_some, cond_true]
   rw [show decide (r < 0) = false from decide_eq_false (by omega)]
   simp
end Go.V
end
