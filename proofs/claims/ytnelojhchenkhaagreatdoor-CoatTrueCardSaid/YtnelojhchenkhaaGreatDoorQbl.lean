/- Part of a proof: a logic of values by content, lifted functions, what follows. -/
import Derived.Test.YtnelojhchenkhaaGreatDoorQbk
import Derived.Test.YtnelojhchenkhaaGreatDoorQay
import Derived.Test.YtnelojhchenkhaaGreatDoorQbc
import Derived.Test.YtnelojhchenkhaaGreatDoorProg
import Derived.Test.YtnelojhchenkhaaGreatDoorQbe
import Derived.Test.YtnelojhchenkhaaGreatDoorQbf
import Derived.Test.YtnelojhchenkhaaGreatDoorQbj
set_option linter.all false
set_option maxRecDepth 4000
set_option maxHeartbeats 4000000
section
namespace Go.V
open Go
structure VP (d : List GSpan) (cs : List GCoatCoat) (p : List Int) : Prop where
 dk : DOk d
 c : 1 ≤ cs.length ∧ cs.length ≤ 5
 l : p.length = cs.length
 u : upB p = true
 r : ∀ x ∈ p, 0 ≤ x ∧ x ≤ (d.length : Int) - 1
theorem VP.of {s : GCoatSheet} {p : List Int} (h1 : sheetB s = true) (h2 : planB s p = true) : VP s.Dry s.Coats p := by
 unfold sheetB incB at h1
 unfold planB incB at h2
 simp only [Bool.and_eq_true, inB_iff, List.all_eq_true, decide_eq_true_eq] at h1 h2
 refine ⟨⟨h1.1.2, by omega⟩, by omega, h2.1.1, h2.1.2.1, fun x hx => ?_⟩
 have := h2.1.2.2 x hx
 unfold dayB at this
 exact inB_iff.1 this
def ffP (o : Option (Int × Int)) : Gcoatfailure × Bool := match o with
 | some r => (⟨r.1, r.2⟩, true)
 | none => (⟨0, 0⟩, false)
theorem clone_eq {p : List Int} (h1 : 1 ≤ p.length) (h2 : p.length ≤ 1000) : g_slices_Clone_Int p = some p := by
 unfold g_slices_Clone_Int
 rw [room_small h2, show neB p = true by cases p with | nil => simp at h1 | cons a p => rfl]
 rfl
def worstW (d : List GSpan) (cs : List GCoatCoat) (p : List Int) : Option (Int × Int) := failW (SI (lowsL d)) (SI (highsL d)) d.length p cs 0
def bestW (d : List GSpan) (cs : List GCoatCoat) (p : List Int) : Option (Int × Int) := failW (SI (highsL d)) (SI (lowsL d)) d.length p cs 0
def sumsOf (s : GCoatSheet) : Gcoatsums := ⟨s, preL (lowsL s.Dry) 0 (s.Dry.length + 1), preL (highsL s.Dry) 0 (s.Dry.length + 1)⟩
theorem worst_eq {s : GCoatSheet} {p : List Int} (h : VP s.Dry s.Coats p) : g_coat_firstFailure_worst (sumsOf s) p = some (ffP (worstW s.Dry s.Coats p)) := by
 have hc := h.c
 have hl := h.l
 unfold g_coat_firstFailure_worst
 rw [clone_eq (by omega) (by omega), lenOk_of (by omega)]
 simp only [Option.bind_some, cond_true]
 rw [room_small (by simp; omega), cond_true]
 have := ffw_l0 (x := sumsOf s) (lo := SI (lowsL s.Dry)) (hi := SI (highsL s.Dry)) (fun k h0 h1 => getI_pre h0 h1) (fun k h0 h1 => getI_pre h0 h1) (SI_bd h.dk.low) (SI_bd h.dk.high) (lenOk_of (show s.Coats.length < _ by omega)) (r := p) p s.Coats 0 (Int.le_refl _) rfl rfl hl (fun x hx => by have := h.r x hx; show 0 ≤ x ∧ x ≤ (s.Dry.length : Int); omega)
 rw [this]
 unfold worstW
 show lbind (ffR (failW _ _ (s.Dry.length : Int) p s.Coats 0)) _ _ _ = _
 cases failW (SI (lowsL s.Dry)) (SI (highsL s.Dry)) (s.Dry.length : Int) p s.Coats 0 <;> rfl
theorem best_eq {s : GCoatSheet} {p : List Int} (h : VP s.Dry s.Coats p) : g_coat_firstFailure_best (sumsOf s) p = some (ffP (bestW s.Dry s.Coats p)) := by
 have hc := h.c
 have hl := h.l
 unfold g_coat_firstFailure_best
 rw [clone_eq (by omega) (by omega), lenOk_of (by omega)]
 simp only [Option.bind_some, cond_true]
 rw [room_small (by simp; omega), cond_true]
 have := ffb_l0 (x := sumsOf s) (lo := SI (lowsL s.Dry)) (hi := SI (highsL s.Dry)) (fun k h0 h1 => getI_pre h0 h1) (fun k h0 h1 => getI_pre h0 h1) (SI_bd h.dk.low) (SI_bd h.dk.high) (lenOk_of (show s.Coats.length < _ by omega)) (r := p) p s.Coats 0 (Int.le_refl _) rfl rfl hl (fun x hx => by have := h.r x hx; show 0 ≤ x ∧ x ≤ (s.Dry.length : Int); omega)
 rw [this]
 unfold bestW
 show lbind (ffR (failW _ _ (s.Dry.length : Int) p s.Coats 0)) _ _ _ = _
 cases failW (SI (highsL s.Dry)) (SI (lowsL s.Dry)) (s.Dry.length : Int) p s.Coats 0 <;> rfl
theorem summed_of {s : GCoatSheet} (h : DOk s.Dry) : g_coat_summed s = some (sumsOf s) := summed_eq h
theorem ffP_2 (o : Option (Int × Int)) : (ffP o).2 = o.isSome := by cases o <;> rfl
def sureB (d : List GSpan) (cs : List GCoatCoat) (p : List Int) : Bool := (worstW d cs p).isNone
theorem surely_eq {s : GCoatSheet} {p : List Int} (h : VP s.Dry s.Coats p) : g_coat_surelyHolds s p = some (sureB s.Dry s.Coats p) := by
 unfold g_coat_surelyHolds sureB
 rw [summed_of h.dk]
 simp only [Option.bind_some, worst_eq h, ffP_2]
 cases worstW s.Dry s.Coats p <;> rfl
def wordW (d : List GSpan) (cs : List GCoatCoat) (p : List Int) : Int := cond (sureB d cs p) 3 (cond (bestW d cs p).isNone 2 1)
theorem word_eq {s : GCoatSheet} {p : List Int} (hs : OkS s) (hp : lenOk p = true) : g_coat_Word s p = some (cond (sheetB s) (cond (planB s p) (wordW s.Dry s.Coats p, 0) (0, 2)) (0, 2)) := by
 unfold g_coat_Word
 rw [isSheet_eq hs, isPlan_eq hs hp]
 simp only [Option.bind_some]
 cases h1 : sheetB s with
 | false => rfl
 | true =>
 cases h2 : planB s p with
 | false => rfl
 | true =>
 have h := VP.of h1 h2
 simp only [cond_true, summed_of h.dk, Option.bind_some, worst_eq h, best_eq h, ffP_2]
 unfold wordW sureB
 cases worstW s.Dry s.Coats p <;> cases bestW s.Dry s.Coats p <;> rfl
theorem fails_eq {s : GCoatSheet} {p : List Int} (hs : OkS s) (hp : lenOk p = true) : g_coat_Fails s p = some (cond (sheetB s) (cond (planB s p) (match worstW s.Dry s.Coats p with | some r => (r.1, r.2, (0 : Int)) | none => (0, 0, 5)) (0, 0, 2)) (0, 0, 2)) := by
 unfold g_coat_Fails
 rw [isSheet_eq hs, isPlan_eq hs hp]
 simp only [Option.bind_some]
 cases h1 : sheetB s with
 | false => rfl
 | true =>
 cases h2 : planB s p with
 | false => rfl
 | true =>
 have h := VP.of h1 h2
 simp only [cond_true, summed_of h.dk, Option.bind_some, worst_eq h]
 cases worstW s.Dry s.Coats p <;> rfl
theorem lows_l0 : ∀ (p : List GSpan) (c : Int) (a : List Int), a.length + p.length ≤ 500 → g_ref03_Lows_l0 p c a = some (.go (a ++ lowsL p))
 | [], _, a, _ => by simp [g_ref03_Lows_l0, lowsL]
 | e :: p, c, a, h1 => by
  simp only [List.length_cons] at h1
  simp only [g_ref03_Lows_l0]
  rw [room_small (by simp; omega), cond_true, lows_l0 p (c + 1) _ (by simp; omega)]
  simp [lowsL]
theorem highs_l0 : ∀ (p : List GSpan) (c : Int) (a : List Int), a.length + p.length ≤ 500 → g_ref03_Highs_l0 p c a = some (.go (a ++ highsL p))
 | [], _, a, _ => by simp [g_ref03_Highs_l0, highsL]
 | e :: p, c, a, h1 => by
  simp only [List.length_cons] at h1
  simp only [g_ref03_Highs_l0]
  rw [room_small (by simp; omega), cond_true, highs_l0 p (c + 1) _ (by simp; omega)]
  simp [highsL]
theorem lows_eq {s : GCoatSheet} (h : DOk s.Dry) : g_ref03_Lows s = some (lowsL s.Dry) := by
 have := h.l
 unfold g_ref03_Lows
 rw [lenOk_of (by omega), lows_l0 _ _ _ (by simp; omega)]
 rfl
theorem highs_eq {s : GCoatSheet} (h : DOk s.Dry) : g_ref03_Highs s = some (highsL s.Dry) := by
 have := h.l
 unfold g_ref03_Highs
 rw [lenOk_of (by omega), highs_l0 _ _ _ (by simp; omega)]
 rfl
theorem dries_l0 {w : List Int} (hw : WOk w) : ∀ (k : Nat) (c acc : Int), 0 ≤ c → c + k ≤ w.length → 0 ≤ acc → acc + 24 * k ≤ 500 → g_ref03_Dries_l0 w k c acc = some (.go (acc + (SI w (c + k) - SI w c)))
 | 0, c, acc, _, _, _, _ => by simp [g_ref03_Dries_l0]
 | k + 1, c, acc, h0, h1, h2, h3 => by
  obtain ⟨v, hv, hm⟩ := getI_some (xs := w) h0 (by omega)
  have hb := hw.v v hm
  obtain ⟨_, _, hd⟩ := getI_drop hv
  have hS := SI_next h0 hd
  simp only [g_ref03_Dries_l0, hv, Option.bind_some]
  rw [wrap_eq (by omega) (by omega), dries_l0 hw k (c + 1) (acc + v) (by omega) (by omega) (by omega) (by omega)]
  congr 2
  rw [show c + 1 + (k : Int) = c + ((k + 1 : Nat) : Int) by omega]
  omega
theorem dries_l1 : ∀ (p : List Int) (c acc : Int), (∀ v ∈ p, 0 ≤ v ∧ v ≤ 24) → 0 ≤ acc → acc + 24 * p.length < 9223372036854775808 → g_ref03_Dries_l1 p c acc = some (.go (acc + p.sum))
 | [], _, _, _, _, _ => by simp [g_ref03_Dries_l1]
 | e :: p, c, acc, h, h0, h1 => by
  have h2 := h e (by simp)
  simp only [List.length_cons] at h1
  simp only [g_ref03_Dries_l1]
  rw [wrap_eq (by omega) (by omega), dries_l1 p (c + 1) (acc + e) (fun v hv => h v (by simp [hv])) (by omega) (by omega), List.sum_cons]
  congr 2
  omega
theorem up_head {a : Int} {p : List Int} {n : Int} (h : upB (a :: p) = true) (hn : a ≤ n) : a ≤ p.headD n := by
 cases p with
 | nil => exact hn
 | cons b p =>
  rw [upB_cons, Bool.and_eq_true, decide_eq_true_eq] at h
  show a ≤ b
  omega
theorem up_tail {a : Int} {p : List Int} (h : upB (a :: p) = true) : upB p = true := by
 cases p with
 | nil => rfl
 | cons b p => rw [upB_cons, Bool.and_eq_true] at h; exact h.2
theorem up_drop : ∀ {p : List Int} (c : Nat), upB p = true → upB (p.drop c) = true
 | [], _, _ => by simp [upB]
 | _ :: _, 0, h => h
 | a :: p, c + 1, h => up_drop (p := p) c (up_tail h)
section
variable {d : List GSpan} {cs0 : List GCoatCoat} {pl : List Int} (h : VP d cs0 pl) {w : List Int} (hw : WOk w) (hl : w.length = d.length)
include h hw hl in
theorem dries_eq {p : List Int} {c a : Int} (h0 : 0 ≤ c) (hp : pl.drop c.toNat = a :: p) : g_ref03_Dries pl c w = some (SI w (p.headD d.length) - SI w a) := by
 have hc := h.c
 have hL := h.l
 have hdl := h.dk.l
 have hlen := drop_len hp
 have hm : a ∈ pl := List.mem_of_mem_drop (i := c.toNat) (by rw [hp]; simp)
 have ha := h.r a hm
 have hup : upB (a :: p) = true := by rw [← hp]; exact up_drop _ h.u
 have hb := up_head (n := d.length) hup (by omega)
 have hSa := SI_bd hw a
 unfold g_ref03_Dries
 rw [wrap_eq (by omega) (by omega), getI_of_drop h0 hp]
 simp only [Option.bind_some]
 cases p with
 | nil =>
  simp only [List.length_nil] at hlen
  rw [decide_eq_false (by omega), lenOk_of (by omega), show leB 0 a = true from decide_eq_true (by omega)]
  have hsum := sum_bd (w.drop a.toNat) (fun v hv => hw.v v (List.mem_of_mem_drop hv))
  have hwl := hw.l
  rw [dries_l1 _ _ _ (fun v hv => hw.v v (List.mem_of_mem_drop hv)) (Int.le_refl _) (by rw [List.length_drop]; omega), SI_drop]
  show some (0 + (w.sum - SI w a)) = some (SI w (d.length : Int) - SI w a)
  rw [SI_all (n := (d.length : Int)) (by omega)]
  congr 1
  omega
 | cons b p =>
  have hm2 : b ∈ pl := List.mem_of_mem_drop (i := c.toNat) (by rw [hp]; simp)
  have hb2 := h.r b hm2
  have hb' : a ≤ b := hb
  simp only [List.length_cons] at hlen
  have hwl := hw.l
  rw [decide_eq_true (by omega), getI_of_drop (by omega) (drop_next h0 hp)]
  simp only [cond_true, Option.bind_some]
  rw [show boundOk b = true by simp [boundOk]; omega, show loOk a = true by simp [loOk]; omega]
  rw [dries_l0 hw _ _ _ (by omega) (by omega) (Int.le_refl _) (by omega)]
  show some (0 + (SI w (a + ((b - a).toNat : Int)) - SI w a)) = some (SI w b - SI w a)
  rw [show a + ((b - a).toNat : Int) = b by omega]
  congr 1
  omega
include h hw hl in
theorem early_eq {s : GCoatSheet} (hs : s.Coats = cs0) {p : List Int} {cs : List GCoatCoat} {k : GCoatCoat} {c a : Int} (h0 : 0 ≤ c) (hp : pl.drop c.toNat = a :: p) (hk : cs0.drop c.toNat = k :: cs) : g_ref03_early s pl c w = some (decide (SI w (p.headD d.length) - SI w a < k.Need)) := by
 unfold g_ref03_early
 rw [dries_eq h hw hl h0 hp, hs, getI_of_drop h0 hk]
 rfl
include h hw hl in
theorem peels_eq {s : GCoatSheet} (hs : s.Coats = cs0) {p : List Int} {cs : List GCoatCoat} {k : GCoatCoat} {c a : Int} (h0 : 0 ≤ c) (hp : pl.drop c.toNat = a :: p) (hk : cs0.drop c.toNat = k :: cs) : g_ref03_peels s pl c w = some (!p.isEmpty && decide (SI w (p.headD d.length) - SI w a > k.Peel)) := by
 have hc := h.c
 have hL := h.l
 have hlen := drop_len hp
 unfold g_ref03_peels
 rw [dries_eq h hw hl h0 hp, hs, getI_of_drop h0 hk, wrap_eq (by omega) (by omega)]
 cases p with
 | nil =>
  simp only [List.length_nil] at hlen
  rw [decide_eq_false (by omega)]; rfl
 | cons b p =>
  simp only [List.length_cons] at hlen
  rw [decide_eq_true (by omega)]; rfl
end
theorem rHolds_l0 {d : List GSpan} {cs0 : List GCoatCoat} {pl : List Int} (h : VP d cs0 pl) {w : List Int} (hw : WOk w) (hl : w.length = d.length) {s : GCoatSheet} (hs : s.Coats = cs0) : ∀ (p : List Int) (cs : List GCoatCoat) (c : Int), 0 ≤ c → pl.drop c.toNat = p → cs0.drop c.toNat = cs → p.length = cs.length →
  g_ref03_Holds_l0 s pl w p c = goB (failW (SI w) (SI w) d.length p cs c).isNone
 | [], [], _, _, _, _, _ => rfl
 | a :: p, [], _, _, _, _, hl => by simp at hl
 | [], _ :: _, _, _, _, _, hl => by simp at hl
 | a :: p, k :: cs, c, h0, hp, hk, hll => by
  simp only [g_ref03_Holds_l0, early_eq h hw hl hs h0 hp hk, peels_eq h hw hl hs h0 hp hk, Option.bind_some, failW]
  rw [rHolds_l0 h hw hl hs p cs (c + 1) (by omega) (drop_next h0 hp) (drop_next h0 hk) (by simpa using hll)]
  cases decide (SI w (p.headD d.length) - SI w a < k.Need) <;> cases (!p.isEmpty && decide (SI w (p.headD d.length) - SI w a > k.Peel)) <;> rfl
theorem rFails_l0 {pl : List Int} {s : GCoatSheet} (h : VP s.Dry s.Coats pl) : ∀ (p : List Int) (cs : List GCoatCoat) (c : Int), 0 ≤ c → pl.drop c.toNat = p → s.Coats.drop c.toNat = cs → p.length = cs.length →
  g_ref03_Fails_l0 s pl p c = match failW (SI (lowsL s.Dry)) (SI (highsL s.Dry)) s.Dry.length p cs c with | some r => some (.ret (r.1, r.2, true)) | none => some (.go ())
 | [], [], _, _, _, _, _ => rfl
 | a :: p, [], _, _, _, _, hl => by simp at hl
 | [], _ :: _, _, _, _, _, hl => by simp at hl
 | a :: p, k :: cs, c, h0, hp, hk, hll => by
  simp only [g_ref03_Fails_l0, lows_eq h.dk, highs_eq h.dk, Option.bind_some, early_eq h h.dk.low (by simp [lowsL]) rfl h0 hp hk, peels_eq h h.dk.high (by simp [highsL]) rfl h0 hp hk, failW]
  rw [rFails_l0 h p cs (c + 1) (by omega) (drop_next h0 hp) (drop_next h0 hk) (by simpa using hll)]
  cases decide (SI (lowsL s.Dry) (p.headD s.Dry.length) - SI (lowsL s.Dry) a < k.Need) <;> cases (!p.isEmpty && decide (SI (highsL s.Dry) (p.headD s.Dry.length) - SI (highsL s.Dry) a > k.Peel)) <;> rfl
theorem rWord_l0 {pl : List Int} {s : GCoatSheet} (h : VP s.Dry s.Coats pl) : ∀ (p : List Int) (cs : List GCoatCoat) (c : Int), 0 ≤ c → pl.drop c.toNat = p → s.Coats.drop c.toNat = cs → p.length = cs.length →
  g_ref03_Word_l0 s pl p c = match failW (SI (highsL s.Dry)) (SI (lowsL s.Dry)) s.Dry.length p cs c with | some r => some (.ret 1) | none => some (.go ())
 | [], [], _, _, _, _, _ => rfl
 | a :: p, [], _, _, _, _, hl => by simp at hl
 | [], _ :: _, _, _, _, _, hl => by simp at hl
 | a :: p, k :: cs, c, h0, hp, hk, hll => by
  simp only [g_ref03_Word_l0, lows_eq h.dk, highs_eq h.dk, Option.bind_some, early_eq h h.dk.high (by simp [highsL]) rfl h0 hp hk, peels_eq h h.dk.low (by simp [lowsL]) rfl h0 hp hk, failW]
  rw [rWord_l0 h p cs (c + 1) (by omega) (drop_next h0 hp) (drop_next h0 hk) (by simpa using hll)]
  cases decide (SI (highsL s.Dry) (p.headD s.Dry.length) - SI (highsL s.Dry) a < k.Need) <;> cases (!p.isEmpty && decide (SI (lowsL s.Dry) (p.headD s.Dry.length) - SI (lowsL s.Dry) a > k.Peel)) <;> rfl
theorem VP.pl {d : List GSpan} {cs : List GCoatCoat} {p : List Int} (h : VP d cs p) : lenOk p = true := by
 have := h.c; have := h.l
 exact lenOk_of (by omega)
theorem rFails_eq {pl : List Int} {s : GCoatSheet} (h : VP s.Dry s.Coats pl) : g_ref03_Fails s pl = some (match worstW s.Dry s.Coats pl with | some r => (r.1, r.2, true) | none => (0, 0, false)) := by
 unfold g_ref03_Fails worstW
 rw [h.pl, rFails_l0 h pl s.Coats 0 (Int.le_refl _) rfl rfl h.l]
 cases failW (SI (lowsL s.Dry)) (SI (highsL s.Dry)) s.Dry.length pl s.Coats 0 <;> rfl
theorem rSurely_eq {pl : List Int} {s : GCoatSheet} (h : VP s.Dry s.Coats pl) : g_ref03_Surely s pl = some (sureB s.Dry s.Coats pl) := by
 unfold g_ref03_Surely sureB
 rw [rFails_eq h]
 cases worstW s.Dry s.Coats pl <;> rfl
theorem rWord_eq {pl : List Int} {s : GCoatSheet} (h : VP s.Dry s.Coats pl) : g_ref03_Word s pl = some (wordW s.Dry s.Coats pl) := by
 unfold g_ref03_Word wordW bestW
 rw [rSurely_eq h, h.pl, rWord_l0 h pl s.Coats 0 (Int.le_refl _) rfl rfl h.l]
 simp only [Option.bind_some]
 cases sureB s.Dry s.Coats pl <;> cases failW (SI (highsL s.Dry)) (SI (lowsL s.Dry)) s.Dry.length pl s.Coats 0 <;> rfl
def holdsW (d : List GSpan) (cs : List GCoatCoat) (p w : List Int) : Bool := (failW (SI w) (SI w) d.length p cs 0).isNone
theorem rHolds_eq {pl w : List Int} {s : GCoatSheet} (h : VP s.Dry s.Coats pl) (hw : WOk w) (hl : w.length = s.Dry.length) : g_ref03_Holds s pl w = some (holdsW s.Dry s.Coats pl w) := by
 unfold g_ref03_Holds holdsW
 rw [h.pl, rHolds_l0 h hw hl rfl pl s.Coats 0 (Int.le_refl _) rfl rfl h.l, goB_lbind]
 cases (failW (SI w) (SI w) (s.Dry.length : Int) pl s.Coats 0).isNone <;> rfl
def ptS (v : Int) : GSpan := ⟨v, v⟩
theorem cloneS_eq {p : List GSpan} (h1 : 1 ≤ p.length) (h2 : p.length ≤ 1000) : g_slices_Clone_Span p = some p := by
 unfold g_slices_Clone_Span
 rw [show roomOk 16 p.length = true by simp [roomOk]; omega, show neB p = true by cases p with | nil => simp at h1 | cons a p => rfl]
 rfl
theorem foreseen_eq {s : GCoatSheet} (h1 : s.Dry.length ≤ 12) {pre post : List GSpan} {e : GSpan} {day v : Int} (hd : s.Dry = pre ++ e :: post) (hday : day = pre.length) : g_coat_foreseen s day v = some ⟨pre ++ ptS v :: post, s.Work, s.Coats⟩ := by
 have hlen : s.Dry.length = pre.length + (post.length + 1) := by rw [hd]; simp
 unfold g_coat_foreseen
 rw [cloneS_eq (by omega) (by omega)]
 simp only [Option.bind_some]
 have hg : getI s.Dry day = some e := getI_of_drop (by omega) (post := post) (by rw [hd, hday]; simp)
 rw [hg]
 simp only [Option.bind_some]
 rw [hday, hd]
 simp [ptS]
theorem holds_l0 : ∀ (p : List Int) (pre : List Int) (post : List GSpan) (c : Int) (wk : List Int) (cs : List GCoatCoat), c = pre.length → p.length = post.length → pre.length + post.length ≤ 12 →
  g_coat_Holds_l0 p c (pre.map ptS ++ post) wk cs = some (.go ((pre ++ p).map ptS, wk, cs))
 | [], pre, [], c, wk, cs, _, _, _ => by simp [g_coat_Holds_l0]
 | [], pre, _ :: _, c, wk, cs, _, h, _ => by simp at h
 | _ :: _, pre, [], c, wk, cs, _, h, _ => by simp at h
 | e :: p, pre, x :: post, c, wk, cs, hc, h, hl => by
  simp only [List.length_cons] at h hl
  simp only [g_coat_Holds_l0]
  rw [foreseen_eq (s := ⟨pre.map ptS ++ x :: post, wk, cs⟩) (by simp; omega) (pre := pre.map ptS) (post := post) (e := x) rfl (by simpa using hc)]
  simp only [Option.bind_some]
  have := holds_l0 p (pre ++ [e]) post (c + 1) wk cs (by simp; omega) (by omega) (by simp; omega)
  simp only [List.map_append, List.map_cons, List.map_nil, List.append_assoc, List.cons_append, List.nil_append] at this
  rw [this]
  simp
theorem lows_pt (w : List Int) : lowsL (w.map ptS) = w := by simp [lowsL, ptS, Function.comp_def]
theorem highs_pt (w : List Int) : highsL (w.map ptS) = w := by simp [highsL, ptS, Function.comp_def]
theorem inW_ok : ∀ {d : List GSpan} {w : List Int}, (∀ x ∈ d, spanB x = true) → inW d w = true → ∀ v ∈ w, 0 ≤ v ∧ v ≤ 24
 | [], [], _, _, v, hv => by cases hv
 | x :: d, y :: w, h, hi, v, hv => by
  simp only [inW, Bool.and_eq_true, inB_iff] at hi
  have hx := span_iff.1 (h x (by simp))
  rcases List.mem_cons.1 hv with rfl | hv
  ·omega
  ·exact inW_ok (fun z hz => h z (by simp [hz])) hi.2 v hv
 | [], _ :: _, _, hi, _, _ => by cases hi
 | _ :: _, [], _, hi, _, _ => by cases hi
theorem inW_W {d : List GSpan} {w : List Int} (h : DOk d) (hi : inW d w = true) : WOk w := ⟨inW_ok h.s hi, by rw [inW_len hi]; exact h.l.2⟩
theorem DOk.pt {w : List Int} (h : WOk w) (h1 : 1 ≤ w.length) : DOk (w.map ptS) := ⟨fun x hx => by
 obtain ⟨v, hv, rfl⟩ := List.mem_map.1 hx
 have := h.v v hv
 exact span_iff.2 ⟨this.1, Int.le_refl _, this.2⟩, by simp; exact ⟨h1, h.l⟩⟩
theorem holds_eq {s : GCoatSheet} {p w : List Int} (hs : OkS s) (hp : lenOk p = true) (hw : lenOk w = true) : g_coat_Holds s p w = some (cond (sheetB s && (planB s p && inW s.Dry w)) (holdsW s.Dry s.Coats p w, 0) (false, 2)) := by
 unfold g_coat_Holds
 rw [isSheet_eq hs, isPlan_eq hs hp, isWeather_eq hw]
 simp only [Option.bind_some]
 cases h1 : sheetB s with
 | false => rfl
 | true =>
 cases h2 : planB s p with
 | false => rfl
 | true =>
 cases h3 : inW s.Dry w with
 | false => rfl
 | true =>
 have h := VP.of h1 h2
 have hl := inW_len h3
 have hdl := h.dk.l
 have hwo := inW_W h.dk h3
 simp only [cond_true, hw, Bool.and_self]
 have e := holds_l0 w [] s.Dry 0 s.Work s.Coats rfl hl (by simp; omega)
 simp only [List.map_nil, List.nil_append] at e
 rw [e]
 simp only [lbind]
 have hv : VP (w.map ptS) s.Coats p := ⟨DOk.pt hwo (by omega), h.c, h.l, h.u, fun x hx => by have := h.r x hx; simp; omega⟩
 rw [surely_eq (s := ⟨w.map ptS, s.Work, s.Coats⟩) hv]
 unfold sureB worstW holdsW
 simp only [Option.bind_some, lows_pt, highs_pt, List.length_map, hl]
end Go.V
end
section
namespace Go.V
open Go Go.Proofs
theorem hmix : Tryz.prog.follows .mixedOrders = true := by kernel_rfl
def kA : VV := (Go.V.VV.agg [(Go.V.VV.sl [(Go.V.VV.lit (Go.Value.int Go.IntKind.i64 (Int.ofNat 6))), (Go.V.VV.lit (Go.Value.int Go.IntKind.i64 (Int.ofNat 8))), (Go.V.VV.lit (Go.Value.int Go.IntKind.i64 (Int.ofNat 4))), (Go.V.VV.lit (Go.Value.int Go.IntKind.i64 (Int.ofNat 6))), (Go.V.VV.lit (Go.Value.int Go.IntKind.i64 (Int.ofNat 8))), (Go.V.VV.lit (Go.Value.int Go.IntKind.i64 (Int.ofNat 10))), (Go.V.VV.lit (Go.Value.int Go.IntKind.i64 (Int.ofNat 2))), (Go.V.VV.lit (Go.Value.int Go.IntKind.i64 (Int.ofNat 4))), (Go.V.VV.lit (Go.Value.int Go.IntKind.i64 (Int.ofNat 6))), (Go.V.VV.lit (Go.Value.int Go.IntKind.i64 (Int.ofNat 6))), (Go.V.VV.lit (Go.Value.int Go.IntKind.i64 (Int.ofNat 5))), (Go.V.VV.lit (Go.Value.int Go.IntKind.i64 (Int.ofNat 9))), (Go.V.VV.lit (Go.Value.int Go.IntKind.i64 (Int.ofNat 8))), (Go.V.VV.lit (Go.Value.int Go.IntKind.i64 (Int.ofNat 12))), (Go.V.VV.lit (Go.Value.int Go.IntKind.i64 (Int.ofNat 4))), (Go.V.VV.lit (Go.Value.int Go.IntKind.i64 (Int.ofNat 4)))] 8 Bool.false), (Go.V.VV.sl [(Go.V.VV.lit (Go.Value.int Go.IntKind.i64 (Int.ofNat 0))), (Go.V.VV.lit (Go.Value.int Go.IntKind.i64 (Int.ofNat 2))), (Go.V.VV.lit (Go.Value.int Go.IntKind.i64 (Int.ofNat 3))), (Go.V.VV.lit (Go.Value.int Go.IntKind.i64 (Int.ofNat 5))), (Go.V.VV.lit (Go.Value.int Go.IntKind.i64 (Int.ofNat 6)))] 5 Bool.false), (Go.V.VV.sl [(Go.V.VV.lit (Go.Value.int Go.IntKind.i64 (Int.ofNat 9))), (Go.V.VV.lit (Go.Value.int Go.IntKind.i64 (Int.ofNat 20))), (Go.V.VV.lit (Go.Value.int Go.IntKind.i64 (Int.ofNat 10))), (Go.V.VV.lit (Go.Value.int Go.IntKind.i64 (Int.ofNat 20))), (Go.V.VV.lit (Go.Value.int Go.IntKind.i64 (Int.ofNat 8))), (Go.V.VV.lit (Go.Value.int Go.IntKind.i64 (Int.ofNat 30)))] 3 Bool.false)])
def kB : VV := (Go.V.VV.agg [(Go.V.VV.sl [(Go.V.VV.lit (Go.Value.int Go.IntKind.i64 (Int.ofNat 6))), (Go.V.VV.lit (Go.Value.int Go.IntKind.i64 (Int.ofNat 8))), (Go.V.VV.lit (Go.Value.int Go.IntKind.i64 (Int.ofNat 4))), (Go.V.VV.lit (Go.Value.int Go.IntKind.i64 (Int.ofNat 6))), (Go.V.VV.lit (Go.Value.int Go.IntKind.i64 (Int.ofNat 8))), (Go.V.VV.lit (Go.Value.int Go.IntKind.i64 (Int.ofNat 10))), (Go.V.VV.lit (Go.Value.int Go.IntKind.i64 (Int.ofNat 2))), (Go.V.VV.lit (Go.Value.int Go.IntKind.i64 (Int.ofNat 4))), (Go.V.VV.lit (Go.Value.int Go.IntKind.i64 (Int.ofNat 6))), (Go.V.VV.lit (Go.Value.int Go.IntKind.i64 (Int.ofNat 6))), (Go.V.VV.lit (Go.Value.int Go.IntKind.i64 (Int.ofNat 5))), (Go.V.VV.lit (Go.Value.int Go.IntKind.i64 (Int.ofNat 9))), (Go.V.VV.lit (Go.Value.int Go.IntKind.i64 (Int.ofNat 8))), (Go.V.VV.lit (Go.Value.int Go.IntKind.i64 (Int.ofNat 12))), (Go.V.VV.lit (Go.Value.int Go.IntKind.i64 (Int.ofNat 4))), (Go.V.VV.lit (Go.Value.int Go.IntKind.i64 (Int.ofNat 4)))] 8 Bool.false), (Go.V.VV.sl [(Go.V.VV.lit (Go.Value.int Go.IntKind.i64 (Int.ofNat 0))), (Go.V.VV.lit (Go.Value.int Go.IntKind.i64 (Int.ofNat 2))), (Go.V.VV.lit (Go.Value.int Go.IntKind.i64 (Int.ofNat 3))), (Go.V.VV.lit (Go.Value.int Go.IntKind.i64 (Int.ofNat 5))), (Go.V.VV.lit (Go.Value.int Go.IntKind.i64 (Int.ofNat 6)))] 5 Bool.false), (Go.V.VV.sl [(Go.V.VV.lit (Go.Value.int Go.IntKind.i64 (Int.ofNat 9))), (Go.V.VV.lit (Go.Value.int Go.IntKind.i64 (Int.ofNat 20))), (Go.V.VV.lit (Go.Value.int Go.IntKind.i64 (Int.ofNat 10))), (Go.V.VV.lit (Go.Value.int Go.IntKind.i64 (Int.ofNat 18))), (Go.V.VV.lit (Go.Value.int Go.IntKind.i64 (Int.ofNat 8))), (Go.V.VV.lit (Go.Value.int Go.IntKind.i64 (Int.ofNat 30)))] 3 Bool.false)])
def kE : VV := (Go.V.VV.agg [(Go.V.VV.sl [(Go.V.VV.lit (Go.Value.int Go.IntKind.i64 (Int.ofNat 6))), (Go.V.VV.lit (Go.Value.int Go.IntKind.i64 (Int.ofNat 8))), (Go.V.VV.lit (Go.Value.int Go.IntKind.i64 (Int.ofNat 4))), (Go.V.VV.lit (Go.Value.int Go.IntKind.i64 (Int.ofNat 6))), (Go.V.VV.lit (Go.Value.int Go.IntKind.i64 (Int.ofNat 8))), (Go.V.VV.lit (Go.Value.int Go.IntKind.i64 (Int.ofNat 10))), (Go.V.VV.lit (Go.Value.int Go.IntKind.i64 (Int.ofNat 2))), (Go.V.VV.lit (Go.Value.int Go.IntKind.i64 (Int.ofNat 4))), (Go.V.VV.lit (Go.Value.int Go.IntKind.i64 (Int.ofNat 6))), (Go.V.VV.lit (Go.Value.int Go.IntKind.i64 (Int.ofNat 6))), (Go.V.VV.lit (Go.Value.int Go.IntKind.i64 (Int.ofNat 5))), (Go.V.VV.lit (Go.Value.int Go.IntKind.i64 (Int.ofNat 9))), (Go.V.VV.lit (Go.Value.int Go.IntKind.i64 (Int.ofNat 8))), (Go.V.VV.lit (Go.Value.int Go.IntKind.i64 (Int.ofNat 12))), (Go.V.VV.lit (Go.Value.int Go.IntKind.i64 (Int.ofNat 4))), (Go.V.VV.lit (Go.Value.int Go.IntKind.i64 (Int.ofNat 4)))] 8 Bool.false), (Go.V.VV.sl [(Go.V.VV.lit (Go.Value.int Go.IntKind.i64 (Int.ofNat 0))), (Go.V.VV.lit (Go.Value.int Go.IntKind.i64 (Int.ofNat 1))), (Go.V.VV.lit (Go.Value.int Go.IntKind.i64 (Int.ofNat 2))), (Go.V.VV.lit (Go.Value.int Go.IntKind.i64 (Int.ofNat 3))), (Go.V.VV.lit (Go.Value.int Go.IntKind.i64 (Int.ofNat 4))), (Go.V.VV.lit (Go.Value.int Go.IntKind.i64 (Int.ofNat 5))), (Go.V.VV.lit (Go.Value.int Go.IntKind.i64 (Int.ofNat 6))), (Go.V.VV.lit (Go.Value.int Go.IntKind.i64 (Int.ofNat 7)))] 8 Bool.false), (Go.V.VV.sl [(Go.V.VV.lit (Go.Value.int Go.IntKind.i64 (Int.ofNat 9))), (Go.V.VV.lit (Go.Value.int Go.IntKind.i64 (Int.ofNat 20))), (Go.V.VV.lit (Go.Value.int Go.IntKind.i64 (Int.ofNat 10))), (Go.V.VV.lit (Go.Value.int Go.IntKind.i64 (Int.ofNat 20))), (Go.V.VV.lit (Go.Value.int Go.IntKind.i64 (Int.ofNat 8))), (Go.V.VV.lit (Go.Value.int Go.IntKind.i64 (Int.ofNat 30)))] 3 Bool.false)])
def kHolds : VV := (Go.V.VV.tup [(Go.V.VV.lit (Go.Value.bool Bool.false)), (Go.V.VV.lit (Go.Value.int Go.IntKind.i64 (Int.ofNat 0)))])
def kWord : VV := (Go.V.VV.tup [(Go.V.VV.lit (Go.Value.int Go.IntKind.i64 (Int.ofNat 1))), (Go.V.VV.lit (Go.Value.int Go.IntKind.i64 (Int.ofNat 0)))])
def kFails : VV := (Go.V.VV.tup [(Go.V.VV.lit (Go.Value.int Go.IntKind.i64 (Int.ofNat 0))), (Go.V.VV.lit (Go.Value.int Go.IntKind.i64 (Int.ofNat 2))), (Go.V.VV.lit (Go.Value.int Go.IntKind.i64 (Int.ofNat 0)))])
def kProof : VV := (Go.V.VV.tup [(Go.V.VV.sl [(Go.V.VV.lit (Go.Value.int Go.IntKind.i64 (Int.ofNat 6))), (Go.V.VV.lit (Go.Value.int Go.IntKind.i64 (Int.ofNat 5))), (Go.V.VV.lit (Go.Value.int Go.IntKind.i64 (Int.ofNat 10))), (Go.V.VV.lit (Go.Value.int Go.IntKind.i64 (Int.ofNat 2))), (Go.V.VV.lit (Go.Value.int Go.IntKind.i64 (Int.ofNat 6))), (Go.V.VV.lit (Go.Value.int Go.IntKind.i64 (Int.ofNat 5))), (Go.V.VV.lit (Go.Value.int Go.IntKind.i64 (Int.ofNat 8))), (Go.V.VV.lit (Go.Value.int Go.IntKind.i64 (Int.ofNat 4)))] 8 Bool.false), (Go.V.VV.lit (Go.Value.int Go.IntKind.i64 (Int.ofNat 0)))])
def kFirst : VV := (Go.V.VV.tup [(Go.V.VV.sl [(Go.V.VV.lit (Go.Value.int Go.IntKind.i64 (Int.ofNat 0))), (Go.V.VV.lit (Go.Value.int Go.IntKind.i64 (Int.ofNat 2))), (Go.V.VV.lit (Go.Value.int Go.IntKind.i64 (Int.ofNat 5)))] 3 Bool.false), (Go.V.VV.lit (Go.Value.int Go.IntKind.i64 (Int.ofNat 0)))])
def kCount : VV := (Go.V.VV.tup [(Go.V.VV.lit (Go.Value.int Go.IntKind.i64 (Int.ofNat 5))), (Go.V.VV.lit (Go.Value.int Go.IntKind.i64 (Int.ofNat 0)))])
def kDays : VV := (Go.V.VV.tup [(Go.V.VV.sl [(Go.V.VV.lit (Go.Value.int Go.IntKind.i64 (Int.ofNat 2))), (Go.V.VV.lit (Go.Value.int Go.IntKind.i64 (Int.ofNat 3))), (Go.V.VV.lit (Go.Value.int Go.IntKind.i64 (Int.ofNat 4)))] 3 Bool.false), (Go.V.VV.lit (Go.Value.int Go.IntKind.i64 (Int.ofNat 0)))])
def kLate : VV := (Go.V.VV.tup [(Go.V.VV.lit (Go.Value.int Go.IntKind.i64 (Int.ofNat 2))), (Go.V.VV.lit (Go.Value.int Go.IntKind.i64 (Int.ofNat 0)))])
def kQuick : VV := (Go.V.VV.tup [(Go.V.VV.lit (Go.Value.int Go.IntKind.i64 (Int.ofNat 4))), (Go.V.VV.lit (Go.Value.int Go.IntKind.i64 (Int.ofNat 0)))])
def kStuck : VV := (Go.V.VV.tup [(Go.V.VV.lit (Go.Value.int Go.IntKind.i64 (Int.ofNat 2))), (Go.V.VV.lit (Go.Value.int Go.IntKind.i64 (Int.ofNat 0)))])
def kSlack : VV := (Go.V.VV.tup [(Go.V.VV.lit (Go.Value.int Go.IntKind.i64 (Int.ofNat 2))), (Go.V.VV.lit (Go.Value.int Go.IntKind.i64 (Int.ofNat 0)))])
def kMend : VV := (Go.V.VV.tup [(Go.V.VV.sl [(Go.V.VV.lit (Go.Value.int Go.IntKind.i64 (Int.ofNat 0))), (Go.V.VV.lit (Go.Value.int Go.IntKind.i64 (Int.ofNat 2))), (Go.V.VV.lit (Go.Value.int Go.IntKind.i64 (Int.ofNat 4)))] 3 Bool.false), (Go.V.VV.lit (Go.Value.int Go.IntKind.i64 (Int.ofNat 2))), (Go.V.VV.lit (Go.Value.int Go.IntKind.i64 (Int.ofNat 0)))])
def kRead : VV := (Go.V.VV.tup [(Go.V.VV.agg [(Go.V.VV.sl [(Go.V.VV.lit (Go.Value.int Go.IntKind.i64 (Int.ofNat 1))), (Go.V.VV.lit (Go.Value.int Go.IntKind.i64 (Int.ofNat 2)))] 1 Bool.false), (Go.V.VV.sl [(Go.V.VV.lit (Go.Value.int Go.IntKind.i64 (Int.ofNat 0)))] 1 Bool.false), (Go.V.VV.sl [(Go.V.VV.lit (Go.Value.int Go.IntKind.i64 (Int.ofNat 1))), (Go.V.VV.lit (Go.Value.int Go.IntKind.i64 (Int.ofNat 3)))] 1 Bool.false)]), (Go.V.VV.lit (Go.Value.int Go.IntKind.i64 (Int.ofNat 0)))])
end Go.V
end
section
namespace Go.V
open Go Go.Proofs
theorem pA : VPure Tryz.prog G0 53 [] (.tree kA) := VPure.closedB hmix 1000 (by kernel_rfl)
theorem pB : VPure Tryz.prog G0 55 [] (.tree kB) := VPure.closedB hmix 1000 (by kernel_rfl)
theorem pE : VPure Tryz.prog G0 54 [] (.tree kE) := VPure.closedB hmix 1000 (by kernel_rfl)
theorem pHolds : VPure Tryz.prog G0 22 [kA, .sl [.lit (.int .i64 (0)), .lit (.int .i64 (3)), .lit (.int .i64 (6))] 3 false, .sl [.lit (.int .i64 (6)), .lit (.int .i64 (5)), .lit (.int .i64 (10)), .lit (.int .i64 (2)), .lit (.int .i64 (6)), .lit (.int .i64 (5)), .lit (.int .i64 (8)), .lit (.int .i64 (4))] 8 false] (.tree kHolds) := VPure.closedB hmix 1000 (by kernel_rfl)
theorem pWord : VPure Tryz.prog G0 18 [kA, .sl [.lit (.int .i64 (3)), .lit (.int .i64 (5)), .lit (.int .i64 (6))] 3 false] (.tree kWord) := VPure.closedB hmix 1000 (by kernel_rfl)
theorem pFails : VPure Tryz.prog G0 27 [kA, .sl [.lit (.int .i64 (0)), .lit (.int .i64 (3)), .lit (.int .i64 (6))] 3 false] (.tree kFails) := VPure.closedB hmix 1000 (by kernel_rfl)
end Go.V
end
section
namespace Go.V
open Go Go.Proofs
theorem pProof : VPure Tryz.prog G0 26 [kA, .sl [.lit (.int .i64 (0)), .lit (.int .i64 (3)), .lit (.int .i64 (6))] 3 false] (.tree kProof) := VPure.closedB hmix 1000 (by kernel_rfl)
end Go.V
end
section
namespace Go.V
open Go Go.Proofs
theorem pFirst : VPure Tryz.prog G0 36 [kA] (.tree kFirst) := VPure.closedB hmix 1000 (by kernel_rfl)
end Go.V
end
section
namespace Go.V
open Go Go.Proofs
theorem pCount : VPure Tryz.prog G0 37 [kE] (.tree kCount) := VPure.closedB hmix 1000 (by kernel_rfl)
end Go.V
end
section
namespace Go.V
open Go Go.Proofs
theorem pDays : VPure Tryz.prog G0 40 [kE, .lit (.int .i64 (1))] (.tree kDays) := VPure.closedB hmix 1000 (by kernel_rfl)
end Go.V
end
section
namespace Go.V
open Go Go.Proofs
theorem pLate : VPure Tryz.prog G0 41 [kE] (.tree kLate) := VPure.closedB hmix 1000 (by kernel_rfl)
end Go.V
end
section
namespace Go.V
open Go Go.Proofs
theorem pQuick : VPure Tryz.prog G0 42 [kE] (.tree kQuick) := VPure.closedB hmix 1000 (by kernel_rfl)
end Go.V
end
section
namespace Go.V
open Go Go.Proofs
theorem pStuck : VPure Tryz.prog G0 46 [kB] (.tree kStuck) := VPure.closedB hmix 1000 (by kernel_rfl)
end Go.V
end
section
namespace Go.V
open Go Go.Proofs
theorem pSlack : VPure Tryz.prog G0 56 [kB] (.tree kSlack) := VPure.closedB hmix 1000 (by kernel_rfl)
end Go.V
end
section
namespace Go.V
open Go Go.Proofs
theorem pMend : VPure Tryz.prog G0 57 [kE, .sl [.lit (.int .i64 (0)), .lit (.int .i64 (3)), .lit (.int .i64 (6))] 3 false, .lit (.int .i64 (1))] (.tree kMend) := VPure.closedB hmix 1000 (by kernel_rfl)
end Go.V
end
section
namespace Go.V
open Go Go.Proofs
theorem pRead : VPure Tryz.prog G0 49 [.lit (.string ⟨⟨[100, 97, 121, 32, 49, 32, 50, 32, 121, 101, 115, 10, 99, 111, 97, 116, 32, 49, 32, 51, 10, 101, 110, 100, 32, 49, 48, 52, 10]⟩⟩)] (.tree kRead) := VPure.closedB hmix 1000 (by kernel_rfl)
end Go.V
end
section
namespace Go.V
open Go Go.Proofs
def kTab : KTab := [
  (53, [], kA),
  (55, [], kB),
  (54, [], kE),
  (22, [kA, .sl [.lit (.int .i64 (0)), .lit (.int .i64 (3)), .lit (.int .i64 (6))] 3 false, .sl [.lit (.int .i64 (6)), .lit (.int .i64 (5)), .lit (.int .i64 (10)), .lit (.int .i64 (2)), .lit (.int .i64 (6)), .lit (.int .i64 (5)), .lit (.int .i64 (8)), .lit (.int .i64 (4))] 8 false], kHolds),
  (18, [kA, .sl [.lit (.int .i64 (3)), .lit (.int .i64 (5)), .lit (.int .i64 (6))] 3 false], kWord),
  (27, [kA, .sl [.lit (.int .i64 (0)), .lit (.int .i64 (3)), .lit (.int .i64 (6))] 3 false], kFails),
  (26, [kA, .sl [.lit (.int .i64 (0)), .lit (.int .i64 (3)), .lit (.int .i64 (6))] 3 false], kProof),
  (36, [kA], kFirst),
  (37, [kE], kCount),
  (40, [kE, .lit (.int .i64 (1))], kDays),
  (41, [kE], kLate),
  (42, [kE], kQuick),
  (46, [kB], kStuck),
  (56, [kB], kSlack),
  (57, [kE, .sl [.lit (.int .i64 (0)), .lit (.int .i64 (3)), .lit (.int .i64 (6))] 3 false, .lit (.int .i64 (1))], kMend),
  (49, [.lit (.string ⟨⟨[100, 97, 121, 32, 49, 32, 50, 32, 121, 101, 115, 10, 99, 111, 97, 116, 32, 49, 32, 51, 10, 101, 110, 100, 32, 49, 48, 52, 10]⟩⟩)], kRead)]
theorem kTabOk : KTabOk Tryz.prog G0 kTab := ⟨⟨by kernel_rfl, pA⟩, ⟨⟨by kernel_rfl, pB⟩, ⟨⟨by kernel_rfl, pE⟩, ⟨⟨by kernel_rfl, pHolds⟩, ⟨⟨by kernel_rfl, pWord⟩, ⟨⟨by kernel_rfl, pFails⟩, ⟨⟨by kernel_rfl, pProof⟩, ⟨⟨by kernel_rfl, pFirst⟩, ⟨⟨by kernel_rfl, pCount⟩, ⟨⟨by kernel_rfl, pDays⟩, ⟨⟨by kernel_rfl, pLate⟩, ⟨⟨by kernel_rfl, pQuick⟩, ⟨⟨by kernel_rfl, pStuck⟩, ⟨⟨by kernel_rfl, pSlack⟩, ⟨⟨by kernel_rfl, pMend⟩, ⟨⟨by kernel_rfl, pRead⟩, trivial⟩⟩⟩⟩⟩⟩⟩⟩⟩⟩⟩⟩⟩⟩⟩⟩
theorem pKnown : VPure Tryz.prog G0 16 [] (.tree (.lit (.bool true))) := VPure.closedT hmix kTabOk 1000 (by kernel_rfl)
#print axioms pKnown
end Go.V
end
section
namespace Go.V
open Go Go.Proofs
theorem g_law03_known_ok : VPure Tryz.prog G0 16 [] (.tree (.lit (.bool true))) := pKnown
end Go.V
end
section
namespace Go.V
open Go Go.Proofs
def g_law03_CoatWords (x0_s : GCoatSheet) (x1_a1 : List Int) : Option (Bool) := Option.bind (g_law03_short x0_s) (fun r1 => cond (r1) (cond (decide ((List.length x1_a1 : Int) > 7)) (some true) (Option.bind (g_coat_Check x0_s) (fun r2 => Option.bind (g_coat_Word x0_s x1_a1) (fun r3 => Option.bind (g_ref03_Sheet x0_s) (fun r4 => cond (r4) (cond (r2 != 0) (some false) (Option.bind (g_ref03_Plan x0_s x1_a1) (fun r5 => cond (r5) (cond (r3.2 == 0) (Option.bind (g_ref03_Word x0_s x1_a1) (fun r6 => cond (r3.1 == r6) (some true) (some false))) (some false)) (cond (r3.2 == 2) (cond (r3.1 == 0) (some true) (some false)) (some false))))) (cond (r2 == 2) (cond (r3.2 == 2) (cond (r3.1 == 0) (some true) (some false)) (some false)) (some false))))))) (some true))
theorem g_law03_CoatWords_ok (x0_s : GCoatSheet) (x1_a1 : List Int) (R : Bool) (h : g_law03_CoatWords x0_s x1_a1 = some R) : VPure Tryz.prog G0 3 [.agg (cGCoatSheet x0_s), .sl (cellsL eI x1_a1) (List.length x1_a1) false] (.tree (.lit (.bool R))) := by
 refine VPure.runR mixed Tryz.call3 Tryz.func3 rfl (by simp [Tryz.ntmps3]; kernel_rfl) ?_
 obtain ⟨KF, h, kF, kN⟩ := fun_intro h
 simp only [g_law03_CoatWords] at h
 rcases o8 : (g_law03_short x0_s) with _ | r7
 ·simp only [o8, hs, reduceCtorEq] at h
  exact absurd h kN
 simp only [o8, hs, reduceCtorEq] at h
 simp only [vz, tyf, nm, seval]
 refine ktree (args0 := [.agg (cGCoatSheet x0_s)]) (by first | (simp only [nrm, tynrm] <;> rfl) | rfl) (by simp only [tre, tytre, Bool.and_self]) (g_law03_short_ok _ _ o8) ?_
 refine fin_cut (fun tm => tm 1 = .sl (cellsL eI x1_a1) (List.length x1_a1) false ∧ tm 2 = .ptr 0 0 ∧ tm 9 = .lit (.bool r7) ∧ True) (by refine ⟨?_, ?_, ?_, trivial⟩ <;> first | (simp only [ua, nm, seval] <;> rfl) | rfl) ?_
 rintro tm ⟨e9, e10, e11, _⟩
 cases d12 : (r7)
 ·simp only [d12, hs, reduceCtorEq] at h
  simp only [vz, tyf, e9, e10, e11, d12, nm, seval]
  refine ktree (args0 := []) (by first | (simp only [nrm, tynrm] <;> rfl) | rfl) (by simp only [tre, tytre, Bool.and_self]) (g_law03_known_ok ) ?_
  try simp only [vz, tyf, e9, e10, e11, d12, nm, seval]
  obtain rfl := kF _ h
  exact opd_bool Tryz.results3 (by first | rfl | (simp only [upd_apply, seval] <;> rfl))
 simp only [d12, hs, reduceCtorEq] at h
 cases d13 : (decide ((List.length x1_a1 : Int) > 7))
 ·simp only [d13, hs, reduceCtorEq] at h
  rcases o15 : (g_coat_Check x0_s) with _ | r14
  ·simp only [o15, hs, reduceCtorEq] at h
   exact absurd h kN
  simp only [o15, hs, reduceCtorEq] at h
  simp only [vz, tyf, e9, e10, e11, d12, d13, nm, seval]
  refine ktree (args0 := [.agg (cGCoatSheet x0_s)]) (by first | (simp only [nrm, tynrm] <;> rfl) | rfl) (by simp only [tre, tytre, Bool.and_self]) (g_coat_Check_ok _ _ o15) ?_
  refine fin_cut (fun tm => tm 1 = .sl (cellsL eI x1_a1) (List.length x1_a1) false ∧ tm 2 = .ptr 0 0 ∧ tm 18 = .lit (.int .i64 r14) ∧ True) (by refine ⟨e9, e10, ?_, trivial⟩ <;> first | (simp only [ua, e9, e10, e11, d12, d13, nm, seval] <;> rfl) | rfl) ?_
  rintro tm ⟨e16, e17, e18, _⟩
  rcases o20 : (g_coat_Word x0_s x1_a1) with _ | r19
  ·simp only [o20, hs, reduceCtorEq] at h
   exact absurd h kN
  simp only [o20, hs, reduceCtorEq] at h
  simp only [vz, tyf, d12, d13, e16, e17, e18, nm, seval]
  refine ktree (args0 := [.agg (cGCoatSheet x0_s), .sl (cellsL eI x1_a1) (List.length x1_a1) false]) (by first | (simp only [nrm, tynrm] <;> rfl) | rfl) (by simp only [tre, tytre, Bool.and_self]) (g_coat_Word_ok _ _ _ o20) ?_
  refine fin_cut (fun tm => tm 1 = .sl (cellsL eI x1_a1) (List.length x1_a1) false ∧ tm 2 = .ptr 0 0 ∧ tm 5 = .lit (.int .i64 r14) ∧ tm 22 = .tup [.lit (.int .i64 r19.1), .lit (.int .i64 r19.2)] ∧ True) (by refine ⟨e16, e17, ?_, ?_, trivial⟩ <;> first | (simp only [ua, d12, d13, e16, e17, e18, nm, seval] <;> rfl) | rfl) ?_
  rintro tm ⟨e21, e22, e23, e24, _⟩
  rcases o26 : (g_ref03_Sheet x0_s) with _ | r25
  ·simp only [o26, hs, reduceCtorEq] at h
   exact absurd h kN
  simp only [o26, hs, reduceCtorEq] at h
  simp only [vz, tyf, d12, d13, e21, e22, e23, e24, nm, seval]
  refine ktree (args0 := [.agg (cGCoatSheet x0_s)]) (by first | (simp only [nrm, tynrm] <;> rfl) | rfl) (by simp only [tre, tytre, Bool.and_self]) (g_ref03_Sheet_ok _ _ o26) ?_
  refine fin_cut (fun tm => tm 1 = .sl (cellsL eI x1_a1) (List.length x1_a1) false ∧ tm 2 = .ptr 0 0 ∧ tm 5 = .lit (.int .i64 r14) ∧ tm 6 = .lit (.int .i64 r19.1) ∧ tm 7 = .lit (.int .i64 r19.2) ∧ tm 26 = .lit (.bool r25) ∧ True) (by refine ⟨e21, e22, e23, ?_, ?_, ?_, trivial⟩ <;> first | (simp only [ua, d12, d13, e21, e22, e23, e24, nm, seval] <;> rfl) | rfl) ?_
  rintro tm ⟨e27, e28, e29, e30, e31, e32, _⟩
  cases d33 : (r25)
  ·simp only [d33, hs, reduceCtorEq] at h
   cases d34 : (r14 == 2)
   ·simp only [d34, hs, reduceCtorEq] at h
    try simp only [vz, tyf, d12, d13, e27, e28, e29, e30, e31, e32, d33, d34, nm, seval]
    obtain rfl := kF _ h
    exact opd_bool Tryz.results3 (by first | rfl | (simp only [upd_apply, seval] <;> rfl))
   simp only [d34, hs, reduceCtorEq] at h
   cases d35 : (r19.2 == 2)
   ·simp only [d35, hs, reduceCtorEq] at h
    try simp only [vz, tyf, d12, d13, e27, e28, e29, e30, e31, e32, d33, d34, d35, nm, seval]
    obtain rfl := kF _ h
    exact opd_bool Tryz.results3 (by first | rfl | (simp only [upd_apply, seval] <;> rfl))
   simp only [d35, hs, reduceCtorEq] at h
   cases d36 : (r19.1 == 0)
   ·simp only [d36, hs, reduceCtorEq] at h
    try simp only [vz, tyf, d12, d13, e27, e28, e29, e30, e31, e32, d33, d34, d35, d36, nm, seval]
    obtain rfl := kF _ h
    exact opd_bool Tryz.results3 (by first | rfl | (simp only [upd_apply, seval] <;> rfl))
   simp only [d36, hs, reduceCtorEq] at h
   simp only [vz, tyf, d12, d13, e27, e28, e29, e30, e31, e32, d33, d34, d35, d36, nm, seval]
   refine ktree (args0 := []) (by first | (simp only [nrm, tynrm] <;> rfl) | rfl) (by simp only [tre, tytre, Bool.and_self]) (g_law03_known_ok ) ?_
   try simp only [vz, tyf, d12, d13, e27, e28, e29, e30, e31, e32, d33, d34, d35, d36, nm, seval]
   obtain rfl := kF _ h
   exact opd_bool Tryz.results3 (by first | rfl | (simp only [upd_apply, seval] <;> rfl))
  simp only [d33, hs, reduceCtorEq] at h
  cases d37 : (r14 != 0)
  ·simp only [d37, hs, reduceCtorEq] at h
   rcases o39 : (g_ref03_Plan x0_s x1_a1) with _ | r38
   ·simp only [o39, hs, reduceCtorEq] at h
    exact absurd h kN
   simp only [o39, hs, reduceCtorEq] at h
   simp only [vz, tyf, d12, d13, e27, e28, e29, e30, e31, e32, d33, d37, nm, seval]
   refine ktree (args0 := [.agg (cGCoatSheet x0_s), .sl (cellsL eI x1_a1) (List.length x1_a1) false]) (by first | (simp only [nrm, tynrm] <;> rfl) | rfl) (by simp only [tre, tytre, Bool.and_self]) (g_ref03_Plan_ok _ _ _ o39) ?_
   refine fin_cut (fun tm => tm 1 = .sl (cellsL eI x1_a1) (List.length x1_a1) false ∧ tm 2 = .ptr 0 0 ∧ tm 6 = .lit (.int .i64 r19.1) ∧ tm 7 = .lit (.int .i64 r19.2) ∧ tm 45 = .lit (.bool r38) ∧ True) (by refine ⟨e27, e28, e30, e31, ?_, trivial⟩ <;> first | (simp only [ua, d12, d13, e27, e28, e29, e30, e31, e32, d33, d37, nm, seval] <;> rfl) | rfl) ?_
   rintro tm ⟨e40, e41, e42, e43, e44, _⟩
   cases d45 : (r38)
   ·simp only [d45, hs, reduceCtorEq] at h
    cases d46 : (r19.2 == 2)
    ·simp only [d46, hs, reduceCtorEq] at h
     try simp only [vz, tyf, d12, d13, d33, d37, e40, e41, e42, e43, e44, d45, d46, nm, seval]
     obtain rfl := kF _ h
     exact opd_bool Tryz.results3 (by first | rfl | (simp only [upd_apply, seval] <;> rfl))
    simp only [d46, hs, reduceCtorEq] at h
    cases d47 : (r19.1 == 0)
    ·simp only [d47, hs, reduceCtorEq] at h
     have b48 := And.intro d12 (And.intro d13 (And.intro d33 (And.intro d37 (And.intro d45 (And.intro d46 d47)))))
     try simp only [vz, tyf, b48, e40, e41, e42, e43, e44, nm, seval]
     obtain rfl := kF _ h
     exact opd_bool Tryz.results3 (by first | rfl | (simp only [upd_apply, seval] <;> rfl))
    simp only [d47, hs, reduceCtorEq] at h
    have b49 := And.intro d12 (And.intro d13 (And.intro d33 (And.intro d37 (And.intro d45 (And.intro d46 d47)))))
    simp only [vz, tyf, b49, e40, e41, e42, e43, e44, nm, seval]
    refine ktree (args0 := []) (by first | (simp only [nrm, tynrm] <;> rfl) | rfl) (by simp only [tre, tytre, Bool.and_self]) (g_law03_known_ok ) ?_
    try simp only [vz, tyf, b49, e40, e41, e42, e43, e44, nm, seval]
    obtain rfl := kF _ h
    exact opd_bool Tryz.results3 (by first | rfl | (simp only [upd_apply, seval] <;> rfl))
   simp only [d45, hs, reduceCtorEq] at h
   cases d50 : (r19.2 == 0)
   ·simp only [d50, hs, reduceCtorEq] at h
    try simp only [vz, tyf, d12, d13, d33, d37, e40, e41, e42, e43, e44, d45, d50, nm, seval]
    obtain rfl := kF _ h
    exact opd_bool Tryz.results3 (by first | rfl | (simp only [upd_apply, seval] <;> rfl))
   simp only [d50, hs, reduceCtorEq] at h
   rcases o52 : (g_ref03_Word x0_s x1_a1) with _ | r51
   ·simp only [o52, hs, reduceCtorEq] at h
    exact absurd h kN
   simp only [o52, hs, reduceCtorEq] at h
   simp only [vz, tyf, d12, d13, d33, d37, e40, e41, e42, e43, e44, d45, d50, nm, seval]
   refine ktree (args0 := [.agg (cGCoatSheet x0_s), .sl (cellsL eI x1_a1) (List.length x1_a1) false]) (by first | (simp only [nrm, tynrm] <;> rfl) | rfl) (by simp only [tre, tytre, Bool.and_self]) (g_ref03_Word_ok _ _ _ o52) ?_
   refine fin_cut (fun tm => tm 58 = .lit (.bool true) ∧ tm 59 = .lit (.int .i64 r19.1) ∧ tm 62 = .lit (.int .i64 r51) ∧ True) (by refine ⟨?_, ?_, ?_, trivial⟩ <;> first | (simp only [ua, d12, d13, d33, d37, e40, e41, e42, e43, e44, d45, d50, nm, seval] <;> rfl) | rfl) ?_
   rintro tm ⟨e53, e54, e55, _⟩
   cases d56 : (r19.1 == r51)
   ·simp only [d56, hs, reduceCtorEq] at h
    have b57 := And.intro d12 (And.intro d13 (And.intro d33 (And.intro d37 (And.intro d45 (And.intro d50 d56)))))
    try simp only [vz, tyf, b57, e53, e54, e55, nm, seval]
    obtain rfl := kF _ h
    exact opd_bool Tryz.results3 (by first | rfl | (simp only [upd_apply, seval] <;> rfl))
   simp only [d56, hs, reduceCtorEq] at h
   have b58 := And.intro d12 (And.intro d13 (And.intro d33 (And.intro d37 (And.intro d45 (And.intro d50 d56)))))
   simp only [vz, tyf, b58, e53, e54, e55, nm, seval]
   refine ktree (args0 := []) (by first | (simp only [nrm, tynrm] <;> rfl) | rfl) (by simp only [tre, tytre, Bool.and_self]) (g_law03_known_ok ) ?_
   try simp only [vz, tyf, b58, e53, e54, e55, nm, seval]
   obtain rfl := kF _ h
   exact opd_bool Tryz.results3 (by first | rfl | (simp only [upd_apply, seval] <;> rfl))
  simp only [d37, hs, reduceCtorEq] at h
  try simp only [vz, tyf, d12, d13, e27, e28, e29, e30, e31, e32, d33, d37, nm, seval]
  obtain rfl := kF _ h
  exact opd_bool Tryz.results3 (by first | rfl | (simp only [upd_apply, seval] <;> rfl))
 simp only [d13, hs, reduceCtorEq] at h
 simp only [vz, tyf, e9, e10, e11, d12, d13, nm, seval]
 refine ktree (args0 := []) (by first | (simp only [nrm, tynrm] <;> rfl) | rfl) (by simp only [tre, tytre, Bool.and_self]) (g_law03_known_ok ) ?_
 try simp only [vz, tyf, e9, e10, e11, d12, d13, nm, seval]
 obtain rfl := kF _ h
 exact opd_bool Tryz.results3 (by first | rfl | (simp only [upd_apply, seval] <;> rfl))
end Go.V
end
section
namespace Go.V
open Go
theorem short_eq (s : GCoatSheet) : ∃ b, g_law03_short s = some b := ⟨_, by unfold g_law03_short; rw [csome, csome]⟩
theorem CoatWords_true (s : GCoatSheet) (p : List Int) (h : lenOk s.Dry = true ∧ lenOk s.Work = true ∧ lenOk s.Coats = true) (hp : lenOk p = true) : g_law03_CoatWords s p = some true := by
 have hs : OkS s := ⟨h.1, h.2.1, h.2.2⟩
 unfold g_law03_CoatWords
 obtain ⟨b, hb⟩ := short_eq s
 rw [hb, check_eq hs, word_eq hs hp, rSheet_eq hs, rPlan_eq hs hp]
 simp only [Option.bind_some]
 cases b with
 | false => rfl
 | true =>
 cases decide ((p.length : Int) > 7) with
 | true => rfl
 | false =>
 simp only [cond_true, cond_false]
 cases h1 : sheetB s with
 | false => rfl
 | true =>
 cases h2 : planB s p with
 | false => rfl
 | true =>
 have hv := VP.of h1 h2
 simp only [cond_true, rWord_eq hv, Option.bind_some, beq_self_eq_true]
 rfl
end Go.V
end
