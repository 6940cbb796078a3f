/- Part of a proof: a logic of values by content, lifted functions, what follows. -/
import Derived.Test.YtbpeickbdiihcaaGreatDoorYbk
import Derived.Test.YtbpeickbdiihcaaGreatDoorYbm
import Derived.Test.YtbpeickbdiihcaaGreatDoorYbi
import Derived.Test.YtbpeickbdiihcaaGreatDoorYbf
import Derived.Test.YtbpeickbdiihcaaGreatDoorYbe
set_option linter.all false
set_option maxRecDepth 4000
set_option maxHeartbeats 4000000
section
namespace Go.V
open Go
def faultO (k : Int) (o : Option Int) : Option (LOut (GSightFault × Bool) Unit) := match o with | none => some (.go ()) | some i => some (.ret (⟨k, i⟩, true))
section
variable (v : Gsightview) (hp : PG v.board.At v.SightPlace) (hw : PW v.power)
include hp hw
theorem ff_l0 : ∀ (p : List GSightBlock) (c : Int), (∀ k ∈ p, BK k) → g_sight_view_firstFault_l0 v p c = faultO 1 (fnd (behB v.board.At v.SightPlace) p c)
 | [], _, _ => rfl
 | e :: p, c, h => by
  simp only [g_sight_view_firstFault_l0, isBehind_eq v e hp (h e (List.mem_cons_self ..)), Option.bind_some, g_sight_must, fnd]
  cases behB v.board.At v.SightPlace e with
  | true => rfl
  | false => exact ff_l0 p (c + 1) (fun k hk => h k (List.mem_cons_of_mem _ hk))
theorem ff_l1 : ∀ (p : List GSightLetter) (c : Int), 0 ≤ c → v.board.Letters.drop c.toNat = p → (∀ l ∈ p, BL l) → g_sight_view_firstFault_l1 v p c = faultO 2 (fnd (fun l => !tallB v.power v.board.At v.SightPlace l) p c)
 | [], _, _, _, _ => rfl
 | e :: p, c, h0, hd, h => by
  simp only [g_sight_view_firstFault_l1, isTall_eq v c e hp hw (h e (List.mem_cons_self ..)) (getI_of_drop h0 hd), Option.bind_some, g_sight_must, fnd]
  cases tallB v.power v.board.At v.SightPlace e with
  | false => rfl
  | true => exact ff_l1 p (c + 1) (by omega) (drop_next h0 hd) (fun k hk => h k (List.mem_cons_of_mem _ hk))
theorem ff_l2 : ∀ (p : List GSightLetter) (c : Int), 0 ≤ c → v.board.Letters.drop c.toNat = p → (∀ l ∈ p, BL l) → g_sight_view_firstFault_l2 v p c = faultO 3 (fnd (fun l => !broadB v.power v.board.At v.SightPlace l) p c)
 | [], _, _, _, _ => rfl
 | e :: p, c, h0, hd, h => by
  simp only [g_sight_view_firstFault_l2, isBroad_eq v c e hp hw (h e (List.mem_cons_self ..)) (getI_of_drop h0 hd), Option.bind_some, g_sight_must, fnd]
  cases broadB v.power v.board.At v.SightPlace e with
  | false => rfl
  | true => exact ff_l2 p (c + 1) (by omega) (drop_next h0 hd) (fun k hk => h k (List.mem_cons_of_mem _ hk))
theorem ff_l3 : ∀ (p : List GSightLetter) (c : Int), 0 ≤ c → v.board.Letters.drop c.toNat = p → (∀ l ∈ p, BL l) → g_sight_view_firstFault_l3 v p c = faultO 4 (fnd (fun l => !thickB v.power v.board.At v.SightPlace l) p c)
 | [], _, _, _, _ => rfl
 | e :: p, c, h0, hd, h => by
  simp only [g_sight_view_firstFault_l3, isThick_eq v c e hp hw (h e (List.mem_cons_self ..)) (getI_of_drop h0 hd), Option.bind_some, g_sight_must, fnd]
  cases thickB v.power v.board.At v.SightPlace e with
  | false => rfl
  | true => exact ff_l3 p (c + 1) (by omega) (drop_next h0 hd) (fun k hk => h k (List.mem_cons_of_mem _ hk))
theorem ff_l4 : ∀ (k : Nat) (c : Int), 0 ≤ c → c + k ≤ v.board.Letters.length → (∀ l ∈ v.board.Letters, BL l) → g_sight_view_firstFault_l4 v k c = faultO 5 (fnd (fun l => !apartB v.power v.board.At v.SightPlace l) ((v.board.Letters.drop c.toNat).take k) c)
 | 0, _, _, _, _ => by simp only [g_sight_view_firstFault_l4, List.take_zero, fnd, faultO]
 | k + 1, c, h0, hk, h => by
  obtain ⟨e, he, hm⟩ := getI_some (xs := v.board.Letters) (i := c) h0 (by omega)
  have hd := (getI_drop he).2.2
  have hn : c.toNat + 1 = (c + 1).toNat := by omega
  rw [hd, List.take_succ_cons]
  simp only [g_sight_view_firstFault_l4, isApart_eq v c e hp hw (h e hm) he, Option.bind_some, g_sight_must, fnd, hn]
  cases apartB v.power v.board.At v.SightPlace e with
  | false => rfl
  | true => exact ff_l4 k (c + 1) (by omega) (by omega) h
end
def whyF (w a : Int) (p : GSightPlace) (ks : List GSightBlock) (ls : List GSightLetter) : Option GSightFault :=
 match fnd (behB a p) ks 0 with
 | some i => some ⟨1, i⟩
 | none => match fnd (fun l => !tallB w a p l) ls 0 with
  | some i => some ⟨2, i⟩
  | none => match fnd (fun l => !broadB w a p l) ls 0 with
   | some i => some ⟨3, i⟩
   | none => match fnd (fun l => !thickB w a p l) ls 0 with
    | some i => some ⟨4, i⟩
    | none => match fnd (fun l => !apartB w a p l) (ls.take (ls.length - 1)) 0 with
     | some i => some ⟨5, i⟩
     | none => none
def whyP (o : Option GSightFault) : GSightFault × Bool := match o with | some f => (f, true) | none => (⟨0, 0⟩, false)
theorem firstFault_eq (v : Gsightview) (hp : PG v.board.At v.SightPlace) (hw : PW v.power) (hl : ∀ l ∈ v.board.Letters, BL l) (hn : 1 ≤ v.board.Letters.length) (hn2 : v.board.Letters.length ≤ 5) (hk : ∀ k ∈ v.SightStreet.Blocks, BK k) (hb : v.SightStreet.Blocks.length ≤ 4) :
  g_sight_view_firstFault v = some (whyP (whyF v.power v.board.At v.SightPlace v.SightStreet.Blocks v.board.Letters)) := by
 have l1 : lenOk v.SightStreet.Blocks = true := lenOk_of (by omega)
 have l2 : lenOk v.board.Letters = true := lenOk_of (by omega)
 have w1 : IntKind.i64.wrap ((v.board.Letters.length : Int) - 1) = (v.board.Letters.length : Int) - 1 := wrap_eq (by omega) (by omega)
 have b1 : boundOk ((v.board.Letters.length : Int) - 1) = true := by unfold boundOk; exact decide_eq_true (by omega)
 have t1 : (((v.board.Letters.length : Int) - 1) - 0).toNat = v.board.Letters.length - 1 := by omega
 simp only [g_sight_view_firstFault, l1, l2, cond_true, ff_l0 v hp hw _ _ hk, ff_l1 v hp hw v.board.Letters 0 (by omega) rfl hl, ff_l2 v hp hw v.board.Letters 0 (by omega) rfl hl, ff_l3 v hp hw v.board.Letters 0 (by omega) rfl hl, w1, b1, t1, ff_l4 v hp hw (v.board.Letters.length - 1) 0 (by omega) (by omega) hl, whyF]
 cases fnd (behB v.board.At v.SightPlace) v.SightStreet.Blocks 0 with
 | some i => rfl
 | none =>
  simp only [faultO, lbind_go]
  cases fnd (fun l => !tallB v.power v.board.At v.SightPlace l) v.board.Letters 0 with
  | some i => rfl
  | none =>
   simp only [lbind_go]
   cases fnd (fun l => !broadB v.power v.board.At v.SightPlace l) v.board.Letters 0 with
   | some i => rfl
   | none =>
    simp only [lbind_go]
    cases fnd (fun l => !thickB v.power v.board.At v.SightPlace l) v.board.Letters 0 with
    | some i => rfl
    | none =>
     simp only [lbind_go]
     have e : List.drop (Int.toNat 0) v.board.Letters = v.board.Letters := rfl
     rw [e]
     cases fnd (fun l => !apartB v.power v.board.At v.SightPlace l) (v.board.Letters.take (v.board.Letters.length - 1)) 0 with
     | some i => rfl
     | none => rfl
def clearB (w a : Int) (p : GSightPlace) : List GSightLetter → Bool
 | [] => true
 | [e] => legB w a p e
 | e :: e' :: ls => legB w a p e && (apartB w a p e && clearB w a p (e' :: ls))
theorem clear_iff {w a : Int} {p : GSightPlace} : ∀ (ls : List GSightLetter), clearB w a p ls = true ↔ (∀ l ∈ ls, legB w a p l = true) ∧ ∀ l ∈ ls.take (ls.length - 1), apartB w a p l = true
 | [] => by simp [clearB]
 | [e] => by simp [clearB]
 | e :: e' :: ls => by
  have ih := clear_iff (w := w) (a := a) (p := p) (e' :: ls)
  have ht : (e :: e' :: ls).take ((e :: e' :: ls).length - 1) = e :: (e' :: ls).take ((e' :: ls).length - 1) := by simp
  rw [ht]
  unfold clearB
  rw [Bool.and_eq_true, Bool.and_eq_true, ih]
  constructor
  ·rintro ⟨h1, h2, h3, h4⟩
   constructor
   ·intro l hl
    rcases List.mem_cons.1 hl with rfl | hl
    ·exact h1
    ·exact h3 l hl
   ·intro l hl
    rcases List.mem_cons.1 hl with rfl | hl
    ·exact h2
    ·exact h4 l hl
  ·rintro ⟨h1, h2⟩
   exact ⟨h1 e (List.mem_cons_self ..), h2 e (List.mem_cons_self ..), fun l hl => h1 l (List.mem_cons_of_mem _ hl), fun l hl => h2 l (List.mem_cons_of_mem _ hl)⟩
theorem leg_iff {w a : Int} {p : GSightPlace} {l : GSightLetter} : legB w a p l = true ↔ tallB w a p l = true ∧ broadB w a p l = true ∧ thickB w a p l = true := by
 simp [legB]
theorem why_none {w a : Int} {p : GSightPlace} {ks : List GSightBlock} {ls : List GSightLetter} : whyF w a p ks ls = none ↔ (∀ k ∈ ks, behB a p k = false) ∧ clearB w a p ls = true := by
 rw [clear_iff]
 unfold whyF
 cases h0 : fnd (behB a p) ks 0 with
 | some i =>
  simp only [reduceCtorEq, false_iff, not_and]
  intro h
  rw [(fnd_none ks 0).2 h] at h0; cases h0
 | none =>
  have g0 := (fnd_none ks 0).1 h0
  cases h1 : fnd (fun l => !tallB w a p l) ls 0 with
  | some i =>
   simp only [reduceCtorEq, false_iff, not_and]
   intro _ h
   rw [(fnd_none ls 0).2 (fun l hl => by simp [(leg_iff.1 (h l hl)).1])] at h1; cases h1
  | none =>
   have g1 := (fnd_none ls 0).1 h1
   cases h2 : fnd (fun l => !broadB w a p l) ls 0 with
   | some i =>
    simp only [reduceCtorEq, false_iff, not_and]
    intro _ h
    rw [(fnd_none ls 0).2 (fun l hl => by simp [(leg_iff.1 (h l hl)).2.1])] at h2; cases h2
   | none =>
    have g2 := (fnd_none ls 0).1 h2
    cases h3 : fnd (fun l => !thickB w a p l) ls 0 with
    | some i =>
     simp only [reduceCtorEq, false_iff, not_and]
     intro _ h
     rw [(fnd_none ls 0).2 (fun l hl => by simp [(leg_iff.1 (h l hl)).2.2])] at h3; cases h3
    | none =>
     have g3 := (fnd_none ls 0).1 h3
     cases h4 : fnd (fun l => !apartB w a p l) (ls.take (ls.length - 1)) 0 with
     | some i =>
      simp only [reduceCtorEq, false_iff, not_and]
      intro _ _ h
      rw [(fnd_none _ 0).2 (fun l hl => by simp [h l hl])] at h4; cases h4
     | none =>
      have g4 := (fnd_none _ 0).1 h4
      simp only [true_iff]
      exact ⟨g0, fun l hl => leg_iff.2 ⟨by simpa using g1 l hl, by simpa using g2 l hl, by simpa using g3 l hl⟩, fun l hl => by simpa using g4 l hl⟩
def readB (w a : Int) (p : GSightPlace) (ks : List GSightBlock) (ls : List GSightLetter) : Bool := clearB w a p ls && ks.all (fun k => !behB a p k)
theorem isRead_eq (v : Gsightview) (hp : PG v.board.At v.SightPlace) (hw : PW v.power) (hl : ∀ l ∈ v.board.Letters, BL l) (hn : 1 ≤ v.board.Letters.length) (hn2 : v.board.Letters.length ≤ 5) (hk : ∀ k ∈ v.SightStreet.Blocks, BK k) (hb : v.SightStreet.Blocks.length ≤ 4) :
  g_sight_view_isRead v = some (readB v.power v.board.At v.SightPlace v.SightStreet.Blocks v.board.Letters) := by
 simp only [g_sight_view_isRead, firstFault_eq v hp hw hl hn hn2 hk hb, Option.bind_some, Option.some.injEq]
 cases h : whyF v.power v.board.At v.SightPlace v.SightStreet.Blocks v.board.Letters with
 | none =>
  have := why_none.1 h
  symm
  simp only [whyP, readB, this.2, Bool.true_and, Bool.not_false, List.all_eq_true]
  intro k hk; simp [this.1 k hk]
 | some f =>
  have hne : ¬ ((∀ k ∈ v.SightStreet.Blocks, behB v.board.At v.SightPlace k = false) ∧ clearB v.power v.board.At v.SightPlace v.board.Letters = true) := by
   rw [← why_none, h]; simp
  simp only [whyP, readB, Bool.not_true]
  symm
  rw [Bool.eq_false_iff]
  intro hr
  rw [Bool.and_eq_true, List.all_eq_true] at hr
  exact hne ⟨fun k hk => by simpa using hr.2 k hk, hr.1⟩
def hids {α : Type} (f : α → Bool) : List α → Int → List Int
 | [], _ => []
 | e :: p, i => cond (f e) (i :: hids f p (i + 1)) (hids f p (i + 1))
theorem hids_len {α : Type} {f : α → Bool} : ∀ (p : List α) (i : Int), (hids f p i).length ≤ p.length
 | [], _ => Nat.le_refl _
 | e :: p, i => by
  unfold hids
  have := hids_len (f := f) p (i + 1)
  cases f e <;> simp <;> omega
theorem hids_fnd {α : Type} {f : α → Bool} : ∀ (p : List α) (i : Int), (hids f p i)[0]? = fnd f p i
 | [], _ => rfl
 | e :: p, i => by
  unfold hids fnd
  cases f e
  ·exact hids_fnd p (i + 1)
  ·rfl
theorem hids_nil {α : Type} {f : α → Bool} (p : List α) (i : Int) : hids f p i = [] ↔ ∀ x ∈ p, f x = false := by
 rw [← fnd_none p i, ← hids_fnd]
 cases hids f p i <;> simp
theorem room_small {n : Nat} (b : Nat) (h : n ≤ 1000) (hb : b ≤ 100) : roomOk b n = true := by
 unfold roomOk
 refine decide_eq_true ?_
 have : n * b ≤ 1000 * 100 := Nat.mul_le_mul h hb
 omega
theorem refHidden_l0_eq (b : GSightBoard) (p : GSightPlace) (hp : PG b.At p) : ∀ (ks : List GSightBlock) (i : Int) (acc : List Int), (∀ k ∈ ks, BK k) → acc.length + ks.length ≤ 100 → g_ref02_Hidden_l0 b p ks i acc = some (.go (acc ++ hids (behB b.At p) ks i))
 | [], _, acc, _, _ => by simp [g_ref02_Hidden_l0, hids]
 | e :: ks, i, acc, h, hl => by
  have hk := refHidden_l0_eq b p hp ks
  simp only [List.length_cons] at hl
  simp only [g_ref02_Hidden_l0, refBlocks_eq e b.At p hp (h e (List.mem_cons_self ..)), Option.bind_some, hids]
  have ht : ∀ k ∈ ks, BK k := fun k hk => h k (List.mem_cons_of_mem _ hk)
  cases behB b.At p e with
  | true =>
   rw [room_small 8 (by simp; omega) (by omega)]
   simp only [cond_true]
   rw [hk (i + 1) (acc ++ [i]) ht (by simp; omega)]
   simp
  | false => exact hk (i + 1) acc ht (by omega)
theorem refHidden_eq (s : GSightStreet) (b : GSightBoard) (p : GSightPlace) (hp : PG b.At p) (hk : ∀ k ∈ s.Blocks, BK k) (hb : s.Blocks.length ≤ 4) : g_ref02_Hidden s b p = some (hids (behB b.At p) s.Blocks 0) := by
 have l1 : lenOk s.Blocks = true := lenOk_of (by omega)
 simp only [g_ref02_Hidden, l1, cond_true, refHidden_l0_eq b p hp s.Blocks 0 [] hk (by simp; omega), lbind_go, List.nil_append]
theorem faultK_zero {w a : Int} {p : GSightPlace} {l : GSightLetter} : (faultK w a p l != 0) = !legB w a p l := by
 unfold faultK legB
 cases tallB w a p l <;> cases broadB w a p l <;> cases thickB w a p l <;> rfl
theorem refClear_l0_eq (b : GSightBoard) (p : GSightPlace) (w : Int) (hp : PG b.At p) (hw : PW w) (hn2 : b.Letters.length ≤ 5) : ∀ (ls : List GSightLetter) (c : Int), 0 ≤ c → b.Letters.drop c.toNat = ls → (∀ l ∈ ls, BL l) → g_ref02_Clear_l0 b p w ls c = goB (clearB w b.At p ls)
 | [], _, _, _, _ => rfl
 | [e], c, h0, hd, h => by
  have hx := drop_next h0 hd
  have : decide (c + 1 < (b.Letters.length : Int)) = false := not_lt_of_drop (by omega) hx
  simp only [g_ref02_Clear_l0, refFault_eq e b.At p w hp hw (h e (List.mem_cons_self ..)), Option.bind_some, faultK_zero, this, cond_false, clearB, cnot, goB]
 | e :: e' :: ls, c, h0, hd, h => by
  have hx := drop_next h0 hd
  have : decide (c + 1 < (b.Letters.length : Int)) = true := lt_of_drop (by omega) hx
  have ih := refClear_l0_eq b p w hp hw hn2 (e' :: ls) (c + 1) (by omega) hx (fun l hl => h l (List.mem_cons_of_mem _ hl))
  have he := h e (List.mem_cons_self ..)
  unfold g_ref02_Clear_l0 clearB
  simp only [refFault_eq e b.At p w hp hw he, refMelts_eq e b.At p w hp hw he, Option.bind_some, faultK_zero, this, cond_true, ih, goB_and, cnot]
theorem refClear_eq (b : GSightBoard) (p : GSightPlace) (w : Int) (hp : PG b.At p) (hw : PW w) (hl : ∀ l ∈ b.Letters, BL l) (hn2 : b.Letters.length ≤ 5) : g_ref02_Clear b p w = some (clearB w b.At p b.Letters) := by
 have l2 : lenOk b.Letters = true := lenOk_of (by omega)
 simp only [g_ref02_Clear, l2, cond_true, refClear_l0_eq b p w hp hw hn2 b.Letters 0 (by omega) rfl hl, goB_lbind]
 cases clearB w b.At p b.Letters <;> rfl
theorem hids_beq {α : Type} {f : α → Bool} (p : List α) (i : Int) : (((hids f p i).length : Int) == 0) = p.all (fun x => !f x) := by
 by_cases h : hids f p i = []
 ·have := (hids_nil p i).1 h
  rw [h]
  symm
  simp only [List.length_nil]
  rw [show (((0 : Nat) : Int) == 0) = true from rfl, List.all_eq_true]
  intro x hx; simp [this x hx]
 ·have hl : (hids f p i).length ≠ 0 := fun hh => h (List.length_eq_zero_iff.1 hh)
  have : (((hids f p i).length : Int) == 0) = false := by simp only [beq_eq_false_iff_ne, ne_eq]; omega
  rw [this]
  symm
  rw [Bool.eq_false_iff]
  intro ha
  rw [List.all_eq_true] at ha
  exact h ((hids_nil p i).2 (fun x hx => by simpa using ha x hx))
theorem mayhids {f : GSightBlock → Bool} (ks : List GSightBlock) : ∀ (p : List GSightBlock) (i c : Int) (s : GSightStreet), s.Blocks = ks → 0 ≤ i → ks.drop i.toNat = p → g_ref02_May_l0 s (hids f p i) c = goB (p.all (fun k => !(f k && k.Sure)))
 | [], _, _, _, _, _, _ => rfl
 | e :: p, i, c, s, hs, h0, hd => by
  have ih := mayhids (f := f) ks p (i + 1)
  have hx := drop_next h0 hd
  unfold hids
  rw [List.all_cons, goB_and]
  cases hf : f e with
  | false =>
   simp only [cond_false, Bool.false_and, Bool.not_false, cond_true]
   exact ih c s hs (by omega) hx
  | true =>
   simp only [cond_true, Bool.true_and, g_ref02_May_l0, hs, getI_of_drop h0 hd, Option.bind_some, cnot]
   rw [ih (c + 1) s hs (by omega) hx]
theorem goods {s : GSightStreet} {b : GSightBoard} {p : GSightPlace} (h : Good s b p) : PG b.At p ∧ (∀ l ∈ b.Letters, BL l) ∧ (∀ k ∈ s.Blocks, BK k) ∧ PW (s.Eye.Low * s.Light.Low) ∧ PW (s.Eye.High * s.Light.High) := by
 refine ⟨⟨h.a0, h.a1, h.p0, h.p1, h.q0, h.q1⟩, ?_, h.blks, ?_, ?_⟩
 ·intro l hl
  have := h.lets l hl
  simp only [letterB, Bool.and_eq_true, inB_iff] at this
  unfold BL; omega
 ·have h1 := h.el; have h2 := h.em; have h3 := h.eh; have h4 := h.ll; have h5 := h.lm; have h6 := h.lh
  exact mulR (a := s.Eye.Low) (A := 40) (b := s.Light.Low) (B := 100) (by omega) (by omega) (by omega) (by omega)
 ·have h1 := h.el; have h2 := h.em; have h3 := h.eh; have h4 := h.ll; have h5 := h.lm; have h6 := h.lh
  exact mulR (a := s.Eye.High) (A := 40) (b := s.Light.High) (B := 100) (by omega) (by omega) (by omega) (by omega)
theorem pw_wrap {w : Int} (h : PW w) : IntKind.i64.wrap w = w := wrap_eq (by unfold PW at h; omega) (by unfold PW at h; omega)
def sureB (s : GSightStreet) (b : GSightBoard) (p : GSightPlace) : Bool := clearB (s.Eye.Low * s.Light.Low) b.At p b.Letters && s.Blocks.all (fun k => !behB b.At p k)
def mayB (s : GSightStreet) (b : GSightBoard) (p : GSightPlace) : Bool := clearB (s.Eye.High * s.Light.High) b.At p b.Letters && s.Blocks.all (fun k => !(behB b.At p k && k.Sure))
def seenI (s : GSightStreet) (b : GSightBoard) (p : GSightPlace) : Int := cond (sureB s b p) 3 (cond (mayB s b p) 2 1)
theorem refSeen_eq (s : GSightStreet) (b : GSightBoard) (p : GSightPlace) (h : Good s b p) : g_ref02_Seen s b p = some (seenI s b p) := by
 obtain ⟨hp, hl, hk, w1, w2⟩ := goods h
 have hb := h.nb
 have hh := refHidden_eq s b p hp hk hb
 have l1 : lenOk (hids (behB b.At p) s.Blocks 0) = true := lenOk_of (by have := hids_len (f := behB b.At p) s.Blocks 0; omega)
 have hm := mayhids (f := behB b.At p) s.Blocks s.Blocks 0 0 s rfl (by omega) rfl
 simp only [g_ref02_Seen, g_ref02_Surely, g_ref02_May, g_ref02_word, pw_wrap w1, pw_wrap w2, refClear_eq b p _ hp w1 hl h.n5, refClear_eq b p _ hp w2 hl h.n5, hh, Option.bind_some, hids_beq, csome, l1, cond_true, hm, goB_lbind, seenI, sureB, mayB]
 cases clearB (s.Eye.Low * s.Light.Low) b.At p b.Letters <;> cases s.Blocks.all (fun k => !behB b.At p k) <;> cases s.Blocks.all (fun k => !(behB b.At p k && k.Sure)) <;> cases clearB (s.Eye.High * s.Light.High) b.At p b.Letters <;> rfl
theorem atBest_l0_eq : ∀ (ks : List GSightBlock) (i : Int) (acc : List GSightBlock), acc.length + ks.length ≤ 100 → g_sight_atBest_l0 ks i acc = some (.go (acc ++ ks.filter (fun k => k.Sure)))
 | [], _, acc, _ => by simp [g_sight_atBest_l0]
 | e :: ks, i, acc, hl => by
  simp only [List.length_cons] at hl
  simp only [g_sight_atBest_l0, List.filter_cons]
  cases e.Sure with
  | true =>
   rw [room_small 40 (by simp; omega) (by omega)]
   simp only [cond_true, if_pos]
   rw [atBest_l0_eq ks (i + 1) (acc ++ [e]) (by simp; omega)]
   simp
  | false => exact atBest_l0_eq ks (i + 1) acc (by omega)
theorem filter_len {ks : List GSightBlock} : (ks.filter (fun k => k.Sure)).length ≤ ks.length := List.length_filter_le ..
theorem seen_eq (s : GSightStreet) (b : GSightBoard) (p : GSightPlace) (h : Good s b p) : g_sight_seen s b p = some (seenI s b p) := by
 obtain ⟨hp, hl, hk, w1, w2⟩ := goods h
 have hb := h.nb
 have l1 : lenOk s.Blocks = true := lenOk_of (by omega)
 have r1 := isRead_eq ⟨s, p, b, s.Eye.Low * s.Light.Low⟩ hp w1 hl h.n1 h.n5 hk hb
 have r2 := isRead_eq ⟨⟨s.Length, s.Width, s.Eye, s.Light, s.Boards, s.Blocks.filter (fun k => k.Sure)⟩, p, b, s.Eye.High * s.Light.High⟩ hp w2 hl h.n1 h.n5 (fun k hk' => hk k (List.mem_filter.1 hk').1) (Nat.le_trans filter_len hb)
 simp only [readB] at r1 r2
 have e : (s.Blocks.filter (fun k => k.Sure)).all (fun k => !behB b.At p k) = s.Blocks.all (fun k => !(behB b.At p k && k.Sure)) := by
  rw [List.all_filter]
  congr 1
  funext k
  cases behB b.At p k <;> cases k.Sure <;> rfl
 rw [e] at r2
 simp only [g_sight_seen, g_sight_isSurelyRead, g_sight_atWorst, g_sight_atBest, pw_wrap w1, pw_wrap w2, l1, cond_true, atBest_l0_eq s.Blocks 0 [] (by simp; omega), List.nil_append, lbind_go, Option.bind_some, r1, r2, seenI, sureB, mayB]
 cases (clearB (s.Eye.Low * s.Light.Low) b.At p b.Letters && s.Blocks.all (fun k => !behB b.At p k)) <;> cases (clearB (s.Eye.High * s.Light.High) b.At p b.Letters && s.Blocks.all (fun k => !(behB b.At p k && k.Sure))) <;> rfl
end Go.V
end
section
namespace Go.V
open Go
end Go.V
end
section
set_option linter.unusedVariables false
set_option linter.defProp false
namespace Go.V
open Go
section
variable {P : Program} {G : Glob} {n : Nat} {x : Code} {Q : VExit → St → Prop} {st : St}
end
end Go.V
end
section
namespace Go.V
open Go Go.Proofs
end Go.V
end
section
namespace Go.V
open Go Go.Proofs
end Go.V
end
section
namespace Go.V
open Go Go.Proofs
end Go.V
end
section
namespace Go.V
open Go Go.Proofs
end Go.V
end
section
namespace Go.V
open Go Go.Proofs
end Go.V
end
section
namespace Go.V
open Go Go.Proofs
end Go.V
end
section
namespace Go.V
open Go Go.Proofs
end Go.V
end
section
namespace Go.V
open Go Go.Proofs
end Go.V
end
section
namespace Go.V
open Go
def Fair (s : GSightStreet) (b : GSightBoard) (p : GSightPlace) : Prop := PG b.At p ∧ PW (s.Eye.Low * s.Light.Low) ∧ (∀ l ∈ b.Letters, BL l) ∧ 1 ≤ b.Letters.length ∧ b.Letters.length ≤ 5 ∧ (∀ k ∈ s.Blocks, BK k) ∧ s.Blocks.length ≤ 4
theorem fair_good {s : GSightStreet} {b : GSightBoard} {p : GSightPlace} (h : Good s b p) : Fair s b p := by
 obtain ⟨hp, hl, hk, w1, _⟩ := goods h
 exact ⟨hp, w1, hl, h.n1, h.n5, hk, h.nb⟩
theorem surely_eq {s : GSightStreet} {b : GSightBoard} {p : GSightPlace} (h : Fair s b p) : g_sight_isSurelyRead s b p = some (sureB s b p) := by
 obtain ⟨hp, w1, hl, n1, n5, hk, nb⟩ := h
 have r1 := isRead_eq ⟨s, p, b, s.Eye.Low * s.Light.Low⟩ hp w1 hl n1 n5 hk nb
 simp only [g_sight_isSurelyRead, g_sight_atWorst, pw_wrap w1, Option.bind_some, r1, readB, sureB]
theorem refSurely_eq {s : GSightStreet} {b : GSightBoard} {p : GSightPlace} (h : Fair s b p) : g_ref02_Surely s b p = some (sureB s b p) := by
 obtain ⟨hp, w1, hl, n1, n5, hk, nb⟩ := h
 simp only [g_ref02_Surely, pw_wrap w1, refClear_eq b p _ hp w1 hl n5, refHidden_eq s b p hp hk nb, Option.bind_some, hids_beq, csome, sureB]
end Go.V
end
section
set_option linter.unusedVariables false
set_option linter.unusedSimpArgs false
set_option linter.defProp false
namespace Go.V
open Go
section
variable {P : Program} {G : Glob} {n : Nat} {Q : VExit → St → Prop} {tm : Nat → VV} {H : Nat → Option VObj} {nx : Nat} {df : List VDef} {g : Operand} {ps : Array Tmp} {az bo : Code} {f : FuncId} {first captured : List VV}
theorem range_open (hg : ev (G.at (some none)) tm g = .fn (.func f) first captured)
  (h : ∀ LO, LO = VObj.loop .ready none (tmL n tm) ps az bo nx → VOpen P (G.at (some none)) f (first ++ [.yl (nx + 1)] ++ captured) (updH (updH H nx (.deferred (some []))) (nx + 1) LO) (nx + 2)
   (fun _ H' nx' => RangeEnd P (G.at (some none)) n Q ⟨tm, H, nx, df⟩ H' nx') (fun x H' nx' => Q (.panic x) ⟨tm, H', nx', .coll nx :: df⟩)) : CWp P (G.at (some none)) n (.rangeFunc g ps az bo) Q ⟨tm, H, nx, df⟩ := by
 unfold CWp
 refine ⟨rfl, ?_⟩
 rw [show St.ρ (G.at (some none)) ⟨tm, H, nx, df⟩ g = ev (G.at (some none)) tm g from ev_eq .. ▸ rfl, hg]
 exact h _ rfl
theorem rangeEnd_go {H' : Nat → Option VObj} {nx' : Nat} {LO : VObj} {tml : List VV} {d : Nat} (hL : LO = VObj.loop .ready none tml ps az bo d) (h : H' (nx + 1) = some LO) (hq : ∀ LX, Q .normal ⟨tm, updH H' (nx + 1) LX, nx', .coll nx :: df⟩) : RangeEnd P G n Q ⟨tm, H, nx, df⟩ H' nx' :=
 ⟨.ready, none, tml, ps, az, bo, d, by rw [h, hL], by simp, hq _⟩
def RndEnd (β : Nat) (LB LO : VObj) (LD : Code → VObj) (o : Oper) (st : St) (K : St → Prop) : VExit → St → Prop
 | .normal, s2 => s2.H β = some LB ∧ K { st.put o.dst (.lit (.bool true)) with H := updH s2.H β LO, nx := s2.nx }
 | .ret, s2 => s2.H β = some LB ∧ K { st.put o.dst (.lit (.bool false)) with H := updH s2.H β (LD .ret), nx := s2.nx }
 | .exit id, s2 => s2.H β = some LB ∧ K { st.put o.dst (.lit (.bool false)) with H := updH s2.H β (LD (.exit id)), nx := s2.nx }
 | _, _ => False
def RndAs (P : Program) (G : Glob) (n β : Nat) (LB LO : VObj) (LD : Code → VObj) (bo : Code) (o : Oper) (st : St) (K : St → Prop) : VExit → St → Prop
 | .normal, s1 => s1.H β = some LO ∧ CWp P (G.at (some (some β))) n bo (RndEnd β LB LO LD o st K) { s1 with H := updH s1.H β LB }
 | _, _ => False
theorem yield_open (hm : P.follows .mixedOrders = true) {o : Oper} {β : Nat} {args : List VV} {st : St} {K : St → Prop} {LO : VObj} {tml : List VV} {d : Nat} {psl : List Tmp} (hL : LO = VObj.loop .ready none tml ⟨psl⟩ az bo d) (hβ : st.H β = some LO) (hn : tml.length = n) (ha : args.length = psl.length)
  (h1 : codeOk n az = true) (h2 : codeOk n bo = true)
  (h : ∀ LB LD, LB = VObj.loop .busy none tml ⟨psl⟩ az bo d → LD = (fun c => VObj.loop .done (some c) tml ⟨psl⟩ az bo d) →
   CWp P (G.at (some (some β))) n az (RndAs P G n β LB LO LD bo o st K) ⟨argsTm (roundTm tml psl args), st.H, st.nx, []⟩) : yieldK P G o β args st K := by
 unfold yieldK
 rw [hβ, hL]
 subst hn
 refine ⟨ha, (CWp_sound hm az _ _ h1 (h _ _ rfl rfl)).mono ?_⟩
 intro e s1 hs
 cases e with
 | normal =>
  obtain ⟨q1, q2⟩ := hs
  refine ⟨none, tml, ⟨psl⟩, az, bo, d, by rw [q1, hL], (CWp_sound hm bo _ _ h2 q2).mono ?_⟩
  intro e s2 hs2
  cases e with
  | normal =>
   obtain ⟨r1, r2⟩ := hs2
   refine ⟨_, _, _, _, _, _, _, r1, ?_⟩
   rw [hL] at r2
   exact r2
  | ret =>
   obtain ⟨r1, r2⟩ := hs2
   exact ⟨_, _, _, _, _, _, _, r1, r2⟩
  | exit id =>
   obtain ⟨r1, r2⟩ := hs2
   exact ⟨_, _, _, _, _, _, _, r1, r2⟩
  | goto l => exact hs2.elim
  | panic x => exact hs2.elim
 | _ => exact hs.elim
theorem rnd_normal {β : Nat} {LB LO : VObj} {LD : Code → VObj} {d : Option Tmp} {op : Op} {ty : TypeId} {pos : String} {af : Array Edge} {gd : Option (Nat × Bool)} {K : St → Prop} {tm2 : Nat → VV} {H2 : Nat → Option VObj} {nx2 : Nat} {df2 : List VDef} (h : H2 β = some LB) :
  RndEnd β LB LO LD ⟨d, op, ty, pos, af, gd⟩ ⟨tm, H, nx, df⟩ K .normal ⟨tm2, H2, nx2, df2⟩ = K ⟨(match d with | some d => upd tm d (.lit (.bool true)) | none => tm), updH H2 β LO, nx2, df⟩ := by
 show (_ ∧ _) = _
 rw [eq_true h, true_and]
 cases d <;> rfl
theorem rndAs_normal {β : Nat} {LB LO : VObj} {LD : Code → VObj} {o : Oper} {st : St} {K : St → Prop} {tm2 : Nat → VV} {H2 : Nat → Option VObj} {nx2 : Nat} {df2 : List VDef} (h : H2 β = some LO) :
  RndAs P G n β LB LO LD bo o st K .normal ⟨tm2, H2, nx2, df2⟩ = CWp P (G.at (some (some β))) n bo (RndEnd β LB LO LD o st K) ⟨tm2, updH H2 β LB, nx2, df2⟩ := by
 show (_ ∧ _) = _
 rw [eq_true h, true_and]
theorem round_tm {m t p : Nat} {x : VV} (h : t < m) : argsTm (roundTm (tmL m tm) [p] [x]) t = if t = p then x else tm t := by
 unfold argsTm roundTm tmL
 simp only [List.zip_cons_cons, List.zip_nil_right, List.foldl_cons, List.foldl_nil]
 by_cases hp : t = p
 ·subst hp
  rw [if_pos rfl]
  simp [h]
 ·rw [if_neg hp]
  simp [List.getElem?_set, h, Ne.symm hp]
theorem round_tm0 {m t : Nat} (h : t < m) : argsTm (roundTm (tmL m tm) [] []) t = tm t := by
 unfold argsTm roundTm tmL
 simp [h]
theorem tmL_length {m : Nat} : (tmL m tm).length = m := by simp [tmL]
theorem cwp_tmcut {code : Code} (F : (Nat → VV) → Prop) (hF : F tm) (h : ∀ tm, F tm → CWp P G n code Q ⟨tm, H, nx, df⟩) : CWp P G n code Q ⟨tm, H, nx, df⟩ := h tm hF
theorem vcells_yl {β : Nat} : vcells (.yl β) = some [.yl β] := rfl
theorem leaf_yl {β : Nat} : (VV.yl β).leaf = true := rfl
theorem VPure.at {x : Option (Option Nat)} {args : List VV} {r : PRes} (h : VPure P G f args r) : VPure P (G.at x) f args r := h
def rg := And.intro @vcells_yl (And.intro @leaf_yl @cvalK_yl)
theorem opd_coll {fn : Func} {R Rp : VV → (Nat → Option VObj) → Nat → Prop} {β : Nat} (h : H β = some (.deferred (some []))) (h2 : OpenPostD P G fn R Rp .ret ⟨tm, updH H β (.deferred none), nx, df⟩) : OpenPostD P G fn R Rp .ret ⟨tm, H, nx, .coll β :: df⟩ := ⟨h, h2⟩
theorem opd_collN {fn : Func} {R Rp : VV → (Nat → Option VObj) → Nat → Prop} {β : Nat} (h : H β = some (.deferred (some []))) (h2 : OpenPostD P G fn R Rp .normal ⟨tm, updH H β (.deferred none), nx, df⟩) : OpenPostD P G fn R Rp .normal ⟨tm, H, nx, .coll β :: df⟩ := ⟨h, h2⟩
end
end Go.V
end
section
set_option linter.unusedVariables false
set_option linter.unusedSimpArgs false
set_option linter.defProp false
namespace Go.V
open Go
def kIdx {K : Type} (q : K → K → Bool) (k : K) : List K → Nat → Option Nat
 | [], _ => none
 | e :: es, i => cond (q k e) (some i) (kIdx q k es (i + 1))
theorem kIdx_some {K : Type} {q : K → K → Bool} {k : K} : ∀ (es : List K) (i j : Nat), kIdx q k es i = some j → i ≤ j ∧ ∃ e, es[j - i]? = some e ∧ q k e = true
 | [], _, _, h => by cases h
 | e :: es, i, j, h => by
  unfold kIdx at h
  cases hq : q k e with
  | true =>
   rw [hq] at h
   simp only [cond_true, Option.some.injEq] at h
   subst h
   exact ⟨Nat.le_refl _, e, by simp, hq⟩
  | false =>
   rw [hq] at h
   simp only [cond_false] at h
   obtain ⟨h1, x, h2, h3⟩ := kIdx_some es (i + 1) j h
   refine ⟨by omega, x, ?_, h3⟩
   rw [show j - i = (j - (i + 1)) + 1 by omega]
   simpa using h2
def mapGet {K V : Type} (q : K → K → Bool) (z : V) (l : List (K × V)) (k : K) : V := match kIdx q k (l.map (·.1)) 0 with
 | some i => match l[i]? with | some p => p.2 | none => z
 | none => z
def mapSet {K V : Type} (q : K → K → Bool) (l : List (K × V)) (k : K) (v : V) : List (K × V) := match kIdx q k (l.map (·.1)) 0 with
 | some i => l.set i (k, v)
 | none => l ++ [(k, v)]
def encM {K V : Type} (kv : K → Value) (ev : V → VV) (l : List (K × V)) : List (Value × VV) := l.map fun p => (kv p.1, ev p.2)
section
variable {P : Program} {K V : Type} {q : K → K → Bool} {kv : K → Value} {ev : V → VV} {t kt et : TypeId} {H : Nat → Option VObj} {β : Nat}
theorem evalP_ask (he : ∀ a b, evalP P (Op.equal kt (kv a) (kv b)) = some (q a b)) (k : K) : ∀ (ks : List K) (i : Nat), evalP P (Instr.findAsking kt (kv k) ((ks.map kv).map dummy) i) = some ((kIdx q k ks i).map fun j => (j, Value.bool false))
 | [], i => rfl
 | e :: es, i => by
  simp only [List.map_cons, Instr.findAsking, kIdx]
  rw [evalP_bind]
  have h0 : evalP P (Op.equal kt (kv k) (dummy (kv e)).key) = some (q k e) := he k e
  rw [h0, Option.bind_some]
  cases q k e with
  | true => rfl
  | false => exact evalP_ask he k es (i + 1)
theorem kfind_S {fs : Array Field} (hu : P.underlying kt = some (.struct fs)) (he : ∀ a b, evalP P (Op.equal kt (kv a) (kv b)) = some (q a b)) (k : K) (ks : List K) : kfind P kt (kv k) (ks.map kv) = some (kIdx q k ks 0) := by
 unfold kfind Instr.findKey
 rw [evalP_bind, evalP_und hu, Option.bind_some]
 have ha := evalP_ask he k ks 0
 cases ks with
 | nil => rfl
 | cons e es =>
  have hn : Instr.findNow (.struct fs) (kv k) (((e :: es).map kv).map dummy) 0 = none := by
   simp only [List.map_cons, Instr.findNow]
   have : Instr.sameNow (.struct fs) (kv k) (dummy (kv e)).key = none := by cases kv k <;> rfl
   rw [this]
  rw [hn]
  simp only []
  rw [ha]
  cases kIdx q k (e :: es) 0 <;> rfl
theorem encM_keys {l : List (K × V)} : (encM kv ev l).map (·.1) = (l.map (·.1)).map kv := by simp [encM, Function.comp_def]
theorem lookup_own {fs : Array Field} {z : V} (hm : P.underlying t = some (.map kt et)) (hu : P.underlying kt = some (.struct fs)) (he : ∀ a b, evalP P (Op.equal kt (kv a) (kv b)) = some (q a b)) (hc : ∀ b k, evalP P (Instr.checkKey b 10000 kt (kv k)) = some ())
  (hz : ((P.info? et).bind (·.zero)).map ofVal2 = some (ev z)) {l : List (K × V)} {kx : VV} {k : K} (hk : kx.val? = some (kv k)) (hb : H β = some (.map (encM kv ev l))) :
  vlookup P H t (.mp β) kx false = some (ev (mapGet q z l k)) := by
 unfold vlookup
 rw [hm, hk]
 simp only [mapOf, hb]
 rw [hc, encM_keys, kfind_S hu he]
 cases hzz : (P.info? et).bind (·.zero) with
 | none => rw [hzz] at hz; cases hz
 | some z0 =>
  rw [hzz] at hz
  simp only [Option.map_some, Option.some.injEq] at hz
  unfold mapGet
  cases hi : kIdx q k (l.map (·.1)) 0 with
  | none => simp only [Bool.false_eq_true, if_false]; exact congrArg some hz
  | some i =>
   obtain ⟨_, e, h1, _⟩ := kIdx_some _ _ _ hi
   rw [Nat.sub_zero, List.getElem?_map] at h1
   cases hl : l[i]? with
   | none => rw [hl] at h1; cases h1
   | some p =>
    have : (encM kv ev l)[i]? = some (kv p.1, ev p.2) := by unfold encM; rw [List.getElem?_map, hl]; rfl
    simp only [this, hl, Bool.false_eq_true, if_false]
theorem update_own {fs : Array Field} (hm : P.underlying t = some (.map kt et)) (hu : P.underlying kt = some (.struct fs)) (he : ∀ a b, evalP P (Op.equal kt (kv a) (kv b)) = some (q a b)) (hc : ∀ b k, evalP P (Instr.checkKey b 10000 kt (kv k)) = some ())
  (hq : ∀ a b, q a b = true → a = b) (hs : ∀ a, Instr.sameBits 10000 (kv a) (kv a) = true) {l : List (K × V)} {kx : VV} {k : K} {v : V} (hk : kx.val? = some (kv k)) (hb : H β = some (.map (encM kv ev l))) :
  vmapUpdate P H t (.mp β) kx (ev v) = some (.upd β (.map (encM kv ev (mapSet q l k v)))) := by
 unfold vmapUpdate
 rw [hm, hk]
 simp only [hb]
 rw [hc, encM_keys, kfind_S hu he]
 unfold mapSet
 cases hi : kIdx q k (l.map (·.1)) 0 with
 | none => simp only [encM, List.map_append, List.map_cons, List.map_nil]
 | some i =>
  obtain ⟨_, e, h1, h2⟩ := kIdx_some _ _ _ hi
  rw [Nat.sub_zero, List.getElem?_map] at h1
  cases hl : l[i]? with
  | none => rw [hl] at h1; cases h1
  | some p =>
   have h3 : (encM kv ev l)[i]? = some (kv p.1, ev p.2) := by unfold encM; rw [List.getElem?_map, hl]; rfl
   rw [hl] at h1
   simp only [Option.map_some, Option.some.injEq] at h1
   have h4 := hq _ _ h2
   subst h4
   subst h1
   simp only [h3, hs, if_true]
   simp only [encM, List.map_set]
end
section
variable {P : Program} {G : Glob} {γ : Nat} {tm : Nat → VV} {H : Nat → Option VObj} {nx : Nat} {df : List VDef} {K : St → Prop} {Kd : List Nat → List Nat → St → Prop} {Qp : VV → St → Prop}
 {d : Option Tmp} {ty : TypeId} {pos : String} {af : Array Edge} {g : Option (Nat × Bool)}
theorem body_makeMap {t : TypeId} : bodyK P G γ ⟨d, .makeMap t none, ty, pos, af, g⟩ ⟨tm, H, nx, df⟩ K Qp = fin d γ tm H nx df K (.mp γ) (.new (.map [])) := by
 rw [body_op (by simp) (by simp) (by simp)]; rfl
theorem body_lookup {t : TypeId} {x k : Operand} {ok : Bool} : bodyK P G γ ⟨d, .lookup t x k ok, ty, pos, af, g⟩ ⟨tm, H, nx, df⟩ K Qp = oK (vlookup P H t (ev G tm x) (ev G tm k) ok) (fun y => fin d γ tm H nx df K y .none) := by
 rw [body_op (by simp) (by simp) (by simp)]; simp only [vop]; exact oK_map
theorem dbody_makeMap {t : TypeId} : dbodyK P G γ ⟨d, .makeMap t none, ty, pos, af, g⟩ ⟨tm, H, nx, df⟩ Kd = fin d γ tm H nx df (Kd (rdV ⟨d, .makeMap t none, ty, pos, af, g⟩ (ev G tm)) [γ]) (.mp γ) (.new (.map [])) := by
 rw [dbody_op (by simp)]; rfl
theorem dbody_lookup {t : TypeId} {x k : Operand} {ok : Bool} : dbodyK P G γ ⟨d, .lookup t x k ok, ty, pos, af, g⟩ ⟨tm, H, nx, df⟩ Kd = oK (vlookup P H t (ev G tm x) (ev G tm k) ok) (fun y => fin d γ tm H nx df (Kd (rdV ⟨d, .lookup t x k ok, ty, pos, af, g⟩ (ev G tm)) []) y .none) := by
 rw [dbody_op (by simp)]; simp only [vop]
 cases vlookup P H t (ev G tm x) (ev G tm k) ok <;> rfl
def umK (o : Option VEff) (k : VEff → Prop) : Prop := match o with | some e => k e | none => False
theorem umK_some {e : VEff} {k : VEff → Prop} : umK (some e) k = k e := rfl
theorem body_mapUpdate {t : TypeId} {m k x : Operand} : bodyK P G γ ⟨d, .mapUpdate t m k x, ty, pos, af, g⟩ ⟨tm, H, nx, df⟩ K Qp = umK (vmapUpdate P H t (ev G tm m) (ev G tm k) (ev G tm x)) (fun e => fin d γ tm H nx df K .any e) := by
 rw [body_op (by simp) (by simp) (by simp)]; simp only [vop]
 cases vmapUpdate P H t (ev G tm m) (ev G tm k) (ev G tm x) <;> rfl
theorem dbody_mapUpdate {t : TypeId} {m k x : Operand} : dbodyK P G γ ⟨d, .mapUpdate t m k x, ty, pos, af, g⟩ ⟨tm, H, nx, df⟩ Kd = umK (vmapUpdate P H t (ev G tm m) (ev G tm k) (ev G tm x)) (fun e => fin d γ tm H nx df (Kd (rdV ⟨d, .mapUpdate t m k x, ty, pos, af, g⟩ (ev G tm)) (e.wr γ)) .any e) := by
 rw [dbody_op (by simp)]; simp only [vop]
 cases vmapUpdate P H t (ev G tm m) (ev G tm k) (ev G tm x) <;> rfl
theorem vcells_mp {β : Nat} : vcells (.mp β) = some [.mp β] := rfl
theorem leaf_mp {β : Nat} : (VV.mp β).leaf = true := rfl
theorem rd_makeMap {t : TypeId} : rdV ⟨d, .makeMap t none, ty, pos, af, g⟩ (ev G tm) = rdL (ev G tm) [] := rdL_eq []
theorem rd_lookup {t : TypeId} {x k : Operand} {ok : Bool} : rdV ⟨d, .lookup t x k ok, ty, pos, af, g⟩ (ev G tm) = rdL (ev G tm) [x, k] := rdL_eq [x, k]
theorem rd_mapUpdate {t : TypeId} {m k x : Operand} : rdV ⟨d, .mapUpdate t m k x, ty, pos, af, g⟩ (ev G tm) = rdL (ev G tm) [m, k, x] := rdL_eq [m, k, x]
theorem tnL_mp {β : Nat} {l : List Nat} : tnL (.mp β) l = β :: l := rfl
theorem ev_nilmap : ev G tm (.const (.map none)) = .lit (.map none) := rfl
theorem encM_nil {K V : Type} {kv : K → Value} {ew : V → VV} : encM kv ew [] = [] := rfl
def mq := And.intro (And.intro (And.intro @body_makeMap (And.intro @body_lookup @body_mapUpdate)) (And.intro (And.intro @dbody_makeMap (And.intro @dbody_lookup @dbody_mapUpdate)) (And.intro (And.intro @umK_some @vcells_mp) @leaf_mp))) (And.intro (And.intro @rd_makeMap (And.intro @rd_lookup @rd_mapUpdate)) (And.intro @tnL_mp (And.intro @ev_nilmap @encM_nil)))
end
end Go.V
end
section
namespace Go.V
open Go Go.Proofs
theorem ld73 {c : VV} {cs : List VV} : vload Tryz.prog 73 (c :: cs) = some c := by
 have h1 : aggT Tryz.prog 73 = some false := by kernel_rfl
 simp [vload, vpart, h1]
theorem sz73 : szT Tryz.prog 73 = some 1 := by kernel_rfl
theorem vzl73 : vzl Tryz.prog 73 = some [.lit (.slice none 0 0)] := by kernel_rfl
theorem len73 {H : Nat → Option VObj} {cs : List VV} {n : Nat} {f : Bool} : vlen Tryz.prog H 73 (.sl cs n f) = some (.lit (.int .i64 n)) := by simp [vlen, Tryz.underlying73, sls]
theorem lenN73 {H : Nat → Option VObj} : vlen Tryz.prog H 73 (.lit (.slice none 0 0)) = some (.lit (.int .i64 0)) := by simp [vlen, Tryz.underlying73, sls]
theorem lenR73 {H : Nat → Option VObj} {β off n w c : Nat} : vlen Tryz.prog H 73 (.ref β off n w c) = (match H β with | some (.cells _ cs) => if off ≤ cs.length then some (.lit (.int .i64 n)) else none | _ => none) := lenR Tryz.underlying73
theorem et73 : elemT Tryz.prog 73 = some 29 := by simp [elemT, Tryz.underlying73]
theorem ao73 : appOk Tryz.prog 73 = some (29, 2, 16) := by kernel_rfl
theorem tk73 {xs : List GSightPlace} : (cellsL cGSightPlace xs).take (xs.length * 2) = cellsL cGSightPlace xs := take_cells (fun _ => rfl)
theorem lf73 : ∀ x : GSightPlace, leafL (cGSightPlace x) = true := fun x => by simp only [eI_eq, eU8_eq, eB_eq, eS_eq, eSl_eq, cGSightPlace_eq, leafL_nil, leafL_cons, leaf_int, leaf_bool, leaf_string, leaf_slice, leaf_sl, Bool.and_self]
theorem bs73_1 {c0 c1 : VV} (h : leafL [c0, c1] = true) : vbuildSlice Tryz.prog 73 1 [(0, .agg [c0, c1])] = some ([c0, c1], 2) := by
 have h2 : szT Tryz.prog 29 = some 2 := by kernel_rfl
 have h3 : vzero Tryz.prog 29 = some #[.int .i64 0, .int .i64 0] := by kernel_rfl
 simp only [leafL_cons, leafL_nil, Bool.and_true, Bool.and_eq_true] at h
 simp [vbuildSlice, Tryz.underlying73, h2, h3, vfill, vcells, h, overwrite, vzeros]
theorem ix73 {H : Nat → Option VObj} {xs : List GSightPlace} {x : GSightPlace} {f : Bool} {k : IntKind} {i : Int} (h : getI xs i = some x) : vindexAddr Tryz.prog H 73 (.sl (cellsL cGSightPlace xs) xs.length f) (.lit (.int k i)) = some (.tp (cGSightPlace x ++ cellsL cGSightPlace (xs.drop (i.toNat + 1)))) :=
 ixG Tryz.underlying73 (by kernel_rfl : szT Tryz.prog 29 = some 2) (by decide) (fun _ => rfl) h
def tyx := And.intro (And.intro (And.intro @ld73 @sz73) (And.intro @vzl73 @len73)) (And.intro (And.intro @lenN73 @lenR73) (And.intro @et73 (And.intro @tk73 @bs73_1)))
end Go.V
end
section
set_option linter.unusedVariables false
set_option linter.unusedSimpArgs false
set_option linter.defProp false
namespace Go.V
open Go
def RM (y x : VV) (H : Nat → Option VObj) (_ : Nat) : Prop := ∃ β es, x = .mp β ∧ H β = some (.map es) ∧ treeL (es.map (·.2)) = true ∧ y = .mt (es.map (·.1)) (es.map (·.2))
theorem VPure.of_openM {P : Program} {G : Glob} {f : FuncId} {args : List VV} {y : VV} (h : VOpen P G f args (fun _ => none) 0 (RM y) (fun _ _ _ => False)) : VPure P G f args (.tree y) := by
 refine ⟨h.1, fun A W vs hA hG hargs => (h.2 (PCtx A) W vs (pctx_sim hA) rfl (fun β hb => hb.elim) hG hargs).mono ?_⟩
 rintro e W' ⟨c', H', nx', hext, hs', hH', hu, hu', hle, hres⟩
 have hbelow := below_of_ext hext
 have hge : ∀ β, c'.live β → W.heap.size ≤ c'.φ β := by
  intro β hl
  rcases Nat.lt_or_ge (c'.φ β) W.heap.size with h | h
  ·obtain ⟨γ, hγ, _⟩ := hext.old β hl h
   simp [PCtx, Ctx.live] at hγ
  ·exact h
 have hold : ∀ b, c'.A b → A b ∨ W.heap.size ≤ b := by
  intro b hb
  rcases hext.newA b hb with h | h | ⟨β, h, _⟩
  ·exact .inl h
  ·exact .inr h
  ·simp [PCtx, Ctx.live] at h
 have held : ∀ {H0 : Nat → Option VObj}, SubHeap H0 c'.H → ∀ b, heldIn c' H0 b → A b ∨ W.heap.size ≤ b := by
  intro H0 hsub b hb
  rcases hb with h | ⟨β, h, e⟩
  ·exact hold b h
  ·exact .inr (e ▸ hge β (hsub.live h))
 have heldlt : ∀ {H0 : Nat → Option VObj}, SubHeap H0 c'.H → ∀ b, heldIn c' H0 b → b < W'.heap.size := by
  intro H0 hsub b hb
  rcases hb with h | ⟨β, h, e⟩
  ·exact hs'.ltA b h
  ·exact e ▸ hs'.lt β (hsub.live h)
 rcases hres with ⟨x, v, rfl, hrv, β, es, rfl, hβ, ht, rfl⟩ | ⟨x, v, rfl, hv, hF⟩
 ·subst hH'
  refine ⟨heldIn c' c'.H, fun b hb => .inl (hext.A b hb), held (SubHeap.refl _), heldlt (SubHeap.refl _), hbelow, v, rfl, ?_⟩
  have hv : v = .map (some (c'.φ β)) := hrv.2 (by simp [Ctx.live, hβ])
  obtain ⟨ents, clk, h1, h2, h3⟩ := hs'.obj β _ hβ
  have ab : Abides (PCtx c'.A) W' (PCtx (heldIn c' c'.H)) W' := abides_of_p (fun b hb => Or.inl hb)
  exact ⟨_, hv, .inr ⟨β, by simp [hβ], rfl⟩, ents, clk, h1, h2, RepL.abides ab _ (repL_tree ht h3)⟩
 ·exact hF.elim
theorem VPure.runM {P : Program} {G : Glob} (hm : P.follows .mixedOrders = true) {f : FuncId} {fn : Func} {code : Code} {args : List VV} {y : VV} (hc : Callable P f) (hf : P.funcs[f]? = some fn) (hb : fn.body = some code)
  (hst : (decide (args.length ≤ fn.ntmps) && codeOk fn.ntmps code) = true) (h : CWp P (G.at (some none)) fn.ntmps code (OpenPostD P G fn (RM y) (fun _ _ _ => False)) { tm := argsTm args, H := fun _ => none, nx := 0, df := [] }) : VPure P G f args (.tree y) :=
 VPure.of_openM (VOpen.run hm hc hf hb hst h)
def mtK {K V : Type} (kv : K → Value) (l : List (K × V)) : List Value := l.map fun p => kv p.1
def mtV {K V : Type} (ew : V → VV) (l : List (K × V)) : List VV := l.map fun p => ew p.2
theorem mt_tree {K V : Type} {ew : V → VV} (ht : ∀ v, (ew v).tree = true) : ∀ l : List (K × V), treeL (mtV ew l) = true
 | [] => rfl
 | p :: l => by
  show ((ew p.2).tree && treeL (mtV ew l)) = true
  rw [ht, mt_tree ht l]; rfl
theorem rm_map {K V : Type} {kv : K → Value} {ew : V → VV} {β nx : Nat} {H : Nat → Option VObj} {l : List (K × V)} (ht : ∀ v, (ew v).tree = true) (hb : H β = some (.map (encM kv ew l))) : RM (.mt (mtK kv l) (mtV ew l)) (.mp β) H nx := by
 have e1 : (encM kv ew l).map (·.1) = mtK kv l := by simp [encM, mtK, Function.comp_def]
 have e2 : (encM kv ew l).map (·.2) = mtV ew l := by simp [encM, mtV, Function.comp_def]
 exact ⟨β, _, rfl, hb, by rw [e2]; exact mt_tree ht l, by rw [e1, e2]⟩
theorem mt_mapOf {K V : Type} {kv : K → Value} {ew : V → VV} {H : Nat → Option VObj} (l : List (K × V)) : mapOf H (.mt (mtK kv l) (mtV ew l)) = some (encM kv ew l) := by
 simp only [mapOf, mtK, mtV, encM, Option.some.injEq]
 induction l with
 | nil => rfl
 | cons p l ih => simp only [List.map_cons, List.zip_cons_cons, ih]
section
variable {P : Program} {K V : Type} {q : K → K → Bool} {kv : K → Value} {ew : V → VV} {t kt et : TypeId} {H : Nat → Option VObj}
theorem lookup_tree {fs : Array Field} {z : V} (hm : P.underlying t = some (.map kt et)) (hu : P.underlying kt = some (.struct fs)) (he : ∀ a b, evalP P (Op.equal kt (kv a) (kv b)) = some (q a b)) (hc : ∀ b k, evalP P (Instr.checkKey b 10000 kt (kv k)) = some ())
  (hz : ((P.info? et).bind (·.zero)).map ofVal2 = some (ew z)) {l : List (K × V)} {kx : VV} {k : K} (hk : kx.val? = some (kv k)) :
  vlookup P H t (.mt (mtK kv l) (mtV ew l)) kx false = some (ew (mapGet q z l k)) := by
 have := lookup_own (H := fun _ => some (.map (encM kv ew l))) (β := 0) hm hu he hc hz hk rfl
 unfold vlookup at this ⊢
 rw [mt_mapOf]
 exact this
end
theorem leaf_mt {ks : List Value} {vs : List VV} : (VV.mt ks vs).leaf = true := rfl
theorem vcells_mt {ks : List Value} {vs : List VV} : vcells (.mt ks vs) = some [.mt ks vs] := rfl
theorem tnL_mt {ks : List Value} {vs : List VV} {l : List Nat} : tnL (.mt ks vs) l = l := rfl
def mqm := And.intro @leaf_mt (And.intro @vcells_mt @tnL_mt)
end Go.V
end
section
namespace Go.V
open Go Go.Proofs
def kv29 (k : GSightPlace) : Value := .agg ⟨[.int .i64 k.Along, .int .i64 k.Across]⟩
def q29 (a b : GSightPlace) : Bool := (a.Along == b.Along) && ((a.Across == b.Across) && true)
def ev34 (n : Int) : VV := .lit (.int .i64 n)
theorem he29 (a b : GSightPlace) : evalP Tryz.prog (Op.equal 29 (kv29 a) (kv29 b)) = some (q29 a b) := by
 have e : Op.maxDepth = 9998 + 2 := rfl
 unfold Op.equal kv29
 rw [e, evalP_eqS Tryz.underlying29 (by kernel_rfl) (r := q29 a b) (by kernel_rfl)]
theorem hc29 (b : Bool) (k : GSightPlace) : evalP Tryz.prog (Instr.checkKey b 10000 29 (kv29 k)) = some () := by
 cases b <;> kernel_rfl
theorem hq29 (a b : GSightPlace) (h : q29 a b = true) : a = b := by
 cases a; cases b
 simp only [q29, Bool.and_true, Bool.and_eq_true, beq_iff_eq] at h
 rw [h.1, h.2]
theorem hs29 (a : GSightPlace) : Instr.sameBits 10000 (kv29 a) (kv29 a) = true := by
 simp [kv29, Instr.sameBits]
theorem hz34 : ((Tryz.prog.info? 34).bind (·.zero)).map ofVal2 = some (ev34 0) := by kernel_rfl
theorem hk29 (a b : Int) : VV.val? (.agg [.lit (.int .i64 a), .lit (.int .i64 b)]) = some (kv29 ⟨a, b⟩) := rfl
theorem up109 {β : Nat} (l : List (GSightPlace × Int)) (k : GSightPlace) (v : Int) (H : Nat → Option VObj) (hb : H β = some (.map (encM kv29 ev34 l))) : vmapUpdate Tryz.prog H 109 (.mp β) (.agg [.lit (.int .i64 k.Along), .lit (.int .i64 k.Across)]) (.lit (.int .i64 v)) = some (.upd β (.map (encM kv29 ev34 (mapSet q29 l k v)))) :=
 update_own Tryz.underlying109 Tryz.underlying29 he29 hc29 hq29 hs29 (hk29 k.Along k.Across) hb
theorem ld109 {c : VV} {cs : List VV} : vload Tryz.prog 109 (c :: cs) = some c := by
 have h1 : aggT Tryz.prog 109 = some false := by kernel_rfl
 simp [vload, vpart, h1]
theorem sz109 : szT Tryz.prog 109 = some 1 := by kernel_rfl
theorem vzl109 : vzl Tryz.prog 109 = some [.lit (.map none)] := by kernel_rfl
theorem lkt109 {l : List (GSightPlace × Int)} {a b : Int} {H : Nat → Option VObj} : vlookup Tryz.prog H 109 (.mt (mtK kv29 l) (mtV ev34 l)) (.agg [.lit (.int .i64 a), .lit (.int .i64 b)]) false = some (.lit (.int .i64 (mapGet q29 0 l (GSightPlace.mk a b)))) :=
 lookup_tree Tryz.underlying109 Tryz.underlying29 he29 hc29 hz34 (k := ⟨a, b⟩) rfl
theorem et34 (n : Int) : (ev34 n).tree = true := rfl
def mqt := And.intro (And.intro (And.intro @ld109 @sz109) (And.intro @vzl109 @lkt109)) tyx
end Go.V
end
