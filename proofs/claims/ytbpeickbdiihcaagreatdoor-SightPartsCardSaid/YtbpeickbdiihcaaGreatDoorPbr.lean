/- Part of the proof of statements of YtbpeickbdiihcaaGreatDoor: a logic of values by content, the lifted functions, and what follows. -/
import Derived.Test.YtbpeickbdiihcaaGreatDoorPbp
import Derived.Test.YtbpeickbdiihcaaGreatDoorPbq
set_option linter.unusedVariables false
set_option linter.unusedSimpArgs false
set_option linter.unusedSectionVars false
set_option linter.constructorNameAsVariable false
set_option linter.defProp false
set_option maxRecDepth 4000
set_option maxHeartbeats 4000000
section
namespace Go.V
open Go
theorem right_eq (s : GSightStreet) (n : Int) (p : GSightPlace) (h : FineS s) (bs : Bool) (hb : g_law02_short s = some bs) : g_law02_right s n p = some (bs && (streetB s && (numB s n && placeB s p))) := by
 simp only [g_law02_right, hb, Option.bind_some, refStreet_eq s h, refBoard_eq, refPlace_eq, csome, numB]
theorem getI_map {α β : Type} {f : α → β} {xs : List α} {i : Int} {x : α} (h : getI xs i = some x) : getI (xs.map f) i = some (f x) := by
 unfold getI at h ⊢
 split at h
 ·rename_i hi
  rw [if_pos hi, List.getElem?_map, h]; rfl
 ·cases h
theorem getI_take {α : Type} {xs : List α} {i : Int} {n : Nat} {x : α} (h : getI xs i = some x) (hi : i < n) : getI (xs.take n) i = some x := by
 unfold getI at h ⊢
 split at h
 ·rename_i h0
  rw [if_pos h0, List.getElem?_take_of_lt (by omega), h]
 ·cases h
theorem how_word (m M : Bool) : g_law02_word (howI m M) = some true := by cases m <;> cases M <;> rfl
section
variable {s : GSightStreet} {b : GSightBoard} {p : GSightPlace}
def sureR (s : GSightStreet) (b : GSightBoard) (p : GSightPlace) : List GSightLetter → Bool
 | [] => true
 | [e] => legW s b p e == 3
 | e :: e' :: ls => (legW s b p e == 3) && ((meltW s b p e == 1) && sureR s b p (e' :: ls))
def neverR (s : GSightStreet) (b : GSightBoard) (p : GSightPlace) : List GSightLetter → Bool
 | [] => false
 | [e] => legW s b p e == 1
 | e :: e' :: ls => (legW s b p e == 1) || ((meltW s b p e == 3) || neverR s b p (e' :: ls))
theorem parts_l0 (h5 : b.Letters.length ≤ 5) (k1 k2 : Int) : ∀ (ls : List GSightLetter) (c : Int) (a n : Bool), 0 ≤ c → b.Letters.drop c.toNat = ls → g_law02_SightParts_l0 (legsL s b p, k1) (meltsL s b p, k2) b ls c a n = some (.go (a && sureR s b p ls, n || neverR s b p ls))
 | [], c, a, n, _, _ => by simp [g_law02_SightParts_l0, sureR, neverR]
 | [e], c, a, n, h0, hd => by
  have hx := drop_next h0 hd
  have hi := getI_of_drop h0 hd
  have hf : decide (c + 1 < (b.Letters.length : Int)) = false := not_lt_of_drop (by omega) hx
  have hlt := (getI_lt hi).2
  have hge : ¬ (c + 1 < (b.Letters.length : Int)) := of_decide_eq_false hf
  have he : (c + 1 == (b.Letters.length : Int)) = true := by simp only [beq_iff_eq]; omega
  have g1 : getI (legsL s b p) c = some (legW s b p e) := getI_map hi
  have hw : g_law02_word (legW s b p e) = some true := how_word _ _
  unfold g_law02_SightParts_l0
  simp only [g1, Option.bind_some, hw, cond_true, hf, cond_false, he, sureR, neverR, g_law02_SightParts_l0]
  have hne : ¬ ((legW s b p e == 3) = true ∧ (legW s b p e == 1) = true) := by
   rintro ⟨u, v⟩
   rw [beq_iff_eq] at u v
   omega
  cases h3 : (legW s b p e == 3) <;> cases h1 : (legW s b p e == 1) <;> cases a <;> cases n <;> first | rfl | exact absurd ⟨h3, h1⟩ hne
 | e :: e' :: ls, c, a, n, h0, hd => by
  have hx := drop_next h0 hd
  have hi := getI_of_drop h0 hd
  have hf : decide (c + 1 < (b.Letters.length : Int)) = true := lt_of_drop (by omega) hx
  have hlt : c + 1 < (b.Letters.length : Int) := of_decide_eq_true hf
  have he : (c + 1 == (b.Letters.length : Int)) = false := by simp only [beq_eq_false_iff_ne, ne_eq]; omega
  have g1 : getI (legsL s b p) c = some (legW s b p e) := getI_map hi
  have g2 : getI (meltsL s b p) c = some (meltW s b p e) := getI_map (getI_take hi (by omega))
  have hw : g_law02_word (legW s b p e) = some true := how_word _ _
  have hw2 : g_law02_word (meltW s b p e) = some true := how_word _ _
  have ih := fun a n => parts_l0 h5 k1 k2 (e' :: ls) (c + 1) a n (by omega) hx
  unfold g_law02_SightParts_l0
  simp only [g1, g2, Option.bind_some, hw, hw2, cond_true, hf, he, cond_false, ih]
  rw [show sureR s b p (e :: e' :: ls) = ((legW s b p e == 3) && ((meltW s b p e == 1) && sureR s b p (e' :: ls))) from rfl, show neverR s b p (e :: e' :: ls) = ((legW s b p e == 1) || ((meltW s b p e == 3) || neverR s b p (e' :: ls))) from rfl]
  generalize (legW s b p e == 3) = t1
  generalize (legW s b p e == 1) = t2
  generalize (meltW s b p e == 3) = t3
  generalize (meltW s b p e == 1) = t4
  cases t1 <;> cases t2 <;> cases t3 <;> cases t4 <;> cases a <;> cases n <;> simp
theorem parts_l1 {f : GSightBlock → Bool} (k5 : Int) (h4 : s.Blocks.length ≤ 4) (hl : List Int) (hlen : hl.length ≤ 4) : ∀ (q : List GSightBlock) (i c : Int) (n : Bool), 0 ≤ i → 0 ≤ c → s.Blocks.drop i.toNat = q → hl.drop c.toNat = hids f q i → (0 < c → ∃ r, getI hl (c - 1) = some r ∧ r < i) →
  g_law02_SightParts_l1 s (hl, k5) (hids f q i) c n = some (.go (n || q.any (fun k => f k && k.Sure)))
 | [], i, c, n, _, _, _, _, _ => by simp [hids, g_law02_SightParts_l1]
 | e :: q, i, c, n, h0, c0, hd, hh, hp => by
  have hx := drop_next h0 hd
  have hi := getI_of_drop h0 hd
  have hlt := (getI_lt hi).2
  rw [List.any_cons]
  unfold hids at hh ⊢
  cases hf : f e with
  | false =>
   rw [hf] at hh
   simp only [cond_false, Bool.false_and, Bool.false_or] at hh ⊢
   exact parts_l1 k5 h4 hl hlen q (i + 1) c n (by omega) c0 hx hh (fun hc => by obtain ⟨r, h1, h2⟩ := hp hc; exact ⟨r, h1, by omega⟩)
  | true =>
   rw [hf] at hh
   simp only [cond_true, Bool.true_and] at hh ⊢
   have hg := getI_of_drop c0 hh
   have hcl := (getI_lt hg).2
   have ih := fun n => parts_l1 k5 h4 hl hlen q (i + 1) (c + 1) n (by omega) (by omega) hx (drop_next c0 hh) (fun _ => ⟨i, by rw [show c + 1 - 1 = c by omega]; exact hg, by omega⟩)
   have d1 : decide (i < 0) = false := decide_eq_false (by omega)
   have d2 : decide (i ≥ (s.Blocks.length : Int)) = false := decide_eq_false (by omega)
   unfold g_law02_SightParts_l1
   simp only [d1, d2, cond_false, hi, Option.bind_some, ih]
   by_cases hc : 0 < c
   ·obtain ⟨r, h1, h2⟩ := hp hc
    have w1 : IntKind.i64.wrap (c - 1) = c - 1 := wrap_eq (by omega) (by omega)
    have d3 : decide (c > 0) = true := decide_eq_true hc
    have d4 : decide (i ≤ r) = false := decide_eq_false (by omega)
    simp only [d3, cond_true, w1, h1, Option.bind_some, d4, cond_false]
    cases n <;> cases e.Sure <;> simp
   ·have d3 : decide (c > 0) = false := decide_eq_false (by omega)
    simp only [d3, cond_false]
    cases n <;> cases e.Sure <;> simp
theorem how3 (m M : Bool) : (howI m M == 3) = m := by cases m <;> cases M <;> rfl
theorem how1 (m M : Bool) : (howI m M == 1) = (!m && !M) := by cases m <;> cases M <;> rfl
theorem sureR_eq (h : Good s b p) : ∀ ls : List GSightLetter, (∀ l ∈ ls, BL l) → sureR s b p ls = clearB (s.Eye.Low * s.Light.Low) b.At p ls
 | [], _ => rfl
 | [e], _ => how3 _ _
 | e :: e' :: ls, hl => by
  obtain ⟨hp, _, _, w1, w2⟩ := goods h
  have ih := sureR_eq h (e' :: ls) (fun l hl' => hl l (List.mem_cons_of_mem _ hl'))
  have q1 := h.el; have q2 := h.em; have q3 := h.ll; have q4 := h.lm
  have hm : s.Eye.Low * s.Light.Low ≤ s.Eye.High * s.Light.High := Int.mul_le_mul (by omega) (by omega) (by omega) (by omega)
  have ha := apart_mono (hl e (List.mem_cons_self ..)) hp hm
  unfold sureR clearB
  rw [ih, legW, how3, meltW, how1]
  generalize apartB (s.Eye.Low * s.Light.Low) b.At p e = A at ha
  generalize apartB (s.Eye.High * s.Light.High) b.At p e = B at ha
  cases A <;> cases B <;> first | (simp; done) | exact absurd (ha rfl) (by decide)
theorem neverR_eq (h : Good s b p) : ∀ ls : List GSightLetter, (∀ l ∈ ls, BL l) → neverR s b p ls = !clearB (s.Eye.High * s.Light.High) b.At p ls
 | [], _ => rfl
 | [e], hl => by
  obtain ⟨hp, _, _, w1, w2⟩ := goods h
  have q1 := h.el; have q2 := h.em; have q3 := h.ll; have q4 := h.lm
  have hm : s.Eye.Low * s.Light.Low ≤ s.Eye.High * s.Light.High := Int.mul_le_mul (by omega) (by omega) (by omega) (by omega)
  have ha := leg_mono (hl e (List.mem_cons_self ..)) hp w1.1 hm
  unfold neverR clearB
  rw [legW, how1]
  generalize legB (s.Eye.Low * s.Light.Low) b.At p e = A at ha
  generalize legB (s.Eye.High * s.Light.High) b.At p e = B at ha
  cases A <;> cases B <;> first | rfl | exact absurd (ha rfl) (by decide)
 | e :: e' :: ls, hl => by
  obtain ⟨hp, _, _, w1, w2⟩ := goods h
  have ih := neverR_eq h (e' :: ls) (fun l hl' => hl l (List.mem_cons_of_mem _ hl'))
  have q1 := h.el; have q2 := h.em; have q3 := h.ll; have q4 := h.lm
  have hm : s.Eye.Low * s.Light.Low ≤ s.Eye.High * s.Light.High := Int.mul_le_mul (by omega) (by omega) (by omega) (by omega)
  have ha := leg_mono (hl e (List.mem_cons_self ..)) hp w1.1 hm
  unfold neverR clearB
  rw [ih, legW, how1, meltW, how3]
  generalize legB (s.Eye.Low * s.Light.Low) b.At p e = A at ha
  generalize legB (s.Eye.High * s.Light.High) b.At p e = B at ha
  cases A <;> cases B <;> cases apartB (s.Eye.High * s.Light.High) b.At p e <;> first | (simp; done) | exact absurd (ha rfl) (by decide)
end
theorem SightParts_true (s : GSightStreet) (n : Int) (p : GSightPlace) (h : FineS s) : g_law02_SightParts s n p = some true := by
 obtain ⟨bs, hb⟩ := short_some s h
 simp only [g_law02_SightParts, right_eq s n p h bs hb, Option.bind_some, g_law02_known]
 cases hr : (bs && (streetB s && (numB s n && placeB s p))) with
 | false => rfl
 | true =>
  simp only [Bool.and_eq_true] at hr
  obtain ⟨_, h1, h2, h3⟩ := hr
  simp only [cond_true]
  rcases Seen_eq s n p h with ⟨b, b1, b2, b3, _, _, _, x0⟩ | ⟨g1, _⟩
  ·rcases LMH_eq s n p h with ⟨b', b1', _, _, _, _, _, x1, x2, x3⟩ | ⟨g1, _⟩
   ·rw [b1] at b1'; cases b1'
    obtain ⟨hp, hl, hk, w1, w2⟩ := goods b3
    have n1 := b3.n1; have n5 := b3.n5; have nb := b3.nb
    have q1 := b3.el; have q2 := b3.em; have q3 := b3.ll; have q4 := b3.lm
    have hm : s.Eye.Low * s.Light.Low ≤ s.Eye.High * s.Light.High := Int.mul_le_mul (by omega) (by omega) (by omega) (by omega)
    have hkm := clear_mono (ls := b.Letters) hl hp w1.1 hm
    have k3 := all_less (f := behB b.At p) (g := fun k => k.Sure) s.Blocks
    have hhl := hids_len (f := behB b.At p) s.Blocks 0
    have l2 : lenOk b.Letters = true := lenOk_of (by omega)
    have l3 : lenOk (hidL s b p) = true := lenOk_of (by unfold hidL; omega)
    have e1 : ((legsL s b p).length : Int) = (b.Letters.length : Int) := by unfold legsL; rw [List.length_map]
    have e2 : ((meltsL s b p).length : Int) = (b.Letters.length : Int) - 1 := by unfold meltsL; rw [List.length_map, List.length_take]; omega
    have e3 : IntKind.i64.wrap ((b.Letters.length : Int) - 1) = (b.Letters.length : Int) - 1 := wrap_eq (by omega) (by omega)
    have e4 : decide (((hidL s b p).length : Int) > (s.Blocks.length : Int)) = false := decide_eq_false (by unfold hidL; omega)
    have e5 : (((hidL s b p).length : Int) == 0) = s.Blocks.all (fun k => !behB b.At p k) := hids_beq _ _
    have p0 := parts_l0 (s := s) (b := b) (p := p) n5 0 0 b.Letters 0 (s.Blocks.all (fun k => !behB b.At p k)) false (by omega) rfl
    have p1 := fun n => parts_l1 (s := s) (f := behB b.At p) 0 nb (hidL s b p) (by unfold hidL; omega) s.Blocks 0 0 n (by omega) (by omega) rfl rfl (fun hc => by omega)
    have p1' : ∀ n, g_law02_SightParts_l1 s (hidL s b p, 0) (hidL s b p) 0 n = some (.go (n || s.Blocks.any (fun k => behB b.At p k && k.Sure))) := p1
    have e6 : s.Blocks.any (fun k => behB b.At p k && k.Sure) = !s.Blocks.all (fun k => !(behB b.At p k && k.Sure)) := by rw [List.any_eq_not_all_not]
    simp only [x0, x1, x2, x3, b1, Option.bind_some, bne_self_eq_false, cond_false, e1, e2, e3, e4, e5, l2, l3, cond_true, p0, lbind_go, p1', sureR_eq b3 b.Letters hl, neverR_eq b3 b.Letters hl, e6]
    simp only [seenI, sureB, mayB]
    generalize clearB (s.Eye.Low * s.Light.Low) b.At p b.Letters = A at hkm
    generalize clearB (s.Eye.High * s.Light.High) b.At p b.Letters = C at hkm
    generalize s.Blocks.all (fun k => !behB b.At p k) = N at k3
    generalize s.Blocks.all (fun k => !(behB b.At p k && k.Sure)) = M at k3
    cases A <;> cases C <;> cases N <;> cases M <;> first | rfl | (exfalso; first | exact absurd (hkm rfl) (by decide) | exact absurd (k3 rfl) (by decide))
   ·rw [h1, h2, h3] at g1; cases g1
  ·rw [h1, h2, h3] at g1; cases g1
end Go.V
end
