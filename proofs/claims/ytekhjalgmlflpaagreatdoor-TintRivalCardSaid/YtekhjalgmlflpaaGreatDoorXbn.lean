/- Part of a proof. -/
import Derived.Test.YtekhjalgmlflpaaGreatDoorXbm
set_option linter.all false
set_option maxRecDepth 4000
set_option maxHeartbeats 40000000
section
namespace Go.V
open Go
theorem zadd {s : Gs} (hs : ShOk s) {o : List Int} (ho : MixOk s o) :
  (sureL s = [] → surelyB s o = false) ∧ (mayL s = [] → wordI s o = 1) ∧ (mayL s = [] → sureL s = []) := by
 refine ⟨fun h => ?_, fun h => ?_, fun h => ?_⟩
 ·cases hb : surelyB s o with
  | false => rfl
  | true =>
   have : o ∈ sureL s := List.mem_filter.2 ⟨(zil hs).2 ho, hb⟩
   rw [h] at this
   cases this
 ·have hb : mayB s o = false := by
   cases hb : mayB s o with
   | false => rfl
   | true =>
    have : o ∈ mayL s := List.mem_filter.2 ⟨(zil hs).2 ho, hb⟩
    rw [h] at this
    cases this
  rw [← ztz hs ho] at hb
  simpa using hb
 ·cases hl : sureL s with
  | nil => rfl
  | cons q l =>
   have hq : q ∈ sureL s := hl ▸ List.mem_cons_self ..
   have h1 := List.mem_filter.1 hq
   have : q ∈ mayL s := List.mem_filter.2 ⟨h1.1, zvn hs ((zil hs).1 h1.1) h1.2⟩
   rw [h] at this
   cases this
theorem zqd (b : List Int) : ∀ (l : List Int) (c : Int), 0 ≤ c → c + l.length = b.length → ∃ r, zdb b l c = some r ∧ (r = .go () ∨ r = .ret false)
 | [], c, _, _ => ⟨_, rfl, .inl rfl⟩
 | e :: l, c, h0, hl => by
  rw [List.length_cons] at hl
  obtain ⟨x, hx, _⟩ := zahv (xs := b) (i := c) h0 (by omega)
  simp only [zdb, hx, Option.bind_some]
  cases (e != x) with
  | true => exact ⟨_, rfl, .inr rfl⟩
  | false => exact zqd b l (c + 1) (by omega) (by omega)
theorem zajp {a b : List Int} (ha : lenOk a = true) (h : a.length = b.length) : ∃ t, zce a b = some t ∧ (a = b → t = true) := by
 by_cases e : a = b
 ·subst e
  exact ⟨true, zafz ha, fun _ => rfl⟩
 ·obtain ⟨r, hr, h2⟩ := zqd b a 0 (Int.le_refl _) (by omega)
  unfold zce
  rw [hr, ha, h, bne_self_eq_false, cond_false, cond_true]
  rcases h2 with rfl | rfl
  ·exact ⟨true, rfl, fun k => absurd k e⟩
  ·exact ⟨false, rfl, fun k => absurd k e⟩
theorem zrw (s : Gs) (o : List Int) (h : lenOk s.Tins = true) (hm : lenOk o = true) : zfh s o = some true := by
 unfold zfh
 obtain ⟨b, hb, hb2⟩ := zagf h hm
 rw [hb]
 cases b with
 | false => rfl
 | true =>
 obtain ⟨hs, ho⟩ := hb2 rfl
 have hc := zadd hs ho
 have h494 : (sureL s).length ≤ 494 := Nat.le_trans (List.length_filter_le ..) (zakn hs)
 rw [zakh h, zatd h, zakr h, zqt hs h ho, hs.ok]
 simp only [Option.bind_some, cond_true, zamp, ztz hs ho]
 have hn1 : decide (((sureL s).length : Int) < 0) = false := decide_eq_false (by omega)
 have hn2 : decide (((sureL s).length : Int) > 494) = false := decide_eq_false (by omega)
 rw [hn1, hn2]
 cases hM : mayL s with
 | nil =>
  have h1 := hc.2.2 hM
  have h2 := hc.1 h1
  have h3 := hc.2.1 hM
  have h4 : mayB s o = false := by rw [← ztz hs ho, h3]; rfl
  rw [h1, h2, h4]
  rfl
 | cons m M =>
  have hmm : m ∈ mayL s := hM ▸ List.mem_cons_self ..
  have hmo : MixOk s m := (zil hs).1 (List.mem_filter.1 hmm).1
  have hmb := (List.mem_filter.1 hmm).2
  have hw : (wordI s m == 1) = false := by
   have := ztz hs hmo
   rw [hmb] at this
   simpa using this
  have hso : mayB s o = true → sooB o m = false := fun hb => (zuv hs hM ho hb).1
  cases hS : sureL s with
  | nil =>
   have h2 := hc.1 hS
   rw [h2]
   simp only [hdE, zxg hs (hmo.lenOk hs), hmo.ok, zqt hs h hmo, hw, znb hs ho hmo, Option.bind_some, cond_true, cond_false]
   cases hb : mayB s o with
   | false => rfl
   | true => rw [hso hb]; rfl
  | cons l L =>
   have hll : l ∈ sureL s := hS ▸ List.mem_cons_self ..
   have hlo : MixOk s l := (zil hs).1 (List.mem_filter.1 hll).1
   have hlb := (List.mem_filter.1 hll).2
   have hlm := zvn hs hlo hlb
   have hlm2 := (zuv hs hM hlo hlm).1
   have hos : surelyB s o = true → sooB o l = false ∧ (o = l ∨ o ∈ L) := fun hb => zuv hs hS ho hb
   have hpos : decide (((l :: L).length : Int) > 0) = true := decide_eq_true (by simp only [List.length_cons]; omega)
   obtain ⟨t, ht, ht2⟩ := zajp (a := o) (b := l) (ho.lenOk hs) (by rw [ho.n, hlo.n])
   simp only [hdE, hpos, zxg hs (hmo.lenOk hs), hmo.ok, zxg hs (hlo.lenOk hs), hlo.ok, zqt hs h hmo, zqt hs h hlo, hw, znb hs ho hmo, znb hs hlo hmo, znb hs ho hlo, hlm2, zamp, hlb, ht, Option.bind_some, cond_true, cond_false]
   have h3 : (wordI s o != 3) = !surelyB s o := by rw [← zamp]; rfl
   rw [h3]
   cases hb : mayB s o with
   | false =>
    have : surelyB s o = false := by
     cases hx : surelyB s o with
     | false => rfl
     | true => rw [zvn hs ho hx] at hb; cases hb
    rw [this]
    rfl
   | true =>
    rw [hso hb]
    cases hx : surelyB s o with
    | false => rfl
    | true =>
     obtain ⟨h5, h6⟩ := hos hx
     rw [h5]
     cases ht' : t with
     | true => rfl
     | false =>
      have h7 : o ∈ L := by
       rcases h6 with h6 | h6
       ·rw [ht2 h6] at ht'; cases ht'
       ·exact h6
      have h8 : decide (((l :: L).length : Int) > 1) = true := by
       have := List.length_pos_of_mem h7
       exact decide_eq_true (by simp only [List.length_cons]; omega)
      simp only [h8]
      rfl
end Go.V
end
