/- Part of a proof. -/
import Derived.Test.YtjpgejagakmjgaaGreatDoorSbl
set_option linter.all false
set_option maxRecDepth 4000
set_option maxHeartbeats 40000000
section
namespace Go.V
open Go
theorem zzs {c u : Int} (h0 : 0 ≤ c) (h2 : 1 ≤ u) (h3 : u ≤ 12) : 0 ≤ rd c u 1 ∧ rd c u 1 ≤ rd c u 4 ∧ rd c u 4 ≤ rd c u 3 ∧ rd c u 3 ≤ rd c u 2 ∧ rd c u 2 ≤ rd c u 1 + 1 := by
 have e1 : rd c u 1 = c / u := rfl
 have e2 : rd c u 2 = (c + u - 1) / u := rfl
 have e3 : rd c u 3 = (2 * c + u) / (2 * u) := rfl
 have e4 : rd c u 4 = if 2 * (((2 * c + u) / (2 * u)) * u - c) = u ∧ ((2 * c + u) / (2 * u)) % 2 = 1 then (2 * c + u) / (2 * u) - 1 else (2 * c + u) / (2 * u) := rfl
 rw [e1, e2, e3, e4]
 rcases zdn h2 h3 with h | h | h | h | h | h | h | h | h | h | h | h <;> subst h <;> split <;> omega
theorem zale {a b u : Int} (ha : 0 ≤ a) (hb : 0 ≤ b) (h2 : 1 ≤ u) (h3 : u ≤ 12) : rd a u 1 + rd b u 1 ≤ rd (a + b) u 1 := by
 show a / u + b / u ≤ (a + b) / u
 rcases zdn h2 h3 with h | h | h | h | h | h | h | h | h | h | h | h <;> subst h <;> omega
theorem rd_up {a b u : Int} (ha : 0 ≤ a) (hb : 0 ≤ b) (h2 : 1 ≤ u) (h3 : u ≤ 12) : rd (a + b) u 2 ≤ rd a u 2 + rd b u 2 := by
 show (a + b + u - 1) / u ≤ (a + u - 1) / u + (b + u - 1) / u
 rcases zdn h2 h3 with h | h | h | h | h | h | h | h | h | h | h | h <;> subst h <;> omega
theorem zanb {j u : Int} (h2 : 1 ≤ u) (h3 : u ≤ 12) : rd (j * u) u 1 = rd (j * u) u 2 := by
 show j * u / u = (j * u + u - 1) / u
 rcases zdn h2 h3 with h | h | h | h | h | h | h | h | h | h | h | h <;> subst h <;> omega
theorem zacz {f g : Int → Int} : ∀ {l : List Int}, (∀ q ∈ l, f q ≤ g q) → sumL (l.map f) ≤ sumL (l.map g)
 | [], _ => Int.le_refl _
 | a :: l, h => by
  have h1 := h a (List.mem_cons_self ..)
  have h2 := zacz fun q hq => h q (List.mem_cons_of_mem _ hq)
  simp only [List.map_cons, sumL]; omega
theorem zafw {f g : Int → Int} : ∀ {l : List Int}, (∀ q ∈ l, f q ≤ g q + 1) → sumL (l.map f) ≤ sumL (l.map g) + l.length
 | [], _ => by simp [sumL]
 | a :: l, h => by
  have h1 := h a (List.mem_cons_self ..)
  have h2 := zafw fun q hq => h q (List.mem_cons_of_mem _ hq)
  simp only [List.map_cons, sumL, List.length_cons]; omega
theorem zyw : ∀ {l : List Int}, (∀ q ∈ l, 0 ≤ q) → 0 ≤ sumL l
 | [], _ => Int.le_refl _
 | a :: l, h => by
  have h1 := h a (List.mem_cons_self ..)
  have h2 := zyw fun q hq => h q (List.mem_cons_of_mem _ hq)
  simp only [sumL]; omega
theorem zald : ∀ {l : List Int}, (∀ q ∈ l, 0 ≤ q) → ∀ q ∈ l, q ≤ sumL l
 | [], _, _, hq => by cases hq
 | a :: l, h, q, hq => by
  have h1 := h a (List.mem_cons_self ..)
  have h2 := zyw fun q hq => h q (List.mem_cons_of_mem _ hq)
  simp only [sumL]
  rcases List.mem_cons.1 hq with rfl | hq
  ·omega
  ·have := zald (fun q hq => h q (List.mem_cons_of_mem _ hq)) q hq
   omega
def fP (t : GPriceTariff) (r q : Int) : Int := rd (q * t.Coins) t.Units r
theorem zape {t : GPriceTariff} (ot : TOk t) {r : Int} (h : r = 1 ∨ r = 2) : fP t r 0 = 0 := by
 unfold fP
 rw [Int.zero_mul]
 have := rd_b (c := 0) (r := r) (by omega) ot.u.1 ot.u.2
 omega
theorem zze {t : GPriceTariff} (ot : TOk t) : ∀ {l : List Int}, (∀ q ∈ l, 0 ≤ q) → sumL (l.map (fP t 1)) ≤ fP t 1 (sumL l)
 | [], _ => by simp only [List.map_nil, sumL]; rw [zape ot (.inl rfl)]; exact Int.le_refl _
 | a :: l, h => by
  have h1 := h a (List.mem_cons_self ..)
  have h3 := zyw fun q hq => h q (List.mem_cons_of_mem _ hq)
  have h2 := zze ot fun q hq => h q (List.mem_cons_of_mem _ hq)
  have := zale (Int.mul_nonneg h1 ot.c.1) (Int.mul_nonneg h3 ot.c.1) ot.u.1 ot.u.2
  simp only [List.map_cons, sumL]
  unfold fP at h2 ⊢
  rw [Int.add_mul]; omega
theorem zanh {t : GPriceTariff} (ot : TOk t) : ∀ {l : List Int}, (∀ q ∈ l, 0 ≤ q) → fP t 2 (sumL l) ≤ sumL (l.map (fP t 2))
 | [], _ => by simp only [List.map_nil, sumL]; rw [zape ot (.inr rfl)]; exact Int.le_refl _
 | a :: l, h => by
  have h1 := h a (List.mem_cons_self ..)
  have h3 := zyw fun q hq => h q (List.mem_cons_of_mem _ hq)
  have h2 := zanh ot fun q hq => h q (List.mem_cons_of_mem _ hq)
  have := rd_up (Int.mul_nonneg h1 ot.c.1) (Int.mul_nonneg h3 ot.c.1) ot.u.1 ot.u.2
  simp only [List.map_cons, sumL]
  unfold fP at h2 ⊢
  rw [Int.add_mul]; omega
theorem zamz {t : GPriceTariff} (ot : TOk t) (h : Int.tmod t.Coins t.Units = 0) (q : Int) : fP t 1 q = fP t 2 q := by
 unfold fP
 rw [Int.tmod_eq_emod_of_nonneg ot.c.1] at h
 obtain ⟨k, hk⟩ := Int.dvd_of_emod_eq_zero h
 rw [hk, show q * (t.Units * k) = q * k * t.Units by rw [Int.mul_comm t.Units k, Int.mul_assoc]]
 exact zanb ot.u.1 ot.u.2
def eP (t : GPriceTariff) (bs : List GPriceBoard) (hs : List Int) (r : Int) : Int := sumL ((qsP t.Kind bs hs).map (fP t r))
def aP (t : GPriceTariff) (bs : List GPriceBoard) (hs : List Int) (r : Int) : Int := fP t r (sumL (qsP t.Kind bs hs))
theorem zaga {t : GPriceTariff} {bs : List GPriceBoard} {hs : List Int} (h : t.Each = true) : rulesP t bs hs = [eP t bs hs 1, eP t bs hs 2, eP t bs hs 3, eP t bs hs 4] := by
 have : ∀ r, paidP (withR t r) bs hs = eP t bs hs r := fun r => by
  unfold paidP
  rw [show (withR t r).Each = true from h]
  rfl
 unfold rulesP
 rw [this, this, this, this]
theorem zafx {t : GPriceTariff} {bs : List GPriceBoard} {hs : List Int} (h : t.Each = false) : rulesP t bs hs = [aP t bs hs 1, aP t bs hs 2, aP t bs hs 3, aP t bs hs 4] := by
 have : ∀ r, paidP (withR t r) bs hs = aP t bs hs r := fun r => by
  unfold paidP
  rw [show (withR t r).Each = false from h]
  rfl
 unfold rulesP
 rw [this, this, this, this]
theorem zaeo {t : GPriceTariff} (ot : TOk t) (bs : List GPriceBoard) (hs : List Int) : getI (rulesP t bs hs) (IntKind.i64.wrap (t.Rule - 1)) = some (paidP t bs hs) := by
 obtain ⟨k, c, u, r, e⟩ := t
 have h := ot.r
 simp only at h
 rw [zch (by simp only; omega) (by simp only; omega)]
 simp only
 rcases (show r = 1 ∨ r = 2 ∨ r = 3 ∨ r = 4 by omega) with h | h | h | h <;> subst h <;> rfl
theorem zaks {t : GPriceTariff} (ot : TOk t) {bs : List GPriceBoard} {hs : List Int} (hf : Fit bs hs) : 0 ≤ eP t bs hs 1 ∧ eP t bs hs 1 ≤ eP t bs hs 4 ∧ eP t bs hs 4 ≤ eP t bs hs 3 ∧ eP t bs hs 3 ≤ eP t bs hs 2 ∧ eP t bs hs 2 ≤ eP t bs hs 1 + bs.length := by
 have h : ∀ q ∈ qsP t.Kind bs hs, _ := fun q hq => zzs (c := q * t.Coins) (Int.mul_nonneg (hf.q _ q hq).1 ot.c.1) ot.u.1 ot.u.2
 have h5 := zafw (f := fP t 2) (g := fP t 1) fun q hq => (h q hq).2.2.2.2
 rw [zny hf.len] at h5
 refine ⟨zyw ?_, zacz fun q hq => (h q hq).2.1, zacz fun q hq => (h q hq).2.2.1, zacz fun q hq => (h q hq).2.2.2.1, h5⟩
 intro x hx
 obtain ⟨q, hq, rfl⟩ := List.mem_map.1 hx
 exact (h q hq).1
theorem zapd {t : GPriceTariff} (ot : TOk t) {bs : List GPriceBoard} {hs : List Int} (hf : Fit bs hs) : 0 ≤ aP t bs hs 1 ∧ aP t bs hs 1 ≤ aP t bs hs 4 ∧ aP t bs hs 4 ≤ aP t bs hs 3 ∧ aP t bs hs 3 ≤ aP t bs hs 2 ∧ aP t bs hs 2 ≤ aP t bs hs 1 + 1 :=
 zzs (Int.mul_nonneg (zahq hf).1 ot.c.1) ot.u.1 ot.u.2
theorem rl0 (r3 : Int × Int) : ∀ (p : List Int) (i a : Int), (∀ q ∈ p, 0 ≤ q ∧ q ≤ r3.1) → (∀ q ∈ p, q ≤ 1000000) → 0 ≤ a → a + 1000000 * p.length ≤ 1000000000000 → zar r3 p i a = some (.go (a + sumL p))
 | [], i, a, _, _, _, _ => by simp [zar, sumL]
 | q :: p, i, a, h, hm, h0, hn => by
  have h1 := h q (List.mem_cons_self ..)
  have h2 := hm q (List.mem_cons_self ..)
  simp only [List.length_cons, Int.natCast_add, Int.mul_add] at hn
  simp only [zar]
  rw [decide_eq_false (by omega), decide_eq_false (by omega), zch (by omega) (by omega), cond_false, cond_false, rl0 r3 p (i + 1) (a + q) (fun q hq => h q (List.mem_cons_of_mem _ hq)) (fun q hq => hm q (List.mem_cons_of_mem _ hq)) (by omega) (by omega)]
  simp only [sumL]
  rw [Int.add_assoc]
theorem rl1 (r3 : Int × Int) : ∀ (p : List Int) (i a : Int), (∀ q ∈ p, 0 ≤ q ∧ q ≤ r3.1) → (∀ q ∈ p, q ≤ 1000000) → 0 ≤ a → a + 1000000 * p.length ≤ 1000000000000 → zas r3 p i a = some (.go (a + sumL p))
 | [], i, a, _, _, _, _ => by simp [zas, sumL]
 | q :: p, i, a, h, hm, h0, hn => by
  have h1 := h q (List.mem_cons_self ..)
  have h2 := hm q (List.mem_cons_self ..)
  simp only [List.length_cons, Int.natCast_add, Int.mul_add] at hn
  simp only [zas]
  rw [decide_eq_false (by omega), decide_eq_false (by omega), zch (by omega) (by omega), cond_false, cond_false, rl1 r3 p (i + 1) (a + q) (fun q hq => h q (List.mem_cons_of_mem _ hq)) (fun q hq => hm q (List.mem_cons_of_mem _ hq)) (by omega) (by omega)]
  simp only [sumL]
  rw [Int.add_assoc]
def flipE (t : GPriceTariff) : GPriceTariff := ⟨t.Kind, t.Coins, t.Units, t.Rule, !t.Each⟩
theorem zmy (s : GPriceSheet) (n : Int) (hs : List Int) (ok : lenOk s.Offs = true ∧ lenOk s.Boards = true ∧ lenOk s.Tariffs = true) (hl : lenOk hs = true) : zdm s n hs = some true := by
 unfold zdm
 rcases zvx s n hs with h | ⟨h, a⟩
 ·rw [h]; rfl
 rw [h]
 obtain ⟨t, ht, htm, ot⟩ := zaje a.sheet a.tar
 have hn := zafu a.sheet
 have hf := zacx a.sheet a.hrs
 have of : TOk (flipE t) := ⟨ot.k, ot.c, ot.u, ot.r⟩
 obtain ⟨s2, hs2⟩ : ∃ s2 : GPriceSheet, s2 = ⟨s.Offs, s.Boards, s.Tariffs.set n.toNat (flipE t)⟩ := ⟨_, rfl⟩
 have sB : s2.Boards = s.Boards := by rw [hs2]
 have sT : s2.Tariffs = s.Tariffs.set n.toNat (flipE t) := by rw [hs2]
 have sO : s2.Offs = s.Offs := by rw [hs2]
 have a2 : Asked s2 n hs := by
  refine ⟨⟨by rw [sO]; exact a.ok.o, by rw [sB]; exact a.ok.b, zgg (by rw [sT, List.length_set]; omega)⟩, ?_, ?_, by rw [sB]; exact a.hrs⟩
  ·have h := a.sheet
   simp only [sheetB, Bool.and_eq_true, List.all_eq_true, sB, sT, sO, List.length_set] at h ⊢
   refine ⟨h.1, h.2.1, h.2.2.1, ?_⟩
   intro x hx
   rcases List.mem_or_eq_of_mem_set hx with hx | rfl
   ·exact h.2.2.2 x hx
   ·simp only [tariffB, Bool.and_eq_true, zlf]
    exact ⟨of.k, of.r, of.c, of.u⟩
  ·have := a.tar
   unfold tarB at this ⊢
   rw [sT, List.length_set]; exact this
 have hu2 : getI s2.Tariffs n = some (flipE t) := by rw [sT]; exact zajb ht
 simp only [Option.bind_some, cond_true, zabe a ht ot, zahe a ht ot, zagx a ht ot, List.nil_append, zasb hn.2.1, room40 (show s.Tariffs.length ≤ 1000 by omega), ht]
 rw [show GPriceTariff.mk t.Kind t.Coins t.Units t.Rule (!t.Each) = flipE t from rfl, ← hs2, zabe a2 hu2 of, sB]
 have oe := zaks ot hf
 have oa := zapd ot hf
 have nn : ∀ q ∈ qsP t.Kind s.Boards hs, 0 ≤ q := fun q hq => (hf.q _ q hq).1
 have d1 : eP t s.Boards hs 1 ≤ aP t s.Boards hs 1 := zze ot nn
 have d2 : aP t s.Boards hs 2 ≤ eP t s.Boards hs 2 := zanh ot nn
 have hu : (t.Units != 0) = true := by have := ot.u; simp; omega
 have hb := zari (ot.withR (r := 2) (by omega) (by omega)) hf
 have hfew := hf.few
 have hlp := zpe (t := t) hf
 have own := zaeo ot s.Boards hs
 cases he : t.Each with
 | true =>
  have e1 : paidP (withR t 2) s.Boards hs = eP t s.Boards hs 2 := by unfold paidP; rw [show (withR t 2).Each = true from he]; rfl
  have e2 : paidP t s.Boards hs = sumL (partsP t s.Boards hs) := by unfold paidP; rw [he]; rfl
  rw [e1] at hb
  rw [zaga he] at own ⊢
  rw [zafx (t := flipE t) (by show (!t.Each) = false; rw [he]; rfl)]
  have pb := zaas ot hf
  have ple := zald (l := partsP t s.Boards hs) fun q hq => (pb q hq).1
  rw [← e2] at ple
  have r0 := rl0 (paidP t s.Boards hs, 0) (partsP t s.Boards hs) 0 0 (fun q hq => ⟨(pb q hq).1, ple q hq⟩) (fun q hq => by have := pb q hq; omega) (Int.le_refl _) (by omega)
  have r1 := rl1 (paidP t s.Boards hs, 0) (partsP t s.Boards hs) 0 0 (fun q hq => ⟨(pb q hq).1, ple q hq⟩) (fun q hq => by have := pb q hq; omega) (Int.le_refl _) (by omega)
  rw [Int.zero_add, ← e2] at r0 r1
  have q0 : ∀ (a b c d : Int), getI [a, b, c, d] 0 = some a := fun _ _ _ _ => rfl
  have q1 : ∀ (a b c d : Int), getI [a, b, c, d] 1 = some b := fun _ _ _ _ => rfl
  have q2 : ∀ (a b c d : Int), getI [a, b, c, d] 2 = some c := fun _ _ _ _ => rfl
  have q3 : ∀ (a b c d : Int), getI [a, b, c, d] 3 = some d := fun _ _ _ _ => rfl
  have fl1 : ∀ r, aP (flipE t) s.Boards hs r = aP t s.Boards hs r := fun _ => rfl
  simp only [Option.bind_some, own, q0, q1, q2, q3, fl1, bne_self_eq_false, cond_false, cond_true, hlp, List.length_cons, List.length_nil, hu, show (((0 + 1 + 1 + 1 + 1 : Nat) : Int) != 4) = false from rfl]
  rw [decide_eq_false (show ¬ eP t s.Boards hs 1 < 0 by omega), decide_eq_false (show ¬ eP t s.Boards hs 1 > eP t s.Boards hs 4 by omega), decide_eq_false (show ¬ eP t s.Boards hs 4 > eP t s.Boards hs 3 by omega), decide_eq_false (show ¬ eP t s.Boards hs 3 > eP t s.Boards hs 2 by omega), decide_eq_false (show ¬ eP t s.Boards hs 2 > 1000000 by omega), zch (n := eP t s.Boards hs 2 - eP t s.Boards hs 1) (by omega) (by omega), decide_eq_false (show ¬ eP t s.Boards hs 2 - eP t s.Boards hs 1 > (s.Boards.length : Int) by omega), decide_eq_false (show ¬ eP t s.Boards hs 1 > aP t s.Boards hs 1 by omega), decide_eq_false (show ¬ eP t s.Boards hs 2 < aP t s.Boards hs 2 by omega), zgg (show (partsP t s.Boards hs).length < 9223372036854775808 by omega), r0, r1]
  simp only [cond_false, cond_true, zzm, beq_self_eq_true]
  by_cases hm : Int.tmod t.Coins t.Units = 0
  ·have ee : eP t s.Boards hs 1 = eP t s.Boards hs 2 := by
    unfold eP
    congr 1
    exact List.map_congr_left fun q _ => zamz ot hm q
   rw [ee]
   simp
  ·rw [show (Int.tmod t.Coins t.Units == 0) = false from by simpa using hm]
   rfl
 | false =>
  have e1 : paidP (withR t 2) s.Boards hs = aP t s.Boards hs 2 := by unfold paidP; rw [show (withR t 2).Each = false from he]; rfl
  rw [e1] at hb
  rw [zafx he] at own ⊢
  rw [zaga (t := flipE t) (by show (!t.Each) = true; rw [he]; rfl)]
  have q0 : ∀ (a b c d : Int), getI [a, b, c, d] 0 = some a := fun _ _ _ _ => rfl
  have q1 : ∀ (a b c d : Int), getI [a, b, c, d] 1 = some b := fun _ _ _ _ => rfl
  have q2 : ∀ (a b c d : Int), getI [a, b, c, d] 2 = some c := fun _ _ _ _ => rfl
  have q3 : ∀ (a b c d : Int), getI [a, b, c, d] 3 = some d := fun _ _ _ _ => rfl
  have fl1 : ∀ r, eP (flipE t) s.Boards hs r = eP t s.Boards hs r := fun _ => rfl
  simp only [Option.bind_some, own, q0, q1, q2, q3, fl1, bne_self_eq_false, cond_false, cond_true, hlp, List.length_cons, List.length_nil, hu, show (((0 + 1 + 1 + 1 + 1 : Nat) : Int) != 4) = false from rfl]
  rw [decide_eq_false (show ¬ aP t s.Boards hs 1 < 0 by omega), decide_eq_false (show ¬ aP t s.Boards hs 1 > aP t s.Boards hs 4 by omega), decide_eq_false (show ¬ aP t s.Boards hs 4 > aP t s.Boards hs 3 by omega), decide_eq_false (show ¬ aP t s.Boards hs 3 > aP t s.Boards hs 2 by omega), decide_eq_false (show ¬ aP t s.Boards hs 2 > 1000000 by omega), zch (n := aP t s.Boards hs 2 - aP t s.Boards hs 1) (by omega) (by omega), decide_eq_false (show ¬ aP t s.Boards hs 2 - aP t s.Boards hs 1 > 1 by omega), decide_eq_false (show ¬ eP t s.Boards hs 1 > aP t s.Boards hs 1 by omega), decide_eq_false (show ¬ eP t s.Boards hs 2 < aP t s.Boards hs 2 by omega)]
  simp only [cond_false, cond_true]
  by_cases hm : Int.tmod t.Coins t.Units = 0
  ·have ee : aP t s.Boards hs 1 = aP t s.Boards hs 2 := zamz ot hm _
   rw [ee]
   simp
  ·rw [show (Int.tmod t.Coins t.Units == 0) = false from by simpa using hm]
   rfl
end Go.V
end
