/- Part of a proof. -/
import Derived.Test.YtmhlghgbfmcdaaaGreatDoorE1bm
set_option linter.all false
set_option maxRecDepth 4000
set_option maxHeartbeats 40000000
section
namespace Go.V
open Go Go.Proofs
theorem tG (n : Int) : ∀ (p : List Int) (c : Int), qc n p c = if n ∈ p then some (.ret true) else some (.go ())
 | [], _ => rfl
 | e :: p, c => by
  simp only [qc, tG n p (c + 1), List.mem_cons]
  by_cases h : e = n
  ·subst h; simp
  ·have h' : ¬ n = e := fun h2 => h h2.symm
   simp [h, h']
theorem Ei {l : List Int} (hl : l.length < 9223372036854775808) (n : Int) : rY l n = some (decide (n ∈ l)) := by
 unfold rY
 rw [fg hl, cond_true, tG]
 by_cases h : n ∈ l <;> simp [h, lbind]
theorem hr_l0 (hi : Bool) : ∀ (p : List GBs) (c : Int) (acc : List Int), acc.length + p.length ≤ 1000 → kO hi p c acc = some (.go (acc ++ p.map fun s => if hi then s.Hours.High else s.Hours.Low))
 | [], _, acc, _ => by simp [kO]
 | s :: p, c, acc, hn => by
  simp only [List.length_cons] at hn
  simp only [kO]
  cases hi with
  | true =>
   rw [cond_true, room8 (by simp; omega), cond_true, hr_l0 true p (c + 1) _ (by simp; omega)]
   simp
  | false =>
   rw [cond_false, room8 (by simp; omega), cond_true, hr_l0 false p (c + 1) _ (by simp; omega)]
   simp
def hrL (b : GBk) (hi : Bool) : List Int := b.Strokes.map fun s => if hi then s.Hours.High else s.Hours.Low
theorem hr_eq {b : GBk} (hb : BOk b) (hi : Bool) : qE b hi = some (hrL b hi) := by
 have := hb.ns
 unfold qE
 rw [fg (by omega), cond_true, hr_l0 hi b.Strokes 0 [] (by simp; omega)]
 rfl
theorem getMap {n : Nat} (f : Nat → Int) {i : Int} (h0 : 0 ≤ i) (h1 : i.toNat < n) : getI ((List.range n).map f) i = some (f i.toNat) := by
 unfold getI
 rw [if_pos h0, List.getElem?_map, List.getElem?_range h1]
 rfl
theorem Ej {b : GBk} (hi : Bool) {i : Int} (h0 : 0 ≤ i) (h1 : i.toNat < b.Strokes.length) : getI (hrL b hi) i = some (dF b (if hi then 1 else 0) i.toNat) := by
 unfold getI hrL dF
 rw [if_pos h0, List.getElem?_map, List.getElem?_eq_getElem h1]
 cases hi <;> simp
def foB (b : GBk) (pl : List Int) (i k : Nat) : Bool := (hF pl k == hF pl i) || decide ((k : Int) ∈ nF b i)
def foL (b : GBk) (pl : List Int) (i : Nat) : List Int := ((List.range' 0 i).filter (foB b pl i)).map fun k : Nat => (k : Int)
theorem NX {b : GBk} (h : Len b) {pl : List Int} (hp : pl.length = b.Strokes.length) {i k : Nat} (hk : k < i) (hi : i < b.Strokes.length) : qd b pl k i = some (foB b pl i k) := by
 unfold qd foB
 rw [decide_eq_true (by omega), cond_true, getP hp (by omega) (by omega), getP hp (by omega) (by omega)]
 have hx : getI b.Strokes i = some b.Strokes[i] := by
  unfold getI
  rw [if_pos (by omega), Int.toNat_natCast, List.getElem?_eq_getElem hi]
 have hn : nF b i = b.Strokes[i].Needs := by unfold nF; rw [List.getElem?_eq_getElem hi]
 simp only [Option.bind_some, Int.toNat_natCast, hx, hn]
 rw [Ei (h.nd _ (List.getElem_mem hi))]
 cases hF pl k == hF pl i <;> rfl
theorem oV {b : GBk} (h : Len b) {pl : List Int} (hp : pl.length = b.Strokes.length) {i : Nat} (hi : i < b.Strokes.length) (hn : b.Strokes.length ≤ 6) : ∀ (m k : Nat) (w : List Int), k + m = i → w.length ≤ k →
  ka b pl i m k w = some (w ++ ((List.range' k m).filter (foB b pl i)).map fun k : Nat => (k : Int))
 | 0, k, w, _, _ => by simp [ka]
 | m + 1, k, w, hk, hw => by
  simp only [ka, NX h hp (show k < i by omega) hi, Option.bind_some]
  rw [List.range'_succ, List.filter_cons]
  have e : ((k : Int) + 1) = ((k + 1 : Nat) : Int) := by omega
  rw [e]
  cases hf : foB b pl i k with
  | false => rw [cond_false, oV h hp hi hn m (k + 1) w (by omega) (by omega)]; simp
  | true => rw [cond_true, room8 (by simp; omega), cond_true, oV h hp hi hn m (k + 1) _ (by omega) (by simp; omega)]; simp
theorem Ek (i m : Nat) : List.set (List.replicate i (-1 : Int) ++ List.replicate (m + 1) 0) i (-1) = List.replicate (i + 1) (-1) ++ List.replicate m 0 := by
 rw [List.set_append_right _ _ (by simp), List.length_replicate, Nat.sub_self, List.replicate_succ, List.set_cons_zero, List.replicate_succ', List.append_assoc]
 rfl
theorem tH {b : GBk} (h : Len b) {pl : List Int} (hp : pl.length = b.Strokes.length) (hn : b.Strokes.length ≤ 6) : ∀ (m i : Nat) (pre : List (List Int)), i + m = b.Strokes.length →
  kP b pl m i pre (List.replicate i (-1) ++ List.replicate m 0) = some (pre ++ (List.range' i m).map (foL b pl), List.replicate b.Strokes.length (-1))
 | 0, i, pre, hi => by simp [kP]; omega
 | m + 1, i, pre, hi => by
  have e := oV h hp (i := i) (by omega) hn i 0 [] (by omega) (Nat.le_refl _)
  simp only [kP, Int.toNat_natCast]
  rw [show ka b pl i i 0 [] = _ from e]
  simp only [Option.bind_some, List.nil_append]
  rw [Ek, show ((i : Int) + 1) = ((i + 1 : Nat) : Int) by omega, tH h hp hn m (i + 1) _ (by omega), List.range'_succ]
  simp [foL]
section
variable {hd : Nat → Int} {nd : Nat → List Int} {d : Nat → Int}
def fT (B : Nat → Int) (t : Int) (j : Nat) : Int := if B j < t then B j else -1
def sT (B : Nat → Int) (t : Int) (i j : Nat) : Int := if j < i then fT B (t + 1) j else fT B t j
theorem tI {B : Nat → Int} {t : Int} {i : Nat} (h : B i ≠ t) : sT B t i = sT B t (i + 1) := by
 funext j
 unfold sT fT
 by_cases e : j = i
 ·subst e
  rw [if_neg (Nat.lt_irrefl _), if_pos (Nat.lt_succ_self _)]
  by_cases h1 : B j < t
  ·rw [if_pos h1, if_pos (by omega)]
  ·rw [if_neg h1, if_neg (by omega)]
 ·by_cases h1 : j < i
  ·simp only [h1, show j < i + 1 by omega, if_true]
  ·simp only [h1, show ¬ j < i + 1 by omega, if_false]
def ngF (v : Nat → Int) : Nat → Int
 | 0 => 0
 | n + 1 => ngF v n + if v n < 0 then 1 else 0
theorem vK {v w : Nat → Int} : ∀ {n : Nat}, (∀ k, k < n → v k = w k) → ngF v n = ngF w n
 | 0, _ => rfl
 | n + 1, h => by unfold ngF; rw [h n (Nat.lt_succ_self _), vK fun k hk => h k (Nat.lt_succ_of_lt hk)]
theorem ngF_b (v : Nat → Int) : ∀ n : Nat, 0 ≤ ngF v n ∧ ngF v n ≤ n
 | 0 => ⟨Int.le_refl _, Int.le_refl _⟩
 | n + 1 => by have := ngF_b v n; unfold ngF; split <;> omega
theorem tJ {v : Nat → Int} : ∀ {n : Nat}, ngF v n ≤ 0 → ∀ k, k < n → 0 ≤ v k
 | 0, _, _, h => absurd h (Nat.not_lt_zero _)
 | n + 1, h, k, hk => by
  have h1 := (ngF_b v n).1
  unfold ngF at h
  split at h
  ·omega
  ·rename_i hv
   by_cases e : k = n
   ·subst e; omega
   ·exact tJ (n := n) (by omega) k (by omega)
theorem oW {v : Nat → Int} : ∀ {n : Nat}, (∀ k, k < n → 0 ≤ v k) → ngF v n = 0
 | 0, _ => rfl
 | n + 1, h => by
  have := h n (Nat.lt_succ_self _)
  unfold ngF
  rw [oW fun k hk => h k (Nat.lt_succ_of_lt hk), if_neg (by omega)]
  rfl
theorem tK {v w : Nat → Int} {i : Nat} (h1 : v i < 0) (h2 : 0 ≤ w i) (h3 : ∀ k, k ≠ i → v k = w k) : ∀ {n : Nat}, i < n → ngF v n - 1 = ngF w n
 | 0, h => absurd h (Nat.not_lt_zero _)
 | n + 1, h => by
  unfold ngF
  by_cases e : i = n
  ·subst e
   rw [if_pos h1, if_neg (by omega), vK fun k hk => h3 k (by omega)]
   omega
  ·have := tK h1 h2 h3 (n := n) (by omega)
   rw [h3 n (fun e' => e e'.symm)]
   omega
theorem mG {n : Nat} {v d : Nat → Int} {hs bl : List Int} {t : Int} (hb : ∀ k : Nat, k < n → getI bl k = some (v k)) (hh : ∀ k : Nat, k < n → getI hs k = some (d k)) (hw : ∀ k : Nat, k < n → 0 ≤ v k → v k + d k < 9223372036854775808 ∧ 0 ≤ d k) :
  ∀ (p : List Nat) (c : Int), (∀ k ∈ p, k < n) → mH hs t bl (p.map fun k : Nat => (k : Int)) c = if ∀ k ∈ p, 0 ≤ v k ∧ v k + d k ≤ t then some (.go ()) else some (.ret false)
 | [], c, _ => by simp [mH]
 | k :: p, c, hp => by
  have hk := hp k (List.mem_cons_self ..)
  have ih := mG (t := t) hb hh hw p (c + 1) fun k hk => hp k (List.mem_cons_of_mem _ hk)
  simp only [List.map_cons, mH, hb k hk, hh k hk, Option.bind_some]
  by_cases h1 : v k < 0
  ·rw [decide_eq_true h1, cond_true, if_neg (fun h => by have := (h k (List.mem_cons_self ..)).1; omega)]
  ·rw [decide_eq_false h1, cond_false]
   have h2 := hw k hk (by omega)
   rw [gL (by omega) (by omega)]
   by_cases h3 : v k + d k > t
   ·rw [decide_eq_true h3, cond_true, if_neg (fun h => by have := (h k (List.mem_cons_self ..)).2; omega)]
   ·rw [decide_eq_false h3, cond_false, ih]
    congr 1
    simp only [List.mem_cons, forall_eq_or_imp, eq_iff_iff]
    exact ⟨fun h => ⟨⟨by omega, by omega⟩, h⟩, fun h => h.2⟩
end
structure Sim6 (b : GBk) (pl : List Int) (hs : List Int) (d : Nat → Int) : Prop where
 hL : Len b
 n6 : b.Strokes.length ≤ 6
 hp : pl.length = b.Strokes.length
 hn : NdOk (nF b)
 d0 : ∀ k, 0 ≤ d k ∧ d k ≤ 15
 hh : ∀ k : Nat, k < b.Strokes.length → getI hs k = some (d k)
section
variable {b : GBk} {pl hs : List Int} {d : Nat → Int} (S : Sim6 b pl hs d)
include S
theorem Sim6.Bb (k : Nat) (hk : k < b.Strokes.length) : 0 ≤ Bg (hF pl) (nF b) d k ∧ Bg (hF pl) (nF b) d k ≤ 90 := by
 have h1 := HX (hd := hF pl) S.hn S.d0 k
 have h2 := Bg_nn (hd := hF pl) (nd := nF b) (d := d) k
 rw [Ed_eq S.hn] at h1
 have := S.d0 k
 have := S.n6
 omega
theorem Sim6.ready {i : Nat} (hi : i < b.Strokes.length) {t : Int} (ht : 0 ≤ t) : (∀ k ∈ (List.range' 0 i).filter (foB b pl i), 0 ≤ sT (Bg (hF pl) (nF b) d) t i k ∧ sT (Bg (hF pl) (nF b) d) t i k + d k ≤ t) ↔ Bg (hF pl) (nF b) d i ≤ t := by
 constructor
 ·intro h
  have key : ∀ k, k < i → foB b pl i k = true → Ed (hF pl) (nF b) d k ≤ t := by
   intro k hk hf
   obtain ⟨h1, h2⟩ := h k (List.mem_filter.2 ⟨List.mem_range'.2 ⟨k, hk, by omega⟩, hf⟩)
   unfold sT fT at h1 h2
   rw [if_pos hk] at h1 h2
   rw [Ed_eq S.hn]
   split at h2
   ·exact h2
   ·rename_i hne
    rw [if_neg hne] at h1
    omega
  refine sI S.hn ht (fun k hk hh => key k hk ?_) (fun k hk => ?_)
  ·unfold foB; rw [hh]; simp
  ·obtain ⟨h1, h2⟩ := S.hn i k hk
   refine key _ h2 ?_
   unfold foB
   rw [Int.toNat_of_nonneg h1]
   simp [hk]
 ·intro h k hk
  obtain ⟨BP, hf⟩ := List.mem_filter.1 hk
  obtain ⟨j, hj, e⟩ := List.mem_range'.1 BP
  have hki : k < i := by omega
  have hE : Ed (hF pl) (nF b) d k ≤ Bg (hF pl) (nF b) d i := by
   unfold foB at hf
   rcases Bool.or_eq_true_iff.1 hf with h1 | h1
   ·exact BI S.hn (fun k => (S.d0 k).1) hki (by simpa using h1)
   ·have h2 := BF (hd := hF pl) (d := d) S.hn (of_decide_eq_true h1)
    rwa [Int.toNat_natCast] at h2
  rw [Ed_eq S.hn] at hE
  have h1 := S.Bb k (by omega)
  have h2 := S.d0 k
  unfold sT fT
  rw [if_pos hki, if_pos (by omega)]
  omega
theorem Sim6.l1 {t : Int} (ht : 0 ≤ t) (sP : t ≤ 1000) : ∀ (p : List Int) (i : Nat), i + p.length = b.Strokes.length →
  kQ ((List.range' 0 b.Strokes.length).map (foL b pl)) pl hs t p i (ngF (sT (Bg (hF pl) (nF b) d) t i) b.Strokes.length) ((List.range b.Strokes.length).map (sT (Bg (hF pl) (nF b) d) t i)) =
   some (.go (ngF (sT (Bg (hF pl) (nF b) d) t b.Strokes.length) b.Strokes.length, (List.range b.Strokes.length).map (sT (Bg (hF pl) (nF b) d) t b.Strokes.length)))
 | [], i, hi => by
  simp only [List.length_nil, Nat.add_zero] at hi
  subst hi
  rfl
 | e :: p, i, hi => by
  simp only [List.length_cons] at hi
  have hin : i < b.Strokes.length := by omega
  have hB := S.Bb i hin
  have ih := Sim6.l1 ht sP p (i + 1) (by omega)
  have e1 : ((i : Int) + 1) = ((i + 1 : Nat) : Int) := by omega
  have ev : sT (Bg (hF pl) (nF b) d) t i i = fT (Bg (hF pl) (nF b) d) t i := by unfold sT; rw [if_neg (Nat.lt_irrefl _)]
  simp only [kQ]
  rw [getMap _ (by omega) (by omega), Int.toNat_natCast, ev, e1]
  simp only [Option.bind_some]
  by_cases h1 : Bg (hF pl) (nF b) d i < t
  ·have e2 : fT (Bg (hF pl) (nF b) d) t i = Bg (hF pl) (nF b) d i := by unfold fT; rw [if_pos h1]
   rw [e2, decide_eq_false (by omega), cond_false, tI (i := i) (by omega)]
   exact ih
  ·have e2 : fT (Bg (hF pl) (nF b) d) t i = -1 := by unfold fT; rw [if_neg h1]
   have e3 : getI ((List.range' 0 b.Strokes.length).map (foL b pl)) i = some (foL b pl i) := by
    unfold getI
    rw [if_pos (by omega), Int.toNat_natCast, List.getElem?_map, List.getElem?_range' (by omega)]
    simp
   have h6 := S.n6
   have e4 : aC (foL b pl i) = true := by
    refine fg ?_
    have h2 : (foL b pl i).length ≤ i := by
     unfold foL
     rw [List.length_map]
     exact Nat.le_trans (List.length_filter_le _ _) (by simp)
    omega
   have e5 := mG (n := b.Strokes.length) (v := sT (Bg (hF pl) (nF b) d) t i) (d := d) (hs := hs) (t := t) (bl := (List.range b.Strokes.length).map (sT (Bg (hF pl) (nF b) d) t i))
    (fun k hk => by rw [getMap _ (by omega) (by omega), Int.toNat_natCast]) S.hh (fun k hk h0 => by
     have h3 := S.Bb k hk
     have h4 := S.d0 k
     refine ⟨?_, h4.1⟩
     unfold sT fT
     split <;> split <;> omega) ((List.range' 0 i).filter (foB b pl i)) 0 (fun k hk => by
     obtain ⟨j, hj, e⟩ := List.mem_range'.1 (List.mem_filter.1 hk).1
     omega)
   rw [e2, decide_eq_true (by omega), cond_true, e3]
   simp only [Option.bind_some]
   rw [e4, cond_true, show mH hs t ((List.range b.Strokes.length).map (sT (Bg (hF pl) (nF b) d) t i)) (foL b pl i) 0 = _ from e5]
   have hr := S.ready hin ht
   by_cases h3 : Bg (hF pl) (nF b) d i ≤ t
   ·rw [if_pos (hr.2 h3)]
    simp only [lbind]
    have h4 : Bg (hF pl) (nF b) d i = t := by omega
    have e6 : List.set ((List.range b.Strokes.length).map (sT (Bg (hF pl) (nF b) d) t i)) i t = (List.range b.Strokes.length).map (sT (Bg (hF pl) (nF b) d) t (i + 1)) := by
     refine List.ext_getElem? fun k => ?_
     rw [List.getElem?_set, List.getElem?_map, List.getElem?_map]
     by_cases hk : i = k
     ·subst hk
      rw [if_pos rfl, if_pos (by simpa using hin), List.getElem?_range hin]
      simp only [Option.map_some]
      unfold sT fT
      rw [if_pos (Nat.lt_succ_self _), if_pos (by omega), h4]
     ·rw [if_neg hk]
      by_cases hkn : k < b.Strokes.length
      ·rw [List.getElem?_range hkn]
       simp only [Option.map_some, Option.some.injEq]
       unfold sT
       by_cases h5 : k < i
       ·simp only [h5, show k < i + 1 by omega, if_true]
       ·simp only [h5, show ¬ k < i + 1 by omega, if_false]
      ·rw [List.getElem?_eq_none (by simp; omega)]
       rfl
    have e7 : ngF (sT (Bg (hF pl) (nF b) d) t i) b.Strokes.length - 1 = ngF (sT (Bg (hF pl) (nF b) d) t (i + 1)) b.Strokes.length := by
     refine tK (i := i) ?_ ?_ ?_ hin
     ·rw [ev, e2]; omega
     ·unfold sT fT
      rw [if_pos (Nat.lt_succ_self _), if_pos (by omega)]
      omega
     ·intro k hk
      unfold sT
      by_cases h5 : k < i
      ·simp only [h5, show k < i + 1 by omega, if_true]
      ·simp only [h5, show ¬ k < i + 1 by omega, if_false]
    have l3 := ngF_b (sT (Bg (hF pl) (nF b) d) t (i + 1)) b.Strokes.length
    rw [gL (by omega) (by omega), e7, e6]
    exact ih
   ·rw [if_neg (fun h => h3 (hr.1 h))]
    simp only [lbind, cond_false]
    rw [tI (i := i) (by omega)]
    exact ih
theorem Sim6.l0 : ∀ (k : Nat) (t : Int), 0 ≤ t → t ≤ 200 → 90 < t + k → ∃ c : Int × Int, lB ((List.range' 0 b.Strokes.length).map (foL b pl)) pl hs (k + 1) (ngF (sT (Bg (hF pl) (nF b) d) t 0) b.Strokes.length) t ((List.range b.Strokes.length).map (sT (Bg (hF pl) (nF b) d) t 0)) =
   some (.go (c.1, c.2, (List.range b.Strokes.length).map (Bg (hF pl) (nF b) d))) := by
 have fin : ∀ t : Int, (∀ j, j < b.Strokes.length → Bg (hF pl) (nF b) d j < t) → (List.range b.Strokes.length).map (sT (Bg (hF pl) (nF b) d) t 0) = (List.range b.Strokes.length).map (Bg (hF pl) (nF b) d) := by
  intro t h
  refine List.map_congr_left fun j hj => ?_
  unfold sT fT
  rw [if_neg (Nat.not_lt_zero _), if_pos (h j (List.mem_range.1 hj))]
 have stop : ∀ (k : Nat) (t : Int), ngF (sT (Bg (hF pl) (nF b) d) t 0) b.Strokes.length ≤ 0 → ∃ c : Int × Int, lB ((List.range' 0 b.Strokes.length).map (foL b pl)) pl hs (k + 1) (ngF (sT (Bg (hF pl) (nF b) d) t 0) b.Strokes.length) t ((List.range b.Strokes.length).map (sT (Bg (hF pl) (nF b) d) t 0)) =
   some (.go (c.1, c.2, (List.range b.Strokes.length).map (Bg (hF pl) (nF b) d))) := by
  intro k t hz
  refine ⟨(ngF (sT (Bg (hF pl) (nF b) d) t 0) b.Strokes.length, t), ?_⟩
  simp only [lB]
  rw [decide_eq_false (by omega), cond_false, fin t ?_]
  intro j hj
  have h1 := tJ hz j hj
  unfold sT fT at h1
  rw [if_neg (Nat.not_lt_zero _)] at h1
  split at h1
  ·assumption
  ·omega
 intro k
 induction k with
 | zero =>
  intro t h0 h1 h2
  refine stop 0 t ?_
  rw [oW ?_]
  ·exact Int.le_refl _
  ·intro j hj
   have := S.Bb j hj
   unfold sT fT
   rw [if_neg (Nat.not_lt_zero _), if_pos (by omega)]
   exact this.1
 | succ k ih =>
  intro t h0 h1 h2
  by_cases hz : ngF (sT (Bg (hF pl) (nF b) d) t 0) b.Strokes.length ≤ 0
  ·exact stop (k + 1) t hz
  ·have h6 := S.n6
   have ht : t ≤ 90 := by
    by_cases hh : t ≤ 90
    ·exact hh
    ·exfalso
     refine hz ?_
     rw [oW ?_]
     ·exact Int.le_refl _
     ·intro j hj
      have := S.Bb j hj
      unfold sT fT
      rw [if_neg (Nat.not_lt_zero _), if_pos (by omega)]
      exact this.1
   obtain ⟨c, ec⟩ := ih (t + 1) (by omega) (by omega) (by omega)
   refine ⟨c, ?_⟩
   have e1 := S.l1 h0 (by omega) pl 0 (by have := S.hp; omega)
   have en : ∀ j, j < b.Strokes.length → sT (Bg (hF pl) (nF b) d) t b.Strokes.length j = sT (Bg (hF pl) (nF b) d) (t + 1) 0 j := by
    intro j hj
    unfold sT
    rw [if_pos hj, if_neg (Nat.not_lt_zero _)]
   rw [vK en, List.map_congr_left (fun j hj => en j (List.mem_range.1 hj))] at e1
   rw [lB, decide_eq_true (by omega), cond_true, fg (by have := S.hp; omega), cond_true]
   rw [show kQ ((List.range' 0 b.Strokes.length).map (foL b pl)) pl hs t pl 0 _ _ = _ from e1]
   simp only [lbind]
   rw [gL (by omega) (by omega)]
   exact ec
theorem Sim6.begins : tL b pl hs = some ((List.range b.Strokes.length).map (Bg (hF pl) (nF b) d)) := by
 have h6 := S.n6
 have hp := S.hp
 unfold tL
 rw [show mkOk 8 (pl.length : Int) = true by rw [z4]; omega, cond_true, show mkOk 24 (pl.length : Int) = true by rw [z4]; omega, cond_true, fg (by omega), cond_true]
 have e1 := tH S.hL S.hp S.n6 b.Strokes.length 0 [] (by omega)
 simp only [List.replicate_zero, List.nil_append] at e1
 rw [Int.toNat_natCast, hp]
 rw [show kP b pl b.Strokes.length 0 [] (List.replicate b.Strokes.length 0) = _ from e1]
 simp only [Option.bind_some]
 obtain ⟨c, ec⟩ := S.l0 999999 0 (Int.le_refl _) (by omega) (by omega)
 have hneg : ∀ j, j < b.Strokes.length → sT (Bg (hF pl) (nF b) d) 0 0 j = -1 := by
  intro j hj
  have := S.Bb j hj
  unfold sT fT
  rw [if_neg (Nat.not_lt_zero _), if_neg (by omega)]
 have e2 : (List.range b.Strokes.length).map (sT (Bg (hF pl) (nF b) d) 0 0) = List.replicate b.Strokes.length (-1) := by
  rw [List.eq_replicate_iff]
  exact ⟨by simp, fun x hx => by obtain ⟨j, hj, rfl⟩ := List.mem_map.1 hx; exact hneg j (List.mem_range.1 hj)⟩
 have e3 : ∀ n, ngF (fun _ => -1) n = n := by
  intro n
  induction n with
  | zero => rfl
  | succ n ih => unfold ngF; rw [ih, if_pos (by omega)]; omega
 rw [e2, vK (w := fun _ => -1) hneg, e3] at ec
 rw [show lB ((List.range' 0 b.Strokes.length).map (foL b pl)) pl hs 1000000 (b.Strokes.length : Int) 0 (List.replicate b.Strokes.length (-1)) = _ from ec]
 rfl
theorem Sim6.ended_l0 : ∀ (k i : Nat), i ≤ b.Strokes.length → b.Strokes.length < i + k → ∃ c : Int, oX hs k i ((List.range b.Strokes.length).map fun j => if j < i then Ed (hF pl) (nF b) d j else Bg (hF pl) (nF b) d j) = some (.go (c, (List.range b.Strokes.length).map (Ed (hF pl) (nF b) d)))
 | 0, i, h, h2 => absurd h2 (by omega)
 | k + 1, i, h, h2 => by
  have h6 := S.n6
  simp only [oX, List.length_map, List.length_range]
  by_cases hi : i < b.Strokes.length
  ·have hB := S.Bb i hi
   have hd := S.d0 i
   rw [decide_eq_true (by omega), cond_true, getMap _ (by omega) (by omega), Int.toNat_natCast, if_neg (Nat.lt_irrefl _), S.hh i hi]
   simp only [Option.bind_some]
   rw [gL (n := Bg (hF pl) (nF b) d i + d i) (by omega) (by omega), ← Ed_eq S.hn, gL (by omega) (by omega), show ((i : Int) + 1) = ((i + 1 : Nat) : Int) by omega]
   have e6 : List.set ((List.range b.Strokes.length).map fun j => if j < i then Ed (hF pl) (nF b) d j else Bg (hF pl) (nF b) d j) i (Ed (hF pl) (nF b) d i) = (List.range b.Strokes.length).map fun j => if j < i + 1 then Ed (hF pl) (nF b) d j else Bg (hF pl) (nF b) d j := by
    refine List.ext_getElem? fun q => ?_
    rw [List.getElem?_set, List.getElem?_map, List.getElem?_map]
    by_cases hk : i = q
    ·subst hk
     rw [if_pos rfl, if_pos (by simpa using hi), List.getElem?_range hi]
     simp
    ·rw [if_neg hk]
     by_cases hkn : q < b.Strokes.length
     ·rw [List.getElem?_range hkn]
      simp only [Option.map_some, Option.some.injEq]
      by_cases h5 : q < i
      ·simp only [h5, show q < i + 1 by omega, if_true]
      ·simp only [h5, show ¬ q < i + 1 by omega, if_false]
     ·rw [List.getElem?_eq_none (by simp; omega)]
      rfl
   rw [e6]
   exact Sim6.ended_l0 k (i + 1) (by omega) (by omega)
  ·rw [decide_eq_false (by omega), cond_false]
   refine ⟨i, ?_⟩
   congr 3
   refine List.map_congr_left fun j hj => ?_
   rw [if_pos (by have := List.mem_range.1 hj; omega)]
theorem Sim6.ended : qF b pl hs = some ((List.range b.Strokes.length).map (Ed (hF pl) (nF b) d)) := by
 have h6 := S.n6
 unfold qF
 rw [S.begins]
 simp only [Option.bind_some]
 rw [fg (by simp; omega), cond_true]
 obtain ⟨c, ec⟩ := S.ended_l0 1000000 0 (Nat.zero_le _) (by omega)
 have e : ((List.range b.Strokes.length).map fun j => if j < 0 then Ed (hF pl) (nF b) d j else Bg (hF pl) (nF b) d j) = (List.range b.Strokes.length).map (Bg (hF pl) (nF b) d) := List.map_congr_left fun j _ => if_neg (Nat.not_lt_zero _)
 rw [e] at ec
 rw [show oX hs 1000000 0 ((List.range b.Strokes.length).map (Bg (hF pl) (nF b) d)) = _ from ec]
 rfl
end
theorem tM {b : GBk} (h : Len b) (hB : BOk b) {pl : List Int} (hp : pl.length = b.Strokes.length) (hi : Bool) : Sim6 b pl (hrL b hi) (dF b (if hi then 1 else 0)) :=
 ⟨h, hB.ns.2, hp, hB.h.nd, fun k => hB.h.d _ k, fun k hk => by rw [Ej hi (by omega) (by omega), Int.toNat_natCast]⟩
theorem tN {b : GBk} {pl : List Int} (hn : b.Strokes.length ≤ 6) : ∀ (m i : Nat) (acc : List GSpan), i + m = b.Strokes.length → acc.length = i →
  kR ((List.range b.Strokes.length).map (EE b pl 1)) ((List.range' i m).map (EE b pl 0)) i acc = some (.go (acc ++ (List.range' i m).map (endS b pl)))
 | 0, i, acc, _, _ => by simp [kR]
 | m + 1, i, acc, hi, ha => by
  simp only [List.range'_succ, List.map_cons, kR]
  rw [getMap _ (by omega) (by omega), Int.toNat_natCast]
  simp only [Option.bind_some]
  rw [room16 (by simp; omega), cond_true, show ((i : Int) + 1) = ((i + 1 : Nat) : Int) by omega, tN hn m (i + 1) _ (by omega) (by simp [ha])]
  simp [endS]
theorem El {b : GBk} (h : Len b) (hB : BOk b) {pl : List Int} (hp : pl.length = b.Strokes.length) : tO b pl = some (endsL b pl) := by
 have hn := hB.ns
 have e0 := (tM h hB hp false).ended
 have e1 := (tM h hB hp true).ended
 unfold tO
 rw [hr_eq hB, hr_eq hB]
 simp only [Option.bind_some, e0, e1, if_true, Bool.false_eq_true, if_false]
 rw [fg (by simp; omega), cond_true]
 have := tN (b := b) (pl := pl) hn.2 b.Strokes.length 0 [] (by omega) rfl
 rw [← List.range_eq_range'] at this
 rw [show kR ((List.range b.Strokes.length).map (Ed (hF pl) (nF b) (dF b 1))) ((List.range b.Strokes.length).map (Ed (hF pl) (nF b) (dF b 0))) 0 [] = _ from this]
 rfl
end Go.V
end
section
namespace Go.V
open Go Go.Proofs
def mI (ai : GBk) (aq : Int) : List GSpan → Int → Int → Int → Option (LOut (GSpan) (Int × Int))
 | [], cJ, bw, gR => some (.go (bw, gR))
 | e0 :: p0, cJ, bw, gR => Option.bind (getI ai.Strokes cJ) (fun x2 => cond (x2.Board == aq) (mI ai aq p0 (cJ + 1) (if bw < e0.Low then e0.Low else bw) (if gR < e0.High then e0.High else gR)) (mI ai aq p0 (cJ + 1) bw gR))
def tP (ai : GBk) (aZ : List GSpan) (aq : Int) : Option (GSpan) := cond (aC aZ) (lbind (mI ai aq aZ 0 0 0) (fun r4 => some r4) (fun c3 => some (GSpan.mk c3.1 c3.2)) (fun _ _ => none)) none
theorem NY (ai : GBk) (aZ : List GSpan) (aq : Int) (R : GSpan) (h : tP ai aZ aq = some R) : ah Tryz.prog G0 29 [.agg (cGBk ai), .sl (aa au aZ) (List.length aZ) false, .lit (.int .i64 aq)] (.tree (.agg (au R))) := by
 refine ah.runR mixed Tryz.call29 Tryz.func29 rfl (by simp [Tryz.ntmps29]; kernel_rfl) ?_
 obtain ⟨KF, h, kF, kN⟩ := cA h
 simp only [tP] at h
 cases g6 : (aC aZ)
 ·simp only [g6, hs] at h
  exact absurd h kN
 simp only [g6, hs] at h
 simp only [vz, tyf, g6, nm, seval]
 obtain ⟨K5, h, qP, lS, wD, km⟩ := eN h kN
 obtain ⟨f5, nc, h⟩ := call4 h
 obtain ⟨I5, gC⟩ : ∃ I : Nat → St → Prop, I = (fun m st => ∃ (p5 : List GSpan) (fH : Int) (cP : Int) (fc : Int), m = List.length p5 ∧ 0 ≤ fH ∧ List.drop (Int.toNat fH) aZ = p5 ∧ st.df = [] ∧ 4 ≤ st.nx ∧ st.H 0 = some (.cells (some 25) (cGBk ai)) ∧ st.H 1 = some (.cells (some 35) ([.lit (.int .i64 0)] ++ [.lit (.int .i64 0)])) ∧ st.H 2 = some (.cells (some 35) ([.lit (.int .i64 cP)] ++ [.lit (.int .i64 fc)])) ∧ st.tm 1 = .sl (aa au aZ) (List.length aZ) false ∧ st.tm 2 = .lit (.int .i64 aq) ∧ st.tm 3 = .ptr 0 0 ∧ st.tm 6 = .ptr 1 0 ∧ st.tm 7 = .ptr 2 0 ∧ st.tm 8 = .lit (.int .i64 fH) ∧ K5 (f5 p5 fH cP fc)) := ⟨_, rfl⟩
 refine loopK mixed (by kernel_rfl) I5 (List.length aZ) (by rw [gC]; refine ⟨aZ, 0, 0, 0, rfl, Int.le_refl _, rfl, rfl, (show 4 ≤ 4 by omega), ?_, ?_, ?_, ?_, ?_, ?_, ?_, ?_, ?_, h⟩ <;> first | (simp only [ua, nm, seval] <;> rfl) | rfl) ?_
 rintro m ⟨tm, H, gp, df⟩ hinv
 rw [gC] at hinv
 obtain ⟨p5, fH, cP, fc, rfl, cQ, du, hdf, nf, H7, H8, H9, aQ, aT, bj, ba, bx, bt, h⟩ := hinv
 simp only at hdf nf H7 H8 H9 aQ aT bj ba bx bt
 have cw := fj (m := 4) (b := gp) (by omega)
 subst hdf nc
 cases p5 with
 | nil =>
  have kD : (decide (fH < (List.length aZ : Int))) = false := eg cQ du
  simp only [mI, hs, reduceCtorEq] at h
  replace h := lS _ h
  try dsimp only at h
  try simp only [hs] at h
  try simp only [vz, tyf, g6, cw, aQ, aT, bj, ba, bx, bt, H7, H8, H9, kD, nm, seval]
  refine cL (x := (.agg ([.lit (.int .i64 cP)] ++ [.lit (.int .i64 fc)]))) (by first | (simp only [Tryz.results29, resV, resL, resV1, cD, cE, uw, cr, tyf, g6, cw, aQ, aT, bj, ba, bx, bt, H7, H8, H9, kD, nm, seval] <;> rfl) | rfl) ?_
  obtain rfl := kF _ h
  refine fN ?_ ?_
  ·simp only [tre, tytre, Bool.and_self]
  ·first | (simp only [outV, uw, fY, cr, tyf, nrm, aL, g6, cw, aQ, aT, bj, ba, bx, bt, H7, H8, H9, kD, nm, seval] <;> rfl) | rfl
 | cons e5 p5 =>
  have bN : (decide (fH < (List.length aZ : Int))) = true := eh cQ du
  have kc := cX cQ du
  have J7 := dO cQ du g6
  simp only [mI, hs, reduceCtorEq] at h
  obtain ⟨tQ, j6, h⟩ := optI h km
  try simp only [hs] at h
  cases dP : (tQ.Board == aq)
  ·simp only [dP, hs] at h
   have Em := And.intro g6 (And.intro cw (And.intro H7 (And.intro H8 (And.intro H9 (And.intro bN (And.intro J7 dP))))))
   simp only [vz, tyf, Em, aQ, aT, bj, ba, bx, bt, (gh kc), (aH j6), nm, seval]
   exact ⟨List.length p5, Nat.lt_succ_self _, by rw [gC]; refine ⟨p5, fH + 1, cP, fc, rfl, Int.le_trans cQ (Int.le_add_one (Int.le_refl _)), bV cQ du, rfl, (show 4 ≤ gp + 15 by omega), ?_, ?_, ?_, aQ, aT, bj, ba, bx, ?_, (by first | exact h | (simp only [Em]; exact h))⟩ <;> first | (simp only [ua, Em, aQ, aT, bj, ba, bx, bt, nm, seval] <;> rfl) | rfl⟩
  simp only [dP, hs] at h
  have kL := And.intro g6 (And.intro cw (And.intro H7 (And.intro H8 (And.intro H9 (And.intro bN (And.intro J7 dP))))))
  simp only [vz, tyf, kL, aQ, aT, bj, ba, bx, bt, (gh kc), (aH j6), nm, seval]
  refine lX (fun tm => tm 1 = .sl (aa au aZ) (List.length aZ) false ∧ tm 2 = .lit (.int .i64 aq) ∧ tm 3 = .ptr 0 0 ∧ tm 6 = .ptr 1 0 ∧ tm 7 = .ptr 2 0 ∧ tm 8 = .lit (.int .i64 fH) ∧ True) (by refine ⟨aQ, aT, bj, ba, bx, bt, trivial⟩ <;> first | (simp only [ua, kL, aQ, aT, bj, ba, bx, bt, nm, seval] <;> rfl) | rfl) ?_
  rintro tm ⟨cl, bk, cM, ca, ck, cu, _⟩
  simp only [vz, tyf, kL, (gh kc), (aH j6), cl, bk, cM, ca, ck, cu, nm, seval]
  refine lY ⟨?_, ?_⟩
  ·simp only [lZ, ma, gX, mb, and_true, true_and]
   repeat' (first | exact trivial | refine And.intro ?_ ?_ | rw [gX] | rw [mc] | exact Or.inl (by decide +kernel) | exact Or.inl (by dsimp only; decide +kernel) | (refine Or.inr ⟨?_, ?_⟩ <;> simp; done) | (refine Or.inr ⟨?_, ?_⟩ <;> simp <;> omega) | (refine Or.inr ⟨?_, ?_⟩ <;> simp [VEff.wr] <;> omega))
  simp only [vz, tyf, kL, (gh kc), (aH j6), cl, bk, cM, ca, ck, cu, nm, seval]
  exact ⟨List.length p5, Nat.lt_succ_self _, by rw [gC]; refine ⟨p5, fH + 1, (if cP < e5.Low then e5.Low else cP), (if fc < e5.High then e5.High else fc), rfl, Int.le_trans cQ (Int.le_add_one (Int.le_refl _)), bV cQ du, rfl, (show 4 ≤ gp + 33 by omega), ?_, ?_, ?_, cl, bk, cM, ca, ck, ?_, (by first | exact h | (simp only [kL]; exact h))⟩ <;> first | (simp only [ua, kL, cl, bk, cM, ca, ck, cu, nm, seval] <;> rfl) | rfl⟩


def oZ (dE : List GSpan) : List GSpan → Int → Option (LOut (Bool) (Unit))
 | [], bM => some (.go ())
 | e0 :: p0, bM => Option.bind (getI dE bM) (fun x1 => cond (e0.Low == x1.Low && (e0.High == x1.High)) (oZ dE p0 (bM + 1)) (some (.ret false)))
def tR (cK : List GSpan) (dE : List GSpan) : Option (Bool) := cond ((List.length cK : Int) != (List.length dE : Int)) (some false) (cond (aC cK) (lbind (oZ dE cK 0) (fun r3 => some r3) (fun c2 => some true) (fun _ _ => none)) none)
theorem NZ (cK : List GSpan) (dE : List GSpan) (R : Bool) (h : tR cK dE = some R) : ah Tryz.prog G0 27 [.sl (aa au cK) (List.length cK) false, .sl (aa au dE) (List.length dE) false] (.tree (.lit (.bool R))) := by
 refine ah.runR mixed Tryz.call27 Tryz.func27 rfl (by simp [Tryz.ntmps27]; kernel_rfl) ?_
 obtain ⟨KF, h, kF, kN⟩ := cA h
 simp only [tR] at h
 cases d4 : ((List.length cK : Int) != (List.length dE : Int))
 ·simp only [d4, hs] at h
  cases g6 : (aC cK)
  ·simp only [g6, hs] at h
   exact absurd h kN
  simp only [g6, hs] at h
  simp only [vz, tyf, d4, g6, nm, seval]
  obtain ⟨K5, h, qP, lS, wD, km⟩ := eN h kN
  obtain ⟨f5, nc, h⟩ := call2 h
  obtain ⟨I5, gC⟩ : ∃ I : Nat → St → Prop, I = (fun m st => ∃ (p5 : List GSpan) (gm : Int), m = List.length p5 ∧ 0 ≤ gm ∧ List.drop (Int.toNat gm) cK = p5 ∧ st.df = [] ∧ 7 ≤ st.nx ∧ st.tm 0 = .sl (aa au cK) (List.length cK) false ∧ st.tm 1 = .sl (aa au dE) (List.length dE) false ∧ st.tm 5 = .lit (.int .i64 gm) ∧ K5 (f5 p5 gm)) := ⟨_, rfl⟩
  refine loopK mixed (by kernel_rfl) I5 (List.length cK) (by rw [gC]; refine ⟨cK, 0, rfl, Int.le_refl _, rfl, rfl, (show 7 ≤ 7 by omega), ?_, ?_, ?_, h⟩ <;> first | (simp only [ua, d4, nm, seval] <;> rfl) | rfl) ?_
  rintro m ⟨tm, H, gp, df⟩ hinv
  rw [gC] at hinv
  obtain ⟨p5, gm, rfl, cQ, du, hdf, nf, e7, e8, e9, h⟩ := hinv
  simp only at hdf nf e7 e8 e9
  have dZ := fj (m := 7) (b := gp) (by omega)
  subst hdf nc
  cases p5 with
  | nil =>
   have f7 : (decide (gm < (List.length cK : Int))) = false := eg cQ du
   simp only [oZ, hs, reduceCtorEq] at h
   replace h := lS _ h
   try dsimp only at h
   try simp only [hs] at h
   try simp only [vz, tyf, d4, g6, dZ, e7, e8, e9, f7, nm, seval]
   obtain rfl := kF _ h
   exact bc Tryz.results27 rfl
  | cons e5 p5 =>
   have bn : (decide (gm < (List.length cK : Int))) = true := eh cQ du
   have nD := cX cQ du
   have tS := dO cQ du g6
   simp only [oZ, hs, reduceCtorEq] at h
   simp only [vz, tyf, d4, g6, dZ, e7, e8, e9, bn, (gh nD), tS, nm, seval]
   refine lp (fun tm => tm 0 = .sl (aa au cK) (List.length cK) false ∧ tm 1 = .sl (aa au dE) (List.length dE) false ∧ tm 5 = .lit (.int .i64 gm) ∧ True) (by refine ⟨e7, e8, e9, trivial⟩ <;> first | (simp only [ua, d4, dZ, e7, e8, e9, bn, tS, nm, seval] <;> rfl) | rfl) ?_
   rintro tm ⟨bt, bE, b5, _⟩
   obtain ⟨vL, qk, h⟩ := optI h km
   try simp only [hs] at h
   cases ej : (e5.Low == vL.Low && (e5.High == vL.High))
   ·simp only [ej, hs] at h
    try simp only [vz, tyf, d4, g6, dZ, bn, (gh nD), tS, bt, bE, b5, (gh qk), ej, nm, seval]
    replace h := qP _ h
    try dsimp only at h
    obtain rfl := kF _ h
    exact bc Tryz.results27 rfl
   simp only [ej, hs] at h
   simp only [vz, tyf, d4, g6, dZ, bn, (gh nD), tS, bt, bE, b5, (gh qk), ej, nm, seval]
   exact ⟨List.length p5, Nat.lt_succ_self _, by rw [gC]; refine ⟨p5, gm + 1, rfl, Int.le_trans cQ (Int.le_add_one (Int.le_refl _)), bV cQ du, rfl, (show 7 ≤ gp + 16 by omega), bt, bE, ?_, (by first | exact h | (simp only [d4, bn, ej]; exact h))⟩ <;> first | (simp only [ua, d4, dZ, bn, tS, bt, bE, b5, ej, nm, seval] <;> rfl) | rfl⟩
 simp only [d4, hs] at h
 try simp only [vz, tyf, d4, nm, seval]
 obtain rfl := kF _ h
 exact bc Tryz.results27 rfl


theorem J8 {xs : List GSpan} : ∀ (p : List GSpan) (c : Nat), xs.drop c = p → oZ xs p c = some (.go ())
 | [], _, _ => rfl
 | e :: p, c, h => by
  have h1 : getI xs (c : Int) = some e := cX (by omega) (by simpa using h)
  have h2 : xs.drop (c + 1) = p := by have := bV (i := (c : Int)) (by omega) (by simpa using h); simpa using this
  simp only [oZ, h1, Option.bind_some, beq_self_eq_true, Bool.and_self, cond_true]
  exact J8 p (c + 1) h2
theorem sameS {xs : List GSpan} (h : xs.length ≤ 1000) : tR xs xs = some true := by
 unfold tR
 rw [fg (by omega), cond_true, show oZ xs xs 0 = _ from J8 xs 0 rfl]
 simp [lbind]
theorem tT (a e : Int) : (if a < e then e else a) = max a e := by split <;> omega
theorem Eo {b : GBk} {pl : List Int} {bd : Int} : ∀ (ss : List GBs) (i : Nat) (lo hi : Int), b.Strokes.drop i = ss →
  mI b bd ((List.range' i ss.length).map (endS b pl)) i lo hi = some (.go (((itsF bd ss i).map fun k => EE b pl 0 k.toNat).foldl max lo, ((itsF bd ss i).map fun k => EE b pl 1 k.toNat).foldl max hi))
 | [], i, lo, hi, _ => rfl
 | s :: ss, i, lo, hi, h => by
  have h1 : getI b.Strokes (i : Int) = some s := cX (by omega) (by simpa using h)
  have h2 : b.Strokes.drop (i + 1) = ss := by have := bV (i := (i : Int)) (by omega) (by simpa using h); simpa using this
  simp only [List.length_cons, List.range'_succ, List.map_cons, mI, h1, Option.bind_some, itsF]
  rw [show ((i : Int) + 1) = ((i + 1 : Nat) : Int) by omega]
  by_cases hb : s.Board = bd
  ·rw [show (s.Board == bd) = true by simpa using hb, cond_true, if_pos hb, Eo ss (i + 1) _ _ h2, tT, tT]
   simp [endS]
  ·rw [show (s.Board == bd) = false by simpa using hb, cond_false, if_neg hb, Eo ss (i + 1) _ _ h2]
theorem Ep {b : GBk} (hB : BOk b) (pl : List Int) (bd : Int) : tP b (endsL b pl) bd = some (DN b pl bd) := by
 have hn := hB.ns
 have := Eo (b := b) (pl := pl) (bd := bd) b.Strokes 0 0 0 rfl
 rw [← List.range_eq_range'] at this
 unfold tP
 rw [fg (by rw [Ii]; omega), cond_true, show mI b bd (endsL b pl) 0 0 0 = _ from this]
 rfl
theorem Oa {b : GBk} (h : Len b) : qt b = some false ∨ qt b = some true := by
 unfold qt
 rw [fg h.st, cond_true]
 rcases HW b.Strokes 0 with e | e
 ·rw [e]
  simp only [lbind]
  cases (decide ((b.Boards.length : Int) ≤ 5)) with
  | false => exact .inl rfl
  | true => cases (decide ((b.Strokes.length : Int) ≤ 8)) <;> simp
 ·rw [e]; exact .inl rfl
def rangeFR (f : FuncId) (cf : al) (jump : Code → RS → ER) (n : Nat) (s : RS) (f0 : FuncId) (first captured : List VV) (ps : Array Tmp) (asg bo : Code) : ER :=
 match cf f0 (first ++ [.yl (s.nx + 1)] ++ captured) ((s.H.put s.nx (some (.deferred (some [])))).put (s.nx + 1) (some (.loopF .ready none (tmL n s.st.tm) ps asg bo f))) (s.nx + 2) with
 | .ret _ H' nx' => match H'.get (s.nx + 1) with
  | some (.loopF .busy _ _ _ _ _ _) => .no (.text 1)
  | some (.loopF _ pe tm ps asg bo fn) => match pe with
   | none => .mk .normal { s with H := H'.put (s.nx + 1) (some (.loopF .exhausted pe tm ps asg bo fn)), nx := nx', df := .coll s.nx :: s.df }
   | some c => jump c { s with H := H'.put (s.nx + 1) (some (.loopF .exhausted pe tm ps asg bo fn)), nx := nx', df := .coll s.nx :: s.df }
  | _ => .no (.text 2)
 | .pan x H' nx' => .mk (.panic x) { s with H := H', nx := nx', df := .coll s.nx :: s.df }
 | .no w => .no w
def GoOk (P : Program) (G : Glob) (f n : Nat) (go : Code → RS → ER) : Prop := ∀ code s e s', go code s = .mk e s' → ∀ Q : VExit → St → Prop, Q e s'.st → VGo P G f n code Q s.st
theorem Ob {P : Program} {G : Glob} {cf : al} (hcf : CallOk P G cf) {f : FuncId} {jump : Code → RS → ER} {n : Nat} (hj : GoOk P G f n jump) {s s' : RS} {e : VExit} {g : Operand} {f0 : FuncId} {first captured : List VV} {ps : Array Tmp} {asg bo : Code}
  (hg : s.st.ρ G g = .fn (.func f0) first captured) (h : rangeFR f cf jump n s f0 first captured ps asg bo = .mk e s') {Q : VExit → St → Prop} (hq : Q e s'.st) : VGo P G f n (.rangeFunc g ps asg bo) Q s.st := by
 refine VGo.range hg ?_
 unfold rangeFR at h
 have eH : ((s.H.put s.nx (some (.deferred (some [])))).put (s.nx + 1) (some (.loopF .ready none (tmL n s.st.tm) ps asg bo f))).get = updH (updH s.st.H s.st.nx (.deferred (some []))) (s.st.nx + 1) (.loopF .ready none (tmL n s.st.tm) ps asg bo f) := by
  rw [jZ, jZ]; rfl
 split at h
 ·rename_i x H' nx' hc
  have hv := hcf.1 _ _ _ _ _ _ _ hc
  rw [eH] at hv
  refine ar.mono hv ?_ ?_
  ·rintro y H1 n1 ⟨_, rfl, rfl⟩
   split at h
   ·cases h
   ·rename_i st pe iw ix iy iz jk hnb hl
    have e2 : ({ s with H := H'.put (s.nx + 1) (some (.loopF .exhausted pe iw ix iy iz jk)), nx := n1, df := .coll s.nx :: s.df } : RS).st = { s.st with H := updH H'.get (s.st.nx + 1) (.loopF .exhausted pe iw ix iy iz jk), nx := n1, df := .coll s.st.nx :: s.st.df } := by
     simp only [RS.st, jZ]
    refine ⟨st, pe, iw, ix, iy, iz, jk, hl, hnb, ?_⟩
    split at h
    ·cases h
     show Q .normal _
     rw [← e2]; exact hq
    ·rename_i c
     show VGo P _ f n c Q _
     rw [← e2]
     exact hj c _ e s' h Q hq
   ·cases h
  ·intro y H1 n1 h; exact h.elim
 ·rename_i x H' nx' hc
  have hv := hcf.2 _ _ _ _ _ _ _ hc
  rw [eH] at hv
  cases h
  refine ar.mono hv ?_ ?_
  ·intro y H1 n1 h; exact h.elim
  ·rintro y H1 n1 ⟨rfl, rfl, rfl⟩
   exact hq
 ·cases h
noncomputable def rangeFF (f : FuncId) (cf : al) (jump : Code → RS → ER) (n : Nat) (s : RS) (ps : Array Tmp) (asg bo : Code) (code : Code) (x : VV) : ER := match x with
 | .fn (.func f0) first captured => rangeFR f cf jump n s f0 first captured ps asg bo
 | _ => .no (.code code)
noncomputable def goF (G : Glob) (f : FuncId) (run : RunR) (cf : al) (n : Nat) (k : Nat) : Code → RS → ER :=
 Nat.rec (motive := fun _ => Code → RS → ER) (fun code s => run none n code s) (fun _ ih code s => match code with
  | .seq a b => thenQ (ih a s) (fun s' => ih b s')
  | .block id a => blockQ (ih a s) id
  | .rangeFunc g ps asg bo => rangeFF f cf (fun c s => run none n c s) n s ps asg bo code (ρQ G s.tm g)
  | code => run none n code s) k
theorem tU {P : Program} {G : Glob} {f n : Nat} {run : RunR} {cf : al} (hrun : RunOk P G run) (hcf : CallOk P G cf) : ∀ (k : Nat), GoOk P G f n (goF G f run cf n k)
 | 0, code, s, e, s', h, Q, hq => VGo.of (hrun none n code s e s' h Q hq)
 | k + 1, code, s, e, s', h, Q, hq => by
  have ih := tU (f := f) (n := n) hrun hcf k
  have dflt : run none n code s = .mk e s' → VGo P G f n code Q s.st := fun h => VGo.of (hrun none n code s e s' h Q hq)
  cases code with
  | seq a b =>
   have h' : thenQ (goF G f run cf n k a s) (fun s' => goF G f run cf n k b s') = .mk e s' := h
   cases hs : goF G f run cf n k a s with
   | no w => rw [hs] at h'; cases h'
   | mk e1 s1 =>
    rw [hs] at h'
    cases e1 with
    | normal => exact VGo.seq (ih a s .normal s1 hs _ (ih b s1 e s' h' Q hq))
    | exit id => cases h'; exact VGo.seq (ih a s _ _ hs _ hq)
    | goto l => cases h'; exact VGo.seq (ih a s _ _ hs _ hq)
    | ret => cases h'; exact VGo.seq (ih a s _ _ hs _ hq)
    | panic x => cases h'; exact VGo.seq (ih a s _ _ hs _ hq)
  | block id a =>
   have h' : blockQ (goF G f run cf n k a s) id = .mk e s' := h
   cases hs : goF G f run cf n k a s with
   | no w => rw [hs] at h'; cases h'
   | mk e1 s1 =>
    rw [hs] at h'
    refine VGo.block (ih a s e1 s1 hs _ ?_)
    cases e1 with
    | normal => cases h'; exact hq
    | goto l => cases h'; exact hq
    | ret => cases h'; exact hq
    | panic x => cases h'; exact hq
    | exit id' =>
     have h'' : Bool.rec (motive := fun _ => ER) (.mk (.exit id') s1) (.mk .normal s1) (Nat.beq id' id) = .mk e s' := h'
     show (if id' = id then _ else _)
     by_cases hid : id' = id
     ·have hb : Nat.beq id' id = true := by simpa using hid
      rw [hb] at h''
      cases h''
      rw [if_pos hid]; exact hq
     ·have hb : Nat.beq id' id = false := by cases hq : Nat.beq id' id with | false => rfl | true => exact absurd (by simpa using hq) hid
      rw [hb] at h''
      cases h''
      rw [if_neg hid]; exact hq
  | rangeFunc g ps asg bo =>
   have h' : rangeFF f cf (fun c s => run none n c s) n s ps asg bo (.rangeFunc g ps asg bo) (ρQ G s.tm g) = .mk e s' := h
   rw [ρQ_eq] at h'
   unfold rangeFF at h'
   split at h'
   ·rename_i f0 first captured hg
    exact Ob hcf (fun c s e s' hs Q hq => VGo.of (hrun none n c s e s' hs Q hq)) hg h' hq
   ·cases h'
  | _ => exact dflt h
noncomputable def enterF (P : Program) (G : Glob) (run : RunR) (cf : al) (k : Nat) (f : FuncId) (fn : Func) (code : Code) (args : List VV) (H : Trie VObj) (nx : Nat) : CR :=
 match goF G f run cf fn.ntmps k code (RS.mk (listV args 0 .nil) H nx []) with
 | .mk .ret s => leaveR P G run fn f s s.df .ret s.H s.nx
 | .mk .normal s => leaveR P G run fn f s s.df .ret s.H s.nx
 | .mk (.panic x) s => leaveR P G run fn f s s.df (.pan x false) s.H s.nx
 | .mk _ _ => .no (.fn f)
 | .no w => .no w
noncomputable def kd (P : Program) (G : Glob) (run : RunR) (cf : al) (k : Nat) : al := fun f args H nx => match textQ P f with
 | some (fn, code) => Bool.rec (motive := fun _ => CR) (.no (.fn f)) (enterF P G run cf k f fn code args H nx) (Nat.ble args.length fn.ntmps)
 | none => .no (.fn f)
theorem Er {P : Program} {f : FuncId} {fn : Func} {code : Code} (h : textQ P f = some (fn, code)) : P.funcs[f]? = some fn ∧ fn.body = some code ∧ nameQ fn = true := by
 unfold textQ at h
 split at h
 ·cases h
 ·rename_i m3 hf
  split at h
  ·cases h
  ·rename_i c1 hb
   split at h
   ·rename_i hn
    cases h
    exact ⟨hf, hb, hn⟩
   ·cases h
theorem J9 {P : Program} {G : Glob} {run : RunR} {cf : al} {k : Nat} (hrun : RunOk P G run) (hcf : CallOk P G cf) {f : FuncId} {args : List VV} {H : Trie VObj} {nx : Nat} {R Rp : VV → (Nat → Option VObj) → Nat → Prop}
  (h1 : ∀ x H' nx', kd P (G.at (some none)) run cf k f args H nx = .ret x H' nx' → R x H'.get nx') (h2 : ∀ x H' nx', kd P (G.at (some none)) run cf k f args H nx = .pan x H' nx' → Rp x H'.get nx') (h3 : ∀ w, kd P (G.at (some none)) run cf k f args H nx ≠ .no w) : ar P G f args H.get nx R Rp := by
 unfold kd at h1 h2 h3
 cases ht : textQ P f with
 | none => exact absurd (by simp only [ht]) (h3 (.fn f))
 | some p =>
  obtain ⟨fn, code⟩ := p
  obtain ⟨hf, hb, hn⟩ := Er ht
  cases hc : Nat.ble args.length fn.ntmps with
  | false => exact absurd (by simp only [ht, hc]) (h3 (.fn f))
  | true =>
   simp only [ht, hc] at h1 h2 h3
   simp only [Nat.ble_eq] at hc
   unfold enterF at h1 h2 h3
   rw [Ea] at h1 h2 h3
   cases hr : goF (G.at (some none)) f run cf fn.ntmps k code (RS.mk (Trie.ofList 0 args .nil) H nx []) with
   | no w => exact absurd (by rw [hr]) (h3 w)
   | mk e s =>
    rw [hr] at h1 h2 h3
    have body : OpenPostD P G fn R Rp e s.st → ar P G f args H.get nx R Rp := by
     intro hq
     have := tU (G := G.at (some none)) (f := f) (n := fn.ntmps) hrun hcf k code _ e s hr _ hq
     rw [argsR] at this
     exact ar.of_bodyGo (Es hf hb hn) hf hb hc this
    cases e with
    | ret => exact body (mJ hrun s.df .ret s.H s.nx h1 h2 h3)
    | normal => exact body (mJ hrun s.df .ret s.H s.nx h1 h2 h3)
    | panic x => exact body (mJ hrun s.df (.pan x false) s.H s.nx h1 h2 h3)
    | exit id => exact absurd rfl (h3 (.fn f))
    | goto l => exact absurd rfl (h3 (.fn f))
noncomputable def cfF (P : Program) (G : Glob) (run : RunR) (fs : List Nat) (k : Nat) : al := fun f args H nx => match fs.elem f with
 | true => kd P G run (cfQ P G run) k f args H nx
 | false => cfQ P G run f args H nx
theorem tV {P : Program} {G : Glob} {run : RunR} {fs : List Nat} {k : Nat} (hrun : RunOk P G run) : CallOk P G (cfF P (G.at (some none)) run fs k) := by
 have hcf : CallOk P G (cfQ P (G.at (some none)) run) := by rw [DZ]; exact Oc hrun
 constructor
 ·intro f args H nx x H' nx' h
  unfold cfF at h
  split at h
  ·exact J9 hrun hcf (fun y H1 n1 e => by rw [h] at e; cases e; exact ⟨rfl, rfl, rfl⟩) (fun y H1 n1 e => by rw [h] at e; cases e) (fun w e => by rw [h] at e; cases e)
  ·exact hcf.1 _ _ _ _ _ _ _ h
 ·intro f args H nx x H' nx' h
  unfold cfF at h
  split at h
  ·exact J9 hrun hcf (fun y H1 n1 e => by rw [h] at e; cases e) (fun y H1 n1 e => by rw [h] at e; cases e; exact ⟨rfl, rfl, rfl⟩) (fun w e => by rw [h] at e; cases e)
  ·exact hcf.2 _ _ _ _ _ _ _ h
noncomputable def runF (P : Program) (G : Glob) (fs : List Nat) (tab : KTab) (k : Nat) : RunR :=
 Nat.rec (motive := fun _ => RunR) (fun _ _ _ _ => .no .fuel) (fun k ih ro n code s => bodyA k ih (cfT tab (cfF P (G.at (some none)) ih fs k)) ro n s (ccB P G code)) k
theorem JA {P : Program} {G : Glob} {fs : List Nat} {tab : KTab} (hm : P.follows .mixedOrders = true) (ht : KTabOk P G tab) : ∀ (k : Nat), RunOk P G (runF P G fs tab k)
 | 0, _, _, _, _, _, _, h => by cases h
 | k + 1, ro, n, code, s, e, s', h => by
  intro Q hq
  have ih := JA (G := G) (fs := fs) hm ht k
  exact Od hm ih (Et ht (tV ih)) h hq
noncomputable def closedF (P : Program) (G : Glob) (fs : List Nat) (tab : KTab) (k : Nat) (f : FuncId) (args : List VV) : PRes ⊕ Why := pureQ (cfF P (G.at (some none)) (runF P G fs tab k) fs k) f args
theorem ah.closedF {P : Program} {G : Glob} {fs : List Nat} {tab : KTab} (hm : P.follows .mixedOrders = true) (ht : KTabOk P G tab) (k : Nat) {f : FuncId} {args : List VV} {r : PRes} (h : closedF P G fs tab k f args = .inl r) : ah P G f args r := by
 unfold Go.V.closedF at h
 rw [DW] at h
 exact tW (tV (JA hm ht k)) h
theorem hmix : Tryz.prog.follows .mixedOrders = true := by kernel_rfl
def kB : VV := (VV.agg [(VV.lit (Value.int IntKind.i64 (Int.ofNat 1))), (VV.sl [(VV.lit (Value.int IntKind.i64 (Int.ofNat 5))), (VV.lit (Value.int IntKind.i64 (Int.ofNat 6)))] 2 Bool.false), (VV.sl [(VV.lit (Value.int IntKind.i64 (Int.ofNat 1))), (VV.lit (Value.bool Bool.true)), (VV.lit (Value.int IntKind.i64 (Int.ofNat 2))), (VV.lit (Value.int IntKind.i64 (Int.ofNat 2))), (VV.lit (Value.slice Option.none 0 0)), (VV.lit (Value.int IntKind.i64 (Int.ofNat 0))), (VV.lit (Value.bool Bool.false)), (VV.lit (Value.int IntKind.i64 (Int.ofNat 2))), (VV.lit (Value.int IntKind.i64 (Int.ofNat 3))), (VV.lit (Value.slice Option.none 0 0)), (VV.lit (Value.int IntKind.i64 (Int.ofNat 0))), (VV.lit (Value.bool Bool.true)), (VV.lit (Value.int IntKind.i64 (Int.ofNat 1))), (VV.lit (Value.int IntKind.i64 (Int.ofNat 2))), (VV.sl [(VV.lit (Value.int IntKind.i64 (Int.ofNat 1)))] 1 Bool.false), (VV.lit (Value.int IntKind.i64 (Int.ofNat 1))), (VV.lit (Value.bool Bool.false)), (VV.lit (Value.int IntKind.i64 (Int.ofNat 1))), (VV.lit (Value.int IntKind.i64 (Int.ofNat 3))), (VV.sl [(VV.lit (Value.int IntKind.i64 (Int.ofNat 0)))] 1 Bool.false)] 4 Bool.false)])
def kEnds : VV := (VV.tup [(VV.sl [(VV.lit (Value.int IntKind.i64 (Int.ofNat 2))), (VV.lit (Value.int IntKind.i64 (Int.ofNat 2))), (VV.lit (Value.int IntKind.i64 (Int.ofNat 2))), (VV.lit (Value.int IntKind.i64 (Int.ofNat 3))), (VV.lit (Value.int IntKind.i64 (Int.ofNat 3))), (VV.lit (Value.int IntKind.i64 (Int.ofNat 5))), (VV.lit (Value.int IntKind.i64 (Int.ofNat 3))), (VV.lit (Value.int IntKind.i64 (Int.ofNat 6)))] 4 Bool.false), (VV.lit (Value.int IntKind.i64 (Int.ofNat 0)))])
def kDone : VV := (VV.tup [(VV.agg [(VV.lit (Value.int IntKind.i64 (Int.ofNat 3))), (VV.lit (Value.int IntKind.i64 (Int.ofNat 5)))]), (VV.lit (Value.int IntKind.i64 (Int.ofNat 0)))])
def kLate : VV := (VV.tup [(VV.sl [(VV.lit (Value.int IntKind.i64 (Int.ofNat 1))), (VV.lit (Value.int IntKind.i64 (Int.ofNat 2)))] 2 Bool.false), (VV.lit (Value.int IntKind.i64 (Int.ofNat 0)))])
def kWaits : VV := (VV.tup [(VV.sl [(VV.lit (Value.int IntKind.i64 (Int.ofNat 0))), (VV.lit (Value.int IntKind.i64 (Int.ofNat 0))), (VV.lit (Value.int IntKind.i64 (Int.ofNat 1))), (VV.lit (Value.int IntKind.i64 (Int.ofNat 0)))] 4 Bool.false), (VV.lit (Value.int IntKind.i64 (Int.ofNat 0)))])
def kChain : VV := (VV.tup [(VV.sl [(VV.lit (Value.int IntKind.i64 (Int.ofNat 1))), (VV.lit (Value.int IntKind.i64 (Int.ofNat 3)))] 2 Bool.false), (VV.lit (Value.int IntKind.i64 (Int.ofNat 0)))])
def kSpare : VV := (VV.tup [(VV.lit (Value.int IntKind.i64 (Int.ofNat 1))), (VV.lit (Value.int IntKind.i64 (Int.ofNat 0)))])
def kBest : VV := (VV.tup [(VV.sl [(VV.lit (Value.int IntKind.i64 (Int.ofNat 0))), (VV.lit (Value.int IntKind.i64 (Int.ofNat 1))), (VV.lit (Value.int IntKind.i64 (Int.ofNat 0))), (VV.lit (Value.int IntKind.i64 (Int.ofNat 1)))] 4 Bool.false), (VV.lit (Value.int IntKind.i64 (Int.ofNat 6))), (VV.lit (Value.int IntKind.i64 (Int.ofNat 0)))])
def kCount : VV := (VV.tup [(VV.lit (Value.int IntKind.i64 (Int.ofNat 1))), (VV.lit (Value.int IntKind.i64 (Int.ofNat 0)))])
def kWho : VV := (VV.tup [(VV.sl [(VV.lit (Value.int IntKind.i64 (Int.ofNat 1)))] 1 Bool.false), (VV.lit (Value.int IntKind.i64 (Int.ofNat 0)))])
def kGive : VV := (VV.tup [(VV.lit (Value.int IntKind.i64 (Int.ofNat 1))), (VV.lit (Value.int IntKind.i64 (Int.ofNat 8))), (VV.lit (Value.int IntKind.i64 (Int.ofNat 0)))])
def kMore : VV := (VV.tup [(VV.lit (Value.int IntKind.i64 (Int.ofNat 5))), (VV.lit (Value.int IntKind.i64 (Int.ofNat 0)))])
def kLeast : VV := (VV.tup [(VV.lit (Value.int IntKind.i64 (Int.ofNat 2))), (VV.lit (Value.int IntKind.i64 (Int.ofNat 0)))])
def kRead : VV := (VV.tup [(VV.agg [(VV.lit (Value.int IntKind.i64 (Int.ofNat 0))), (VV.sl [(VV.lit (Value.int IntKind.i64 (Int.ofNat 0)))] 1 Bool.false), (VV.sl [(VV.lit (Value.int IntKind.i64 (Int.ofNat 0))), (VV.lit (Value.bool Bool.false)), (VV.lit (Value.int IntKind.i64 (Int.ofNat 1))), (VV.lit (Value.int IntKind.i64 (Int.ofNat 1))), (VV.lit (Value.slice Option.none 0 0))] 1 Bool.false)]), (VV.lit (Value.int IntKind.i64 (Int.ofNat 0)))])
theorem pB : ah Tryz.prog G0 64 [] (.tree kB) := ah.closedF (fs := []) (tab := []) hmix trivial 1000 (by kernel_rfl)
theorem pEnds : ah Tryz.prog G0 22 [kB, .sl [.lit (.int .i64 (0)), .lit (.int .i64 (1)), .lit (.int .i64 (0)), .lit (.int .i64 (1))] 4 false] (.tree kEnds) := ah.closedF (fs := []) (tab := []) hmix trivial 1000 (by kernel_rfl)
theorem pDone : ah Tryz.prog G0 23 [kB, .sl [.lit (.int .i64 (0)), .lit (.int .i64 (1)), .lit (.int .i64 (0)), .lit (.int .i64 (1))] 4 false, .lit (.int .i64 (0))] (.tree kDone) := ah.closedF (fs := []) (tab := []) hmix trivial 1000 (by kernel_rfl)
theorem pLate : ah Tryz.prog G0 36 [kB, .sl [.lit (.int .i64 (0)), .lit (.int .i64 (1)), .lit (.int .i64 (0)), .lit (.int .i64 (0))] 4 false] (.tree kLate) := ah.closedF (fs := []) (tab := []) hmix trivial 1000 (by kernel_rfl)
theorem pWaits : ah Tryz.prog G0 37 [kB, .sl [.lit (.int .i64 (0)), .lit (.int .i64 (1)), .lit (.int .i64 (0)), .lit (.int .i64 (1))] 4 false] (.tree kWaits) := ah.closedF (fs := []) (tab := []) hmix trivial 1000 (by kernel_rfl)
theorem pChain : ah Tryz.prog G0 42 [kB, .sl [.lit (.int .i64 (0)), .lit (.int .i64 (1)), .lit (.int .i64 (0)), .lit (.int .i64 (1))] 4 false] (.tree kChain) := ah.closedF (fs := []) (tab := []) hmix trivial 1000 (by kernel_rfl)
theorem pSpare : ah Tryz.prog G0 43 [kB, .sl [.lit (.int .i64 (0)), .lit (.int .i64 (1)), .lit (.int .i64 (0)), .lit (.int .i64 (1))] 4 false, .lit (.int .i64 (0))] (.tree kSpare) := ah.closedF (fs := []) (tab := []) hmix trivial 1000 (by kernel_rfl)
theorem pBest : ah Tryz.prog G0 51 [kB] (.tree kBest) := ah.closedF (fs := []) (tab := []) hmix trivial 1000 (by kernel_rfl)
theorem pCount : ah Tryz.prog G0 52 [kB] (.tree kCount) := ah.closedF (fs := []) (tab := []) hmix trivial 1000 (by kernel_rfl)
theorem pWho : ah Tryz.prog G0 55 [kB, .lit (.int .i64 (1))] (.tree kWho) := ah.closedF (fs := []) (tab := []) hmix trivial 1000 (by kernel_rfl)
theorem pGive : ah Tryz.prog G0 56 [kB, .sl [.lit (.int .i64 (0)), .lit (.int .i64 (0)), .lit (.int .i64 (0)), .lit (.int .i64 (0))] 4 false, .lit (.int .i64 (1))] (.tree kGive) := ah.closedF (fs := []) (tab := []) hmix trivial 1000 (by kernel_rfl)
theorem pMore : ah Tryz.prog G0 60 [kB] (.tree kMore) := ah.closedF (fs := []) (tab := []) hmix trivial 1000 (by kernel_rfl)
theorem pLeast : ah Tryz.prog G0 61 [kB, .lit (.int .i64 (5))] (.tree kLeast) := ah.closedF (fs := []) (tab := []) hmix trivial 1000 (by kernel_rfl)
theorem pRead : ah Tryz.prog G0 65 [.lit (.string ⟨⟨[98, 101, 110, 99, 104, 32, 48, 10, 98, 111, 97, 114, 100, 32, 48, 10, 115, 116, 114, 97, 105, 103, 104, 116, 32, 48, 32, 49, 32, 49, 32, 45, 10, 101, 110, 100, 32, 49, 55, 53, 10]⟩⟩)] (.tree kRead) := ah.closedF (fs := []) (tab := []) hmix trivial 1000 (by kernel_rfl)
def kTab : KTab := [
  (64, [], kB),
  (22, [kB, .sl [.lit (.int .i64 (0)), .lit (.int .i64 (1)), .lit (.int .i64 (0)), .lit (.int .i64 (1))] 4 false], kEnds),
  (23, [kB, .sl [.lit (.int .i64 (0)), .lit (.int .i64 (1)), .lit (.int .i64 (0)), .lit (.int .i64 (1))] 4 false, .lit (.int .i64 (0))], kDone),
  (36, [kB, .sl [.lit (.int .i64 (0)), .lit (.int .i64 (1)), .lit (.int .i64 (0)), .lit (.int .i64 (0))] 4 false], kLate),
  (37, [kB, .sl [.lit (.int .i64 (0)), .lit (.int .i64 (1)), .lit (.int .i64 (0)), .lit (.int .i64 (1))] 4 false], kWaits),
  (42, [kB, .sl [.lit (.int .i64 (0)), .lit (.int .i64 (1)), .lit (.int .i64 (0)), .lit (.int .i64 (1))] 4 false], kChain),
  (43, [kB, .sl [.lit (.int .i64 (0)), .lit (.int .i64 (1)), .lit (.int .i64 (0)), .lit (.int .i64 (1))] 4 false, .lit (.int .i64 (0))], kSpare),
  (51, [kB], kBest),
  (52, [kB], kCount),
  (55, [kB, .lit (.int .i64 (1))], kWho),
  (56, [kB, .sl [.lit (.int .i64 (0)), .lit (.int .i64 (0)), .lit (.int .i64 (0)), .lit (.int .i64 (0))] 4 false, .lit (.int .i64 (1))], kGive),
  (60, [kB], kMore),
  (61, [kB, .lit (.int .i64 (5))], kLeast),
  (65, [.lit (.string ⟨⟨[98, 101, 110, 99, 104, 32, 48, 10, 98, 111, 97, 114, 100, 32, 48, 10, 115, 116, 114, 97, 105, 103, 104, 116, 32, 48, 32, 49, 32, 49, 32, 45, 10, 101, 110, 100, 32, 49, 55, 53, 10]⟩⟩)], kRead)]
theorem kTabOk : KTabOk Tryz.prog G0 kTab := ⟨⟨by kernel_rfl, pB⟩, ⟨⟨by kernel_rfl, pEnds⟩, ⟨⟨by kernel_rfl, pDone⟩, ⟨⟨by kernel_rfl, pLate⟩, ⟨⟨by kernel_rfl, pWaits⟩, ⟨⟨by kernel_rfl, pChain⟩, ⟨⟨by kernel_rfl, pSpare⟩, ⟨⟨by kernel_rfl, pBest⟩, ⟨⟨by kernel_rfl, pCount⟩, ⟨⟨by kernel_rfl, pWho⟩, ⟨⟨by kernel_rfl, pGive⟩, ⟨⟨by kernel_rfl, pMore⟩, ⟨⟨by kernel_rfl, pLeast⟩, ⟨⟨by kernel_rfl, pRead⟩, trivial⟩⟩⟩⟩⟩⟩⟩⟩⟩⟩⟩⟩⟩⟩
theorem pKnown : ah Tryz.prog G0 20 [] (.tree (.lit (.bool true))) := ah.closedF (fs := []) hmix kTabOk 1000 (by kernel_rfl)
#print axioms pKnown
theorem qG : ah Tryz.prog G0 20 [] (.tree (.lit (.bool true))) := pKnown
def vM (ai : GBk) : Option (Int) := Option.bind (nC ai) (fun r1 => cond (r1) (some 0) (some 2))
theorem Oe (ai : GBk) (R : Int) (h : vM ai = some R) : ah Tryz.prog G0 21 [.agg (cGBk ai)] (.tree (.lit (.int .i64 R))) := by
 refine ah.runR mixed Tryz.call21 Tryz.func21 rfl (by simp [Tryz.ntmps21]; kernel_rfl) ?_
 obtain ⟨KF, h, kF, kN⟩ := cA h
 simp only [vM] at h
 obtain ⟨r2, o3, h⟩ := optI h kN
 try simp only [hs] at h
 simp only [vz, tyf, nm, seval]
 refine ktA (zn _ _ o3) ?_
 refine bJ (fun tm => tm 4 = .lit (.bool r2) ∧ True) (by refine ⟨?_, trivial⟩ <;> first | (simp only [ua, nm, seval] <;> rfl) | rfl) ?_
 rintro tm ⟨e4, _⟩
 cases d5 : (r2)
 ·simp only [d5, hs] at h
  try simp only [vz, tyf, e4, d5, nm, seval]
  refine cL (x := (.lit (.int .i64 2))) (by first | (simp only [Tryz.results21, resV, resL, resV1, cD, cE, uw, cr, tyf, d5, nm, seval] <;> rfl) | rfl) ?_
  obtain rfl := kF _ h
  refine fN ?_ ?_
  ·simp only [tre, tytre, Bool.and_self]
  ·first | (simp only [outV, uw, fY, cr, tyf, nrm, aL, e4, d5, nm, seval] <;> rfl) | rfl
 simp only [d5, hs] at h
 try simp only [vz, tyf, e4, d5, nm, seval]
 refine cL (x := (.lit (.int .i64 0))) (by first | (simp only [Tryz.results21, resV, resL, resV1, cD, cE, uw, cr, tyf, d5, nm, seval] <;> rfl) | rfl) ?_
 obtain rfl := kF _ h
 refine fN ?_ ?_
 ·simp only [tre, tytre, Bool.and_self]
 ·first | (simp only [outV, uw, fY, cr, tyf, nrm, aL, e4, d5, nm, seval] <;> rfl) | rfl
def vN (ai : GBk) (ae : List Int) (aq : Int) : Option (Bool) := Option.bind (qt ai) (fun r1 => cond (r1) (Option.bind (vC ae) (fun r2 => cond (r2) (Option.bind (vM ai) (fun r3 => Option.bind (rN ai ae) (fun r4 => Option.bind (rU ai ae aq) (fun r5 => Option.bind (tk ai) (fun r6 => cond (r6) (Option.bind (tt ai ae) (fun r7 => cond (r7) (Option.bind (tO ai ae) (fun r8 => cond (r3 != 0) (some false) (cond (r4.2 != 0) (some false) (Option.bind (tR r4.1 r8) (fun r9 => cond (r9) (Option.bind (tu ai aq) (fun oI => cond (oI) (cond (r5.2 == 0) (Option.bind (tP ai r8 aq) (fun te => cond (r5.1.Low == te.Low && (r5.1.High == te.High)) (some true) (some false))) (some false)) (cond (r5.2 == 2) (cond (r5.1.Low == 0 && (r5.1.High == 0)) (some true) (some false)) (some false)))) (some false)))))) (cond (r3 == 0) (cond (r4.2 == 2) (cond ((List.length r4.1 : Int) == 0) (cond (r5.2 == 2) (cond (r5.1.Low == 0 && (r5.1.High == 0)) (some true) (some false)) (some false)) (some false)) (some false)) (some false)))) (cond (r3 == 2) (cond (r4.2 == 2) (cond ((List.length r4.1 : Int) == 0) (cond (r5.2 == 2) (cond (r5.1.Low == 0 && (r5.1.High == 0)) (some true) (some false)) (some false)) (some false)) (some false)) (some false))))))) (some true))) (some true))
theorem LL (ai : GBk) (ae : List Int) (aq : Int) (R : Bool) (h : vN ai ae aq = some R) : ah Tryz.prog G0 3 [.agg (cGBk ai), .sl (aa eI ae) (List.length ae) false, .lit (.int .i64 aq)] (.tree (.lit (.bool R))) := by
 refine ah.runR mixed Tryz.call3 Tryz.func3 rfl (by simp [Tryz.ntmps3]; kernel_rfl) ?_
 obtain ⟨KF, h, kF, kN⟩ := cA h
 simp only [vN] at h
 obtain ⟨JB, jw, h⟩ := optI h kN
 try simp only [hs] at h
 simp only [vz, tyf, nm, seval]
 refine ktA (MP _ _ jw) ?_
 refine bJ (fun tm => tm 1 = .sl (aa eI ae) (List.length ae) false ∧ tm 2 = .lit (.int .i64 aq) ∧ tm 3 = .ptr 0 0 ∧ tm 14 = .lit (.bool JB) ∧ True) (by refine ⟨?_, ?_, ?_, ?_, trivial⟩ <;> first | (simp only [ua, nm, seval] <;> rfl) | rfl) ?_
 rintro tm ⟨bx, bt, bE, b5, _⟩
 cases bN : (JB)
 ·simp only [bN, hs] at h
  simp only [vz, tyf, bx, bt, bE, b5, bN, nm, seval]
  refine ktree0 qG ?_
  try simp only [vz, tyf, bx, bt, bE, b5, bN, nm, seval]
  obtain rfl := kF _ h
  exact bc Tryz.results3 rfl
 simp only [bN, hs] at h
 obtain ⟨JC, kc, h⟩ := optI h kN
 try simp only [hs] at h
 simp only [vz, tyf, bx, bt, bE, b5, bN, nm, seval]
 refine ktA (Ni _ _ kc) ?_
 refine bJ (fun tm => tm 1 = .sl (aa eI ae) (List.length ae) false ∧ tm 2 = .lit (.int .i64 aq) ∧ tm 3 = .ptr 0 0 ∧ tm 16 = .lit (.bool false) ∧ tm 18 = .lit (.bool JC) ∧ True) (by refine ⟨bx, bt, bE, ?_, ?_, trivial⟩ <;> first | (simp only [ua, bx, bt, bE, b5, bN, nm, seval] <;> rfl) | rfl) ?_
 rintro tm ⟨eA, da, cN, bK, bY, _⟩
 cases b4 : (JC)
 ·simp only [b4, hs] at h
  simp only [vz, tyf, bN, eA, da, cN, bK, bY, b4, nm, seval]
  refine ktree0 qG ?_
  try simp only [vz, tyf, bN, eA, da, cN, bK, bY, b4, nm, seval]
  obtain rfl := kF _ h
  exact bc Tryz.results3 rfl
 simp only [b4, hs] at h
 obtain ⟨jj, CV, h⟩ := optI h kN
 try simp only [hs] at h
 simp only [vz, tyf, bN, eA, da, cN, bK, bY, b4, nm, seval]
 refine ktA (Oe _ _ CV) ?_
 refine bJ (fun tm => tm 1 = .sl (aa eI ae) (List.length ae) false ∧ tm 2 = .lit (.int .i64 aq) ∧ tm 3 = .ptr 0 0 ∧ tm 23 = .lit (.int .i64 jj) ∧ True) (by refine ⟨eA, da, cN, ?_, trivial⟩ <;> first | (simp only [ua, bN, eA, da, cN, bK, bY, b4, nm, seval] <;> rfl) | rfl) ?_
 rintro tm ⟨ca, ck, cu, dm, _⟩
 obtain ⟨fV, Of, h⟩ := optI h kN
 try simp only [hs] at h
 simp only [vz, tyf, bN, b4, ca, ck, cu, dm, nm, seval]
 refine ktA (LO _ _ _ Of) ?_
 refine bJ (fun tm => tm 1 = .sl (aa eI ae) (List.length ae) false ∧ tm 2 = .lit (.int .i64 aq) ∧ tm 3 = .ptr 0 0 ∧ tm 7 = .lit (.int .i64 jj) ∧ tm 27 = .tup [.sl (aa au fV.1) (List.length fV.1) false, .lit (.int .i64 fV.2)] ∧ True) (by refine ⟨ca, ck, cu, ?_, ?_, trivial⟩ <;> first | (simp only [ua, bN, b4, ca, ck, cu, dm, nm, seval] <;> rfl) | rfl) ?_
 rintro tm ⟨dY, fE, fG, im, gZ, _⟩
 obtain ⟨dq, kn, h⟩ := optI h kN
 try simp only [hs] at h
 simp only [vz, tyf, bN, b4, dY, fE, fG, im, gZ, nm, seval]
 refine ktA (LX _ _ _ _ kn) ?_
 refine bJ (fun tm => tm 1 = .sl (aa eI ae) (List.length ae) false ∧ tm 2 = .lit (.int .i64 aq) ∧ tm 3 = .ptr 0 0 ∧ tm 7 = .lit (.int .i64 jj) ∧ tm 8 = .sl (aa au fV.1) (List.length fV.1) false ∧ tm 9 = .lit (.int .i64 fV.2) ∧ tm 34 = .tup [.agg (au dq.1), .lit (.int .i64 dq.2)] ∧ True) (by refine ⟨dY, fE, fG, im, ?_, ?_, ?_, trivial⟩ <;> first | (simp only [ua, bN, b4, dY, fE, fG, im, gZ, nm, seval] <;> rfl) | rfl) ?_
 rintro tm ⟨cb, cg, cY, cy, cZ, cF, cv, _⟩
 obtain ⟨JD, pa, h⟩ := optI h kN
 try simp only [hs] at h
 simp only [vz, tyf, bN, b4, cb, cg, cY, cy, cZ, cF, cv, nm, seval]
 refine ktA (Nb _ _ pa) ?_
 refine bJ (fun tm => tm 1 = .sl (aa eI ae) (List.length ae) false ∧ tm 2 = .lit (.int .i64 aq) ∧ tm 3 = .ptr 0 0 ∧ tm 7 = .lit (.int .i64 jj) ∧ tm 8 = .sl (aa au fV.1) (List.length fV.1) false ∧ tm 9 = .lit (.int .i64 fV.2) ∧ tm 10 = .ptr 28 0 ∧ tm 11 = .lit (.int .i64 dq.2) ∧ tm 38 = .lit (.bool JD) ∧ True) (by refine ⟨cb, cg, cY, cy, cZ, cF, ?_, ?_, ?_, trivial⟩ <;> first | (simp only [ua, bN, b4, cb, cg, cY, cy, cZ, cF, cv, nm, seval] <;> rfl) | rfl) ?_
 rintro tm ⟨fq, fO, fP, gf, ik, fl, fu, fU, gk, _⟩
 cases fI : (JD)
 ·simp only [fI, hs] at h
  cases iK : (jj == 2)
  ·simp only [iK, hs] at h
   try simp only [vz, tyf, bN, b4, fq, fO, fP, gf, ik, fl, fu, fU, gk, fI, iK, nm, seval]
   obtain rfl := kF _ h
   exact bc Tryz.results3 rfl
  simp only [iK, hs] at h
  cases qH : (fV.2 == 2)
  ·simp only [qH, hs] at h
   try simp only [vz, tyf, bN, b4, fq, fO, fP, gf, ik, fl, fu, fU, gk, fI, iK, qH, nm, seval]
   obtain rfl := kF _ h
   exact bc Tryz.results3 rfl
  simp only [qH, hs] at h
  cases tX : ((List.length fV.1 : Int) == 0)
  ·simp only [tX, hs] at h
   try simp only [vz, tyf, bN, b4, fq, fO, fP, gf, ik, fl, fu, fU, gk, fI, iK, qH, tX, nm, seval]
   obtain rfl := kF _ h
   exact bc Tryz.results3 rfl
  simp only [tX, hs] at h
  cases vO : (dq.2 == 2)
  ·simp only [vO, hs] at h
   have Og := And.intro bN (And.intro b4 (And.intro fI (And.intro iK (And.intro qH (And.intro tX vO)))))
   try simp only [vz, tyf, Og, fq, fO, fP, gf, ik, fl, fu, fU, gk, nm, seval]
   obtain rfl := kF _ h
   exact bc Tryz.results3 rfl
  simp only [vO, hs] at h
  have Eu := And.intro bN (And.intro b4 (And.intro fI (And.intro iK (And.intro qH (And.intro tX vO)))))
  cases tY : (dq.1.Low == 0 && (dq.1.High == 0))
  ·simp only [tY, hs] at h
   try simp only [vz, tyf, Eu, fq, fO, fP, gf, ik, fl, fu, fU, gk, tY, nm, seval]
   obtain rfl := kF _ h
   exact bc Tryz.results3 rfl
  simp only [tY, hs] at h
  simp only [vz, tyf, Eu, fq, fO, fP, gf, ik, fl, fu, fU, gk, tY, nm, seval]
  refine ktree0 qG ?_
  try simp only [vz, tyf, Eu, fq, fO, fP, gf, ik, fl, fu, fU, gk, tY, nm, seval]
  obtain rfl := kF _ h
  exact bc Tryz.results3 rfl
 simp only [fI, hs] at h
 obtain ⟨JE, Oh, h⟩ := optI h kN
 try simp only [hs] at h
 simp only [vz, tyf, bN, b4, fq, fO, fP, gf, ik, fl, fu, fU, gk, fI, nm, seval]
 refine ktA (Nj _ _ _ Oh) ?_
 refine bJ (fun tm => tm 1 = .sl (aa eI ae) (List.length ae) false ∧ tm 2 = .lit (.int .i64 aq) ∧ tm 3 = .ptr 0 0 ∧ tm 7 = .lit (.int .i64 jj) ∧ tm 8 = .sl (aa au fV.1) (List.length fV.1) false ∧ tm 9 = .lit (.int .i64 fV.2) ∧ tm 10 = .ptr 28 0 ∧ tm 11 = .lit (.int .i64 dq.2) ∧ tm 65 = .lit (.bool JE) ∧ True) (by refine ⟨fq, fO, fP, gf, ik, fl, fu, fU, ?_, trivial⟩ <;> first | (simp only [ua, bN, b4, fq, fO, fP, gf, ik, fl, fu, fU, gk, fI, nm, seval] <;> rfl) | rfl) ?_
 rintro tm ⟨i0, kS, kT, kU, kV, kW, kX, kY, lC, _⟩
 cases iL : (JE)
 ·simp only [iL, hs] at h
  cases qI : (jj == 0)
  ·simp only [qI, hs] at h
   try simp only [vz, tyf, bN, b4, fI, i0, kS, kT, kU, kV, kW, kX, kY, lC, iL, qI, nm, seval]
   obtain rfl := kF _ h
   exact bc Tryz.results3 rfl
  simp only [qI, hs] at h
  cases tZ : (fV.2 == 2)
  ·simp only [tZ, hs] at h
   try simp only [vz, tyf, bN, b4, fI, i0, kS, kT, kU, kV, kW, kX, kY, lC, iL, qI, tZ, nm, seval]
   obtain rfl := kF _ h
   exact bc Tryz.results3 rfl
  simp only [tZ, hs] at h
  cases vP : ((List.length fV.1 : Int) == 0)
  ·simp only [vP, hs] at h
   have Oi := And.intro bN (And.intro b4 (And.intro fI (And.intro iL (And.intro qI (And.intro tZ vP)))))
   try simp only [vz, tyf, Oi, i0, kS, kT, kU, kV, kW, kX, kY, lC, nm, seval]
   obtain rfl := kF _ h
   exact bc Tryz.results3 rfl
  simp only [vP, hs] at h
  have vQ := And.intro bN (And.intro b4 (And.intro fI (And.intro iL (And.intro qI (And.intro tZ vP)))))
  cases qJ : (dq.2 == 2)
  ·simp only [qJ, hs] at h
   try simp only [vz, tyf, vQ, i0, kS, kT, kU, kV, kW, kX, kY, lC, qJ, nm, seval]
   obtain rfl := kF _ h
   exact bc Tryz.results3 rfl
  simp only [qJ, hs] at h
  cases ub : (dq.1.Low == 0 && (dq.1.High == 0))
  ·simp only [ub, hs] at h
   try simp only [vz, tyf, vQ, i0, kS, kT, kU, kV, kW, kX, kY, lC, qJ, ub, nm, seval]
   obtain rfl := kF _ h
   exact bc Tryz.results3 rfl
  simp only [ub, hs] at h
  simp only [vz, tyf, vQ, i0, kS, kT, kU, kV, kW, kX, kY, lC, qJ, ub, nm, seval]
  refine ktree0 qG ?_
  try simp only [vz, tyf, vQ, i0, kS, kT, kU, kV, kW, kX, kY, lC, qJ, ub, nm, seval]
  obtain rfl := kF _ h
  exact bc Tryz.results3 rfl
 simp only [iL, hs] at h
 obtain ⟨mK, lD, h⟩ := optI h kN
 try simp only [hs] at h
 simp only [vz, tyf, bN, b4, fI, i0, kS, kT, kU, kV, kW, kX, kY, lC, iL, nm, seval]
 refine ktA (Oj _ _ _ lD) ?_
 refine bJ (fun tm => tm 2 = .lit (.int .i64 aq) ∧ tm 3 = .ptr 0 0 ∧ tm 7 = .lit (.int .i64 jj) ∧ tm 8 = .sl (aa au fV.1) (List.length fV.1) false ∧ tm 9 = .lit (.int .i64 fV.2) ∧ tm 10 = .ptr 28 0 ∧ tm 11 = .lit (.int .i64 dq.2) ∧ tm 92 = .sl (aa au mK) (List.length mK) false ∧ True) (by refine ⟨kS, kT, kU, kV, kW, kX, kY, ?_, trivial⟩ <;> first | (simp only [ua, bN, b4, fI, i0, kS, kT, kU, kV, kW, kX, kY, lC, iL, nm, seval] <;> rfl) | rfl) ?_
 rintro tm ⟨uc, ud, vR, vS, vT, ue, uf, vU, _⟩
 cases mM : (jj != 0)
 ·simp only [mM, hs] at h
  cases pb : (fV.2 != 0)
  ·simp only [pb, hs] at h
   obtain ⟨JF, Ev, h⟩ := optI h kN
   try simp only [hs] at h
   simp only [vz, tyf, bN, b4, fI, iL, uc, ud, vR, vS, vT, ue, uf, vU, mM, pb, nm, seval]
   refine ktA (NZ _ _ _ Ev) ?_
   refine bJ (fun tm => tm 2 = .lit (.int .i64 aq) ∧ tm 3 = .ptr 0 0 ∧ tm 10 = .ptr 28 0 ∧ tm 11 = .lit (.int .i64 dq.2) ∧ tm 12 = .sl (aa au mK) (List.length mK) false ∧ tm 99 = .lit (.bool false) ∧ tm 102 = .lit (.bool JF) ∧ True) (by refine ⟨uc, ud, ue, uf, ?_, ?_, ?_, trivial⟩ <;> first | (simp only [ua, bN, b4, fI, iL, uc, ud, vR, vS, vT, ue, uf, vU, mM, pb, nm, seval] <;> rfl) | rfl) ?_
   rintro tm ⟨lE, lF, lG, lH, lI, pc, pd, _⟩
   cases lJ : (JF)
   ·simp only [lJ, hs] at h
    have Ew := And.intro bN (And.intro b4 (And.intro fI (And.intro iL (And.intro mM (And.intro pb lJ)))))
    try simp only [vz, tyf, Ew, lE, lF, lG, lH, lI, pc, pd, nm, seval]
    obtain rfl := kF _ h
    exact bc Tryz.results3 rfl
   simp only [lJ, hs] at h
   have dG := And.intro bN (And.intro b4 (And.intro fI (And.intro iL (And.intro mM (And.intro pb lJ)))))
   obtain ⟨ug, Ex, h⟩ := optI h kN
   try simp only [hs] at h
   simp only [vz, tyf, dG, lE, lF, lG, lH, lI, pc, pd, nm, seval]
   refine ktA (Nn _ _ _ Ex) ?_
   refine bJ (fun tm => tm 2 = .lit (.int .i64 aq) ∧ tm 3 = .ptr 0 0 ∧ tm 10 = .ptr 28 0 ∧ tm 11 = .lit (.int .i64 dq.2) ∧ tm 12 = .sl (aa au mK) (List.length mK) false ∧ tm 107 = .lit (.bool ug) ∧ True) (by refine ⟨lE, lF, lG, lH, lI, ?_, trivial⟩ <;> first | (simp only [ua, dG, lE, lF, lG, lH, lI, pc, pd, nm, seval] <;> rfl) | rfl) ?_
   rintro tm ⟨i5, i6, i7, i9, iA, jl, _⟩
   cases dH : (ug)
   ·simp only [dH, hs] at h
    cases jm : (dq.2 == 2)
    ·simp only [jm, hs] at h
     try simp only [vz, tyf, dG, i5, i6, i7, i9, iA, jl, dH, jm, nm, seval]
     obtain rfl := kF _ h
     exact bc Tryz.results3 rfl
    simp only [jm, hs] at h
    cases ke : (dq.1.Low == 0 && (dq.1.High == 0))
    ·simp only [ke, hs] at h
     try simp only [vz, tyf, dG, i5, i6, i7, i9, iA, jl, dH, jm, ke, nm, seval]
     obtain rfl := kF _ h
     exact bc Tryz.results3 rfl
    simp only [ke, hs] at h
    simp only [vz, tyf, dG, i5, i6, i7, i9, iA, jl, dH, jm, ke, nm, seval]
    refine ktree0 qG ?_
    try simp only [vz, tyf, dG, i5, i6, i7, i9, iA, jl, dH, jm, ke, nm, seval]
    obtain rfl := kF _ h
    exact bc Tryz.results3 rfl
   simp only [dH, hs] at h
   simp only [vz, tyf, dG, i5, i6, i7, i9, iA, jl, dH, nm, seval]
   refine lp (fun tm => tm 2 = .lit (.int .i64 aq) ∧ tm 3 = .ptr 0 0 ∧ tm 10 = .ptr 28 0 ∧ tm 11 = .lit (.int .i64 dq.2) ∧ tm 12 = .sl (aa au mK) (List.length mK) false ∧ True) (by refine ⟨i5, i6, i7, i9, iA, trivial⟩ <;> first | (simp only [ua, dG, i5, i6, i7, i9, iA, jl, dH, nm, seval] <;> rfl) | rfl) ?_
   rintro tm ⟨pf, pg, ph, pj, pk, _⟩
   cases gS : (dq.2 == 0)
   ·simp only [gS, hs] at h
    try simp only [vz, tyf, dG, dH, pf, pg, ph, pj, pk, gS, nm, seval]
    obtain rfl := kF _ h
    exact bc Tryz.results3 rfl
   simp only [gS, hs] at h
   obtain ⟨pn, Ey, h⟩ := optI h kN
   try simp only [hs] at h
   simp only [vz, tyf, dG, dH, pf, pg, ph, pj, pk, gS, nm, seval]
   refine dktA (NY _ _ _ _ Ey) ?_
   refine bJ (fun tm => tm 121 = .lit (.bool true) ∧ tm 122 = .agg (au dq.1) ∧ tm 126 = .agg (au pn) ∧ True) (by refine ⟨?_, ?_, ?_, trivial⟩ <;> first | (simp only [ua, dG, dH, pf, pg, ph, pj, pk, gS, nm, seval] <;> rfl) | rfl) ?_
   rintro tm ⟨po, pq, pr, _⟩
   cases kf : (dq.1.Low == pn.Low && (dq.1.High == pn.High))
   ·simp only [kf, hs] at h
    try simp only [vz, tyf, dG, dH, gS, po, pq, pr, kf, nm, seval]
    obtain rfl := kF _ h
    exact bc Tryz.results3 rfl
   simp only [kf, hs] at h
   simp only [vz, tyf, dG, dH, gS, po, pq, pr, kf, nm, seval]
   refine dktree0 qG ?_
   try simp only [vz, tyf, dG, dH, gS, po, pq, pr, kf, nm, seval]
   obtain rfl := kF _ h
   exact bc Tryz.results3 rfl
  simp only [pb, hs] at h
  try simp only [vz, tyf, bN, b4, fI, iL, uc, ud, vR, vS, vT, ue, uf, vU, mM, pb, nm, seval]
  obtain rfl := kF _ h
  exact bc Tryz.results3 rfl
 simp only [mM, hs] at h
 try simp only [vz, tyf, bN, b4, fI, iL, uc, ud, vR, vS, vT, ue, uf, vU, mM, nm, seval]
 obtain rfl := kF _ h
 exact bc Tryz.results3 rfl
theorem LM (b : GBk) (pl : List Int) (bd : Int) (hb : aC b.Boards = true ∧ aC b.Strokes = true ∧ ∀ y ∈ b.Strokes, aC y.Needs = true) (hp : aC pl = true) : vN b pl bd = some true := by
 have hL := Len.of hb
 unfold vN
 rcases Oa hL with e | e
 ·rw [e]; rfl
 simp only [e, Option.bind_some, cond_true, vC, vM, zy hL, zx hL, z3 hL, CL hL, CN hL, CP hL]
 cases (decide ((pl.length : Int) ≤ 9)) with
 | false => rfl
 | true =>
 cases hB : benchB b with
 | false => rfl
 | true =>
 have hbk := z1.1 hB
 have hn := hbk.ns
 cases hP : planB b pl with
 | false => rfl
 | true =>
 have hpl := (z2.1 hP).len
 simp only [cond_true, El hL hbk hpl, Option.bind_some, Bool.and_self, if_true, Bool.true_and]
 rw [sameS (by rw [Ii]; omega)]
 cases hI : inB 0 ((b.Boards.length : Int) - 1) bd with
 | false => rfl
 | true =>
  simp only [Option.bind_some, cond_true, if_true, Ep hbk, beq_self_eq_true, Bool.and_self]
  rfl
end Go.V
end
