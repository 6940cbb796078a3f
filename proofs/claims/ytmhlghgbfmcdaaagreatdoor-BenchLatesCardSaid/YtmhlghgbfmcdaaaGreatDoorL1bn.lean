/- Part of a proof. -/
import Derived.Test.YtmhlghgbfmcdaaaGreatDoorL1bm
set_option linter.all false
set_option maxRecDepth 4000
set_option maxHeartbeats 40000000
section
namespace Go.V
open Go Go.Proofs IntKind
theorem wm (n : Int) : ∀ (p : List Int) (c : Int), sF n p c = if n ∈ p then some (.ret true) else some (.go ())
 | [], _ => rfl
 | e :: p, c => by
  simp only [sF, wm n p (c + 1), List.mem_cons]
  by_cases h : e = n
  ·subst h; simp
  ·have h' : ¬ n = e := fun h2 => h h2.symm
   simp [h, h']
theorem GI {l : List Int} (hl : l.length < 9223372036854775808) (n : Int) : vK l n = some (decide (n ∈ l)) := by
 unfold vK
 rw [fA hl, cond_true, wm]
 by_cases h : n ∈ l <;> simp [h, lbind]
theorem hr_l0 (hi : Bool) : ∀ (p : List GBs) (c : Int) (acc : List Int), acc.length + p.length ≤ 1000 → m5 hi p c acc = some (.go (acc ++ p.map fun s => if hi then s.Hours.High else s.Hours.Low))
 | [], _, acc, _ => by simp [m5]
 | s :: p, c, acc, hn => by
  simp only [List.length_cons] at hn
  simp only [m5]
  cases hi with
  | true =>
   rw [cond_true, room8 (by simp; omega), cond_true, hr_l0 true p (c + 1) _ (by simp; omega)]
   simp
  | false =>
   rw [cond_false, room8 (by simp; omega), cond_true, hr_l0 false p (c + 1) _ (by simp; omega)]
   simp
def hrL (b : GBk) (hi : Bool) : List Int := b.Strokes.map fun s => if hi then s.Hours.High else s.Hours.Low
theorem hr_eq {b : GBk} (hb : BOk b) (hi : Bool) : qj b hi = some (hrL b hi) := by
 have := hb.ns
 unfold qj
 rw [fA (by omega), cond_true, hr_l0 hi b.Strokes 0 [] (by simp; omega)]
 rfl
theorem getMap {n : Nat} (f : Nat → Int) {i : Int} (h0 : 0 ≤ i) (h1 : i.toNat < n) : getI ((List.range n).map f) i = some (f i.toNat) := by
 unfold getI
 rw [if_pos h0, List.getElem?_map, List.getElem?_range h1]
 rfl
theorem vg {b : GBk} (hi : Bool) {i : Int} (h0 : 0 ≤ i) (h1 : i.toNat < b.Strokes.length) : getI (hrL b hi) i = some (dF b (if hi then 1 else 0) i.toNat) := by
 unfold getI hrL dF
 rw [if_pos h0, List.getElem?_map, List.getElem?_eq_getElem h1]
 cases hi <;> simp
def foB (b : GBk) (pl : List Int) (i k : Nat) : Bool := (hF pl k == hF pl i) || decide ((k : Int) ∈ nF b i)
def foL (b : GBk) (pl : List Int) (i : Nat) : List Int := ((List.range' 0 i).filter (foB b pl i)).map fun k : Nat => (k : Int)
theorem Rj {b : GBk} (h : Len b) {pl : List Int} (hp : pl.length = b.Strokes.length) {i k : Nat} (hk : k < i) (hi : i < b.Strokes.length) : sh b pl k i = some (foB b pl i k) := by
 unfold sh foB
 rw [decide_eq_true (by omega), cond_true, getP hp (by omega) (by omega), getP hp (by omega) (by omega)]
 have hx : getI b.Strokes i = some b.Strokes[i] := by
  unfold getI
  rw [if_pos (by omega), Int.toNat_natCast, List.getElem?_eq_getElem hi]
 have hn : nF b i = b.Strokes[i].Needs := by unfold nF; rw [List.getElem?_eq_getElem hi]
 simp only [Option.bind_some, Int.toNat_natCast, hx, hn]
 rw [GI (h.nd _ (List.getElem_mem hi))]
 cases hF pl k == hF pl i <;> rfl
theorem re {b : GBk} (h : Len b) {pl : List Int} (hp : pl.length = b.Strokes.length) {i : Nat} (hi : i < b.Strokes.length) (hn : b.Strokes.length ≤ 6) : ∀ (m k : Nat) (w : List Int), k + m = i → w.length ≤ k →
  l6 b pl i m k w = some (w ++ ((List.range' k m).filter (foB b pl i)).map fun k : Nat => (k : Int))
 | 0, k, w, _, _ => by simp [l6]
 | m + 1, k, w, hk, hw => by
  simp only [l6, Rj h hp (show k < i by omega) hi, Option.bind_some]
  rw [List.range'_succ, List.filter_cons]
  have e : ((k : Int) + 1) = ((k + 1 : Nat) : Int) := by omega
  rw [e]
  cases hf : foB b pl i k with
  | false => rw [cond_false, re h hp hi hn m (k + 1) w (by omega) (by omega)]; simp
  | true => rw [cond_true, room8 (by simp; omega), cond_true, re h hp hi hn m (k + 1) _ (by omega) (by simp; omega)]; simp
theorem GJ (i m : Nat) : List.set (List.replicate i (-1 : Int) ++ List.replicate (m + 1) 0) i (-1) = List.replicate (i + 1) (-1) ++ List.replicate m 0 := by
 rw [List.set_append_right _ _ (by simp), List.length_replicate, Nat.sub_self, List.replicate_succ, List.set_cons_zero, List.replicate_succ', List.append_assoc]
 rfl
theorem wo {b : GBk} (h : Len b) {pl : List Int} (hp : pl.length = b.Strokes.length) (hn : b.Strokes.length ≤ 6) : ∀ (m i : Nat) (pre : List (List Int)), i + m = b.Strokes.length →
  mn b pl m i pre (List.replicate i (-1) ++ List.replicate m 0) = some (pre ++ (List.range' i m).map (foL b pl), List.replicate b.Strokes.length (-1))
 | 0, i, pre, hi => by simp [mn]; omega
 | m + 1, i, pre, hi => by
  have e := re h hp (i := i) (by omega) hn i 0 [] (by omega) (Nat.le_refl _)
  simp only [mn, Int.toNat_natCast]
  rw [show l6 b pl i i 0 [] = _ from e]
  simp only [Option.bind_some, List.nil_append]
  rw [GJ, show ((i : Int) + 1) = ((i + 1 : Nat) : Int) by omega, wo h hp hn m (i + 1) _ (by omega), List.range'_succ]
  simp [foL]
section
variable {hd : Nat → Int} {nd : Nat → List Int} {d : Nat → Int}
def fT (B : Nat → Int) (t : Int) (j : Nat) : Int := if B j < t then B j else -1
def sT (B : Nat → Int) (t : Int) (i j : Nat) : Int := if j < i then fT B (t + 1) j else fT B t j
theorem wq {B : Nat → Int} {t : Int} {i : Nat} (h : B i ≠ t) : sT B t i = sT B t (i + 1) := by
 funext j
 unfold sT fT
 by_cases e : j = i
 ·subst e
  rw [if_neg (Nat.lt_irrefl _), if_pos (Nat.lt_succ_self _)]
  by_cases h1 : B j < t
  ·rw [if_pos h1, if_pos (by omega)]
  ·rw [if_neg h1, if_neg (by omega)]
 ·by_cases h1 : j < i
  ·simp only [h1, show j < i + 1 by omega, if_true]
  ·simp only [h1, show ¬ j < i + 1 by omega, if_false]
def ngF (v : Nat → Int) : Nat → Int
 | 0 => 0
 | n + 1 => ngF v n + if v n < 0 then 1 else 0
theorem yk {v w : Nat → Int} : ∀ {n : Nat}, (∀ k, k < n → v k = w k) → ngF v n = ngF w n
 | 0, _ => rfl
 | n + 1, h => by unfold ngF; rw [h n (Nat.lt_succ_self _), yk fun k hk => h k (Nat.lt_succ_of_lt hk)]
theorem ngF_b (v : Nat → Int) : ∀ n : Nat, 0 ≤ ngF v n ∧ ngF v n ≤ n
 | 0 => ⟨Int.le_refl _, Int.le_refl _⟩
 | n + 1 => by have := ngF_b v n; unfold ngF; split <;> omega
theorem wt {v : Nat → Int} : ∀ {n : Nat}, ngF v n ≤ 0 → ∀ k, k < n → 0 ≤ v k
 | 0, _, _, h => absurd h (Nat.not_lt_zero _)
 | n + 1, h, k, hk => by
  have h1 := (ngF_b v n).1
  unfold ngF at h
  split at h
  ·omega
  ·rename_i hv
   by_cases e : k = n
   ·subst e; omega
   ·exact wt (n := n) (by omega) k (by omega)
theorem rh {v : Nat → Int} : ∀ {n : Nat}, (∀ k, k < n → 0 ≤ v k) → ngF v n = 0
 | 0, _ => rfl
 | n + 1, h => by
  have := h n (Nat.lt_succ_self _)
  unfold ngF
  rw [rh fun k hk => h k (Nat.lt_succ_of_lt hk), if_neg (by omega)]
  rfl
theorem wu {v w : Nat → Int} {i : Nat} (h1 : v i < 0) (h2 : 0 ≤ w i) (h3 : ∀ k, k ≠ i → v k = w k) : ∀ {n : Nat}, i < n → ngF v n - 1 = ngF w n
 | 0, h => absurd h (Nat.not_lt_zero _)
 | n + 1, h => by
  unfold ngF
  by_cases e : i = n
  ·subst e
   rw [if_pos h1, if_neg (by omega), yk fun k hk => h3 k (by omega)]
   omega
  ·have := wu h1 h2 h3 (n := n) (by omega)
   rw [h3 n (fun e' => e e'.symm)]
   omega
theorem pc {n : Nat} {v d : Nat → Int} {hs bl : List Int} {t : Int} (hb : ∀ k : Nat, k < n → getI bl k = some (v k)) (hh : ∀ k : Nat, k < n → getI hs k = some (d k)) (hw : ∀ k : Nat, k < n → 0 ≤ v k → v k + d k < 9223372036854775808 ∧ 0 ≤ d k) :
  ∀ (p : List Nat) (c : Int), (∀ k ∈ p, k < n) → ou hs t bl (p.map fun k : Nat => (k : Int)) c = if ∀ k ∈ p, 0 ≤ v k ∧ v k + d k ≤ t then some (.go ()) else some (.ret false)
 | [], c, _ => by simp [ou]
 | k :: p, c, hp => by
  have hk := hp k (List.mem_cons_self ..)
  have ih := pc (t := t) hb hh hw p (c + 1) fun k hk => hp k (List.mem_cons_of_mem _ hk)
  simp only [List.map_cons, ou, hb k hk, hh k hk, Option.bind_some]
  by_cases h1 : v k < 0
  ·rw [decide_eq_true h1, cond_true, if_neg (fun h => by have := (h k (List.mem_cons_self ..)).1; omega)]
  ·rw [decide_eq_false h1, cond_false]
   have h2 := hw k hk (by omega)
   rw [ix (by omega) (by omega)]
   by_cases h3 : v k + d k > t
   ·rw [decide_eq_true h3, cond_true, if_neg (fun h => by have := (h k (List.mem_cons_self ..)).2; omega)]
   ·rw [decide_eq_false h3, cond_false, ih]
    congr 1
    simp only [List.mem_cons, forall_eq_or_imp, eq_iff_iff]
    exact ⟨fun h => ⟨⟨by omega, by omega⟩, h⟩, fun h => h.2⟩
end
structure Sim6 (b : GBk) (pl : List Int) (hs : List Int) (d : Nat → Int) : Prop where
 hL : Len b
 n6 : b.Strokes.length ≤ 6
 hp : pl.length = b.Strokes.length
 hn : NdOk (nF b)
 d0 : ∀ k, 0 ≤ d k ∧ d k ≤ 15
 hh : ∀ k : Nat, k < b.Strokes.length → getI hs k = some (d k)
section
variable {b : GBk} {pl hs : List Int} {d : Nat → Int} (S : Sim6 b pl hs d)
include S
theorem Sim6.Bb (k : Nat) (hk : k < b.Strokes.length) : 0 ≤ Bg (hF pl) (nF b) d k ∧ Bg (hF pl) (nF b) d k ≤ 90 := by
 have h1 := tT (hd := hF pl) S.hn S.d0 k
 have h2 := Bg_nn (hd := hF pl) (nd := nF b) (d := d) k
 rw [Ed_eq S.hn] at h1
 have := S.d0 k
 have := S.n6
 omega
theorem Sim6.ready {i : Nat} (hi : i < b.Strokes.length) {t : Int} (ht : 0 ≤ t) : (∀ k ∈ (List.range' 0 i).filter (foB b pl i), 0 ≤ sT (Bg (hF pl) (nF b) d) t i k ∧ sT (Bg (hF pl) (nF b) d) t i k + d k ≤ t) ↔ Bg (hF pl) (nF b) d i ≤ t := by
 constructor
 ·intro h
  have key : ∀ k, k < i → foB b pl i k = true → Ed (hF pl) (nF b) d k ≤ t := by
   intro k hk hf
   obtain ⟨h1, h2⟩ := h k (List.mem_filter.2 ⟨List.mem_range'.2 ⟨k, hk, by omega⟩, hf⟩)
   unfold sT fT at h1 h2
   rw [if_pos hk] at h1 h2
   rw [Ed_eq S.hn]
   split at h2
   ·exact h2
   ·rename_i hne
    rw [if_neg hne] at h1
    omega
  refine tS S.hn ht (fun k hk hh => key k hk ?_) (fun k hk => ?_)
  ·unfold foB; rw [hh]; simp
  ·obtain ⟨h1, h2⟩ := S.hn i k hk
   refine key _ h2 ?_
   unfold foB
   rw [Int.toNat_of_nonneg h1]
   simp [hk]
 ·intro h k hk
  obtain ⟨DZ, hf⟩ := List.mem_filter.1 hk
  obtain ⟨j, hj, e⟩ := List.mem_range'.1 DZ
  have hki : k < i := by omega
  have hE : Ed (hF pl) (nF b) d k ≤ Bg (hF pl) (nF b) d i := by
   unfold foB at hf
   rcases Bool.or_eq_true_iff.1 hf with h1 | h1
   ·exact BX S.hn (fun k => (S.d0 k).1) hki (by simpa using h1)
   ·have h2 := BV (hd := hF pl) (d := d) S.hn (of_decide_eq_true h1)
    rwa [Int.toNat_natCast] at h2
  rw [Ed_eq S.hn] at hE
  have h1 := S.Bb k (by omega)
  have h2 := S.d0 k
  unfold sT fT
  rw [if_pos hki, if_pos (by omega)]
  omega
theorem Sim6.l1 {t : Int} (ht : 0 ≤ t) (uS : t ≤ 1000) : ∀ (p : List Int) (i : Nat), i + p.length = b.Strokes.length →
  mo ((List.range' 0 b.Strokes.length).map (foL b pl)) pl hs t p i (ngF (sT (Bg (hF pl) (nF b) d) t i) b.Strokes.length) ((List.range b.Strokes.length).map (sT (Bg (hF pl) (nF b) d) t i)) =
   some (.go (ngF (sT (Bg (hF pl) (nF b) d) t b.Strokes.length) b.Strokes.length, (List.range b.Strokes.length).map (sT (Bg (hF pl) (nF b) d) t b.Strokes.length)))
 | [], i, hi => by
  simp only [List.length_nil, Nat.add_zero] at hi
  subst hi
  rfl
 | e :: p, i, hi => by
  simp only [List.length_cons] at hi
  have hin : i < b.Strokes.length := by omega
  have hB := S.Bb i hin
  have ih := Sim6.l1 ht uS p (i + 1) (by omega)
  have e1 : ((i : Int) + 1) = ((i + 1 : Nat) : Int) := by omega
  have ev : sT (Bg (hF pl) (nF b) d) t i i = fT (Bg (hF pl) (nF b) d) t i := by unfold sT; rw [if_neg (Nat.lt_irrefl _)]
  simp only [mo]
  rw [getMap _ (by omega) (by omega), Int.toNat_natCast, ev, e1]
  simp only [Option.bind_some]
  by_cases h1 : Bg (hF pl) (nF b) d i < t
  ·have e2 : fT (Bg (hF pl) (nF b) d) t i = Bg (hF pl) (nF b) d i := by unfold fT; rw [if_pos h1]
   rw [e2, decide_eq_false (by omega), cond_false, wq (i := i) (by omega)]
   exact ih
  ·have e2 : fT (Bg (hF pl) (nF b) d) t i = -1 := by unfold fT; rw [if_neg h1]
   have e3 : getI ((List.range' 0 b.Strokes.length).map (foL b pl)) i = some (foL b pl i) := by
    unfold getI
    rw [if_pos (by omega), Int.toNat_natCast, List.getElem?_map, List.getElem?_range' (by omega)]
    simp
   have h6 := S.n6
   have e4 : au (foL b pl i) = true := by
    refine fA ?_
    have h2 : (foL b pl i).length ≤ i := by
     unfold foL
     rw [List.length_map]
     exact Nat.le_trans (List.length_filter_le _ _) (by simp)
    omega
   have e5 := pc (n := b.Strokes.length) (v := sT (Bg (hF pl) (nF b) d) t i) (d := d) (hs := hs) (t := t) (bl := (List.range b.Strokes.length).map (sT (Bg (hF pl) (nF b) d) t i))
    (fun k hk => by rw [getMap _ (by omega) (by omega), Int.toNat_natCast]) S.hh (fun k hk h0 => by
     have h3 := S.Bb k hk
     have h4 := S.d0 k
     refine ⟨?_, h4.1⟩
     unfold sT fT
     split <;> split <;> omega) ((List.range' 0 i).filter (foB b pl i)) 0 (fun k hk => by
     obtain ⟨j, hj, e⟩ := List.mem_range'.1 (List.mem_filter.1 hk).1
     omega)
   rw [e2, decide_eq_true (by omega), cond_true, e3]
   simp only [Option.bind_some]
   rw [e4, cond_true, show ou hs t ((List.range b.Strokes.length).map (sT (Bg (hF pl) (nF b) d) t i)) (foL b pl i) 0 = _ from e5]
   have hr := S.ready hin ht
   by_cases h3 : Bg (hF pl) (nF b) d i ≤ t
   ·rw [if_pos (hr.2 h3)]
    simp only [lbind]
    have h4 : Bg (hF pl) (nF b) d i = t := by omega
    have e6 : List.set ((List.range b.Strokes.length).map (sT (Bg (hF pl) (nF b) d) t i)) i t = (List.range b.Strokes.length).map (sT (Bg (hF pl) (nF b) d) t (i + 1)) := by
     refine List.ext_getElem? fun k => ?_
     rw [List.getElem?_set, List.getElem?_map, List.getElem?_map]
     by_cases hk : i = k
     ·subst hk
      rw [if_pos rfl, if_pos (by simpa using hin), List.getElem?_range hin]
      simp only [Option.map_some]
      unfold sT fT
      rw [if_pos (Nat.lt_succ_self _), if_pos (by omega), h4]
     ·rw [if_neg hk]
      by_cases hkn : k < b.Strokes.length
      ·rw [List.getElem?_range hkn]
       simp only [Option.map_some, Option.some.injEq]
       unfold sT
       by_cases h5 : k < i
       ·simp only [h5, show k < i + 1 by omega, if_true]
       ·simp only [h5, show ¬ k < i + 1 by omega, if_false]
      ·rw [List.getElem?_eq_none (by simp; omega)]
       rfl
    have e7 : ngF (sT (Bg (hF pl) (nF b) d) t i) b.Strokes.length - 1 = ngF (sT (Bg (hF pl) (nF b) d) t (i + 1)) b.Strokes.length := by
     refine wu (i := i) ?_ ?_ ?_ hin
     ·rw [ev, e2]; omega
     ·unfold sT fT
      rw [if_pos (Nat.lt_succ_self _), if_pos (by omega)]
      omega
     ·intro k hk
      unfold sT
      by_cases h5 : k < i
      ·simp only [h5, show k < i + 1 by omega, if_true]
      ·simp only [h5, show ¬ k < i + 1 by omega, if_false]
    have nv := ngF_b (sT (Bg (hF pl) (nF b) d) t (i + 1)) b.Strokes.length
    rw [ix (by omega) (by omega), e7, e6]
    exact ih
   ·rw [if_neg (fun h => h3 (hr.1 h))]
    simp only [lbind, cond_false]
    rw [wq (i := i) (by omega)]
    exact ih
theorem Sim6.l0 : ∀ (k : Nat) (t : Int), 0 ≤ t → t ≤ 200 → 90 < t + k → ∃ c : Int × Int, nn ((List.range' 0 b.Strokes.length).map (foL b pl)) pl hs (k + 1) (ngF (sT (Bg (hF pl) (nF b) d) t 0) b.Strokes.length) t ((List.range b.Strokes.length).map (sT (Bg (hF pl) (nF b) d) t 0)) =
   some (.go (c.1, c.2, (List.range b.Strokes.length).map (Bg (hF pl) (nF b) d))) := by
 have fin : ∀ t : Int, (∀ j, j < b.Strokes.length → Bg (hF pl) (nF b) d j < t) → (List.range b.Strokes.length).map (sT (Bg (hF pl) (nF b) d) t 0) = (List.range b.Strokes.length).map (Bg (hF pl) (nF b) d) := by
  intro t h
  refine List.map_congr_left fun j hj => ?_
  unfold sT fT
  rw [if_neg (Nat.not_lt_zero _), if_pos (h j (List.mem_range.1 hj))]
 have stop : ∀ (k : Nat) (t : Int), ngF (sT (Bg (hF pl) (nF b) d) t 0) b.Strokes.length ≤ 0 → ∃ c : Int × Int, nn ((List.range' 0 b.Strokes.length).map (foL b pl)) pl hs (k + 1) (ngF (sT (Bg (hF pl) (nF b) d) t 0) b.Strokes.length) t ((List.range b.Strokes.length).map (sT (Bg (hF pl) (nF b) d) t 0)) =
   some (.go (c.1, c.2, (List.range b.Strokes.length).map (Bg (hF pl) (nF b) d))) := by
  intro k t hz
  refine ⟨(ngF (sT (Bg (hF pl) (nF b) d) t 0) b.Strokes.length, t), ?_⟩
  simp only [nn]
  rw [decide_eq_false (by omega), cond_false, fin t ?_]
  intro j hj
  have h1 := wt hz j hj
  unfold sT fT at h1
  rw [if_neg (Nat.not_lt_zero _)] at h1
  split at h1
  ·assumption
  ·omega
 intro k
 induction k with
 | zero =>
  intro t h0 h1 h2
  refine stop 0 t ?_
  rw [rh ?_]
  ·exact Int.le_refl _
  ·intro j hj
   have := S.Bb j hj
   unfold sT fT
   rw [if_neg (Nat.not_lt_zero _), if_pos (by omega)]
   exact this.1
 | succ k ih =>
  intro t h0 h1 h2
  by_cases hz : ngF (sT (Bg (hF pl) (nF b) d) t 0) b.Strokes.length ≤ 0
  ·exact stop (k + 1) t hz
  ·have h6 := S.n6
   have ht : t ≤ 90 := by
    by_cases hh : t ≤ 90
    ·exact hh
    ·exfalso
     refine hz ?_
     rw [rh ?_]
     ·exact Int.le_refl _
     ·intro j hj
      have := S.Bb j hj
      unfold sT fT
      rw [if_neg (Nat.not_lt_zero _), if_pos (by omega)]
      exact this.1
   obtain ⟨c, ec⟩ := ih (t + 1) (by omega) (by omega) (by omega)
   refine ⟨c, ?_⟩
   have e1 := S.l1 h0 (by omega) pl 0 (by have := S.hp; omega)
   have en : ∀ j, j < b.Strokes.length → sT (Bg (hF pl) (nF b) d) t b.Strokes.length j = sT (Bg (hF pl) (nF b) d) (t + 1) 0 j := by
    intro j hj
    unfold sT
    rw [if_pos hj, if_neg (Nat.not_lt_zero _)]
   rw [yk en, List.map_congr_left (fun j hj => en j (List.mem_range.1 hj))] at e1
   rw [nn, decide_eq_true (by omega), cond_true, fA (by have := S.hp; omega), cond_true]
   rw [show mo ((List.range' 0 b.Strokes.length).map (foL b pl)) pl hs t pl 0 _ _ = _ from e1]
   simp only [lbind]
   rw [ix (by omega) (by omega)]
   exact ec
theorem Sim6.begins : si b pl hs = some ((List.range b.Strokes.length).map (Bg (hF pl) (nF b) d)) := by
 have h6 := S.n6
 have hp := S.hp
 unfold si
 rw [show mkOk 8 (pl.length : Int) = true by rw [EX]; omega, cond_true, show mkOk 24 (pl.length : Int) = true by rw [EX]; omega, cond_true, fA (by omega), cond_true]
 have e1 := wo S.hL S.hp S.n6 b.Strokes.length 0 [] (by omega)
 simp only [List.replicate_zero, List.nil_append] at e1
 rw [Int.toNat_natCast, hp]
 rw [show mn b pl b.Strokes.length 0 [] (List.replicate b.Strokes.length 0) = _ from e1]
 simp only [Option.bind_some]
 obtain ⟨c, ec⟩ := S.l0 999999 0 (Int.le_refl _) (by omega) (by omega)
 have hneg : ∀ j, j < b.Strokes.length → sT (Bg (hF pl) (nF b) d) 0 0 j = -1 := by
  intro j hj
  have := S.Bb j hj
  unfold sT fT
  rw [if_neg (Nat.not_lt_zero _), if_neg (by omega)]
 have e2 : (List.range b.Strokes.length).map (sT (Bg (hF pl) (nF b) d) 0 0) = List.replicate b.Strokes.length (-1) := by
  rw [List.eq_replicate_iff]
  exact ⟨by simp, fun x hx => by obtain ⟨j, hj, rfl⟩ := List.mem_map.1 hx; exact hneg j (List.mem_range.1 hj)⟩
 have e3 : ∀ n, ngF (fun _ => -1) n = n := by
  intro n
  induction n with
  | zero => rfl
  | succ n ih => unfold ngF; rw [ih, if_pos (by omega)]; omega
 rw [e2, yk (w := fun _ => -1) hneg, e3] at ec
 rw [show nn ((List.range' 0 b.Strokes.length).map (foL b pl)) pl hs 1000000 (b.Strokes.length : Int) 0 (List.replicate b.Strokes.length (-1)) = _ from ec]
 rfl
theorem Sim6.ended_l0 : ∀ (k i : Nat), i ≤ b.Strokes.length → b.Strokes.length < i + k → ∃ c : Int, qi hs k i ((List.range b.Strokes.length).map fun j => if j < i then Ed (hF pl) (nF b) d j else Bg (hF pl) (nF b) d j) = some (.go (c, (List.range b.Strokes.length).map (Ed (hF pl) (nF b) d)))
 | 0, i, h, h2 => absurd h2 (by omega)
 | k + 1, i, h, h2 => by
  have h6 := S.n6
  simp only [qi, List.length_map, List.length_range]
  by_cases hi : i < b.Strokes.length
  ·have hB := S.Bb i hi
   have hd := S.d0 i
   rw [decide_eq_true (by omega), cond_true, getMap _ (by omega) (by omega), Int.toNat_natCast, if_neg (Nat.lt_irrefl _), S.hh i hi]
   simp only [Option.bind_some]
   rw [ix (n := Bg (hF pl) (nF b) d i + d i) (by omega) (by omega), ← Ed_eq S.hn, ix (by omega) (by omega), show ((i : Int) + 1) = ((i + 1 : Nat) : Int) by omega]
   have e6 : List.set ((List.range b.Strokes.length).map fun j => if j < i then Ed (hF pl) (nF b) d j else Bg (hF pl) (nF b) d j) i (Ed (hF pl) (nF b) d i) = (List.range b.Strokes.length).map fun j => if j < i + 1 then Ed (hF pl) (nF b) d j else Bg (hF pl) (nF b) d j := by
    refine List.ext_getElem? fun q => ?_
    rw [List.getElem?_set, List.getElem?_map, List.getElem?_map]
    by_cases hk : i = q
    ·subst hk
     rw [if_pos rfl, if_pos (by simpa using hi), List.getElem?_range hi]
     simp
    ·rw [if_neg hk]
     by_cases hkn : q < b.Strokes.length
     ·rw [List.getElem?_range hkn]
      simp only [Option.map_some, Option.some.injEq]
      by_cases h5 : q < i
      ·simp only [h5, show q < i + 1 by omega, if_true]
      ·simp only [h5, show ¬ q < i + 1 by omega, if_false]
     ·rw [List.getElem?_eq_none (by simp; omega)]
      rfl
   rw [e6]
   exact Sim6.ended_l0 k (i + 1) (by omega) (by omega)
  ·rw [decide_eq_false (by omega), cond_false]
   refine ⟨i, ?_⟩
   congr 3
   refine List.map_congr_left fun j hj => ?_
   rw [if_pos (by have := List.mem_range.1 hj; omega)]
theorem Sim6.ended : sk b pl hs = some ((List.range b.Strokes.length).map (Ed (hF pl) (nF b) d)) := by
 have h6 := S.n6
 unfold sk
 rw [S.begins]
 simp only [Option.bind_some]
 rw [fA (by simp; omega), cond_true]
 obtain ⟨c, ec⟩ := S.ended_l0 1000000 0 (Nat.zero_le _) (by omega)
 have e : ((List.range b.Strokes.length).map fun j => if j < 0 then Ed (hF pl) (nF b) d j else Bg (hF pl) (nF b) d j) = (List.range b.Strokes.length).map (Bg (hF pl) (nF b) d) := List.map_congr_left fun j _ => if_neg (Nat.not_lt_zero _)
 rw [e] at ec
 rw [show qi hs 1000000 0 ((List.range b.Strokes.length).map (Bg (hF pl) (nF b) d)) = _ from ec]
 rfl
end
theorem qw {b : GBk} (h : Len b) (hB : BOk b) {pl : List Int} (hp : pl.length = b.Strokes.length) (hi : Bool) : Sim6 b pl (hrL b hi) (dF b (if hi then 1 else 0)) :=
 ⟨h, hB.ns.2, hp, hB.h.nd, fun k => hB.h.d _ k, fun k hk => by rw [vg hi (by omega) (by omega), Int.toNat_natCast]⟩
theorem Mz {b : GBk} {pl : List Int} (hn : b.Strokes.length ≤ 6) : ∀ (m i : Nat) (acc : List GSpan), i + m = b.Strokes.length → acc.length = i →
  m6 ((List.range b.Strokes.length).map (EE b pl 1)) ((List.range' i m).map (EE b pl 0)) i acc = some (.go (acc ++ (List.range' i m).map (endS b pl)))
 | 0, i, acc, _, _ => by simp [m6]
 | m + 1, i, acc, hi, ha => by
  simp only [List.range'_succ, List.map_cons, m6]
  rw [getMap _ (by omega) (by omega), Int.toNat_natCast]
  simp only [Option.bind_some]
  rw [room16 (by simp; omega), cond_true, show ((i : Int) + 1) = ((i + 1 : Nat) : Int) by omega, Mz hn m (i + 1) _ (by omega) (by simp [ha])]
  simp [endS]
theorem Et {b : GBk} (h : Len b) (hB : BOk b) {pl : List Int} (hp : pl.length = b.Strokes.length) : u5 b pl = some (endsL b pl) := by
 have hn := hB.ns
 have e0 := (qw h hB hp false).ended
 have e1 := (qw h hB hp true).ended
 unfold u5
 rw [hr_eq hB, hr_eq hB]
 simp only [Option.bind_some, e0, e1, if_true, Bool.false_eq_true, if_false]
 rw [fA (by simp; omega), cond_true]
 have := Mz (b := b) (pl := pl) hn.2 b.Strokes.length 0 [] (by omega) rfl
 rw [← List.range_eq_range'] at this
 rw [show m6 ((List.range b.Strokes.length).map (Ed (hF pl) (nF b) (dF b 1))) ((List.range b.Strokes.length).map (Ed (hF pl) (nF b) (dF b 0))) 0 [] = _ from this]
 rfl
end Go.V
end
section
namespace Go.V
open Go Go.Proofs IntKind
def oJ (ag : GBk) (bA : Int) : List GSpan → Int → Int → Int → Option (LOut (GSpan) (Int × Int))
 | [], cl, bx, iX => some (.go (bx, iX))
 | e0 :: p0, cl, bx, iX => Option.bind (getI ag.Strokes cl) (fun x2 => cond (x2.Board == bA) (oJ ag bA p0 (cl + 1) (if bx < e0.Low then e0.Low else bx) (if iX < e0.High then e0.High else iX)) (oJ ag bA p0 (cl + 1) bx iX))
def vc (ag : GBk) (br : List GSpan) (bA : Int) : Option (GSpan) := cond (au br) (lbind (oJ ag bA br 0 0 0) (fun r4 => some r4) (fun c3 => some (GSpan.mk c3.1 c3.2)) (fun _ _ => none)) none
theorem M0 (ag : GBk) (br : List GSpan) (bA : Int) (R : GSpan) (h : vc ag br bA = some R) : ai Tryz.prog G0 29 [.agg (cGBk ag), .sl (aa aL br) (List.length br) false, .lit (.int .i64 bA)] (.tree (.agg (aL R))) := by
 refine ai.runR mixed Tryz.call29 Tryz.func29 rfl (by simp [Tryz.ntmps29]; kernel_rfl) ?_
 obtain ⟨KF, h, kF, kN⟩ := cO h
 simp only [vc] at h
 cases g6 : (au br)
 ·simp only [g6, hs] at h
  exact absurd h kN
 simp only [g6, hs] at h
 simp only [vz, tyf, g6, nm, seval]
 obtain ⟨K5, h, pN, ml, xk, kM⟩ := eN h kN
 obtain ⟨f5, ng, h⟩ := call4 h
 obtain ⟨I5, gC⟩ : ∃ I : Nat → St → Prop, I = (fun m st => ∃ (p5 : List GSpan) (gQ : Int) (dM : Int) (gm : Int), m = List.length p5 ∧ 0 ≤ gQ ∧ List.drop (Int.toNat gQ) br = p5 ∧ st.df = [] ∧ 4 ≤ st.nx ∧ st.H 0 = some (.cells (some 25) (cGBk ag)) ∧ st.H 1 = some (.cells (some 35) ([.lit (.int .i64 0)] ++ [.lit (.int .i64 0)])) ∧ st.H 2 = some (.cells (some 35) ([.lit (.int .i64 dM)] ++ [.lit (.int .i64 gm)])) ∧ st.tm 1 = .sl (aa aL br) (List.length br) false ∧ st.tm 2 = .lit (.int .i64 bA) ∧ st.tm 3 = .ptr 0 0 ∧ st.tm 6 = .ptr 1 0 ∧ st.tm 7 = .ptr 2 0 ∧ st.tm 8 = .lit (.int .i64 gQ) ∧ K5 (f5 p5 gQ dM gm)) := ⟨_, rfl⟩
 refine loopK mixed (by kernel_rfl) I5 (List.length br) (by rw [gC]; refine ⟨br, 0, 0, 0, rfl, Int.le_refl _, rfl, rfl, (show 4 ≤ 4 by omega), ?_, ?_, ?_, ?_, ?_, ?_, ?_, ?_, ?_, h⟩ <;> first | (simp only [ua, nm, seval] <;> rfl) | rfl) ?_
 rintro m ⟨tm, H, gD, df⟩ hinv
 rw [gC] at hinv
 obtain ⟨p5, gQ, dM, gm, rfl, cN, dC, hdf, nh, H7, H8, H9, aV, aZ, bh, aW, bu, bn, h⟩ := hinv
 simp only at hdf nh H7 H8 H9 aV aZ bh aW bu bn
 have bD := fg (m := 4) (b := gD) (by omega)
 subst hdf ng
 cases p5 with
 | nil =>
  have mm : (decide (gQ < (List.length br : Int))) = false := dR cN dC
  simp only [oJ, hs, reduceCtorEq] at h
  replace h := ml _ h
  try dsimp only at h
  try simp only [hs] at h
  try simp only [vz, tyf, g6, bD, aV, aZ, bh, aW, bu, bn, H7, H8, H9, mm, nm, seval]
  refine cL (x := (.agg ([.lit (.int .i64 dM)] ++ [.lit (.int .i64 gm)]))) (by first | (simp only [Tryz.results29, resV, resL, resV1, cF, cE, uw, cr, tyf, g6, bD, aV, aZ, bh, aW, bu, bn, H7, H8, H9, mm, nm, seval] <;> rfl) | rfl) ?_
  obtain rfl := kF _ h
  refine gw ?_ ?_
  ·simp only [tre, tytre, Bool.and_self]
  ·first | (simp only [outV, uw, gG, cr, tyf, nrm, aI, g6, bD, aV, aZ, bh, aW, bu, bn, H7, H8, H9, mm, nm, seval] <;> rfl) | rfl
 | cons e5 p5 =>
  have kS : (decide (gQ < (List.length br : Int))) = true := dQ cN dC
  have nz := cA cN dC
  have M1 := dN cN dC g6
  simp only [oJ, hs, reduceCtorEq] at h
  obtain ⟨uy, lB, h⟩ := optI h kM
  try simp only [hs] at h
  cases bM : (uy.Board == bA)
  ·simp only [bM, hs] at h
   have GK := And.intro g6 (And.intro bD (And.intro H7 (And.intro H8 (And.intro H9 (And.intro kS (And.intro M1 bM))))))
   simp only [vz, tyf, GK, aV, aZ, bh, aW, bu, bn, (nf nz), (aJ lB), nm, seval]
   exact ⟨List.length p5, Nat.lt_succ_self _, by rw [gC]; refine ⟨p5, gQ + 1, dM, gm, rfl, Int.le_trans cN (Int.le_add_one (Int.le_refl _)), bJ cN dC, rfl, (show 4 ≤ gD + 15 by omega), ?_, ?_, ?_, aV, aZ, bh, aW, bu, ?_, (by first | exact h | (simp only [GK]; exact h))⟩ <;> first | (simp only [ua, GK, aV, aZ, bh, aW, bu, bn, nm, seval] <;> rfl) | rfl⟩
  simp only [bM, hs] at h
  have mR := And.intro g6 (And.intro bD (And.intro H7 (And.intro H8 (And.intro H9 (And.intro kS (And.intro M1 bM))))))
  simp only [vz, tyf, mR, aV, aZ, bh, aW, bu, bn, (nf nz), (aJ lB), nm, seval]
  refine mh (fun tm => tm 1 = .sl (aa aL br) (List.length br) false ∧ tm 2 = .lit (.int .i64 bA) ∧ tm 3 = .ptr 0 0 ∧ tm 6 = .ptr 1 0 ∧ tm 7 = .ptr 2 0 ∧ tm 8 = .lit (.int .i64 gQ) ∧ True) (by refine ⟨aV, aZ, bh, aW, bu, bn, trivial⟩ <;> first | (simp only [ua, mR, aV, aZ, bh, aW, bu, bn, nm, seval] <;> rfl) | rfl) ?_
  rintro tm ⟨cn, bp, dx, dE, cQ, cG, _⟩
  simp only [vz, tyf, mR, (nf nz), (aJ lB), cn, bp, dx, dE, cQ, cG, nm, seval]
  refine mz ⟨?_, ?_⟩
  ·simp only [m0, m2, hJ, m3, and_true, true_and]
   repeat' (first | exact trivial | refine And.intro ?_ ?_ | rw [hJ] | rw [m4] | exact Or.inl (by decide +kernel) | exact Or.inl (by dsimp only; decide +kernel) | (refine Or.inr ⟨?_, ?_⟩ <;> simp; done) | (refine Or.inr ⟨?_, ?_⟩ <;> simp <;> omega) | (refine Or.inr ⟨?_, ?_⟩ <;> simp [VEff.wr] <;> omega))
  simp only [vz, tyf, mR, (nf nz), (aJ lB), cn, bp, dx, dE, cQ, cG, nm, seval]
  exact ⟨List.length p5, Nat.lt_succ_self _, by rw [gC]; refine ⟨p5, gQ + 1, (if dM < e5.Low then e5.Low else dM), (if gm < e5.High then e5.High else gm), rfl, Int.le_trans cN (Int.le_add_one (Int.le_refl _)), bJ cN dC, rfl, (show 4 ≤ gD + 33 by omega), ?_, ?_, ?_, cn, bp, dx, dE, cQ, ?_, (by first | exact h | (simp only [mR]; exact h))⟩ <;> first | (simp only [ua, mR, cn, bp, dx, dE, cQ, cG, nm, seval] <;> rfl) | rfl⟩
def ko (ag : GBk) (r1 : List GSpan) : List Int → Int → (List Int) → Option (LOut (List Int) ((List Int)))
 | [], bt, dr => some (.go dr)
 | e0 :: p0, bt, dr => Option.bind (vc ag r1 bt) (fun r2 => cond (decide (r2.Low > e0)) (cond (aC 8 (List.length (dr ++ [3]))) (ko ag r1 p0 (bt + 1) (dr ++ [3])) none) (cond (decide (r2.High > e0)) (cond (aC 8 (List.length (dr ++ [2]))) (ko ag r1 p0 (bt + 1) (dr ++ [2])) none) (cond (aC 8 (List.length (dr ++ [1]))) (ko ag r1 p0 (bt + 1) (dr ++ [1])) none)))
def vf (ag : GBk) (ae : List Int) : Option (List Int) := Option.bind (u5 ag ae) (fun r1 => cond (au ag.Boards) (lbind (ko ag r1 ag.Boards 0 ([] : List Int)) (fun r4 => some r4) (fun c3 => some c3) (fun _ _ => none)) none)
theorem Ps (ag : GBk) (ae : List Int) (R : List Int) (h : vf ag ae = some R) : ai Tryz.prog G0 39 [.agg (cGBk ag), .sl (aa eI ae) (List.length ae) false] (.tree (.sl (aa eI R) (List.length R) false)) := by
 refine ai.runR mixed Tryz.call39 Tryz.func39 rfl (by simp [Tryz.ntmps39]; kernel_rfl) ?_
 obtain ⟨KF, h, kF, kN⟩ := cO h
 simp only [vf] at h
 obtain ⟨r5, o6, h⟩ := optI h kN
 try simp only [hs] at h
 simp only [vz, tyf, nm, seval]
 refine ktA (NX _ _ _ o6) ?_
 refine bZ (fun tm => tm 2 = .ptr 0 0 ∧ tm 12 = .sl (aa aL r5) (List.length r5) false ∧ True) (by refine ⟨?_, ?_, trivial⟩ <;> first | (simp only [ua, nm, seval] <;> rfl) | rfl) ?_
 rintro tm ⟨e7, e8, _⟩
 cases gR : (au ag.Boards)
 ·simp only [gR, hs] at h
  exact absurd h kN
 simp only [gR, hs] at h
 simp only [vz, tyf, e7, e8, gR, nm, seval]
 obtain ⟨K9, h, NV, xw, NW, kP⟩ := eN h kN
 obtain ⟨f9, C5, h⟩ := call3 h
 obtain ⟨I9, kQ⟩ : ∃ I : Nat → St → Prop, I = (fun m st => ∃ (p9 : List Int) (cK : Int) (bH : List Int) (nP : VV), m = List.length p9 ∧ 0 ≤ cK ∧ List.drop (Int.toNat cK) ag.Boards = p9 ∧ st.df = [] ∧ 8 ≤ st.nx ∧ st.H 0 = some (.cells (some 25) (cGBk ag)) ∧ st.tm 2 = .ptr 0 0 ∧ st.tm 5 = .sl (aa aL r5) (List.length r5) false ∧ st.tm 6 = nP ∧ st.tm 7 = .lit (.int .i64 cK) ∧ ((∃ (β : Nat) (el : Option TypeId), nP = .ref β 0 (List.length bH) 1 (List.length bH) ∧ β < st.nx ∧ β ≠ 0 ∧ st.H β = some (.cells el (aa eI bH))) ∨ (nP = .lit (.slice none 0 0) ∧ bH = [])) ∧ K9 (f9 p9 cK bH)) := ⟨_, rfl⟩
 refine loopK mixed (by kernel_rfl) I9 (List.length ag.Boards) (by rw [kQ]; refine ⟨ag.Boards, 0, ([] : List Int), .lit (.slice none 0 0), rfl, Int.le_refl _, rfl, rfl, (show 8 ≤ 8 by omega), ?_, e7, ?_, ?_, ?_, Or.inr ⟨rfl, rfl⟩, h⟩ <;> first | (simp only [ua, e7, e8, nm, seval] <;> rfl) | rfl) ?_
 rintro m ⟨tm, H, fE, df⟩ hinv
 rw [kQ] at hinv
 obtain ⟨p9, cK, bH, nP, rfl, hY, jX, hdf, C6, eW, bh, aW, bu, bn, pd, h⟩ := hinv
 simp only at hdf C6 eW bh aW bu bn pd
 have bD := fg (m := 8) (b := fE) (by omega)
 subst hdf C5
 rcases pd with ⟨nQ, hZ, rfl, qY, lQ, jo⟩ | ⟨rfl, rfl⟩
 ·have jq := gF qY
  have f7 := ne_f lQ
  cases p9 with
  | nil =>
   have dm : (decide (cK < (List.length ag.Boards : Int))) = false := dR hY jX
   simp only [ko, hs, reduceCtorEq] at h
   replace h := xw _ h
   try dsimp only at h
   try simp only [hs] at h
   try simp only [vz, tyf, gR, bD, bh, aW, bu, bn, eW, jq, jo, f7, dm, nm, seval]
   refine cL (x := (.ref nQ 0 (List.length bH) 1 (List.length bH))) (by first | (simp only [Tryz.results39, resV, resL, resV1, cF, cE, uw, cr, tyf, gR, bD, eW, jq, jo, f7, dm, nm, seval] <;> rfl) | rfl) ?_
   obtain rfl := kF _ h
   refine gw ?_ ?_
   ·simp only [tre, tytre, Bool.and_self]
   ·first | (simp only [outV, uw, gG, cr, tyf, nrm, aI, gR, bD, bh, aW, bu, bn, eW, jq, jo, f7, dm, nm, seval] <;> rfl) | rfl
  | cons e9 p9 =>
   have ke : (decide (cK < (List.length ag.Boards : Int))) = true := dQ hY jX
   have eJ := cA hY jX
   have oq := dN hY jX gR
   simp only [ko, hs, reduceCtorEq] at h
   obtain ⟨dD, kO, h⟩ := optI h kP
   try simp only [hs] at h
   simp only [vz, tyf, gR, bD, bh, aW, bu, bn, eW, jq, jo, f7, ke, (aj eJ), oq, nm, seval]
   refine ktA (M0 _ _ _ _ kO) ?_
   refine bZ (fun tm => tm 2 = .ptr 0 0 ∧ tm 5 = .sl (aa aL r5) (List.length r5) false ∧ tm 6 = .ref nQ 0 (List.length bH) 1 (List.length bH) ∧ tm 7 = .lit (.int .i64 cK) ∧ tm 8 = .lit (.int .i64 1) ∧ tm 23 = .agg (aL dD) ∧ True) (by refine ⟨bh, aW, bu, bn, ?_, ?_, trivial⟩ <;> first | (simp only [ua, bD, bh, aW, bu, bn, eW, jq, jo, f7, ke, oq, nm, seval] <;> rfl) | rfl) ?_
   rintro tm ⟨cn, bp, dx, dE, cQ, cG, _⟩
   have dz := And.intro gR (And.intro bD (And.intro eW (And.intro jq (And.intro jo (And.intro f7 (And.intro ke oq))))))
   simp only [vz, tyf, dz, (aj eJ), cn, bp, dx, dE, cQ, cG, nm, seval]
   refine iD (fun tm => tm 2 = .ptr 0 0 ∧ tm 5 = .sl (aa aL r5) (List.length r5) false ∧ tm 6 = .ref nQ 0 (List.length bH) 1 (List.length bH) ∧ tm 7 = .lit (.int .i64 cK) ∧ tm 8 = .lit (.int .i64 1) ∧ tm 9 = .ptr (fE + 10) 0 ∧ True) (by refine ⟨cn, bp, dx, dE, cQ, ?_, trivial⟩ <;> first | (simp only [ua, dz, cn, bp, dx, dE, cQ, cG, nm, seval] <;> rfl) | rfl) ?_
   rintro tm ⟨ez, di, dH, fF, fG, cR, _⟩
   cases fI : (decide (dD.Low > e9))
   ·simp only [fI, hs] at h
    simp only [vz, tyf, dz, (aj eJ), ez, di, dH, fF, fG, cR, fI, nm, seval]
    refine iD (fun tm => tm 2 = .ptr 0 0 ∧ tm 5 = .sl (aa aL r5) (List.length r5) false ∧ tm 6 = .ref nQ 0 (List.length bH) 1 (List.length bH) ∧ tm 7 = .lit (.int .i64 cK) ∧ tm 8 = .lit (.int .i64 1) ∧ tm 9 = .ptr (fE + 10) 0 ∧ True) (by refine ⟨ez, di, dH, fF, fG, cR, trivial⟩ <;> first | (simp only [ua, dz, ez, di, dH, fF, fG, cR, fI, nm, seval] <;> rfl) | rfl) ?_
    rintro tm ⟨bV, ck, bz, b4, bG, cy, _⟩
    cases da : (decide (dD.High > e9))
    ·simp only [da, hs] at h
     cases ri : (aC 8 (List.length (bH ++ [1])))
     ·simp only [ri, hs] at h
      exact absurd h kP
     simp only [ri, hs] at h
     simp only [vz, tyf, dz, (aj eJ), fI, bV, ck, bz, b4, bG, cy, da, ri, nm, seval]
     refine k_app (w := 1) (enc := eI) (xs := bH) (ys := ([1])) (el := hZ) (ff := (some 60)) (fun _ => rfl) iH iG Tryz.underlying51 (by first | rfl | assumption | (simp only [aS, aT, fk, dz, nm, seval] <;> rfl) | (simp only [aS, aT, cP, db, cY, cZ, tyf, dz, (aj eJ), fI, bV, ck, bz, b4, bG, cy, da, ri, nm, seval]; done)) (by first | rfl | assumption | (simp only [aS, aT, fk, dz, nm, seval] <;> rfl) | (simp only [aS, aT, cP, db, cY, cZ, tyf, dz, (aj eJ), fI, bV, ck, bz, b4, bG, cy, da, ri, nm, seval]; done)) (Nat.zero_lt_succ _) ri ?_
     simp only [vz, tyf, dz, (aj eJ), fI, bV, ck, bz, b4, bG, cy, da, ri, nm, seval]
     exact ⟨List.length p9, Nat.lt_succ_self _, by rw [kQ]; refine ⟨p9, cK + 1, (bH ++ [1]), .ref (fE + 31) 0 (List.length (bH ++ [1])) 1 (List.length (bH ++ [1])), rfl, Int.le_trans hY (Int.le_add_one (Int.le_refl _)), bJ hY jX, rfl, (show 8 ≤ fE + 36 by omega), ?_, bV, ck, ?_, ?_, Or.inl ⟨fE + 31, (sameEl hZ 60), rfl, (by first | omega | (simp only [nm, seval]; done) | (simp only [nm, seval]; omega)), (by first | omega | (intro hh; simp only [dz, reduceCtorEq] at hh)), ?_⟩, (by first | exact h | (simp only [dz, fI, da]; exact h))⟩ <;> first | (simp only [ua, dz, fI, bV, ck, bz, b4, bG, cy, da, nm, seval] <;> rfl) | rfl⟩
    simp only [da, hs] at h
    cases jW : (aC 8 (List.length (bH ++ [2])))
    ·simp only [jW, hs] at h
     exact absurd h kP
    simp only [jW, hs] at h
    simp only [vz, tyf, dz, (aj eJ), fI, bV, ck, bz, b4, bG, cy, da, jW, nm, seval]
    refine k_app (w := 1) (enc := eI) (xs := bH) (ys := ([2])) (el := hZ) (ff := (some 60)) (fun _ => rfl) iH iG Tryz.underlying51 (by first | rfl | assumption | (simp only [aS, aT, fk, dz, nm, seval] <;> rfl) | (simp only [aS, aT, cP, db, cY, cZ, tyf, dz, (aj eJ), fI, bV, ck, bz, b4, bG, cy, da, jW, nm, seval]; done)) (by first | rfl | assumption | (simp only [aS, aT, fk, dz, nm, seval] <;> rfl) | (simp only [aS, aT, cP, db, cY, cZ, tyf, dz, (aj eJ), fI, bV, ck, bz, b4, bG, cy, da, jW, nm, seval]; done)) (Nat.zero_lt_succ _) jW ?_
    simp only [vz, tyf, dz, (aj eJ), fI, bV, ck, bz, b4, bG, cy, da, jW, nm, seval]
    exact ⟨List.length p9, Nat.lt_succ_self _, by rw [kQ]; refine ⟨p9, cK + 1, (bH ++ [2]), .ref (fE + 32) 0 (List.length (bH ++ [2])) 1 (List.length (bH ++ [2])), rfl, Int.le_trans hY (Int.le_add_one (Int.le_refl _)), bJ hY jX, rfl, (show 8 ≤ fE + 37 by omega), ?_, bV, ck, ?_, ?_, Or.inl ⟨fE + 32, (sameEl hZ 60), rfl, (by first | omega | (simp only [nm, seval]; done) | (simp only [nm, seval]; omega)), (by first | omega | (intro hh; simp only [dz, reduceCtorEq] at hh)), ?_⟩, (by first | exact h | (simp only [dz, fI, da]; exact h))⟩ <;> first | (simp only [ua, dz, fI, bV, ck, bz, b4, bG, cy, da, nm, seval] <;> rfl) | rfl⟩
   simp only [fI, hs] at h
   cases rj : (aC 8 (List.length (bH ++ [3])))
   ·simp only [rj, hs] at h
    exact absurd h kP
   simp only [rj, hs] at h
   simp only [vz, tyf, dz, (aj eJ), ez, di, dH, fF, fG, cR, fI, rj, nm, seval]
   refine k_app (w := 1) (enc := eI) (xs := bH) (ys := ([3])) (el := hZ) (ff := (some 60)) (fun _ => rfl) iH iG Tryz.underlying51 (by first | rfl | assumption | (simp only [aS, aT, fk, dz, nm, seval] <;> rfl) | (simp only [aS, aT, cP, db, cY, cZ, tyf, dz, (aj eJ), ez, di, dH, fF, fG, cR, fI, rj, nm, seval]; done)) (by first | rfl | assumption | (simp only [aS, aT, fk, dz, nm, seval] <;> rfl) | (simp only [aS, aT, cP, db, cY, cZ, tyf, dz, (aj eJ), ez, di, dH, fF, fG, cR, fI, rj, nm, seval]; done)) (Nat.zero_lt_succ _) rj ?_
   simp only [vz, tyf, dz, (aj eJ), ez, di, dH, fF, fG, cR, fI, rj, nm, seval]
   exact ⟨List.length p9, Nat.lt_succ_self _, by rw [kQ]; refine ⟨p9, cK + 1, (bH ++ [3]), .ref (fE + 24) 0 (List.length (bH ++ [3])) 1 (List.length (bH ++ [3])), rfl, Int.le_trans hY (Int.le_add_one (Int.le_refl _)), bJ hY jX, rfl, (show 8 ≤ fE + 29 by omega), ?_, ez, di, ?_, ?_, Or.inl ⟨fE + 24, (sameEl hZ 60), rfl, (by first | omega | (simp only [nm, seval]; done) | (simp only [nm, seval]; omega)), (by first | omega | (intro hh; simp only [dz, reduceCtorEq] at hh)), ?_⟩, (by first | exact h | (simp only [dz, fI]; exact h))⟩ <;> first | (simp only [ua, dz, ez, di, dH, fF, fG, cR, fI, nm, seval] <;> rfl) | rfl⟩
 ·cases p9 with
  | nil =>
   have GL : (decide (cK < (List.length ag.Boards : Int))) = false := dR hY jX
   simp only [ko, hs, reduceCtorEq] at h
   replace h := xw _ h
   try dsimp only at h
   try simp only [hs] at h
   try simp only [vz, tyf, gR, bD, bh, aW, bu, bn, eW, GL, nm, seval]
   refine cL (x := (.lit (.slice none 0 0))) (by first | (simp only [Tryz.results39, resV, resL, resV1, cF, cE, uw, cr, tyf, gR, bD, eW, GL, nm, seval] <;> rfl) | rfl) ?_
   obtain rfl := kF _ h
   refine gw ?_ ?_
   ·simp only [tre, tytre, Bool.and_self]
   ·first | (simp only [outV, uw, gG, cr, tyf, nrm, aI, gR, bD, bh, aW, bu, bn, eW, GL, nm, seval] <;> rfl) | rfl
  | cons e9 p9 =>
   have fV : (decide (cK < (List.length ag.Boards : Int))) = true := dQ hY jX
   have jS := cA hY jX
   have lh := dN hY jX gR
   simp only [ko, hs, reduceCtorEq] at h
   obtain ⟨GM, m8, h⟩ := optI h kP
   try simp only [hs] at h
   simp only [vz, tyf, gR, bD, bh, aW, bu, bn, eW, fV, (aj jS), lh, nm, seval]
   refine ktA (M0 _ _ _ _ m8) ?_
   refine bZ (fun tm => tm 2 = .ptr 0 0 ∧ tm 5 = .sl (aa aL r5) (List.length r5) false ∧ tm 6 = .lit (.slice none 0 0) ∧ tm 7 = .lit (.int .i64 cK) ∧ tm 8 = .lit (.int .i64 1) ∧ tm 23 = .agg (aL GM) ∧ True) (by refine ⟨bh, aW, bu, bn, ?_, ?_, trivial⟩ <;> first | (simp only [ua, bD, bh, aW, bu, bn, eW, fV, lh, nm, seval] <;> rfl) | rfl) ?_
   rintro tm ⟨du, dZ, eA, eL, il, kX, _⟩
   simp only [vz, tyf, gR, bD, eW, fV, (aj jS), lh, du, dZ, eA, eL, il, kX, nm, seval]
   refine iD (fun tm => tm 2 = .ptr 0 0 ∧ tm 5 = .sl (aa aL r5) (List.length r5) false ∧ tm 6 = .lit (.slice none 0 0) ∧ tm 7 = .lit (.int .i64 cK) ∧ tm 8 = .lit (.int .i64 1) ∧ tm 9 = .ptr (fE + 10) 0 ∧ True) (by refine ⟨du, dZ, eA, eL, il, ?_, trivial⟩ <;> first | (simp only [ua, bD, eW, fV, lh, du, dZ, eA, eL, il, kX, nm, seval] <;> rfl) | rfl) ?_
   rintro tm ⟨nu, pf, rk, lR, iL, iM, _⟩
   cases iR : (decide (GM.Low > e9))
   ·simp only [iR, hs] at h
    simp only [vz, tyf, gR, bD, eW, fV, (aj jS), lh, nu, pf, rk, lR, iL, iM, iR, nm, seval]
    refine iD (fun tm => tm 2 = .ptr 0 0 ∧ tm 5 = .sl (aa aL r5) (List.length r5) false ∧ tm 6 = .lit (.slice none 0 0) ∧ tm 7 = .lit (.int .i64 cK) ∧ tm 8 = .lit (.int .i64 1) ∧ tm 9 = .ptr (fE + 10) 0 ∧ True) (by refine ⟨nu, pf, rk, lR, iL, iM, trivial⟩ <;> first | (simp only [ua, bD, eW, fV, lh, nu, pf, rk, lR, iL, iM, iR, nm, seval] <;> rfl) | rfl) ?_
    rintro tm ⟨gZ, ig, pg, kY, kZ, la, _⟩
    cases ph : (decide (GM.High > e9))
    ·simp only [ph, hs] at h
     have rl := And.intro gR (And.intro bD (And.intro eW (And.intro fV (And.intro lh (And.intro iR ph)))))
     cases sL : (aC 8 (List.length (([] : List Int) ++ [1])))
     ·simp only [sL, hs] at h
      exact absurd h kP
     simp only [sL, hs] at h
     simp only [vz, tyf, rl, (aj jS), gZ, ig, pg, kY, kZ, la, sL, nm, seval]
     refine kJ (w := 1) (enc := eI) (ys := ([1])) (ff := (some 60)) (fun _ => rfl) iH iG Tryz.underlying51 (by first | rfl | assumption | (simp only [aS, aT, fk, rl, nm, seval] <;> rfl) | (simp only [aS, aT, cP, db, cY, cZ, tyf, rl, (aj jS), gZ, ig, pg, kY, kZ, la, sL, nm, seval]; done)) (Nat.zero_lt_succ _) sL ?_
     simp only [vz, tyf, rl, (aj jS), gZ, ig, pg, kY, kZ, la, sL, nm, seval]
     exact ⟨List.length p9, Nat.lt_succ_self _, by rw [kQ]; refine ⟨p9, cK + 1, (([] : List Int) ++ [1]), .ref (fE + 31) 0 (List.length (([] : List Int) ++ [1])) 1 (List.length (([] : List Int) ++ [1])), rfl, Int.le_trans hY (Int.le_add_one (Int.le_refl _)), bJ hY jX, rfl, (show 8 ≤ fE + 36 by omega), ?_, gZ, ig, ?_, ?_, Or.inl ⟨fE + 31, (some 60), rfl, (by first | omega | (simp only [nm, seval]; done) | (simp only [nm, seval]; omega)), (by first | omega | (intro hh; simp only [rl, reduceCtorEq] at hh)), ?_⟩, (by first | exact h | (simp only [rl]; exact h))⟩ <;> first | (simp only [ua, rl, gZ, ig, pg, kY, kZ, la, nm, seval] <;> rfl) | rfl⟩
    simp only [ph, hs] at h
    have rn := And.intro gR (And.intro bD (And.intro eW (And.intro fV (And.intro lh (And.intro iR ph)))))
    cases sM : (aC 8 (List.length (([] : List Int) ++ [2])))
    ·simp only [sM, hs] at h
     exact absurd h kP
    simp only [sM, hs] at h
    simp only [vz, tyf, rn, (aj jS), gZ, ig, pg, kY, kZ, la, sM, nm, seval]
    refine kJ (w := 1) (enc := eI) (ys := ([2])) (ff := (some 60)) (fun _ => rfl) iH iG Tryz.underlying51 (by first | rfl | assumption | (simp only [aS, aT, fk, rn, nm, seval] <;> rfl) | (simp only [aS, aT, cP, db, cY, cZ, tyf, rn, (aj jS), gZ, ig, pg, kY, kZ, la, sM, nm, seval]; done)) (Nat.zero_lt_succ _) sM ?_
    simp only [vz, tyf, rn, (aj jS), gZ, ig, pg, kY, kZ, la, sM, nm, seval]
    exact ⟨List.length p9, Nat.lt_succ_self _, by rw [kQ]; refine ⟨p9, cK + 1, (([] : List Int) ++ [2]), .ref (fE + 32) 0 (List.length (([] : List Int) ++ [2])) 1 (List.length (([] : List Int) ++ [2])), rfl, Int.le_trans hY (Int.le_add_one (Int.le_refl _)), bJ hY jX, rfl, (show 8 ≤ fE + 37 by omega), ?_, gZ, ig, ?_, ?_, Or.inl ⟨fE + 32, (some 60), rfl, (by first | omega | (simp only [nm, seval]; done) | (simp only [nm, seval]; omega)), (by first | omega | (intro hh; simp only [rn, reduceCtorEq] at hh)), ?_⟩, (by first | exact h | (simp only [rn]; exact h))⟩ <;> first | (simp only [ua, rn, gZ, ig, pg, kY, kZ, la, nm, seval] <;> rfl) | rfl⟩
   simp only [iR, hs] at h
   cases js : (aC 8 (List.length (([] : List Int) ++ [3])))
   ·simp only [js, hs] at h
    exact absurd h kP
   simp only [js, hs] at h
   simp only [vz, tyf, gR, bD, eW, fV, (aj jS), lh, nu, pf, rk, lR, iL, iM, iR, js, nm, seval]
   refine kJ (w := 1) (enc := eI) (ys := ([3])) (ff := (some 60)) (fun _ => rfl) iH iG Tryz.underlying51 (by first | rfl | assumption | (simp only [aS, aT, fk, bD, eW, nm, seval] <;> rfl) | (simp only [aS, aT, cP, db, cY, cZ, tyf, gR, bD, eW, fV, (aj jS), lh, nu, pf, rk, lR, iL, iM, iR, js, nm, seval]; done)) (Nat.zero_lt_succ _) js ?_
   simp only [vz, tyf, gR, bD, eW, fV, (aj jS), lh, nu, pf, rk, lR, iL, iM, iR, js, nm, seval]
   exact ⟨List.length p9, Nat.lt_succ_self _, by rw [kQ]; refine ⟨p9, cK + 1, (([] : List Int) ++ [3]), .ref (fE + 24) 0 (List.length (([] : List Int) ++ [3])) 1 (List.length (([] : List Int) ++ [3])), rfl, Int.le_trans hY (Int.le_add_one (Int.le_refl _)), bJ hY jX, rfl, (show 8 ≤ fE + 29 by omega), ?_, nu, pf, ?_, ?_, Or.inl ⟨fE + 24, (some 60), rfl, (by first | omega | (simp only [nm, seval]; done) | (simp only [nm, seval]; omega)), (by first | omega | (intro hh; simp only [bD, reduceCtorEq] at hh)), ?_⟩, (by first | exact h | (simp only [fV, iR]; exact h))⟩ <;> first | (simp only [ua, bD, eW, fV, lh, nu, pf, rk, lR, iL, iM, iR, nm, seval] <;> rfl) | rfl⟩
def mB (ae : List Int) (r1 : List Int) (r2 : List Int) (e0 : Int) : Nat → Int → Int → Option (LOut (List Int) (Int))
 | 0, ia, rp => some (.go rp)
 | k1 + 1, ia, rp => Option.bind (getI ae ia) (fun x3 => cond (x3 == e0) (Option.bind (getI r2 ia) (fun x4 => Option.bind (getI r1 ia) (fun x5 => mB ae r1 r2 e0 k1 (ia + 1) (i64.wrap (x4 + x5))))) (mB ae r1 r2 e0 k1 (ia + 1) rp))
def mC (ae : List Int) (r1 : List Int) (r2 : List Int) : List Int → Int → (List Int) → Option (LOut (List Int) ((List Int)))
 | [], cl, bt => some (.go bt)
 | e0 :: p0, cl, bt => cond (boundOk cl) (lbind (mB ae r1 r2 e0 (Int.toNat (cl - 0)) 0 0) (fun r8 => some (.ret r8)) (fun c6 => Option.bind (getI r2 cl) (fun x7 => cond (aC 8 (List.length (bt ++ [i64.wrap (x7 - c6)]))) (mC ae r1 r2 p0 (cl + 1) (bt ++ [i64.wrap (x7 - c6)])) none)) (fun _ _ => none)) none
def vh (ag : GBk) (ae : List Int) : Option (List Int) := Option.bind (qj ag true) (fun r1 => Option.bind (si ag ae r1) (fun r2 => cond (au ae) (lbind (mC ae r1 r2 ae 0 ([] : List Int)) (fun km => some km) (fun c9 => some c9) (fun _ _ => none)) none))
theorem Pw (ag : GBk) (ae : List Int) (R : List Int) (h : vh ag ae = some R) : ai Tryz.prog G0 41 [.agg (cGBk ag), .sl (aa eI ae) (List.length ae) false] (.tree (.sl (aa eI R) (List.length R) false)) := by
 refine ai.runR mixed Tryz.call41 Tryz.func41 rfl (by simp [Tryz.ntmps41]; kernel_rfl) ?_
 obtain ⟨KF, h, kF, kN⟩ := cO h
 simp only [vh] at h
 obtain ⟨fX, oM, h⟩ := optI h kN
 try simp only [hs] at h
 simp only [vz, tyf, nm, seval]
 refine ktA (C8 _ _ _ oM) ?_
 refine bZ (fun tm => tm 1 = .sl (aa eI ae) (List.length ae) false ∧ tm 2 = .ptr 0 0 ∧ tm 12 = .sl (aa eI fX) (List.length fX) false ∧ True) (by refine ⟨?_, ?_, ?_, trivial⟩ <;> first | (simp only [ua, nm, seval] <;> rfl) | rfl) ?_
 rintro tm ⟨aW, bu, bn, _⟩
 obtain ⟨gX, kL, h⟩ := optI h kN
 try simp only [hs] at h
 simp only [vz, tyf, aW, bu, bn, nm, seval]
 refine kown (args0 := [.agg (cGBk ag), .sl (aa eI ae) (List.length ae) false, .sl (aa eI fX) (List.length fX) false]) (by first | (simp only [nrm, aI] <;> rfl) | rfl) (by simp only [tre, tytre, Bool.and_self]) (Kx _ _ _ _ kL) ?_
 cases fY : (au ae)
 ·simp only [fY, hs] at h
  exact absurd h kN
 simp only [fY, hs] at h
 simp only [vz, tyf, aW, bu, bn, fY, nm, seval]
 obtain ⟨Rk, h, Rl, wv, Rm, iY⟩ := eN h kN
 obtain ⟨Rn, GN, h⟩ := call3 h
 obtain ⟨Ro, nR⟩ : ∃ I : Nat → St → Prop, I = (fun m st => ∃ (lj : List Int) (bm : Int) (bF : List Int) (jY : VV), m = List.length lj ∧ 0 ≤ bm ∧ List.drop (Int.toNat bm) ae = lj ∧ st.df = [] ∧ 12 ≤ st.nx ∧ st.H 8 = some (.cells (none) (aa eI gX)) ∧ st.tm 1 = .sl (aa eI ae) (List.length ae) false ∧ st.tm 5 = .sl (aa eI fX) (List.length fX) false ∧ st.tm 6 = .ref 8 0 (List.length gX) 1 (List.length gX) ∧ st.tm 7 = jY ∧ st.tm 8 = .lit (.int .i64 bm) ∧ ((∃ (β : Nat) (el : Option TypeId), jY = .ref β 0 (List.length bF) 1 (List.length bF) ∧ β < st.nx ∧ β ≠ 8 ∧ st.H β = some (.cells el (aa eI bF))) ∨ (jY = .lit (.slice none 0 0) ∧ bF = [])) ∧ Rk (Rn lj bm bF)) := ⟨_, rfl⟩
 refine loopK mixed (by kernel_rfl) Ro (List.length ae) (by rw [nR]; refine ⟨ae, 0, ([] : List Int), .lit (.slice none 0 0), rfl, Int.le_refl _, rfl, rfl, (show 12 ≤ 12 by omega), ?_, aW, ?_, ?_, ?_, ?_, Or.inr ⟨rfl, rfl⟩, h⟩ <;> first | (simp only [ua, aW, bu, bn, nm, seval] <;> rfl) | rfl) ?_
 rintro m ⟨tm, H, f8, df⟩ hinv
 rw [nR] at hinv
 obtain ⟨lj, bm, bF, jY, rfl, fO, gS, hdf, GO, lS, dw, cC, cM, bK, cg, lT, h⟩ := hinv
 simp only at hdf GO lS dw cC cM bK cg lT
 have eM := fg (m := 12) (b := f8) (by omega)
 subst hdf GN
 rcases lT with ⟨ib, jJ, rfl, GP, GQ, wx⟩ | ⟨rfl, rfl⟩
 ·have jt := gF GP
  have ju := ne_f GQ
  cases lj with
  | nil =>
   have k9 : (decide (bm < (List.length ae : Int))) = false := dR fO gS
   simp only [mC, hs, reduceCtorEq] at h
   replace h := wv _ h
   try dsimp only at h
   try simp only [hs] at h
   try simp only [vz, tyf, fY, eM, dw, cC, cM, bK, cg, lS, jt, wx, ju, k9, nm, seval]
   refine cL (x := (.ref ib 0 (List.length bF) 1 (List.length bF))) (by first | (simp only [Tryz.results41, resV, resL, resV1, cF, cE, uw, cr, tyf, fY, eM, lS, jt, wx, ju, k9, nm, seval] <;> rfl) | rfl) ?_
   obtain rfl := kF _ h
   refine gw ?_ ?_
   ·simp only [tre, tytre, Bool.and_self]
   ·first | (simp only [outV, uw, gG, cr, tyf, nrm, aI, fY, eM, dw, cC, cM, bK, cg, lS, jt, wx, ju, k9, nm, seval] <;> rfl) | rfl
  | cons bN lj =>
   have gn : (decide (bm < (List.length ae : Int))) = true := dQ fO gS
   have nS := cA fO gS
   have mS := dN fO gS fY
   simp only [mC, hs, reduceCtorEq] at h
   cases dP : (boundOk bm)
   ·simp only [dP, hs] at h
    exact absurd h iY
   simp only [dP, hs] at h
   simp only [vz, tyf, fY, eM, dw, cC, cM, bK, cg, lS, jt, wx, ju, gn, (aj nS), mS, dP, nm, seval]
   obtain ⟨GR, h, wy, rq, GS, lU⟩ := eN h iY
   obtain ⟨GU, ru, h⟩ := call3 h
   obtain ⟨GV, iZ⟩ : ∃ I : Nat → St → Prop, I = (fun m st => ∃ (iu : Nat) (cv : Int) (ed : Int), iu = m ∧ loOk cv = true ∧ Int.toNat (bm - cv) = iu ∧ st.df = [] ∧ f8 + 6 ≤ st.nx ∧ st.H 8 = some (.cells (none) (aa eI gX)) ∧ st.H ib = some (.cells (jJ) (aa eI bF)) ∧ st.tm 1 = .sl (aa eI ae) (List.length ae) false ∧ st.tm 5 = .sl (aa eI fX) (List.length fX) false ∧ st.tm 6 = .ref 8 0 (List.length gX) 1 (List.length gX) ∧ st.tm 7 = .ref ib 0 (List.length bF) 1 (List.length bF) ∧ st.tm 8 = .lit (.int .i64 bm) ∧ st.tm 9 = .lit (.int .i64 ed) ∧ st.tm 10 = .lit (.int .i64 cv) ∧ GR (GU iu cv ed)) := ⟨_, rfl⟩
   refine loopK mixed (by kernel_rfl) GV (Int.toNat (bm - 0)) (by rw [iZ]; refine ⟨Int.toNat (bm - 0), 0, 0, rfl, (by rfl), rfl, rfl, (show f8 + 6 ≤ f8 + 6 by omega), ?_, ?_, dw, cC, cM, bK, cg, ?_, ?_, h⟩ <;> first | (simp only [ua, eM, dw, cC, cM, bK, cg, lS, jt, wx, ju, gn, mS, nm, seval] <;> rfl) | rfl) ?_
   rintro m ⟨tm, H, fP, df⟩ hinv
   rw [iZ] at hinv
   obtain ⟨iu, cv, ed, rfl, gT, gp, hdf, rv, ja, lV, cR, cS, bV, ck, bz, b4, bG, h⟩ := hinv
   simp only at hdf rv ja lV cR cS bV ck bz b4 bG
   have lW := fg (m := 12) (b := fP) (by omega)
   have lX := nq (a := f8) (m := 6) (b := fP) (by omega)
   have lY := gF (β := ib) (nx := fP) (by omega)
   subst hdf ru
   cases iu with
   | zero =>
    have kW : (decide (cv < bm)) = false := J9 gp
    simp only [mB, hs, reduceCtorEq] at h
    replace h := rq _ h
    try dsimp only at h
    try simp only [hs] at h
    obtain ⟨lF, m7, h⟩ := optI h iY
    try simp only [hs] at h
    cases jl : (aC 8 (List.length (bF ++ [i64.wrap (lF - ed)])))
    ·simp only [jl, hs] at h
     exact absurd h iY
    simp only [jl, hs] at h
    simp only [vz, tyf, fY, eM, jt, ju, gn, (aj nS), mS, dP, lW, lX, lY, cR, cS, bV, ck, bz, b4, bG, ja, lV, kW, (aY m7), jl, nm, seval]
    refine k_app (w := 1) (enc := eI) (xs := bF) (ys := ([i64.wrap (lF - ed)])) (el := jJ) (ff := (some 3)) (fun _ => rfl) eP ei Tryz.underlying22 (by first | rfl | assumption | (simp only [aS, aT, ca, eM, jt, ju, lW, lX, lY, ja, lV, nm, seval] <;> rfl) | (simp only [aS, aT, cP, db, cY, cZ, tyf, fY, eM, jt, ju, gn, (aj nS), mS, dP, lW, lX, lY, cR, cS, bV, ck, bz, b4, bG, ja, lV, kW, (aY m7), jl, nm, seval]; done)) (by first | rfl | assumption | (simp only [aS, aT, ca, eM, jt, ju, lW, lX, lY, ja, lV, nm, seval] <;> rfl) | (simp only [aS, aT, cP, db, cY, cZ, tyf, fY, eM, jt, ju, gn, (aj nS), mS, dP, lW, lX, lY, cR, cS, bV, ck, bz, b4, bG, ja, lV, kW, (aY m7), jl, nm, seval]; done)) (Nat.zero_lt_succ _) jl ?_
    simp only [vz, tyf, fY, eM, jt, ju, gn, (aj nS), mS, dP, lW, lX, lY, cR, cS, bV, ck, bz, b4, bG, ja, lV, kW, (aY m7), jl, nm, seval]
    exact ⟨List.length lj, Nat.lt_succ_self _, by rw [nR]; refine ⟨lj, bm + 1, (bF ++ [i64.wrap (lF - ed)]), .ref (fP + 11) 0 (List.length (bF ++ [i64.wrap (lF - ed)])) 1 (List.length (bF ++ [i64.wrap (lF - ed)])), rfl, Int.le_trans fO (Int.le_add_one (Int.le_refl _)), bJ fO gS, rfl, (show 12 ≤ fP + 16 by omega), ?_, cR, cS, bV, ?_, ?_, Or.inl ⟨fP + 11, (sameEl jJ 3), rfl, (by first | omega | (simp only [nm, seval]; done) | (simp only [nm, seval]; omega)), (by first | omega | (intro hh; simp only [eM, jt, ju, lW, lX, lY, reduceCtorEq] at hh)), ?_⟩, (by first | exact h | (simp only [gn, kW]; exact h))⟩ <;> first | (simp only [ua, eM, jt, ju, gn, mS, lW, lX, lY, cR, cS, bV, ck, bz, b4, bG, ja, lV, kW, nm, seval] <;> rfl) | rfl⟩
   | succ iu =>
    have fL : (decide (cv < bm)) = true := ta gp
    have mr := tc gT gp dP
    simp only [mB, hs, reduceCtorEq] at h
    simp only [vz, tyf, fY, eM, jt, ju, gn, (aj nS), mS, dP, lW, lX, lY, cR, cS, bV, ck, bz, b4, bG, ja, lV, fL, mr, nm, seval]
    refine iD (fun tm => tm 1 = .sl (aa eI ae) (List.length ae) false ∧ tm 5 = .sl (aa eI fX) (List.length fX) false ∧ tm 6 = .ref 8 0 (List.length gX) 1 (List.length gX) ∧ tm 7 = .ref ib 0 (List.length bF) 1 (List.length bF) ∧ tm 8 = .lit (.int .i64 bm) ∧ tm 9 = .lit (.int .i64 ed) ∧ tm 10 = .lit (.int .i64 cv) ∧ True) (by refine ⟨cR, cS, bV, ck, bz, b4, bG, trivial⟩ <;> first | (simp only [ua, eM, jt, ju, gn, mS, lW, lX, lY, cR, cS, bV, ck, bz, b4, bG, ja, lV, fL, mr, nm, seval] <;> rfl) | rfl) ?_
    rintro tm ⟨eu, fz, du, dZ, eA, eL, il, _⟩
    have pj := And.intro fY (And.intro eM (And.intro jt (And.intro ju (And.intro gn (And.intro mS (And.intro dP (And.intro lW (And.intro lX (And.intro lY (And.intro ja (And.intro lV (And.intro fL mr))))))))))))
    obtain ⟨Rq, GW, h⟩ := optI h lU
    try simp only [hs] at h
    cases jm : (Rq == bN)
    ·simp only [jm, hs] at h
     simp only [vz, tyf, pj, (aj nS), eu, fz, du, dZ, eA, eL, il, (aj GW), jm, nm, seval]
     exact ⟨iu, Nat.lt_succ_self _, by rw [iZ]; refine ⟨iu, cv + 1, ed, rfl, mX gT, wQ gp, rfl, (show f8 + 6 ≤ fP + 15 by omega), ?_, ?_, eu, fz, du, dZ, eA, eL, ?_, (by first | exact h | (simp only [pj, jm]; exact h))⟩ <;> first | (simp only [ua, pj, eu, fz, du, dZ, eA, eL, il, jm, nm, seval] <;> rfl) | rfl⟩
    simp only [jm, hs] at h
    simp only [vz, tyf, pj, (aj nS), eu, fz, du, dZ, eA, eL, il, (aj GW), jm, nm, seval]
    refine iD (fun tm => tm 1 = .sl (aa eI ae) (List.length ae) false ∧ tm 5 = .sl (aa eI fX) (List.length fX) false ∧ tm 6 = .ref 8 0 (List.length gX) 1 (List.length gX) ∧ tm 7 = .ref ib 0 (List.length bF) 1 (List.length bF) ∧ tm 8 = .lit (.int .i64 bm) ∧ tm 10 = .lit (.int .i64 cv) ∧ True) (by refine ⟨eu, fz, du, dZ, eA, il, trivial⟩ <;> first | (simp only [ua, pj, eu, fz, du, dZ, eA, eL, il, jm, nm, seval] <;> rfl) | rfl) ?_
    rintro tm ⟨lR, iL, iM, nt, gZ, ig, _⟩
    obtain ⟨Rr, Rs, h⟩ := optI h lU
    try simp only [hs] at h
    obtain ⟨Rt, Ru, h⟩ := optI h lU
    try simp only [hs] at h
    simp only [vz, tyf, pj, (aj nS), (aj GW), jm, lR, iL, iM, nt, gZ, ig, (aY Rs), (aj Ru), nm, seval]
    exact ⟨iu, Nat.lt_succ_self _, by rw [iZ]; refine ⟨iu, cv + 1, i64.wrap (Rr + Rt), rfl, mX gT, wQ gp, rfl, (show f8 + 6 ≤ fP + 25 by omega), ?_, ?_, lR, iL, iM, nt, gZ, ?_, ?_, (by first | exact h | (simp only [pj, jm]; exact h))⟩ <;> first | (simp only [ua, pj, jm, lR, iL, iM, nt, gZ, ig, nm, seval] <;> rfl) | rfl⟩
 ·cases lj with
  | nil =>
   have ph : (decide (bm < (List.length ae : Int))) = false := dR fO gS
   simp only [mC, hs, reduceCtorEq] at h
   replace h := wv _ h
   try dsimp only at h
   try simp only [hs] at h
   try simp only [vz, tyf, fY, eM, dw, cC, cM, bK, cg, lS, ph, nm, seval]
   refine cL (x := (.lit (.slice none 0 0))) (by first | (simp only [Tryz.results41, resV, resL, resV1, cF, cE, uw, cr, tyf, fY, eM, lS, ph, nm, seval] <;> rfl) | rfl) ?_
   obtain rfl := kF _ h
   refine gw ?_ ?_
   ·simp only [tre, tytre, Bool.and_self]
   ·first | (simp only [outV, uw, gG, cr, tyf, nrm, aI, fY, eM, dw, cC, cM, bK, cg, lS, ph, nm, seval] <;> rfl) | rfl
  | cons bN lj =>
   have mT : (decide (bm < (List.length ae : Int))) = true := dQ fO gS
   have pk := cA fO gS
   have j2 := dN fO gS fY
   simp only [mC, hs, reduceCtorEq] at h
   cases js : (boundOk bm)
   ·simp only [js, hs] at h
    exact absurd h iY
   simp only [js, hs] at h
   simp only [vz, tyf, fY, eM, dw, cC, cM, bK, cg, lS, mT, (aj pk), j2, js, nm, seval]
   obtain ⟨Rv, h, Rw, GX, Rx, ry⟩ := eN h iY
   obtain ⟨Ry, GY, h⟩ := call3 h
   obtain ⟨Rz, nT⟩ : ∃ I : Nat → St → Prop, I = (fun m st => ∃ (mU : Nat) (cw : Int) (eg : Int), mU = m ∧ loOk cw = true ∧ Int.toNat (bm - cw) = mU ∧ st.df = [] ∧ f8 + 6 ≤ st.nx ∧ st.H 8 = some (.cells (none) (aa eI gX)) ∧ st.tm 1 = .sl (aa eI ae) (List.length ae) false ∧ st.tm 5 = .sl (aa eI fX) (List.length fX) false ∧ st.tm 6 = .ref 8 0 (List.length gX) 1 (List.length gX) ∧ st.tm 7 = .lit (.slice none 0 0) ∧ st.tm 8 = .lit (.int .i64 bm) ∧ st.tm 9 = .lit (.int .i64 eg) ∧ st.tm 10 = .lit (.int .i64 cw) ∧ Rv (Ry mU cw eg)) := ⟨_, rfl⟩
   refine loopK mixed (by kernel_rfl) Rz (Int.toNat (bm - 0)) (by rw [nT]; refine ⟨Int.toNat (bm - 0), 0, 0, rfl, (by rfl), rfl, rfl, (show f8 + 6 ≤ f8 + 6 by omega), ?_, dw, cC, cM, bK, cg, ?_, ?_, h⟩ <;> first | (simp only [ua, eM, dw, cC, cM, bK, cg, lS, mT, j2, nm, seval] <;> rfl) | rfl) ?_
   rintro m ⟨tm, H, jK, df⟩ hinv
   rw [nT] at hinv
   obtain ⟨mU, cw, eg, rfl, rz, lZ, hdf, GZ, nU, h9, hC, hD, i7, ku, pn, po, h⟩ := hinv
   simp only at hdf GZ nU h9 hC hD i7 ku pn po
   have nV := fg (m := 12) (b := jK) (by omega)
   have nW := nq (a := f8) (m := 6) (b := jK) (by omega)
   subst hdf GY
   cases mU with
   | zero =>
    have wz : (decide (cw < bm)) = false := J9 lZ
    simp only [mB, hs, reduceCtorEq] at h
    replace h := GX _ h
    try dsimp only at h
    try simp only [hs] at h
    obtain ⟨w5, Ha, h⟩ := optI h iY
    try simp only [hs] at h
    cases sN : (aC 8 (List.length (([] : List Int) ++ [i64.wrap (w5 - eg)])))
    ·simp only [sN, hs] at h
     exact absurd h iY
    simp only [sN, hs] at h
    simp only [vz, tyf, fY, eM, mT, (aj pk), j2, js, nV, nW, h9, hC, hD, i7, ku, pn, po, nU, wz, (aY Ha), sN, nm, seval]
    refine kJ (w := 1) (enc := eI) (ys := ([i64.wrap (w5 - eg)])) (ff := (some 3)) (fun _ => rfl) eP ei Tryz.underlying22 (by first | rfl | assumption | (simp only [aS, aT, ca, eM, nV, nW, nU, nm, seval] <;> rfl) | (simp only [aS, aT, cP, db, cY, cZ, tyf, fY, eM, mT, (aj pk), j2, js, nV, nW, h9, hC, hD, i7, ku, pn, po, nU, wz, (aY Ha), sN, nm, seval]; done)) (Nat.zero_lt_succ _) sN ?_
    simp only [vz, tyf, fY, eM, mT, (aj pk), j2, js, nV, nW, h9, hC, hD, i7, ku, pn, po, nU, wz, (aY Ha), sN, nm, seval]
    exact ⟨List.length lj, Nat.lt_succ_self _, by rw [nR]; refine ⟨lj, bm + 1, (([] : List Int) ++ [i64.wrap (w5 - eg)]), .ref (jK + 11) 0 (List.length (([] : List Int) ++ [i64.wrap (w5 - eg)])) 1 (List.length (([] : List Int) ++ [i64.wrap (w5 - eg)])), rfl, Int.le_trans fO (Int.le_add_one (Int.le_refl _)), bJ fO gS, rfl, (show 12 ≤ jK + 16 by omega), ?_, h9, hC, hD, ?_, ?_, Or.inl ⟨jK + 11, (some 3), rfl, (by first | omega | (simp only [nm, seval]; done) | (simp only [nm, seval]; omega)), (by first | omega | (intro hh; simp only [eM, nV, nW, reduceCtorEq] at hh)), ?_⟩, (by first | exact h | (simp only [mT, wz]; exact h))⟩ <;> first | (simp only [ua, eM, mT, j2, nV, nW, h9, hC, hD, i7, ku, pn, po, nU, wz, nm, seval] <;> rfl) | rfl⟩
   | succ mU =>
    have Hb : (decide (cw < bm)) = true := ta lZ
    have Hc := tc rz lZ js
    simp only [mB, hs, reduceCtorEq] at h
    simp only [vz, tyf, fY, eM, mT, (aj pk), j2, js, nV, nW, h9, hC, hD, i7, ku, pn, po, nU, Hb, Hc, nm, seval]
    refine iD (fun tm => tm 1 = .sl (aa eI ae) (List.length ae) false ∧ tm 5 = .sl (aa eI fX) (List.length fX) false ∧ tm 6 = .ref 8 0 (List.length gX) 1 (List.length gX) ∧ tm 7 = .lit (.slice none 0 0) ∧ tm 8 = .lit (.int .i64 bm) ∧ tm 9 = .lit (.int .i64 eg) ∧ tm 10 = .lit (.int .i64 cw) ∧ True) (by refine ⟨h9, hC, hD, i7, ku, pn, po, trivial⟩ <;> first | (simp only [ua, eM, mT, j2, nV, nW, h9, hC, hD, i7, ku, pn, po, nU, Hb, Hc, nm, seval] <;> rfl) | rfl) ?_
    rintro tm ⟨sO, mF, mG, kA, kC, ma, mb, _⟩
    have jb := And.intro fY (And.intro eM (And.intro mT (And.intro j2 (And.intro js (And.intro nV (And.intro nW (And.intro nU (And.intro Hb Hc))))))))
    obtain ⟨Hd, rA, h⟩ := optI h ry
    try simp only [hs] at h
    cases gU : (Hd == bN)
    ·simp only [gU, hs] at h
     simp only [vz, tyf, jb, (aj pk), sO, mF, mG, kA, kC, ma, mb, (aj rA), gU, nm, seval]
     exact ⟨mU, Nat.lt_succ_self _, by rw [nT]; refine ⟨mU, cw + 1, eg, rfl, mX rz, wQ lZ, rfl, (show f8 + 6 ≤ jK + 15 by omega), ?_, sO, mF, mG, kA, kC, ma, ?_, (by first | exact h | (simp only [jb, gU]; exact h))⟩ <;> first | (simp only [ua, jb, sO, mF, mG, kA, kC, ma, mb, gU, nm, seval] <;> rfl) | rfl⟩
    simp only [gU, hs] at h
    simp only [vz, tyf, jb, (aj pk), sO, mF, mG, kA, kC, ma, mb, (aj rA), gU, nm, seval]
    refine iD (fun tm => tm 1 = .sl (aa eI ae) (List.length ae) false ∧ tm 5 = .sl (aa eI fX) (List.length fX) false ∧ tm 6 = .ref 8 0 (List.length gX) 1 (List.length gX) ∧ tm 7 = .lit (.slice none 0 0) ∧ tm 8 = .lit (.int .i64 bm) ∧ tm 10 = .lit (.int .i64 cw) ∧ True) (by refine ⟨sO, mF, mG, kA, kC, mb, trivial⟩ <;> first | (simp only [ua, jb, sO, mF, mG, kA, kC, ma, mb, gU, nm, seval] <;> rfl) | rfl) ?_
    rintro tm ⟨rB, rC, rD, rE, rF, w6, _⟩
    obtain ⟨He, Hf, h⟩ := optI h ry
    try simp only [hs] at h
    obtain ⟨Hg, Hh, h⟩ := optI h ry
    try simp only [hs] at h
    simp only [vz, tyf, jb, (aj pk), (aj rA), gU, rB, rC, rD, rE, rF, w6, (aY Hf), (aj Hh), nm, seval]
    exact ⟨mU, Nat.lt_succ_self _, by rw [nT]; refine ⟨mU, cw + 1, i64.wrap (He + Hg), rfl, mX rz, wQ lZ, rfl, (show f8 + 6 ≤ jK + 25 by omega), ?_, rB, rC, rD, rE, rF, ?_, ?_, (by first | exact h | (simp only [jb, gU]; exact h))⟩ <;> first | (simp only [ua, jb, gU, rB, rC, rD, rE, rF, w6, nm, seval] <;> rfl) | rfl⟩

def qu (bI : List Int) : List Int → Int → Option (LOut (Bool) (Unit))
 | [], bL => some (.go ())
 | e0 :: p0, bL => Option.bind (getI bI bL) (fun x1 => cond (e0 != x1) (some (.ret false)) (qu bI p0 (bL + 1)))
def uY (b5 : List Int) (bI : List Int) : Option (Bool) := cond ((List.length b5 : Int) != (List.length bI : Int)) (some false) (cond (au b5) (lbind (qu bI b5 0) (fun r3 => some r3) (fun c2 => some true) (fun _ _ => none)) none)
theorem Pt (b5 : List Int) (bI : List Int) (R : Bool) (h : uY b5 bI = some R) : ai Tryz.prog G0 38 [.sl (aa eI b5) (List.length b5) false, .sl (aa eI bI) (List.length bI) false] (.tree (.lit (.bool R))) := by
 refine ai.runR mixed Tryz.call38 Tryz.func38 rfl (by simp [Tryz.ntmps38]; kernel_rfl) ?_
 obtain ⟨KF, h, kF, kN⟩ := cO h
 simp only [uY] at h
 cases d4 : ((List.length b5 : Int) != (List.length bI : Int))
 ·simp only [d4, hs] at h
  cases g6 : (au b5)
  ·simp only [g6, hs] at h
   exact absurd h kN
  simp only [g6, hs] at h
  simp only [vz, tyf, d4, g6, nm, seval]
  obtain ⟨K5, h, pN, ml, xk, kM⟩ := eN h kN
  obtain ⟨f5, ng, h⟩ := call2 h
  obtain ⟨I5, gC⟩ : ∃ I : Nat → St → Prop, I = (fun m st => ∃ (p5 : List Int) (de : Int), m = List.length p5 ∧ 0 ≤ de ∧ List.drop (Int.toNat de) b5 = p5 ∧ st.df = [] ∧ 7 ≤ st.nx ∧ st.tm 0 = .sl (aa eI b5) (List.length b5) false ∧ st.tm 1 = .sl (aa eI bI) (List.length bI) false ∧ st.tm 5 = .lit (.int .i64 de) ∧ K5 (f5 p5 de)) := ⟨_, rfl⟩
  refine loopK mixed (by kernel_rfl) I5 (List.length b5) (by rw [gC]; refine ⟨b5, 0, rfl, Int.le_refl _, rfl, rfl, (show 7 ≤ 7 by omega), ?_, ?_, ?_, h⟩ <;> first | (simp only [ua, d4, nm, seval] <;> rfl) | rfl) ?_
  rintro m ⟨tm, H, gD, df⟩ hinv
  rw [gC] at hinv
  obtain ⟨p5, de, rfl, cN, dC, hdf, nh, e7, e8, e9, h⟩ := hinv
  simp only at hdf nh e7 e8 e9
  have dO := fg (m := 7) (b := gD) (by omega)
  subst hdf ng
  cases p5 with
  | nil =>
   have gb : (decide (de < (List.length b5 : Int))) = false := dR cN dC
   simp only [qu, hs, reduceCtorEq] at h
   replace h := ml _ h
   try dsimp only at h
   try simp only [hs] at h
   try simp only [vz, tyf, d4, g6, dO, e7, e8, e9, gb, nm, seval]
   obtain rfl := kF _ h
   exact bw Tryz.results38 rfl
  | cons e5 p5 =>
   have bk : (decide (de < (List.length b5 : Int))) = true := dQ cN dC
   have lK := cA cN dC
   have mc := dN cN dC g6
   simp only [qu, hs, reduceCtorEq] at h
   simp only [vz, tyf, d4, g6, dO, e7, e8, e9, bk, (lp lK), mc, nm, seval]
   refine iD (fun tm => tm 0 = .sl (aa eI b5) (List.length b5) false ∧ tm 1 = .sl (aa eI bI) (List.length bI) false ∧ tm 5 = .lit (.int .i64 de) ∧ True) (by refine ⟨e7, e8, e9, trivial⟩ <;> first | (simp only [ua, d4, dO, e7, e8, e9, bk, mc, nm, seval] <;> rfl) | rfl) ?_
   rintro tm ⟨bn, bX, bR, _⟩
   obtain ⟨uk, ni, h⟩ := optI h kM
   try simp only [hs] at h
   cases dm : (e5 != uk)
   ·simp only [dm, hs] at h
    simp only [vz, tyf, d4, g6, dO, bk, (lp lK), mc, bn, bX, bR, (lp ni), dm, nm, seval]
    exact ⟨List.length p5, Nat.lt_succ_self _, by rw [gC]; refine ⟨p5, de + 1, rfl, Int.le_trans cN (Int.le_add_one (Int.le_refl _)), bJ cN dC, rfl, (show 7 ≤ gD + 16 by omega), bn, bX, ?_, (by first | exact h | (simp only [d4, bk, dm]; exact h))⟩ <;> first | (simp only [ua, d4, dO, bk, mc, bn, bX, bR, dm, nm, seval] <;> rfl) | rfl⟩
   simp only [dm, hs] at h
   try simp only [vz, tyf, d4, g6, dO, bk, (lp lK), mc, bn, bX, bR, (lp ni), dm, nm, seval]
   replace h := pN _ h
   try dsimp only at h
   obtain rfl := kF _ h
   exact bw Tryz.results38 rfl
 simp only [d4, hs] at h
 try simp only [vz, tyf, d4, nm, seval]
 obtain rfl := kF _ h
 exact bw Tryz.results38 rfl
def qv (bI : List Int) : List Int → Int → Option (LOut (Bool) (Unit))
 | [], bL => some (.go ())
 | e0 :: p0, bL => Option.bind (getI bI bL) (fun x1 => cond (e0 != x1) (some (.ret false)) (qv bI p0 (bL + 1)))
def va (b5 : List Int) (bI : List Int) : Option (Bool) := cond ((List.length b5 : Int) != (List.length bI : Int)) (some false) (cond (au b5) (lbind (qv bI b5 0) (fun r3 => some r3) (fun c2 => some true) (fun _ _ => none)) none)
theorem Py (b5 : List Int) (bI : List Int) (R : Bool) (h : va b5 bI = some R) : ai Tryz.prog G0 40 [.sl (aa eI b5) (List.length b5) false, .sl (aa eI bI) (List.length bI) false] (.tree (.lit (.bool R))) := by
 refine ai.runR mixed Tryz.call40 Tryz.func40 rfl (by simp [Tryz.ntmps40]; kernel_rfl) ?_
 obtain ⟨KF, h, kF, kN⟩ := cO h
 simp only [va] at h
 cases d4 : ((List.length b5 : Int) != (List.length bI : Int))
 ·simp only [d4, hs] at h
  cases g6 : (au b5)
  ·simp only [g6, hs] at h
   exact absurd h kN
  simp only [g6, hs] at h
  simp only [vz, tyf, d4, g6, nm, seval]
  obtain ⟨K5, h, pN, ml, xk, kM⟩ := eN h kN
  obtain ⟨f5, ng, h⟩ := call2 h
  obtain ⟨I5, gC⟩ : ∃ I : Nat → St → Prop, I = (fun m st => ∃ (p5 : List Int) (de : Int), m = List.length p5 ∧ 0 ≤ de ∧ List.drop (Int.toNat de) b5 = p5 ∧ st.df = [] ∧ 7 ≤ st.nx ∧ st.tm 0 = .sl (aa eI b5) (List.length b5) false ∧ st.tm 1 = .sl (aa eI bI) (List.length bI) false ∧ st.tm 5 = .lit (.int .i64 de) ∧ K5 (f5 p5 de)) := ⟨_, rfl⟩
  refine loopK mixed (by kernel_rfl) I5 (List.length b5) (by rw [gC]; refine ⟨b5, 0, rfl, Int.le_refl _, rfl, rfl, (show 7 ≤ 7 by omega), ?_, ?_, ?_, h⟩ <;> first | (simp only [ua, d4, nm, seval] <;> rfl) | rfl) ?_
  rintro m ⟨tm, H, gD, df⟩ hinv
  rw [gC] at hinv
  obtain ⟨p5, de, rfl, cN, dC, hdf, nh, e7, e8, e9, h⟩ := hinv
  simp only at hdf nh e7 e8 e9
  have dO := fg (m := 7) (b := gD) (by omega)
  subst hdf ng
  cases p5 with
  | nil =>
   have gb : (decide (de < (List.length b5 : Int))) = false := dR cN dC
   simp only [qv, hs, reduceCtorEq] at h
   replace h := ml _ h
   try dsimp only at h
   try simp only [hs] at h
   try simp only [vz, tyf, d4, g6, dO, e7, e8, e9, gb, nm, seval]
   obtain rfl := kF _ h
   exact bw Tryz.results40 rfl
  | cons e5 p5 =>
   have bk : (decide (de < (List.length b5 : Int))) = true := dQ cN dC
   have lK := cA cN dC
   have mc := dN cN dC g6
   simp only [qv, hs, reduceCtorEq] at h
   simp only [vz, tyf, d4, g6, dO, e7, e8, e9, bk, (aj lK), mc, nm, seval]
   refine iD (fun tm => tm 0 = .sl (aa eI b5) (List.length b5) false ∧ tm 1 = .sl (aa eI bI) (List.length bI) false ∧ tm 5 = .lit (.int .i64 de) ∧ True) (by refine ⟨e7, e8, e9, trivial⟩ <;> first | (simp only [ua, d4, dO, e7, e8, e9, bk, mc, nm, seval] <;> rfl) | rfl) ?_
   rintro tm ⟨bn, bX, bR, _⟩
   obtain ⟨uk, ni, h⟩ := optI h kM
   try simp only [hs] at h
   cases dm : (e5 != uk)
   ·simp only [dm, hs] at h
    simp only [vz, tyf, d4, g6, dO, bk, (aj lK), mc, bn, bX, bR, (aj ni), dm, nm, seval]
    exact ⟨List.length p5, Nat.lt_succ_self _, by rw [gC]; refine ⟨p5, de + 1, rfl, Int.le_trans cN (Int.le_add_one (Int.le_refl _)), bJ cN dC, rfl, (show 7 ≤ gD + 16 by omega), bn, bX, ?_, (by first | exact h | (simp only [d4, bk, dm]; exact h))⟩ <;> first | (simp only [ua, d4, dO, bk, mc, bn, bX, bR, dm, nm, seval] <;> rfl) | rfl⟩
   simp only [dm, hs] at h
   try simp only [vz, tyf, d4, g6, dO, bk, (aj lK), mc, bn, bX, bR, (aj ni), dm, nm, seval]
   replace h := pN _ h
   try dsimp only at h
   obtain rfl := kF _ h
   exact bw Tryz.results40 rfl
 simp only [d4, hs] at h
 try simp only [vz, tyf, d4, nm, seval]
 obtain rfl := kF _ h
 exact bw Tryz.results40 rfl
end Go.V
end
