/- Part of a proof. -/
import Derived.Test.YtmhlghgbfmcdaaaGreatDoorG4bm
set_option linter.all false
set_option maxRecDepth 4000
set_option maxHeartbeats 40000000
section
namespace Go.V
open Go Go.Proofs IntKind
theorem rE (n : Int) : ∀ (p : List Int) (c : Int), pM n p c = if n ∈ p then some (.ret true) else some (.go ())
 | [], _ => rfl
 | e :: p, c => by
  simp only [pM, rE n p (c + 1), List.mem_cons]
  by_cases h : e = n
  ·subst h; simp
  ·have h' : ¬ n = e := fun h2 => h h2.symm
   simp [h, h']
theorem yb {l : List Int} (hl : l.length < 9223372036854775808) (n : Int) : rF l n = some (decide (n ∈ l)) := by
 unfold rF
 rw [gj hl, cond_true, rE]
 by_cases h : n ∈ l <;> simp [h, lbind]
theorem hr_l0 (hi : Bool) : ∀ (p : List GBs) (c : Int) (acc : List Int), acc.length + p.length ≤ 1000 → kq hi p c acc = some (.go (acc ++ p.map fun s => if hi then s.Hours.High else s.Hours.Low))
 | [], _, acc, _ => by simp [kq]
 | s :: p, c, acc, hn => by
  simp only [List.length_cons] at hn
  simp only [kq]
  cases hi with
  | true =>
   rw [cond_true, room8 (by simp; omega), cond_true, hr_l0 true p (c + 1) _ (by simp; omega)]
   simp
  | false =>
   rw [cond_false, room8 (by simp; omega), cond_true, hr_l0 false p (c + 1) _ (by simp; omega)]
   simp
def hrL (b : GBk) (hi : Bool) : List Int := b.Strokes.map fun s => if hi then s.Hours.High else s.Hours.Low
theorem hr_eq {b : GBk} (hb : BOk b) (hi : Bool) : rG b hi = some (hrL b hi) := by
 have := hb.ns
 unfold rG
 rw [gj (by omega), cond_true, hr_l0 hi b.Strokes 0 [] (by simp; omega)]
 rfl
theorem getMap {n : Nat} (f : Nat → Int) {i : Int} (h0 : 0 ≤ i) (h1 : i.toNat < n) : getI ((List.range n).map f) i = some (f i.toNat) := by
 unfold getI
 rw [if_pos h0, List.getElem?_map, List.getElem?_range h1]
 rfl
theorem yc {b : GBk} (hi : Bool) {i : Int} (h0 : 0 ≤ i) (h1 : i.toNat < b.Strokes.length) : getI (hrL b hi) i = some (dF b (if hi then 1 else 0) i.toNat) := by
 unfold getI hrL dF
 rw [if_pos h0, List.getElem?_map, List.getElem?_eq_getElem h1]
 cases hi <;> simp
def foB (b : GBk) (pl : List Int) (i k : Nat) : Bool := (hF pl k == hF pl i) || decide ((k : Int) ∈ nF b i)
def foL (b : GBk) (pl : List Int) (i : Nat) : List Int := ((List.range' 0 i).filter (foB b pl i)).map fun k : Nat => (k : Int)
theorem yd {b : GBk} (h : Len b) {pl : List Int} (hp : pl.length = b.Strokes.length) {i k : Nat} (hk : k < i) (hi : i < b.Strokes.length) : pN b pl k i = some (foB b pl i k) := by
 unfold pN foB
 rw [decide_eq_true (by omega), cond_true, getP hp (by omega) (by omega), getP hp (by omega) (by omega)]
 have hx : getI b.Strokes i = some b.Strokes[i] := by
  unfold getI
  rw [if_pos (by omega), Int.toNat_natCast, List.getElem?_eq_getElem hi]
 have hn : nF b i = b.Strokes[i].Needs := by unfold nF; rw [List.getElem?_eq_getElem hi]
 simp only [Option.bind_some, Int.toNat_natCast, hx, hn]
 rw [yb (h.nd _ (List.getElem_mem hi))]
 cases hF pl k == hF pl i <;> rfl
theorem nE {b : GBk} (h : Len b) {pl : List Int} (hp : pl.length = b.Strokes.length) {i : Nat} (hi : i < b.Strokes.length) (hn : b.Strokes.length ≤ 6) : ∀ (m k : Nat) (w : List Int), k + m = i → w.length ≤ k →
  j0 b pl i m k w = some (w ++ ((List.range' k m).filter (foB b pl i)).map fun k : Nat => (k : Int))
 | 0, k, w, _, _ => by simp [j0]
 | m + 1, k, w, hk, hw => by
  simp only [j0, yd h hp (show k < i by omega) hi, Option.bind_some]
  rw [List.range'_succ, List.filter_cons]
  have e : ((k : Int) + 1) = ((k + 1 : Nat) : Int) := by omega
  rw [e]
  cases hf : foB b pl i k with
  | false => rw [cond_false, nE h hp hi hn m (k + 1) w (by omega) (by omega)]; simp
  | true => rw [cond_true, room8 (by simp; omega), cond_true, nE h hp hi hn m (k + 1) _ (by omega) (by simp; omega)]; simp
theorem ye (i m : Nat) : List.set (List.replicate i (-1 : Int) ++ List.replicate (m + 1) 0) i (-1) = List.replicate (i + 1) (-1) ++ List.replicate m 0 := by
 rw [List.set_append_right _ _ (by simp), List.length_replicate, Nat.sub_self, List.replicate_succ, List.set_cons_zero, List.replicate_succ', List.append_assoc]
 rfl
theorem rH {b : GBk} (h : Len b) {pl : List Int} (hp : pl.length = b.Strokes.length) (hn : b.Strokes.length ≤ 6) : ∀ (m i : Nat) (pre : List (List Int)), i + m = b.Strokes.length →
  ku b pl m i pre (List.replicate i (-1) ++ List.replicate m 0) = some (pre ++ (List.range' i m).map (foL b pl), List.replicate b.Strokes.length (-1))
 | 0, i, pre, hi => by simp [ku]; omega
 | m + 1, i, pre, hi => by
  have e := nE h hp (i := i) (by omega) hn i 0 [] (by omega) (Nat.le_refl _)
  simp only [ku, Int.toNat_natCast]
  rw [show j0 b pl i i 0 [] = _ from e]
  simp only [Option.bind_some, List.nil_append]
  rw [ye, show ((i : Int) + 1) = ((i + 1 : Nat) : Int) by omega, rH h hp hn m (i + 1) _ (by omega), List.range'_succ]
  simp [foL]
section
variable {hd : Nat → Int} {nd : Nat → List Int} {d : Nat → Int}
def fT (B : Nat → Int) (t : Int) (j : Nat) : Int := if B j < t then B j else -1
def sT (B : Nat → Int) (t : Int) (i j : Nat) : Int := if j < i then fT B (t + 1) j else fT B t j
theorem rI {B : Nat → Int} {t : Int} {i : Nat} (h : B i ≠ t) : sT B t i = sT B t (i + 1) := by
 funext j
 unfold sT fT
 by_cases e : j = i
 ·subst e
  rw [if_neg (Nat.lt_irrefl _), if_pos (Nat.lt_succ_self _)]
  by_cases h1 : B j < t
  ·rw [if_pos h1, if_pos (by omega)]
  ·rw [if_neg h1, if_neg (by omega)]
 ·by_cases h1 : j < i
  ·simp only [h1, show j < i + 1 by omega, if_true]
  ·simp only [h1, show ¬ j < i + 1 by omega, if_false]
def ngF (v : Nat → Int) : Nat → Int
 | 0 => 0
 | n + 1 => ngF v n + if v n < 0 then 1 else 0
theorem vR {v w : Nat → Int} : ∀ {n : Nat}, (∀ k, k < n → v k = w k) → ngF v n = ngF w n
 | 0, _ => rfl
 | n + 1, h => by unfold ngF; rw [h n (Nat.lt_succ_self _), vR fun k hk => h k (Nat.lt_succ_of_lt hk)]
theorem ngF_b (v : Nat → Int) : ∀ n : Nat, 0 ≤ ngF v n ∧ ngF v n ≤ n
 | 0 => ⟨Int.le_refl _, Int.le_refl _⟩
 | n + 1 => by have := ngF_b v n; unfold ngF; split <;> omega
theorem rJ {v : Nat → Int} : ∀ {n : Nat}, ngF v n ≤ 0 → ∀ k, k < n → 0 ≤ v k
 | 0, _, _, h => absurd h (Nat.not_lt_zero _)
 | n + 1, h, k, hk => by
  have h1 := (ngF_b v n).1
  unfold ngF at h
  split at h
  ·omega
  ·rename_i hv
   by_cases e : k = n
   ·subst e; omega
   ·exact rJ (n := n) (by omega) k (by omega)
theorem nG {v : Nat → Int} : ∀ {n : Nat}, (∀ k, k < n → 0 ≤ v k) → ngF v n = 0
 | 0, _ => rfl
 | n + 1, h => by
  have := h n (Nat.lt_succ_self _)
  unfold ngF
  rw [nG fun k hk => h k (Nat.lt_succ_of_lt hk), if_neg (by omega)]
  rfl
theorem JB {v w : Nat → Int} {i : Nat} (h1 : v i < 0) (h2 : 0 ≤ w i) (h3 : ∀ k, k ≠ i → v k = w k) : ∀ {n : Nat}, i < n → ngF v n - 1 = ngF w n
 | 0, h => absurd h (Nat.not_lt_zero _)
 | n + 1, h => by
  unfold ngF
  by_cases e : i = n
  ·subst e
   rw [if_pos h1, if_neg (by omega), vR fun k hk => h3 k (by omega)]
   omega
  ·have := JB h1 h2 h3 (n := n) (by omega)
   rw [h3 n (fun e' => e e'.symm)]
   omega
theorem md {n : Nat} {v d : Nat → Int} {hs bl : List Int} {t : Int} (hb : ∀ k : Nat, k < n → getI bl k = some (v k)) (hh : ∀ k : Nat, k < n → getI hs k = some (d k)) (hw : ∀ k : Nat, k < n → 0 ≤ v k → v k + d k < 9223372036854775808 ∧ 0 ≤ d k) :
  ∀ (p : List Nat) (c : Int), (∀ k ∈ p, k < n) → me hs t bl (p.map fun k : Nat => (k : Int)) c = if ∀ k ∈ p, 0 ≤ v k ∧ v k + d k ≤ t then some (.go ()) else some (.ret false)
 | [], c, _ => by simp [me]
 | k :: p, c, hp => by
  have hk := hp k (List.mem_cons_self ..)
  have ih := md (t := t) hb hh hw p (c + 1) fun k hk => hp k (List.mem_cons_of_mem _ hk)
  simp only [List.map_cons, me, hb k hk, hh k hk, Option.bind_some]
  by_cases h1 : v k < 0
  ·rw [decide_eq_true h1, cond_true, if_neg (fun h => by have := (h k (List.mem_cons_self ..)).1; omega)]
  ·rw [decide_eq_false h1, cond_false]
   have h2 := hw k hk (by omega)
   rw [gz (by omega) (by omega)]
   by_cases h3 : v k + d k > t
   ·rw [decide_eq_true h3, cond_true, if_neg (fun h => by have := (h k (List.mem_cons_self ..)).2; omega)]
   ·rw [decide_eq_false h3, cond_false, ih]
    congr 1
    simp only [List.mem_cons, forall_eq_or_imp, eq_iff_iff]
    exact ⟨fun h => ⟨⟨by omega, by omega⟩, h⟩, fun h => h.2⟩
end
structure Sim6 (b : GBk) (pl : List Int) (hs : List Int) (d : Nat → Int) : Prop where
 hL : Len b
 n6 : b.Strokes.length ≤ 6
 hp : pl.length = b.Strokes.length
 hn : NdOk (nF b)
 d0 : ∀ k, 0 ≤ d k ∧ d k ≤ 15
 hh : ∀ k : Nat, k < b.Strokes.length → getI hs k = some (d k)
section
variable {b : GBk} {pl hs : List Int} {d : Nat → Int} (S : Sim6 b pl hs d)
include S
theorem Sim6.Bb (k : Nat) (hk : k < b.Strokes.length) : 0 ≤ Bg (hF pl) (nF b) d k ∧ Bg (hF pl) (nF b) d k ≤ 90 := by
 have h1 := rK (hd := hF pl) S.hn S.d0 k
 have h2 := Bg_nn (hd := hF pl) (nd := nF b) (d := d) k
 rw [Ed_eq S.hn] at h1
 have := S.d0 k
 have := S.n6
 omega
theorem Sim6.ready {i : Nat} (hi : i < b.Strokes.length) {t : Int} (ht : 0 ≤ t) : (∀ k ∈ (List.range' 0 i).filter (foB b pl i), 0 ≤ sT (Bg (hF pl) (nF b) d) t i k ∧ sT (Bg (hF pl) (nF b) d) t i k + d k ≤ t) ↔ Bg (hF pl) (nF b) d i ≤ t := by
 constructor
 ·intro h
  have key : ∀ k, k < i → foB b pl i k = true → Ed (hF pl) (nF b) d k ≤ t := by
   intro k hk hf
   obtain ⟨h1, h2⟩ := h k (List.mem_filter.2 ⟨List.mem_range'.2 ⟨k, hk, by omega⟩, hf⟩)
   unfold sT fT at h1 h2
   rw [if_pos hk] at h1 h2
   rw [Ed_eq S.hn]
   split at h2
   ·exact h2
   ·rename_i hne
    rw [if_neg hne] at h1
    omega
  refine rL S.hn ht (fun k hk hh => key k hk ?_) (fun k hk => ?_)
  ·unfold foB; rw [hh]; simp
  ·obtain ⟨h1, h2⟩ := S.hn i k hk
   refine key _ h2 ?_
   unfold foB
   rw [Int.toNat_of_nonneg h1]
   simp [hk]
 ·intro h k hk
  obtain ⟨yf, hf⟩ := List.mem_filter.1 hk
  obtain ⟨j, hj, e⟩ := List.mem_range'.1 yf
  have hki : k < i := by omega
  have hE : Ed (hF pl) (nF b) d k ≤ Bg (hF pl) (nF b) d i := by
   unfold foB at hf
   rcases Bool.or_eq_true_iff.1 hf with h1 | h1
   ·exact rM S.hn (fun k => (S.d0 k).1) hki (by simpa using h1)
   ·have h2 := yg (hd := hF pl) (d := d) S.hn (of_decide_eq_true h1)
    rwa [Int.toNat_natCast] at h2
  rw [Ed_eq S.hn] at hE
  have h1 := S.Bb k (by omega)
  have h2 := S.d0 k
  unfold sT fT
  rw [if_pos hki, if_pos (by omega)]
  omega
theorem Sim6.l1 {t : Int} (ht : 0 ≤ t) (rN : t ≤ 1000) : ∀ (p : List Int) (i : Nat), i + p.length = b.Strokes.length →
  ky ((List.range' 0 b.Strokes.length).map (foL b pl)) pl hs t p i (ngF (sT (Bg (hF pl) (nF b) d) t i) b.Strokes.length) ((List.range b.Strokes.length).map (sT (Bg (hF pl) (nF b) d) t i)) =
   some (.go (ngF (sT (Bg (hF pl) (nF b) d) t b.Strokes.length) b.Strokes.length, (List.range b.Strokes.length).map (sT (Bg (hF pl) (nF b) d) t b.Strokes.length)))
 | [], i, hi => by
  simp only [List.length_nil, Nat.add_zero] at hi
  subst hi
  rfl
 | e :: p, i, hi => by
  simp only [List.length_cons] at hi
  have hin : i < b.Strokes.length := by omega
  have hB := S.Bb i hin
  have ih := Sim6.l1 ht rN p (i + 1) (by omega)
  have e1 : ((i : Int) + 1) = ((i + 1 : Nat) : Int) := by omega
  have ev : sT (Bg (hF pl) (nF b) d) t i i = fT (Bg (hF pl) (nF b) d) t i := by unfold sT; rw [if_neg (Nat.lt_irrefl _)]
  simp only [ky]
  rw [getMap _ (by omega) (by omega), Int.toNat_natCast, ev, e1]
  simp only [Option.bind_some]
  by_cases h1 : Bg (hF pl) (nF b) d i < t
  ·have e2 : fT (Bg (hF pl) (nF b) d) t i = Bg (hF pl) (nF b) d i := by unfold fT; rw [if_pos h1]
   rw [e2, decide_eq_false (by omega), cond_false, rI (i := i) (by omega)]
   exact ih
  ·have e2 : fT (Bg (hF pl) (nF b) d) t i = -1 := by unfold fT; rw [if_neg h1]
   have e3 : getI ((List.range' 0 b.Strokes.length).map (foL b pl)) i = some (foL b pl i) := by
    unfold getI
    rw [if_pos (by omega), Int.toNat_natCast, List.getElem?_map, List.getElem?_range' (by omega)]
    simp
   have h6 := S.n6
   have e4 : aK (foL b pl i) = true := by
    refine gj ?_
    have h2 : (foL b pl i).length ≤ i := by
     unfold foL
     rw [List.length_map]
     exact Nat.le_trans (List.length_filter_le _ _) (by simp)
    omega
   have e5 := md (n := b.Strokes.length) (v := sT (Bg (hF pl) (nF b) d) t i) (d := d) (hs := hs) (t := t) (bl := (List.range b.Strokes.length).map (sT (Bg (hF pl) (nF b) d) t i))
    (fun k hk => by rw [getMap _ (by omega) (by omega), Int.toNat_natCast]) S.hh (fun k hk h0 => by
     have h3 := S.Bb k hk
     have h4 := S.d0 k
     refine ⟨?_, h4.1⟩
     unfold sT fT
     split <;> split <;> omega) ((List.range' 0 i).filter (foB b pl i)) 0 (fun k hk => by
     obtain ⟨j, hj, e⟩ := List.mem_range'.1 (List.mem_filter.1 hk).1
     omega)
   rw [e2, decide_eq_true (by omega), cond_true, e3]
   simp only [Option.bind_some]
   rw [e4, cond_true, show me hs t ((List.range b.Strokes.length).map (sT (Bg (hF pl) (nF b) d) t i)) (foL b pl i) 0 = _ from e5]
   have hr := S.ready hin ht
   by_cases h3 : Bg (hF pl) (nF b) d i ≤ t
   ·rw [if_pos (hr.2 h3)]
    simp only [lbind]
    have h4 : Bg (hF pl) (nF b) d i = t := by omega
    have e6 : List.set ((List.range b.Strokes.length).map (sT (Bg (hF pl) (nF b) d) t i)) i t = (List.range b.Strokes.length).map (sT (Bg (hF pl) (nF b) d) t (i + 1)) := by
     refine List.ext_getElem? fun k => ?_
     rw [List.getElem?_set, List.getElem?_map, List.getElem?_map]
     by_cases hk : i = k
     ·subst hk
      rw [if_pos rfl, if_pos (by simpa using hin), List.getElem?_range hin]
      simp only [Option.map_some]
      unfold sT fT
      rw [if_pos (Nat.lt_succ_self _), if_pos (by omega), h4]
     ·rw [if_neg hk]
      by_cases hkn : k < b.Strokes.length
      ·rw [List.getElem?_range hkn]
       simp only [Option.map_some, Option.some.injEq]
       unfold sT
       by_cases h5 : k < i
       ·simp only [h5, show k < i + 1 by omega, if_true]
       ·simp only [h5, show ¬ k < i + 1 by omega, if_false]
      ·rw [List.getElem?_eq_none (by simp; omega)]
       rfl
    have e7 : ngF (sT (Bg (hF pl) (nF b) d) t i) b.Strokes.length - 1 = ngF (sT (Bg (hF pl) (nF b) d) t (i + 1)) b.Strokes.length := by
     refine JB (i := i) ?_ ?_ ?_ hin
     ·rw [ev, e2]; omega
     ·unfold sT fT
      rw [if_pos (Nat.lt_succ_self _), if_pos (by omega)]
      omega
     ·intro k hk
      unfold sT
      by_cases h5 : k < i
      ·simp only [h5, show k < i + 1 by omega, if_true]
      ·simp only [h5, show ¬ k < i + 1 by omega, if_false]
    have lf := ngF_b (sT (Bg (hF pl) (nF b) d) t (i + 1)) b.Strokes.length
    rw [gz (by omega) (by omega), e7, e6]
    exact ih
   ·rw [if_neg (fun h => h3 (hr.1 h))]
    simp only [lbind, cond_false]
    rw [rI (i := i) (by omega)]
    exact ih
theorem Sim6.l0 : ∀ (k : Nat) (t : Int), 0 ≤ t → t ≤ 200 → 90 < t + k → ∃ c : Int × Int, lh ((List.range' 0 b.Strokes.length).map (foL b pl)) pl hs (k + 1) (ngF (sT (Bg (hF pl) (nF b) d) t 0) b.Strokes.length) t ((List.range b.Strokes.length).map (sT (Bg (hF pl) (nF b) d) t 0)) =
   some (.go (c.1, c.2, (List.range b.Strokes.length).map (Bg (hF pl) (nF b) d))) := by
 have fin : ∀ t : Int, (∀ j, j < b.Strokes.length → Bg (hF pl) (nF b) d j < t) → (List.range b.Strokes.length).map (sT (Bg (hF pl) (nF b) d) t 0) = (List.range b.Strokes.length).map (Bg (hF pl) (nF b) d) := by
  intro t h
  refine List.map_congr_left fun j hj => ?_
  unfold sT fT
  rw [if_neg (Nat.not_lt_zero _), if_pos (h j (List.mem_range.1 hj))]
 have stop : ∀ (k : Nat) (t : Int), ngF (sT (Bg (hF pl) (nF b) d) t 0) b.Strokes.length ≤ 0 → ∃ c : Int × Int, lh ((List.range' 0 b.Strokes.length).map (foL b pl)) pl hs (k + 1) (ngF (sT (Bg (hF pl) (nF b) d) t 0) b.Strokes.length) t ((List.range b.Strokes.length).map (sT (Bg (hF pl) (nF b) d) t 0)) =
   some (.go (c.1, c.2, (List.range b.Strokes.length).map (Bg (hF pl) (nF b) d))) := by
  intro k t hz
  refine ⟨(ngF (sT (Bg (hF pl) (nF b) d) t 0) b.Strokes.length, t), ?_⟩
  simp only [lh]
  rw [decide_eq_false (by omega), cond_false, fin t ?_]
  intro j hj
  have h1 := rJ hz j hj
  unfold sT fT at h1
  rw [if_neg (Nat.not_lt_zero _)] at h1
  split at h1
  ·assumption
  ·omega
 intro k
 induction k with
 | zero =>
  intro t h0 h1 h2
  refine stop 0 t ?_
  rw [nG ?_]
  ·exact Int.le_refl _
  ·intro j hj
   have := S.Bb j hj
   unfold sT fT
   rw [if_neg (Nat.not_lt_zero _), if_pos (by omega)]
   exact this.1
 | succ k ih =>
  intro t h0 h1 h2
  by_cases hz : ngF (sT (Bg (hF pl) (nF b) d) t 0) b.Strokes.length ≤ 0
  ·exact stop (k + 1) t hz
  ·have h6 := S.n6
   have ht : t ≤ 90 := by
    by_cases hh : t ≤ 90
    ·exact hh
    ·exfalso
     refine hz ?_
     rw [nG ?_]
     ·exact Int.le_refl _
     ·intro j hj
      have := S.Bb j hj
      unfold sT fT
      rw [if_neg (Nat.not_lt_zero _), if_pos (by omega)]
      exact this.1
   obtain ⟨c, ec⟩ := ih (t + 1) (by omega) (by omega) (by omega)
   refine ⟨c, ?_⟩
   have e1 := S.l1 h0 (by omega) pl 0 (by have := S.hp; omega)
   have en : ∀ j, j < b.Strokes.length → sT (Bg (hF pl) (nF b) d) t b.Strokes.length j = sT (Bg (hF pl) (nF b) d) (t + 1) 0 j := by
    intro j hj
    unfold sT
    rw [if_pos hj, if_neg (Nat.not_lt_zero _)]
   rw [vR en, List.map_congr_left (fun j hj => en j (List.mem_range.1 hj))] at e1
   rw [lh, decide_eq_true (by omega), cond_true, gj (by have := S.hp; omega), cond_true]
   rw [show ky ((List.range' 0 b.Strokes.length).map (foL b pl)) pl hs t pl 0 _ _ = _ from e1]
   simp only [lbind]
   rw [gz (by omega) (by omega)]
   exact ec
theorem Sim6.begins : rO b pl hs = some ((List.range b.Strokes.length).map (Bg (hF pl) (nF b) d)) := by
 have h6 := S.n6
 have hp := S.hp
 unfold rO
 rw [show mkOk 8 (pl.length : Int) = true by rw [yh]; omega, cond_true, show mkOk 24 (pl.length : Int) = true by rw [yh]; omega, cond_true, gj (by omega), cond_true]
 have e1 := rH S.hL S.hp S.n6 b.Strokes.length 0 [] (by omega)
 simp only [List.replicate_zero, List.nil_append] at e1
 rw [Int.toNat_natCast, hp]
 rw [show ku b pl b.Strokes.length 0 [] (List.replicate b.Strokes.length 0) = _ from e1]
 simp only [Option.bind_some]
 obtain ⟨c, ec⟩ := S.l0 999999 0 (Int.le_refl _) (by omega) (by omega)
 have hneg : ∀ j, j < b.Strokes.length → sT (Bg (hF pl) (nF b) d) 0 0 j = -1 := by
  intro j hj
  have := S.Bb j hj
  unfold sT fT
  rw [if_neg (Nat.not_lt_zero _), if_neg (by omega)]
 have e2 : (List.range b.Strokes.length).map (sT (Bg (hF pl) (nF b) d) 0 0) = List.replicate b.Strokes.length (-1) := by
  rw [List.eq_replicate_iff]
  exact ⟨by simp, fun x hx => by obtain ⟨j, hj, rfl⟩ := List.mem_map.1 hx; exact hneg j (List.mem_range.1 hj)⟩
 have e3 : ∀ n, ngF (fun _ => -1) n = n := by
  intro n
  induction n with
  | zero => rfl
  | succ n ih => unfold ngF; rw [ih, if_pos (by omega)]; omega
 rw [e2, vR (w := fun _ => -1) hneg, e3] at ec
 rw [show lh ((List.range' 0 b.Strokes.length).map (foL b pl)) pl hs 1000000 (b.Strokes.length : Int) 0 (List.replicate b.Strokes.length (-1)) = _ from ec]
 rfl
theorem Sim6.ended_l0 : ∀ (k i : Nat), i ≤ b.Strokes.length → b.Strokes.length < i + k → ∃ c : Int, nH hs k i ((List.range b.Strokes.length).map fun j => if j < i then Ed (hF pl) (nF b) d j else Bg (hF pl) (nF b) d j) = some (.go (c, (List.range b.Strokes.length).map (Ed (hF pl) (nF b) d)))
 | 0, i, h, h2 => absurd h2 (by omega)
 | k + 1, i, h, h2 => by
  have h6 := S.n6
  simp only [nH, List.length_map, List.length_range]
  by_cases hi : i < b.Strokes.length
  ·have hB := S.Bb i hi
   have hd := S.d0 i
   rw [decide_eq_true (by omega), cond_true, getMap _ (by omega) (by omega), Int.toNat_natCast, if_neg (Nat.lt_irrefl _), S.hh i hi]
   simp only [Option.bind_some]
   rw [gz (n := Bg (hF pl) (nF b) d i + d i) (by omega) (by omega), ← Ed_eq S.hn, gz (by omega) (by omega), show ((i : Int) + 1) = ((i + 1 : Nat) : Int) by omega]
   have e6 : List.set ((List.range b.Strokes.length).map fun j => if j < i then Ed (hF pl) (nF b) d j else Bg (hF pl) (nF b) d j) i (Ed (hF pl) (nF b) d i) = (List.range b.Strokes.length).map fun j => if j < i + 1 then Ed (hF pl) (nF b) d j else Bg (hF pl) (nF b) d j := by
    refine List.ext_getElem? fun q => ?_
    rw [List.getElem?_set, List.getElem?_map, List.getElem?_map]
    by_cases hk : i = q
    ·subst hk
     rw [if_pos rfl, if_pos (by simpa using hi), List.getElem?_range hi]
     simp
    ·rw [if_neg hk]
     by_cases hkn : q < b.Strokes.length
     ·rw [List.getElem?_range hkn]
      simp only [Option.map_some, Option.some.injEq]
      by_cases h5 : q < i
      ·simp only [h5, show q < i + 1 by omega, if_true]
      ·simp only [h5, show ¬ q < i + 1 by omega, if_false]
     ·rw [List.getElem?_eq_none (by simp; omega)]
      rfl
   rw [e6]
   exact Sim6.ended_l0 k (i + 1) (by omega) (by omega)
  ·rw [decide_eq_false (by omega), cond_false]
   refine ⟨i, ?_⟩
   congr 3
   refine List.map_congr_left fun j hj => ?_
   rw [if_pos (by have := List.mem_range.1 hj; omega)]
theorem Sim6.ended : rP b pl hs = some ((List.range b.Strokes.length).map (Ed (hF pl) (nF b) d)) := by
 have h6 := S.n6
 unfold rP
 rw [S.begins]
 simp only [Option.bind_some]
 rw [gj (by simp; omega), cond_true]
 obtain ⟨c, ec⟩ := S.ended_l0 1000000 0 (Nat.zero_le _) (by omega)
 have e : ((List.range b.Strokes.length).map fun j => if j < 0 then Ed (hF pl) (nF b) d j else Bg (hF pl) (nF b) d j) = (List.range b.Strokes.length).map (Bg (hF pl) (nF b) d) := List.map_congr_left fun j _ => if_neg (Nat.not_lt_zero _)
 rw [e] at ec
 rw [show nH hs 1000000 0 ((List.range b.Strokes.length).map (Bg (hF pl) (nF b) d)) = _ from ec]
 rfl
end
theorem yi {b : GBk} (h : Len b) (hB : BOk b) {pl : List Int} (hp : pl.length = b.Strokes.length) (hi : Bool) : Sim6 b pl (hrL b hi) (dF b (if hi then 1 else 0)) :=
 ⟨h, hB.ns.2, hp, hB.h.nd, fun k => hB.h.d _ k, fun k hk => by rw [yc hi (by omega) (by omega), Int.toNat_natCast]⟩
end Go.V
end
section
namespace Go.V
open Go Go.Proofs IntKind





def nI (dy : List Int) : List Int → Int → Option (LOut (Bool) (Unit))
 | [], cq => some (.go ())
 | e0 :: p0, cq => Option.bind (getI dy cq) (fun x1 => cond (e0 != x1) (some (.ret false)) (nI dy p0 (cq + 1)))
def rq (cC : List Int) (dy : List Int) : Option (Bool) := cond ((List.length cC : Int) != (List.length dy : Int)) (some false) (cond (aK cC) (lbind (nI dy cC 0) (fun r3 => some r3) (fun c2 => some true) (fun _ _ => none)) none)
theorem Ns (cC : List Int) (dy : List Int) (R : Bool) (h : rq cC dy = some R) : aj Tryz.prog G0 40 [.sl (ae eI cC) (List.length cC) false, .sl (ae eI dy) (List.length dy) false] (.tree (.lit (.bool R))) := by
 refine aj.runR mixed Tryz.call40 Tryz.func40 rfl (by simp [Tryz.ntmps40]; kernel_rfl) ?_
 obtain ⟨KF, h, kF, kN⟩ := cT h
 simp only [rq] at h
 cases d4 : ((List.length cC : Int) != (List.length dy : Int))
 ·simp only [d4, hs] at h
  cases g6 : (aK cC)
  ·simp only [g6, hs] at h
   exact absurd h kN
  simp only [g6, hs] at h
  simp only [vz, tyf, d4, g6, nm, seval]
  obtain ⟨K5, h, vS, pO, JC, mg⟩ := fS h kN
  obtain ⟨f5, rQ, h⟩ := call2 h
  obtain ⟨I5, ji⟩ : ∃ I : Nat → St → Prop, I = (fun m st => ∃ (p5 : List Int) (gk : Int), m = List.length p5 ∧ 0 ≤ gk ∧ List.drop (Int.toNat gk) cC = p5 ∧ st.df = [] ∧ 7 ≤ st.nx ∧ st.tm 0 = .sl (ae eI cC) (List.length cC) false ∧ st.tm 1 = .sl (ae eI dy) (List.length dy) false ∧ st.tm 5 = .lit (.int .i64 gk) ∧ K5 (f5 p5 gk)) := ⟨_, rfl⟩
  refine loopK mixed (by kernel_rfl) I5 (List.length cC) (by rw [ji]; refine ⟨cC, 0, rfl, Int.le_refl _, rfl, rfl, (show 7 ≤ 7 by omega), ?_, ?_, ?_, h⟩ <;> first | (simp only [ua, d4, nm, seval] <;> rfl) | rfl) ?_
  rintro m ⟨tm, H, i7, df⟩ hinv
  rw [ji] at hinv
  obtain ⟨p5, gk, rfl, eh, fp, hdf, rR, e7, e8, e9, h⟩ := hinv
  simp only at hdf rR e7 e8 e9
  have dj := fq (m := 7) (b := i7) (by omega)
  subst hdf rQ
  cases p5 with
  | nil =>
   have fA : (decide (gk < (List.length cC : Int))) = false := fB eh fp
   simp only [nI, hs, reduceCtorEq] at h
   replace h := pO _ h
   try dsimp only at h
   try simp only [hs] at h
   try simp only [vz, tyf, d4, g6, dj, e7, e8, e9, fA, nm, seval]
   obtain rfl := kF _ h
   exact bx Tryz.results40 rfl
  | cons e5 p5 =>
   have mh : (decide (gk < (List.length cC : Int))) = true := fC eh fp
   have yj := ei eh fp
   have rS := fu eh fp g6
   simp only [nI, hs, reduceCtorEq] at h
   simp only [vz, tyf, d4, g6, dj, e7, e8, e9, mh, (aR yj), rS, nm, seval]
   refine km (fun tm => tm 0 = .sl (ae eI cC) (List.length cC) false ∧ tm 1 = .sl (ae eI dy) (List.length dy) false ∧ tm 5 = .lit (.int .i64 gk) ∧ True) (by refine ⟨e7, e8, e9, trivial⟩ <;> first | (simp only [ua, d4, dj, e7, e8, e9, mh, rS, nm, seval] <;> rfl) | rfl) ?_
   rintro tm ⟨dw, bz, bT, _⟩
   obtain ⟨yk, lX, h⟩ := optI h mg
   try simp only [hs] at h
   cases ej : (e5 != yk)
   ·simp only [ej, hs] at h
    simp only [vz, tyf, d4, g6, dj, mh, (aR yj), rS, dw, bz, bT, (aR lX), ej, nm, seval]
    exact ⟨List.length p5, Nat.lt_succ_self _, by rw [ji]; refine ⟨p5, gk + 1, rfl, Int.le_trans eh (Int.le_add_one (Int.le_refl _)), cn eh fp, rfl, (show 7 ≤ i7 + 16 by omega), dw, bz, ?_, (by first | exact h | (simp only [d4, mh, ej]; exact h))⟩ <;> first | (simp only [ua, d4, dj, mh, rS, dw, bz, bT, ej, nm, seval] <;> rfl) | rfl⟩
   simp only [ej, hs] at h
   try simp only [vz, tyf, d4, g6, dj, mh, (aR yj), rS, dw, bz, bT, (aR lX), ej, nm, seval]
   replace h := vS _ h
   try dsimp only at h
   obtain rfl := kF _ h
   exact bx Tryz.results40 rfl
 simp only [d4, hs] at h
 try simp only [vz, tyf, d4, nm, seval]
 obtain rfl := kF _ h
 exact bx Tryz.results40 rfl
theorem rT {xs : List Int} : ∀ (p : List Int) (c : Nat), xs.drop c = p → nI xs p c = some (.go ())
 | [], _, _ => rfl
 | e :: p, c, h => by
  have h1 : getI xs (c : Int) = some e := ei (by omega) (by simpa using h)
  have h2 : xs.drop (c + 1) = p := by have := cn (i := (c : Int)) (by omega) (by simpa using h); simpa using this
  simp only [nI, h1, Option.bind_some, bne_self_eq_false, cond_false]
  exact rT p (c + 1) h2
theorem sameI {xs : List Int} (h : xs.length ≤ 1000) : rq xs xs = some true := by
 unfold rq
 rw [gj (by omega), cond_true, show nI xs xs 0 = _ from rT xs 0 rfl]
 simp [lbind]
theorem ym (a e : Int) : (if a < e then e else a) = max a e := by split <;> omega
theorem Nw {b : GBk} (h : Len b) : pJ b = some false ∨ pJ b = some true := by
 unfold pJ
 rw [gj h.st, cond_true]
 rcases rU b.Strokes 0 with e | e
 ·rw [e]
  simp only [lbind]
  cases (decide ((b.Boards.length : Int) ≤ 5)) with
  | false => exact .inl rfl
  | true => cases (decide ((b.Strokes.length : Int) ≤ 8)) <;> simp
 ·rw [e]; exact .inl rfl
theorem aj.runRQ {P : Program} {G : Glob} (hm : P.follows .mixedOrders = true) {f : FuncId} {fn : Func} {code : Code} {args : List VV} {r : PRes} (hc : Callable P f) (hf : P.funcs[f]? = some fn) (hb : fn.body = some code)
  (hst : (decide (args.length ≤ fn.ntmps) && codeQ fn.ntmps code) = true) (h : CWp P (G.at (some none)) fn.ntmps code (OpenPostD P G fn (RR r) (RPn r)) { tm := aS args, H := fun _ => none, nx := 0, df := [] }) : aj P G f args r := by
 rw [Bool.and_eq_true] at hst
 exact aj.runR hm hc hf hb (by rw [Bool.and_eq_true]; exact ⟨hst.1, kz hst.2⟩) h
def pP  : List Int → Int → Int → Option (LOut (Int) (Int))
 | [], gC, ct => some (.go ct)
 | e0 :: p0, gC, ct => pP p0 (gC + 1) (if ct < e0 then e0 else ct)
def vT (bA : List Int) : Option (Int) := cond (aK bA) (lbind (pP bA 0 0) (fun r2 => some r2) (fun c1 => some c1) (fun _ _ => none)) none
theorem Nx (bA : List Int) (R : Int) (h : vT bA = some R) : aj Tryz.prog G0 90 [.sl (ae eI bA) (List.length bA) false] (.tree (.lit (.int .i64 R))) := by
 refine aj.runR mixed Tryz.call90 Tryz.func90 rfl (by simp [Tryz.ntmps90]; kernel_rfl) ?_
 obtain ⟨KF, h, kF, kN⟩ := cT h
 simp only [vT] at h
 cases g4 : (aK bA)
 ·simp only [g4, hs] at h
  exact absurd h kN
 simp only [g4, hs] at h
 simp only [vz, tyf, g4, nm, seval]
 obtain ⟨K3, h, pQ, j1, vU, mi⟩ := fS h kN
 obtain ⟨f3, lj, h⟩ := call3 h
 obtain ⟨I3, fv⟩ : ∃ I : Nat → St → Prop, I = (fun m st => ∃ (p3 : List Int) (gD : Int) (bU : Int), m = List.length p3 ∧ 0 ≤ gD ∧ List.drop (Int.toNat gD) bA = p3 ∧ st.df = [] ∧ 3 ≤ st.nx ∧ st.tm 0 = .sl (ae eI bA) (List.length bA) false ∧ st.tm 3 = .lit (.int .i64 bU) ∧ st.tm 4 = .lit (.int .i64 gD) ∧ K3 (f3 p3 gD bU)) := ⟨_, rfl⟩
 refine loopK mixed (by kernel_rfl) I3 (List.length bA) (by rw [fv]; refine ⟨bA, 0, 0, rfl, Int.le_refl _, rfl, rfl, (show 3 ≤ 3 by omega), ?_, ?_, ?_, h⟩ <;> first | (simp only [ua, nm, seval] <;> rfl) | rfl) ?_
 rintro m ⟨tm, H, eG, df⟩ hinv
 rw [fv] at hinv
 obtain ⟨p3, gD, bU, rfl, ca, cH, hdf, lk, e5, e6, e7, h⟩ := hinv
 simp only at hdf lk e5 e6 e7
 have n8 := fq (m := 3) (b := eG) (by omega)
 subst hdf lj
 cases p3 with
 | nil =>
  have d9 : (decide (gD < (List.length bA : Int))) = false := fB ca cH
  simp only [pP, hs, reduceCtorEq] at h
  replace h := j1 _ h
  try dsimp only at h
  try simp only [hs] at h
  try simp only [vz, tyf, g4, n8, e5, e6, e7, d9, nm, seval]
  refine c9 (x := (.lit (.int .i64 bU))) (by first | (simp only [Tryz.results90, resV, resL, resV1, cI, cJ, uw, cr, tyf, g4, n8, d9, nm, seval] <;> rfl) | rfl) ?_
  obtain rfl := kF _ h
  refine gY ?_ ?_
  ·simp only [tre, tytre, Bool.and_self]
  ·first | (simp only [outV, uw, gF, cr, tyf, nrm, aW, g4, n8, e5, e6, e7, d9, nm, seval] <;> rfl) | rfl
 | cons e3 p3 =>
  have gG : (decide (gD < (List.length bA : Int))) = true := fC ca cH
  have mj := ei ca cH
  have pR := fu ca cH g4
  simp only [pP, hs, reduceCtorEq] at h
  simp only [vz, tyf, g4, n8, e5, e6, e7, gG, (aR mj), pR, nm, seval]
  exact ⟨List.length p3, Nat.lt_succ_self _, by rw [fv]; refine ⟨p3, gD + 1, (if bU < e3 then e3 else bU), rfl, Int.le_trans ca (Int.le_add_one (Int.le_refl _)), cn ca cH, rfl, (show 3 ≤ eG + 14 by omega), e5, ?_, ?_, (by first | exact h | (simp only [gG]; exact h))⟩ <;> first | (simp only [ua, n8, e5, e6, e7, gG, pR, nm, seval] <;> rfl) | rfl⟩
def pK (an : GBk) (al : List Int) : Option (Int) := Option.bind (rG an true) (fun r1 => Option.bind (rP an al r1) (fun r2 => Option.bind (vT r2) (fun r3 => some r3)))
theorem xU (an : GBk) (al : List Int) (R : Int) (h : pK an al = some R) : aj Tryz.prog G0 54 [.agg (cGBk an), .sl (ae eI al) (List.length al) false] (.tree (.lit (.int .i64 R))) := by
 refine aj.runR mixed Tryz.call54 Tryz.func54 rfl (by simp [Tryz.ntmps54]; kernel_rfl) ?_
 obtain ⟨KF, h, kF, kN⟩ := cT h
 simp only [pK] at h
 simp only [vz, tyf, nm, seval]
 refine km (fun tm => tm 1 = .sl (ae eI al) (List.length al) false ∧ tm 2 = .ptr 0 0 ∧ True) (by refine ⟨?_, ?_, trivial⟩ <;> first | (simp only [ua, nm, seval] <;> rfl) | rfl) ?_
 rintro tm ⟨e4, e5, _⟩
 obtain ⟨r6, o7, h⟩ := optI h kN
 try simp only [hs] at h
 simp only [vz, tyf, e4, e5, nm, seval]
 refine dktA (Ny _ _ _ o7) ?_
 refine bY (fun tm => tm 5 = .agg (cGBk an) ∧ tm 6 = .sl (ae eI al) (List.length al) false ∧ tm 8 = .sl (ae eI r6) (List.length r6) false ∧ True) (by refine ⟨?_, ?_, ?_, trivial⟩ <;> first | (simp only [ua, e4, e5, nm, seval] <;> rfl) | rfl) ?_
 rintro tm ⟨e8, e9, b6, _⟩
 obtain ⟨rV, mj, h⟩ := optI h kN
 try simp only [hs] at h
 simp only [vz, tyf, e8, e9, b6, nm, seval]
 refine dktA (Nz _ _ _ _ mj) ?_
 refine bY (fun tm => tm 9 = .sl (ae eI rV) (List.length rV) false ∧ True) (by refine ⟨?_, trivial⟩ <;> first | (simp only [ua, e8, e9, b6, nm, seval] <;> rfl) | rfl) ?_
 rintro tm ⟨bw, _⟩
 obtain ⟨cZ, kV, h⟩ := optI h kN
 try simp only [hs] at h
 simp only [vz, tyf, bw, nm, seval]
 refine dktA (Nx _ _ kV) ?_
 refine bY (fun tm => tm 10 = .lit (.int .i64 cZ) ∧ True) (by refine ⟨?_, trivial⟩ <;> first | (simp only [ua, bw, nm, seval] <;> rfl) | rfl) ?_
 rintro tm ⟨bz, _⟩
 try simp only [vz, tyf, bz, nm, seval]
 refine c9 (x := (.lit (.int .i64 cZ))) (by first | (simp only [Tryz.results54, resV, resL, resV1, cI, cJ, uw, cr, tyf, nm, seval] <;> rfl) | rfl) ?_
 obtain rfl := kF _ h
 refine gY ?_ ?_
 ·simp only [tre, tytre, Bool.and_self]
 ·first | (simp only [outV, uw, gF, cr, tyf, nrm, aW, bz, nm, seval] <;> rfl) | rfl

theorem JD : ∀ (p : List Int) (c a : Int), pP p c a = some (.go (p.foldl max a))
 | [], _, _ => rfl
 | e :: p, c, a => by rw [pP, JD p, ym]; rfl
theorem JE (f : Nat → Int) : ∀ n : Nat, ((List.range n).map f).foldl max 0 = tkF f n
 | 0 => rfl
 | n + 1 => by rw [List.range_succ, List.map_append, List.foldl_append, JE f n]; rfl
theorem ya {b : GBk} (h : Len b) (hB : BOk b) {pl : List Int} (hp : pl.length = b.Strokes.length) : pK b pl = some (TK b pl) := by
 have hn := hB.ns
 have e1 := (yi h hB hp true).ended
 unfold pK
 rw [hr_eq hB]
 simp only [Option.bind_some, e1, if_true]
 unfold vT
 rw [gj (by simp; omega), cond_true, JD, JE]
 rfl
end Go.V
end
section
namespace Go.V
open Go Go.Proofs IntKind
end Go.V
namespace Go.V
theorem rW {α : Type} : ((([] : List α).length : Nat) : Int) = 0 := rfl
end Go.V
namespace Go.V
open Go Go.Proofs IntKind
end Go.V
end
section
namespace Go.V
open Go Go.Proofs IntKind
set_option maxRecDepth 4000
set_option maxHeartbeats 40000000
theorem joinR {R A : Prop} (hk : R) (hm : R → A) : A := hm hk
theorem JF {n : Nat} (h : n ≤ 100000) : aE 8 n = true := by simp [aE]; omega
theorem ll {n : Nat} (h : n ≤ 100000) : aE 24 n = true := by simp [aE]; omega
def ltF (b : GBk) (i : Nat) : Int := match b.Strokes[i]? with
 | some s => if s.Round then 0 else b.Apprentices
 | none => 0
def exF (x : List Int) (c : Nat) : List (List Int) := (List.range c).map (fun (n : Nat) => x ++ [(n : Int)])
def nxF (lt : Int) (L : List (List Int)) : List (List Int) := L.flatMap (fun x => exF x (lt.toNat + 1))
def plF (b : GBk) : Nat → List (List Int)
 | 0 => [[]]
 | i + 1 => nxF (ltF b i) (plF b i)
def pS (b : GBk) : Option (List (List Int)) := cond (decide (0 ≤ b.Apprentices) && decide (b.Apprentices ≤ 3) && decide (b.Strokes.length ≤ 6)) (some (plF b b.Strokes.length)) none
theorem rX {x : List Int} {c : Nat} : (exF x c).length = c := by simp [exF]
theorem yn {x : List Int} {c : Nat} : exF x (c + 1) = exF x c ++ [x ++ [(c : Int)]] := by simp [exF, List.range_succ]
theorem vV {lt : Int} : ∀ (L : List (List Int)), (nxF lt L).length = L.length * (lt.toNat + 1)
 | [] => by simp [nxF]
 | x :: L => by
   have := vV (lt := lt) L
   simp only [nxF, List.flatMap_cons, List.length_append, rX, List.length_cons] at this ⊢
   rw [this, Nat.succ_mul]; omega
theorem yo {lt : Int} {L : List (List Int)} {k : Nat} {x : List Int} (h : L[k]? = some x) : nxF lt (L.take (k + 1)) = nxF lt (L.take k) ++ exF x (lt.toNat + 1) := by
 rw [List.take_add_one, h]; simp [nxF]
theorem ltF_b {b : GBk} (h0 : 0 ≤ b.Apprentices) (h3 : b.Apprentices ≤ 3) (i : Nat) : 0 ≤ ltF b i ∧ ltF b i ≤ 3 := by
 unfold ltF
 split
 ·split <;> omega
 ·omega
theorem nJ {b : GBk} (h0 : 0 ≤ b.Apprentices) (h3 : b.Apprentices ≤ 3) : ∀ (i : Nat), 0 < (plF b i).length ∧ (plF b i).length ≤ 4 ^ i
 | 0 => by simp [plF]
 | i + 1 => by
   obtain ⟨h1, h2⟩ := nJ h0 h3 i
   obtain ⟨l0, l3⟩ := ltF_b h0 h3 i
   rw [plF, vV]
   exact ⟨Nat.mul_pos h1 (by omega), by rw [Nat.pow_succ]; exact Nat.mul_le_mul h2 (by omega)⟩
theorem vW {b : GBk} : ∀ (i : Nat), ∀ x ∈ plF b i, x.length = i
 | 0, x, h => by simp [plF] at h; subst h; rfl
 | i + 1, x, h => by
   rw [plF, nxF, List.mem_flatMap] at h
   obtain ⟨y, hy, hx⟩ := h
   simp only [exF, List.mem_map] at hx
   obtain ⟨n, _, rfl⟩ := hx
   simp [vW i y hy]
theorem N0 (b : GBk) (R : List (List Int)) (h : pS b = some R) : aj Tryz.prog G0 89 [.agg (cGBk b)] (.tree (.sl (ae (eSl eI) R) (List.length R) false)) := by
 refine aj.runR mixed Tryz.call89 Tryz.func89 rfl (by simp [Tryz.ntmps89]; kernel_rfl) ?_
 unfold pS at h
 cases hc : (decide (0 ≤ b.Apprentices) && decide (b.Apprentices ≤ 3) && decide (b.Strokes.length ≤ 6)) with
 | false => rw [hc] at h; cases h
 | true =>
 rw [hc] at h
 obtain rfl := Option.some.inj h
 simp only [Bool.and_eq_true, decide_eq_true_eq] at hc
 obtain ⟨⟨pT, JG⟩, hS⟩ := hc
 simp only [vz, tyf, nm, seval]
 obtain ⟨I0, yp⟩ : ∃ I : Nat → St → Prop, I = (fun m st => ∃ (i β : Nat) (el : Option TypeId), m = b.Strokes.length - i ∧ i ≤ b.Strokes.length ∧ st.df = [] ∧ 5 ≤ st.nx ∧ β < st.nx ∧ β ≠ 0 ∧ st.H 0 = some (.cells (some 25) (cGBk b)) ∧ st.H β = some (.cells el (ae (eSl eI) (plF b i))) ∧ st.tm 1 = .ptr 0 0 ∧ st.tm 3 = .ref β 0 (plF b i).length 1 (plF b i).length ∧ st.tm 4 = .lit (.int .i64 i)) := ⟨_, rfl⟩
 refine VWp.normO (β := 2) (el := some 22) (cs := [.lit (.slice none 0 0)]) (cs' := ae (eSl eI) [[]]) (by first | rfl | (simp only [aF, nm, seval]; done)) (by first | rfl | (simp only [nrm, aW]; rfl)) ?_
 refine loopK mixed (by kernel_rfl) I0 b.Strokes.length (by rw [yp]; refine ⟨0, 2, some 22, by omega, by omega, rfl, by simp, (by dsimp only; omega), by omega, ?_, ?_, ?_, ?_, ?_⟩ <;> first | (simp only [ua, nm, seval] <;> rfl) | rfl | (simp only [nm, seval]; done)) ?_
 rintro m ⟨tm, H, nx, df⟩ hinv
 rw [yp] at hinv
 obtain ⟨i, β, el, hm, hi, hdf, hnx, lq, N1, H0, Hβ, e1, e3, e4⟩ := hinv
 simp only at hdf hnx lq H0 Hβ e1 e3 e4
 subst hdf
 have n1 := fq (m := 5) (b := nx) (by omega)
 have q1 := fb lq
 have q2 := ne_f N1
 by_cases hlt : i < b.Strokes.length
 rotate_left
 ·obtain rfl : i = b.Strokes.length := by omega
  have d : decide (((b.Strokes.length : Nat) : Int) < (b.Strokes.length : Int)) = false := by simp
  simp only [vz, tyf, n1, e1, e3, e4, H0, q1, Hβ, q2, d, nm, seval]
  refine c9 (x := (.ref β 0 (plF b b.Strokes.length).length 1 (plF b b.Strokes.length).length)) (by first | (simp only [Tryz.results89, resV, resL, resV1, cI, cJ, uw, cr, tyf, n1, H0, q1, Hβ, q2, d, nm, seval] <;> rfl) | rfl) ?_
  refine gY ?_ ?_
  ·simp only [tre, tytre, Bool.and_self]
  ·first | (simp only [outV, uw, gF, cr, tyf, nrm, aW, n1, e1, e3, e4, H0, q1, Hβ, q2, d, nm, seval] <;> rfl) | rfl
 ·have d : decide ((i : Int) < (b.Strokes.length : Int)) = true := by simp; omega
  have o : getI b.Strokes (i : Int) = some b.Strokes[i] := by
   unfold getI
   rw [if_pos (by omega), Int.toNat_natCast, List.getElem?_eq_getElem hlt]
  have iJ : ltF b i = if b.Strokes[i].Round then 0 else b.Apprentices := by unfold ltF; rw [List.getElem?_eq_getElem hlt]
  have w : i64.wrap ((i : Int) + 1) = ((i + 1 : Nat) : Int) := by rw [gz (by omega) (by omega)]; omega
  obtain ⟨S7, S8⟩ := ltF_b pT JG i
  obtain ⟨L1, L2⟩ := nJ pT JG i
  have L3 : (plF b i).length ≤ 4096 := Nat.le_trans L2 (Nat.pow_le_pow_right (n := 4) (by omega) (show i ≤ 6 by omega))
  have hmem := vW (b := b) i
  have nK : plF b (i + 1) = nxF (ltF b i) (plF b i) := rfl
  generalize plF b i = L at *
  generalize ltF b i = lt at *
  refine joinR (R := ∀ (tm : Nat → VV) (db : Nat), nx ≤ db → tm 1 = .ptr 0 0 → tm 3 = .ref β 0 L.length 1 L.length → tm 4 = .lit (.int .i64 i) → tm 5 = .lit (.int .i64 lt) → tm 6 = .lit (.slice none 0 0) → tm 7 = .lit (.int .i64 0) → CWp Tryz.prog (G0.at (some none)) Tryz.f89.ntmps ?cc ?qq ⟨tm, H, db, []⟩) ?hk ?hm
  case hm =>
   intro key
   cases hr : b.Strokes[i].Round with
   | false =>
    simp only [hr] at iJ
    simp only [vz, tyf, n1, e1, e3, e4, H0, q1, Hβ, q2, d, (aZ o), (ml o), hr, nm, seval]
    refine key _ _ ?_ ?_ ?_ ?_ ?_ ?_ ?_
    ·omega
    all_goals first | (simp only [ua, e1, e3, e4, iJ, nm, seval] <;> rfl) | (simp only [ua, e1, e3, e4, iJ, nm, seval]; done) | rfl
   | true =>
    simp only [hr] at iJ
    simp only [vz, tyf, n1, e1, e3, e4, H0, q1, Hβ, q2, d, (aZ o), (ml o), hr, nm, seval]
    refine key _ _ ?_ ?_ ?_ ?_ ?_ ?_ ?_
    ·omega
    all_goals first | (simp only [ua, e1, e3, e4, iJ, nm, seval] <;> rfl) | (simp only [ua, e1, e3, e4, iJ, nm, seval]; done) | rfl
  intro tm db N2 e1 e3 e4 e5 e6 e7
  obtain ⟨I1, k6⟩ : ∃ I : Nat → St → Prop, I = (fun m st => ∃ (k : Nat) (N : List (List Int)) (v : VV), m = L.length - k ∧ k ≤ L.length ∧ N = nxF lt (L.take k) ∧ st.df = [] ∧ db ≤ st.nx ∧ st.H 0 = some (.cells (some 25) (cGBk b)) ∧ st.H β = some (.cells el (ae (eSl eI) L)) ∧ st.tm 1 = .ptr 0 0 ∧ st.tm 3 = .ref β 0 L.length 1 L.length ∧ st.tm 4 = .lit (.int .i64 i) ∧ st.tm 5 = .lit (.int .i64 lt) ∧ st.tm 6 = v ∧ st.tm 7 = .lit (.int .i64 k) ∧ ((∃ (γ : Nat) (el : Option TypeId), v = .ref γ 0 N.length 1 N.length ∧ γ < st.nx ∧ γ ≠ 0 ∧ γ ≠ β ∧ st.H γ = some (.cells el (ae (eSl eI) N))) ∨ (v = .lit (.slice none 0 0) ∧ N = []))) := ⟨_, rfl⟩
  refine loopK mixed (by kernel_rfl) I1 L.length (by rw [k6]; exact ⟨0, [], .lit (.slice none 0 0), rfl, Nat.zero_le _, rfl, rfl, Nat.le_refl _, H0, Hβ, e1, e3, e4, e5, e6, e7, .inr ⟨rfl, rfl⟩⟩) ?_
  rintro m1 ⟨tm, H, nx, df⟩ hinv
  rw [k6] at hinv
  obtain ⟨k, N, v, S9, hk, hN, hdf, hnx, H0, Hβ, e1, e3, e4, e5, e6, e7, hv⟩ := hinv
  simp only at hdf hnx H0 Hβ e1 e3 e4 e5 e6 e7 hv
  subst hdf
  have n1 := fq (m := 5) (b := nx) (by omega)
  have q1 := fb (β := β) (nx := nx) (by omega)
  by_cases hkl : k < L.length
  rotate_left
  ·obtain rfl : k = L.length := by omega
   have d1 : decide (((L.length : Nat) : Int) < (L.length : Int)) = false := by simp
   rw [List.take_length] at hN
   have hNl : 0 < N.length := by rw [hN, vV]; exact Nat.mul_pos L1 (by omega)
   rcases hv with ⟨γ, elγ, rfl, lg, pU, lgβ, Hγ⟩ | ⟨_, rfl⟩
   rotate_left
   ·exact absurd hNl (by simp)
   have q3 := fb lg
   have q4 := ne_f pU
   have q5 := ne_f lgβ
   simp only [vz, tyf, n1, e1, e3, e4, e5, e6, e7, H0, q1, Hβ, q2, q3, q4, q5, Hγ, d1, w, nm, seval]
   refine ⟨b.Strokes.length - (i + 1), by omega, ?_⟩
   rw [yp]
   rw [hN, ← nK] at Hγ e6
   refine ⟨i + 1, γ, elγ, rfl, by omega, rfl, ?_, ?_, pU, H0, ?_, ?_, ?_, ?_⟩
   ·dsimp only; omega
   ·dsimp only; omega
   all_goals first | (simp only [ua, n1, e1, e3, e4, e5, e6, e7, H0, q1, Hβ, q2, q3, q4, q5, Hγ, hN, nK, w, nm, seval] <;> rfl) | (simp only [ua, n1, e1, e3, e4, e5, e6, e7, H0, q1, Hβ, q2, q3, q4, q5, Hγ, hN, nK, w, nm, seval]; done) | rfl
  ·have d1 : decide ((k : Int) < (L.length : Int)) = true := by simp; omega
   have o1 : getI L (k : Int) = some L[k] := by
    unfold getI
    rw [if_pos (by omega), Int.toNat_natCast, List.getElem?_eq_getElem hkl]
   have hgk : L[k]? = some L[k] := List.getElem?_eq_getElem hkl
   have hxl : L[k].length = i := hmem _ (List.getElem_mem hkl)
   have w1 : i64.wrap ((k : Int) + 1) = ((k + 1 : Nat) : Int) := by rw [gz (by omega) (by omega)]; omega
   simp only [vz, tyf, n1, e1, e3, e4, e5, e6, e7, H0, q1, Hβ, q2, d1, (bj o1), (b4 o1), nm, seval]
   generalize L[k] = x at *
   obtain ⟨I2, k7⟩ : ∃ I : Nat → St → Prop, I = (fun m st => ∃ (c : Nat) (N : List (List Int)) (v : VV), m = lt.toNat + 1 - c ∧ c ≤ lt.toNat + 1 ∧ N = nxF lt (L.take k) ++ exF x c ∧ st.df = [] ∧ nx ≤ st.nx ∧ st.H 0 = some (.cells (some 25) (cGBk b)) ∧ st.H β = some (.cells el (ae (eSl eI) L)) ∧ st.tm 1 = .ptr 0 0 ∧ st.tm 3 = .ref β 0 L.length 1 L.length ∧ st.tm 4 = .lit (.int .i64 i) ∧ st.tm 5 = .lit (.int .i64 lt) ∧ st.tm 6 = v ∧ st.tm 7 = .lit (.int .i64 k) ∧ st.tm 8 = .lit (.int .i64 c) ∧ ((∃ (γ : Nat) (el : Option TypeId), v = .ref γ 0 N.length 1 N.length ∧ γ < st.nx ∧ γ ≠ 0 ∧ γ ≠ β ∧ st.H γ = some (.cells el (ae (eSl eI) N))) ∨ (v = .lit (.slice none 0 0) ∧ N = []))) := ⟨_, rfl⟩
   refine loopKG mixed (by kernel_rfl) I2 (lt.toNat + 1) (by
    rw [k7]
    refine ⟨0, N, v, rfl, Nat.zero_le _, by simp [hN, exF], rfl, by dsimp only; omega, H0, Hβ, ?_, ?_, ?_, ?_, ?_, ?_, ?_, ?_⟩
    rotate_right
    ·rcases hv with ⟨γ, elγ, h1, h2, h3, h4, h5⟩ | h
     ·exact .inl ⟨γ, elγ, h1, by dsimp only; omega, h3, h4, h5⟩
     ·exact .inr h
    all_goals first | (simp only [ua, e1, e3, e4, e5, e6, e7, nm, seval] <;> rfl) | (simp only [ua, e1, e3, e4, e5, e6, e7, nm, seval]; done) | rfl) ?_
   rintro m2 ⟨tm, H, eJ, df⟩ hinv
   rw [k7] at hinv
   clear hv hN e1 e3 e4 e5 e6 e7 H0 Hβ
   obtain ⟨c, N, v, SA, hc, hN, hdf, yq, H0, Hβ, e1, e3, e4, e5, e6, e7, e8, hv⟩ := hinv
   simp only at hdf yq H0 Hβ e1 e3 e4 e5 e6 e7 e8 hv
   subst hdf
   have n2 := fq (m := 5) (b := eJ) (by omega)
   have q6 := fb (β := β) (nx := eJ) (by omega)
   by_cases hcl : c < lt.toNat + 1
   rotate_left
   ·obtain rfl : c = lt.toNat + 1 := by omega
    have d2 : decide (((lt.toNat + 1 : Nat) : Int) ≤ lt) = false := by simp; omega
    rw [← yo hgk] at hN
    simp only [vz, tyf, n2, e1, e3, e4, e5, e6, e7, e8, H0, q6, Hβ, q2, d2, w1, nm, seval]
    refine ⟨L.length - (k + 1), by clear hv; omega, ?_⟩
    rw [k6]
    refine ⟨k + 1, N, v, rfl, hkl, hN, rfl, (by clear hv; dsimp only; omega), ?_, ?_, ?_, ?_, ?_, ?_, ?_, ?_, ?_⟩
    rotate_right
    ·rcases hv with ⟨γ, elγ, h1, h2, h3, h4, h5⟩ | h
     ·exact .inl ⟨γ, elγ, h1, by dsimp only; omega, h3, h4, h5⟩
     ·exact .inr h
    all_goals first | assumption | (simp only [ua, n2, e1, e3, e4, e5, e6, e7, e8, H0, q6, Hβ, q2, d2, w1, nm, seval] <;> rfl) | (simp only [ua, n2, e1, e3, e4, e5, e6, e7, e8, H0, q6, Hβ, q2, d2, w1, nm, seval]; done) | rfl
   ·have d2 : decide ((c : Int) ≤ lt) = true := by simp; omega
    have w2 : i64.wrap ((c : Int) + 1) = ((c + 1 : Nat) : Int) := by rw [gz (by omega) (by omega)]; omega
    have hNl : N.length ≤ 20000 := by
     rw [hN, List.length_append, vV, rX, List.length_take]
     have := Nat.mul_le_mul (show min k L.length ≤ 4096 by omega) (show lt.toNat + 1 ≤ 4 by omega)
     omega
    have pV : N ++ [x ++ [(c : Int)]] = nxF lt (L.take k) ++ exF x (c + 1) := by rw [hN, yn, List.append_assoc]
    have r1 : aE 8 (x ++ [(c : Int)]).length = true := JF (by rw [List.length_append, hxl]; simp; omega)
    have r2 : aE 24 (N ++ [x ++ [(c : Int)]]).length = true := ll (by simp; omega)
    cases hx : neB x with
    | false =>
     obtain rfl := JH hx
     simp only [vz, tyf, n2, e1, e3, e4, e5, e6, e7, e8, H0, q6, Hβ, q2, d2, (bj o1), (b4 o1), nm, seval]
     refine yr (enc := eI) (ys := []) cU Tryz.underlying22 hx ?_
     simp only [vz, tyf, n2, e1, e3, e4, e5, e6, e7, e8, H0, q6, Hβ, q2, d2, (bj o1), (b4 o1), vX, nm, seval]
     refine j2 (w := 1) (enc := eI) (ys := ([(c : Int)])) (dz := (some 3)) (fun _ => rfl) d5 cU Tryz.underlying22 (by simp only [aF, ba, cL, nm, seval] <;> rfl) (Nat.zero_lt_succ _) r1 ?_
     simp only [vz, tyf, n2, e1, e3, e4, e5, e6, e7, e8, H0, q6, Hβ, q2, d2, (bj o1), (b4 o1), vX, nm, seval]
     rcases hv with ⟨γ, elγ, rfl, lg, pU, lgβ, Hγ⟩ | ⟨rfl, yu⟩
     ·have q3 := fb lg
      have q4 := ne_f pU
      have q5 := ne_f lgβ
      refine rY (enc := (eSl eI)) (xs := N) (a := [] ++ [(c : Int)]) (y := .ref (eJ + 11) 0 ([] ++ [(c : Int)]).length 1 ([] ++ [(c : Int)]).length) (el := elγ) (dz := some 22) (fun _ => rfl) fc Tryz.underlying71 (by first | rfl | assumption | (simp only [aF, ba, bp, n2, e1, e3, e4, e5, e6, e7, e8, H0, q6, Hβ, q2, d2, q3, q4, q5, Hγ, nm, seval] <;> rfl) | (simp only [aF, ba, bp, n2, e1, e3, e4, e5, e6, e7, e8, H0, q6, Hβ, q2, d2, q3, q4, q5, Hγ, nm, seval]; done)) (by first | rfl | assumption | (simp only [aF, ba, bp, n2, e1, e3, e4, e5, e6, e7, e8, H0, q6, Hβ, q2, d2, q3, q4, q5, Hγ, nm, seval] <;> rfl) | (simp only [aF, ba, bp, n2, e1, e3, e4, e5, e6, e7, e8, H0, q6, Hβ, q2, d2, q3, q4, q5, Hγ, nm, seval]; done)) rfl r2 ?_
      simp only [vz, tyf, n2, e1, e3, e4, e5, e6, e7, e8, H0, q6, Hβ, q2, d2, q3, q4, q5, Hγ, nm, seval]
      refine ⟨lt.toNat + 1 - (c + 1), by omega, _, Ghost.snocL (γ := eJ + 11) (ε := eJ + 13) (xs := N) (ys := [] ++ [(c : Int)]) (cp := ([] ++ [(c : Int)]).length) (by first | rfl | assumption | (simp only [aF, ba, bp, n2, e1, e3, e4, e5, e6, e7, e8, H0, q6, Hβ, q2, d2, q3, q4, q5, Hγ, nm, seval] <;> rfl) | (simp only [aF, ba, bp, n2, e1, e3, e4, e5, e6, e7, e8, H0, q6, Hβ, q2, d2, q3, q4, q5, Hγ, nm, seval]; done)) (by first | rfl | assumption | (simp only [aF, ba, bp, n2, e1, e3, e4, e5, e6, e7, e8, H0, q6, Hβ, q2, d2, q3, q4, q5, Hγ, nm, seval] <;> rfl) | (simp only [aF, ba, bp, n2, e1, e3, e4, e5, e6, e7, e8, H0, q6, Hβ, q2, d2, q3, q4, q5, Hγ, nm, seval]; done)) (by omega), ?_⟩
      rw [k7]
      refine ⟨c + 1, N ++ [[] ++ [(c : Int)]], .ref (eJ + 13) 0 (N ++ [[] ++ [(c : Int)]]).length 1 (N ++ [[] ++ [(c : Int)]]).length, rfl, hcl, pV, rfl, (by dsimp only; omega), ?_, ?_, ?_, ?_, ?_, ?_, ?_, ?_, ?_, .inl ⟨eJ + 13, sameEl elγ 22, rfl, (by dsimp only; omega), by omega, by omega, ?_⟩⟩
      all_goals first | assumption | (simp only [ua, aF, ba, n2, e1, e3, e4, e5, e6, e7, e8, H0, q6, Hβ, q2, d2, q3, q4, q5, Hγ, w2, nm, seval] <;> rfl) | (simp only [ua, aF, ba, n2, e1, e3, e4, e5, e6, e7, e8, H0, q6, Hβ, q2, d2, q3, q4, q5, Hγ, w2, nm, seval]; done) | rfl
     ·refine rZ (y := .ref (eJ + 11) 0 ([] ++ [(c : Int)]).length 1 ([] ++ [(c : Int)]).length) (dz := some 22) fc Tryz.underlying71 (by first | rfl | assumption | (simp only [aF, ba, bp, n2, e1, e3, e4, e5, e6, e7, e8, H0, q6, Hβ, q2, d2, nm, seval] <;> rfl) | (simp only [aF, ba, bp, n2, e1, e3, e4, e5, e6, e7, e8, H0, q6, Hβ, q2, d2, nm, seval]; done)) rfl (by rfl) ?_
      simp only [vz, tyf, n2, e1, e3, e4, e5, e6, e7, e8, H0, q6, Hβ, q2, d2, nm, seval]
      refine ⟨lt.toNat + 1 - (c + 1), by omega, _, Ghost.snocL (γ := eJ + 11) (ε := eJ + 13) (xs := []) (ys := [] ++ [(c : Int)]) (cp := ([] ++ [(c : Int)]).length) (by first | rfl | assumption | (simp only [aF, ba, bp, n2, e1, e3, e4, e5, e6, e7, e8, H0, q6, Hβ, q2, d2, nm, seval] <;> rfl) | (simp only [aF, ba, bp, n2, e1, e3, e4, e5, e6, e7, e8, H0, q6, Hβ, q2, d2, nm, seval]; done)) (by first | rfl | assumption | (simp only [aF, ba, bp, n2, e1, e3, e4, e5, e6, e7, e8, H0, q6, Hβ, q2, d2, nm, seval] <;> rfl) | (simp only [aF, ba, bp, n2, e1, e3, e4, e5, e6, e7, e8, H0, q6, Hβ, q2, d2, nm, seval]; done)) (by omega), ?_⟩
      rw [k7]
      rw [yu] at pV
      refine ⟨c + 1, [] ++ [[] ++ [(c : Int)]], .ref (eJ + 13) 0 ([] ++ [[] ++ [(c : Int)]]).length 1 ([] ++ [[] ++ [(c : Int)]]).length, rfl, hcl, pV, rfl, (by dsimp only; omega), ?_, ?_, ?_, ?_, ?_, ?_, ?_, ?_, ?_, .inl ⟨eJ + 13, some 22, rfl, (by dsimp only; omega), by omega, by omega, ?_⟩⟩
      all_goals first | assumption | (simp only [ua, aF, ba, n2, e1, e3, e4, e5, e6, e7, e8, H0, q6, Hβ, q2, d2, w2, nm, seval] <;> rfl) | (simp only [ua, aF, ba, n2, e1, e3, e4, e5, e6, e7, e8, H0, q6, Hβ, q2, d2, w2, nm, seval]; done) | rfl
    | true =>
     simp only [vz, tyf, n2, e1, e3, e4, e5, e6, e7, e8, H0, q6, Hβ, q2, d2, (bj o1), (b4 o1), nm, seval]
     refine yv (w := 1) (enc := eI) (ys := x) (fun _ => rfl) d5 cU Tryz.underlying22 hx (JF (by simp; omega)) ?_
     simp only [vz, tyf, n2, e1, e3, e4, e5, e6, e7, e8, H0, q6, Hβ, q2, d2, (bj o1), (b4 o1), vX, List.nil_append, nm, seval]
     refine k_app (w := 1) (enc := eI) (xs := x) (ys := ([(c : Int)])) (el := (some 3)) (dz := (some 3)) (fun _ => rfl) d5 cU Tryz.underlying22 (by first | rfl | (simp only [aF, ba, cL, n2, nm, seval] <;> rfl)) (by first | rfl | (simp only [aF, ba, cL, n2, nm, seval] <;> rfl)) (Nat.zero_lt_succ _) r1 ?_
     simp only [vz, tyf, n2, e1, e3, e4, e5, e6, e7, e8, H0, q6, Hβ, q2, d2, (bj o1), (b4 o1), vX, nm, seval]
     rcases hv with ⟨γ, elγ, rfl, lg, pU, lgβ, Hγ⟩ | ⟨rfl, yu⟩
     ·have q3 := fb lg
      have q4 := ne_f pU
      have q5 := ne_f lgβ
      refine rY (enc := (eSl eI)) (xs := N) (a := x ++ [(c : Int)]) (y := .ref (eJ + 11) 0 (x ++ [(c : Int)]).length 1 (x ++ [(c : Int)]).length) (el := elγ) (dz := some 22) (fun _ => rfl) fc Tryz.underlying71 (by first | rfl | assumption | (simp only [aF, ba, bp, n2, e1, e3, e4, e5, e6, e7, e8, H0, q6, Hβ, q2, d2, q3, q4, q5, Hγ, nm, seval] <;> rfl) | (simp only [aF, ba, bp, n2, e1, e3, e4, e5, e6, e7, e8, H0, q6, Hβ, q2, d2, q3, q4, q5, Hγ, nm, seval]; done)) (by first | rfl | assumption | (simp only [aF, ba, bp, n2, e1, e3, e4, e5, e6, e7, e8, H0, q6, Hβ, q2, d2, q3, q4, q5, Hγ, nm, seval] <;> rfl) | (simp only [aF, ba, bp, n2, e1, e3, e4, e5, e6, e7, e8, H0, q6, Hβ, q2, d2, q3, q4, q5, Hγ, nm, seval]; done)) rfl r2 ?_
      simp only [vz, tyf, n2, e1, e3, e4, e5, e6, e7, e8, H0, q6, Hβ, q2, d2, q3, q4, q5, Hγ, nm, seval]
      refine ⟨lt.toNat + 1 - (c + 1), by omega, _, Ghost.snocL (γ := eJ + 11) (ε := eJ + 13) (xs := N) (ys := x ++ [(c : Int)]) (cp := (x ++ [(c : Int)]).length) (by first | rfl | assumption | (simp only [aF, ba, bp, n2, e1, e3, e4, e5, e6, e7, e8, H0, q6, Hβ, q2, d2, q3, q4, q5, Hγ, nm, seval] <;> rfl) | (simp only [aF, ba, bp, n2, e1, e3, e4, e5, e6, e7, e8, H0, q6, Hβ, q2, d2, q3, q4, q5, Hγ, nm, seval]; done)) (by first | rfl | assumption | (simp only [aF, ba, bp, n2, e1, e3, e4, e5, e6, e7, e8, H0, q6, Hβ, q2, d2, q3, q4, q5, Hγ, nm, seval] <;> rfl) | (simp only [aF, ba, bp, n2, e1, e3, e4, e5, e6, e7, e8, H0, q6, Hβ, q2, d2, q3, q4, q5, Hγ, nm, seval]; done)) (by omega), ?_⟩
      rw [k7]
      refine ⟨c + 1, N ++ [x ++ [(c : Int)]], .ref (eJ + 13) 0 (N ++ [x ++ [(c : Int)]]).length 1 (N ++ [x ++ [(c : Int)]]).length, rfl, hcl, pV, rfl, (by dsimp only; omega), ?_, ?_, ?_, ?_, ?_, ?_, ?_, ?_, ?_, .inl ⟨eJ + 13, sameEl elγ 22, rfl, (by dsimp only; omega), by omega, by omega, ?_⟩⟩
      all_goals first | assumption | (simp only [ua, aF, ba, n2, e1, e3, e4, e5, e6, e7, e8, H0, q6, Hβ, q2, d2, q3, q4, q5, Hγ, w2, nm, seval] <;> rfl) | (simp only [ua, aF, ba, n2, e1, e3, e4, e5, e6, e7, e8, H0, q6, Hβ, q2, d2, q3, q4, q5, Hγ, w2, nm, seval]; done) | rfl
     ·refine rZ (y := .ref (eJ + 11) 0 (x ++ [(c : Int)]).length 1 (x ++ [(c : Int)]).length) (dz := some 22) fc Tryz.underlying71 (by first | rfl | assumption | (simp only [aF, ba, bp, n2, e1, e3, e4, e5, e6, e7, e8, H0, q6, Hβ, q2, d2, nm, seval] <;> rfl) | (simp only [aF, ba, bp, n2, e1, e3, e4, e5, e6, e7, e8, H0, q6, Hβ, q2, d2, nm, seval]; done)) rfl (by rfl) ?_
      simp only [vz, tyf, n2, e1, e3, e4, e5, e6, e7, e8, H0, q6, Hβ, q2, d2, nm, seval]
      refine ⟨lt.toNat + 1 - (c + 1), by omega, _, Ghost.snocL (γ := eJ + 11) (ε := eJ + 13) (xs := []) (ys := x ++ [(c : Int)]) (cp := (x ++ [(c : Int)]).length) (by first | rfl | assumption | (simp only [aF, ba, bp, n2, e1, e3, e4, e5, e6, e7, e8, H0, q6, Hβ, q2, d2, nm, seval] <;> rfl) | (simp only [aF, ba, bp, n2, e1, e3, e4, e5, e6, e7, e8, H0, q6, Hβ, q2, d2, nm, seval]; done)) (by first | rfl | assumption | (simp only [aF, ba, bp, n2, e1, e3, e4, e5, e6, e7, e8, H0, q6, Hβ, q2, d2, nm, seval] <;> rfl) | (simp only [aF, ba, bp, n2, e1, e3, e4, e5, e6, e7, e8, H0, q6, Hβ, q2, d2, nm, seval]; done)) (by omega), ?_⟩
      rw [k7]
      rw [yu] at pV
      refine ⟨c + 1, [] ++ [x ++ [(c : Int)]], .ref (eJ + 13) 0 ([] ++ [x ++ [(c : Int)]]).length 1 ([] ++ [x ++ [(c : Int)]]).length, rfl, hcl, pV, rfl, (by dsimp only; omega), ?_, ?_, ?_, ?_, ?_, ?_, ?_, ?_, ?_, .inl ⟨eJ + 13, some 22, rfl, (by dsimp only; omega), by omega, by omega, ?_⟩⟩
      all_goals first | assumption | (simp only [ua, aF, ba, n2, e1, e3, e4, e5, e6, e7, e8, H0, q6, Hβ, q2, d2, w2, nm, seval] <;> rfl) | (simp only [ua, aF, ba, n2, e1, e3, e4, e5, e6, e7, e8, H0, q6, Hβ, q2, d2, w2, nm, seval]; done) | rfl
end Go.V
end
