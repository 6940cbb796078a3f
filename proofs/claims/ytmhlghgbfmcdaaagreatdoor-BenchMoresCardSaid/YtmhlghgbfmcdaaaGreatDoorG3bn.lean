/- Part of a proof. -/
import Derived.Test.YtmhlghgbfmcdaaaGreatDoorG3bm
set_option linter.all false
set_option maxRecDepth 4000
set_option maxHeartbeats 40000000
section
namespace Go.V
open Go Go.Proofs IntKind
theorem vf (n : Int) : ∀ (p : List Int) (c : Int), rF n p c = if n ∈ p then some (.ret true) else some (.go ())
 | [], _ => rfl
 | e :: p, c => by
  simp only [rF, vf n p (c + 1), List.mem_cons]
  by_cases h : e = n
  ·subst h; simp
  ·have h' : ¬ n = e := fun h2 => h h2.symm
   simp [h, h']
theorem G1 {l : List Int} (hl : l.length < 9223372036854775808) (n : Int) : vg l n = some (decide (n ∈ l)) := by
 unfold vg
 rw [gA hl, cond_true, vf]
 by_cases h : n ∈ l <;> simp [h, lbind]
theorem hr_l0 (hi : Bool) : ∀ (p : List GBs) (c : Int) (acc : List Int), acc.length + p.length ≤ 1000 → lk hi p c acc = some (.go (acc ++ p.map fun s => if hi then s.Hours.High else s.Hours.Low))
 | [], _, acc, _ => by simp [lk]
 | s :: p, c, acc, hn => by
  simp only [List.length_cons] at hn
  simp only [lk]
  cases hi with
  | true =>
   rw [cond_true, room8 (by simp; omega), cond_true, hr_l0 true p (c + 1) _ (by simp; omega)]
   simp
  | false =>
   rw [cond_false, room8 (by simp; omega), cond_true, hr_l0 false p (c + 1) _ (by simp; omega)]
   simp
def hrL (b : GBk) (hi : Bool) : List Int := b.Strokes.map fun s => if hi then s.Hours.High else s.Hours.Low
theorem hr_eq {b : GBk} (hb : BOk b) (hi : Bool) : vh b hi = some (hrL b hi) := by
 have := hb.ns
 unfold vh
 rw [gA (by omega), cond_true, hr_l0 hi b.Strokes 0 [] (by simp; omega)]
 rfl
theorem getMap {n : Nat} (f : Nat → Int) {i : Int} (h0 : 0 ≤ i) (h1 : i.toNat < n) : getI ((List.range n).map f) i = some (f i.toNat) := by
 unfold getI
 rw [if_pos h0, List.getElem?_map, List.getElem?_range h1]
 rfl
theorem G2 {b : GBk} (hi : Bool) {i : Int} (h0 : 0 ≤ i) (h1 : i.toNat < b.Strokes.length) : getI (hrL b hi) i = some (dF b (if hi then 1 else 0) i.toNat) := by
 unfold getI hrL dF
 rw [if_pos h0, List.getElem?_map, List.getElem?_eq_getElem h1]
 cases hi <;> simp
def foB (b : GBk) (pl : List Int) (i k : Nat) : Bool := (hF pl k == hF pl i) || decide ((k : Int) ∈ nF b i)
def foL (b : GBk) (pl : List Int) (i : Nat) : List Int := ((List.range' 0 i).filter (foB b pl i)).map fun k : Nat => (k : Int)
theorem QJ {b : GBk} (h : Len b) {pl : List Int} (hp : pl.length = b.Strokes.length) {i k : Nat} (hk : k < i) (hi : i < b.Strokes.length) : rG b pl k i = some (foB b pl i k) := by
 unfold rG foB
 rw [decide_eq_true (by omega), cond_true, getP hp (by omega) (by omega), getP hp (by omega) (by omega)]
 have hx : getI b.Strokes i = some b.Strokes[i] := by
  unfold getI
  rw [if_pos (by omega), Int.toNat_natCast, List.getElem?_eq_getElem hi]
 have hn : nF b i = b.Strokes[i].Needs := by unfold nF; rw [List.getElem?_eq_getElem hi]
 simp only [Option.bind_some, Int.toNat_natCast, hx, hn]
 rw [G1 (h.nd _ (List.getElem_mem hi))]
 cases hF pl k == hF pl i <;> rfl
theorem pZ {b : GBk} (h : Len b) {pl : List Int} (hp : pl.length = b.Strokes.length) {i : Nat} (hi : i < b.Strokes.length) (hn : b.Strokes.length ≤ 6) : ∀ (m k : Nat) (w : List Int), k + m = i → w.length ≤ k →
  ku b pl i m k w = some (w ++ ((List.range' k m).filter (foB b pl i)).map fun k : Nat => (k : Int))
 | 0, k, w, _, _ => by simp [ku]
 | m + 1, k, w, hk, hw => by
  simp only [ku, QJ h hp (show k < i by omega) hi, Option.bind_some]
  rw [List.range'_succ, List.filter_cons]
  have e : ((k : Int) + 1) = ((k + 1 : Nat) : Int) := by omega
  rw [e]
  cases hf : foB b pl i k with
  | false => rw [cond_false, pZ h hp hi hn m (k + 1) w (by omega) (by omega)]; simp
  | true => rw [cond_true, room8 (by simp; omega), cond_true, pZ h hp hi hn m (k + 1) _ (by omega) (by simp; omega)]; simp
theorem G3 (i m : Nat) : List.set (List.replicate i (-1 : Int) ++ List.replicate (m + 1) 0) i (-1) = List.replicate (i + 1) (-1) ++ List.replicate m 0 := by
 rw [List.set_append_right _ _ (by simp), List.length_replicate, Nat.sub_self, List.replicate_succ, List.set_cons_zero, List.replicate_succ', List.append_assoc]
 rfl
theorem vi {b : GBk} (h : Len b) {pl : List Int} (hp : pl.length = b.Strokes.length) (hn : b.Strokes.length ≤ 6) : ∀ (m i : Nat) (pre : List (List Int)), i + m = b.Strokes.length →
  ll b pl m i pre (List.replicate i (-1) ++ List.replicate m 0) = some (pre ++ (List.range' i m).map (foL b pl), List.replicate b.Strokes.length (-1))
 | 0, i, pre, hi => by simp [ll]; omega
 | m + 1, i, pre, hi => by
  have e := pZ h hp (i := i) (by omega) hn i 0 [] (by omega) (Nat.le_refl _)
  simp only [ll, Int.toNat_natCast]
  rw [show ku b pl i i 0 [] = _ from e]
  simp only [Option.bind_some, List.nil_append]
  rw [G3, show ((i : Int) + 1) = ((i + 1 : Nat) : Int) by omega, vi h hp hn m (i + 1) _ (by omega), List.range'_succ]
  simp [foL]
section
variable {hd : Nat → Int} {nd : Nat → List Int} {d : Nat → Int}
def fT (B : Nat → Int) (t : Int) (j : Nat) : Int := if B j < t then B j else -1
def sT (B : Nat → Int) (t : Int) (i j : Nat) : Int := if j < i then fT B (t + 1) j else fT B t j
theorem vj {B : Nat → Int} {t : Int} {i : Nat} (h : B i ≠ t) : sT B t i = sT B t (i + 1) := by
 funext j
 unfold sT fT
 by_cases e : j = i
 ·subst e
  rw [if_neg (Nat.lt_irrefl _), if_pos (Nat.lt_succ_self _)]
  by_cases h1 : B j < t
  ·rw [if_pos h1, if_pos (by omega)]
  ·rw [if_neg h1, if_neg (by omega)]
 ·by_cases h1 : j < i
  ·simp only [h1, show j < i + 1 by omega, if_true]
  ·simp only [h1, show ¬ j < i + 1 by omega, if_false]
def ngF (v : Nat → Int) : Nat → Int
 | 0 => 0
 | n + 1 => ngF v n + if v n < 0 then 1 else 0
theorem x5 {v w : Nat → Int} : ∀ {n : Nat}, (∀ k, k < n → v k = w k) → ngF v n = ngF w n
 | 0, _ => rfl
 | n + 1, h => by unfold ngF; rw [h n (Nat.lt_succ_self _), x5 fun k hk => h k (Nat.lt_succ_of_lt hk)]
theorem ngF_b (v : Nat → Int) : ∀ n : Nat, 0 ≤ ngF v n ∧ ngF v n ≤ n
 | 0 => ⟨Int.le_refl _, Int.le_refl _⟩
 | n + 1 => by have := ngF_b v n; unfold ngF; split <;> omega
theorem vk {v : Nat → Int} : ∀ {n : Nat}, ngF v n ≤ 0 → ∀ k, k < n → 0 ≤ v k
 | 0, _, _, h => absurd h (Nat.not_lt_zero _)
 | n + 1, h, k, hk => by
  have h1 := (ngF_b v n).1
  unfold ngF at h
  split at h
  ·omega
  ·rename_i hv
   by_cases e : k = n
   ·subst e; omega
   ·exact vk (n := n) (by omega) k (by omega)
theorem qa {v : Nat → Int} : ∀ {n : Nat}, (∀ k, k < n → 0 ≤ v k) → ngF v n = 0
 | 0, _ => rfl
 | n + 1, h => by
  have := h n (Nat.lt_succ_self _)
  unfold ngF
  rw [qa fun k hk => h k (Nat.lt_succ_of_lt hk), if_neg (by omega)]
  rfl
theorem vl {v w : Nat → Int} {i : Nat} (h1 : v i < 0) (h2 : 0 ≤ w i) (h3 : ∀ k, k ≠ i → v k = w k) : ∀ {n : Nat}, i < n → ngF v n - 1 = ngF w n
 | 0, h => absurd h (Nat.not_lt_zero _)
 | n + 1, h => by
  unfold ngF
  by_cases e : i = n
  ·subst e
   rw [if_pos h1, if_neg (by omega), x5 fun k hk => h3 k (by omega)]
   omega
  ·have := vl h1 h2 h3 (n := n) (by omega)
   rw [h3 n (fun e' => e e'.symm)]
   omega
theorem nE {n : Nat} {v d : Nat → Int} {hs bl : List Int} {t : Int} (hb : ∀ k : Nat, k < n → getI bl k = some (v k)) (hh : ∀ k : Nat, k < n → getI hs k = some (d k)) (hw : ∀ k : Nat, k < n → 0 ≤ v k → v k + d k < 9223372036854775808 ∧ 0 ≤ d k) :
  ∀ (p : List Nat) (c : Int), (∀ k ∈ p, k < n) → nG hs t bl (p.map fun k : Nat => (k : Int)) c = if ∀ k ∈ p, 0 ≤ v k ∧ v k + d k ≤ t then some (.go ()) else some (.ret false)
 | [], c, _ => by simp [nG]
 | k :: p, c, hp => by
  have hk := hp k (List.mem_cons_self ..)
  have ih := nE (t := t) hb hh hw p (c + 1) fun k hk => hp k (List.mem_cons_of_mem _ hk)
  simp only [List.map_cons, nG, hb k hk, hh k hk, Option.bind_some]
  by_cases h1 : v k < 0
  ·rw [decide_eq_true h1, cond_true, if_neg (fun h => by have := (h k (List.mem_cons_self ..)).1; omega)]
  ·rw [decide_eq_false h1, cond_false]
   have h2 := hw k hk (by omega)
   rw [fk (by omega) (by omega)]
   by_cases h3 : v k + d k > t
   ·rw [decide_eq_true h3, cond_true, if_neg (fun h => by have := (h k (List.mem_cons_self ..)).2; omega)]
   ·rw [decide_eq_false h3, cond_false, ih]
    congr 1
    simp only [List.mem_cons, forall_eq_or_imp, eq_iff_iff]
    exact ⟨fun h => ⟨⟨by omega, by omega⟩, h⟩, fun h => h.2⟩
end
structure Sim6 (b : GBk) (pl : List Int) (hs : List Int) (d : Nat → Int) : Prop where
 hL : Len b
 n6 : b.Strokes.length ≤ 6
 hp : pl.length = b.Strokes.length
 hn : NdOk (nF b)
 d0 : ∀ k, 0 ≤ d k ∧ d k ≤ 15
 hh : ∀ k : Nat, k < b.Strokes.length → getI hs k = some (d k)
section
variable {b : GBk} {pl hs : List Int} {d : Nat → Int} (S : Sim6 b pl hs d)
include S
theorem Sim6.Bb (k : Nat) (hk : k < b.Strokes.length) : 0 ≤ Bg (hF pl) (nF b) d k ∧ Bg (hF pl) (nF b) d k ≤ 90 := by
 have h1 := tO (hd := hF pl) S.hn S.d0 k
 have h2 := Bg_nn (hd := hF pl) (nd := nF b) (d := d) k
 rw [Ed_eq S.hn] at h1
 have := S.d0 k
 have := S.n6
 omega
theorem Sim6.ready {i : Nat} (hi : i < b.Strokes.length) {t : Int} (ht : 0 ≤ t) : (∀ k ∈ (List.range' 0 i).filter (foB b pl i), 0 ≤ sT (Bg (hF pl) (nF b) d) t i k ∧ sT (Bg (hF pl) (nF b) d) t i k + d k ≤ t) ↔ Bg (hF pl) (nF b) d i ≤ t := by
 constructor
 ·intro h
  have key : ∀ k, k < i → foB b pl i k = true → Ed (hF pl) (nF b) d k ≤ t := by
   intro k hk hf
   obtain ⟨h1, h2⟩ := h k (List.mem_filter.2 ⟨List.mem_range'.2 ⟨k, hk, by omega⟩, hf⟩)
   unfold sT fT at h1 h2
   rw [if_pos hk] at h1 h2
   rw [Ed_eq S.hn]
   split at h2
   ·exact h2
   ·rename_i hne
    rw [if_neg hne] at h1
    omega
  refine tN S.hn ht (fun k hk hh => key k hk ?_) (fun k hk => ?_)
  ·unfold foB; rw [hh]; simp
  ·obtain ⟨h1, h2⟩ := S.hn i k hk
   refine key _ h2 ?_
   unfold foB
   rw [Int.toNat_of_nonneg h1]
   simp [hk]
 ·intro h k hk
  obtain ⟨G4, hf⟩ := List.mem_filter.1 hk
  obtain ⟨j, hj, e⟩ := List.mem_range'.1 G4
  have hki : k < i := by omega
  have hE : Ed (hF pl) (nF b) d k ≤ Bg (hF pl) (nF b) d i := by
   unfold foB at hf
   rcases Bool.or_eq_true_iff.1 hf with h1 | h1
   ·exact tM S.hn (fun k => (S.d0 k).1) hki (by simpa using h1)
   ·have h2 := C2 (hd := hF pl) (d := d) S.hn (of_decide_eq_true h1)
    rwa [Int.toNat_natCast] at h2
  rw [Ed_eq S.hn] at hE
  have h1 := S.Bb k (by omega)
  have h2 := S.d0 k
  unfold sT fT
  rw [if_pos hki, if_pos (by omega)]
  omega
theorem Sim6.l1 {t : Int} (ht : 0 ≤ t) (vm : t ≤ 1000) : ∀ (p : List Int) (i : Nat), i + p.length = b.Strokes.length →
  lp ((List.range' 0 b.Strokes.length).map (foL b pl)) pl hs t p i (ngF (sT (Bg (hF pl) (nF b) d) t i) b.Strokes.length) ((List.range b.Strokes.length).map (sT (Bg (hF pl) (nF b) d) t i)) =
   some (.go (ngF (sT (Bg (hF pl) (nF b) d) t b.Strokes.length) b.Strokes.length, (List.range b.Strokes.length).map (sT (Bg (hF pl) (nF b) d) t b.Strokes.length)))
 | [], i, hi => by
  simp only [List.length_nil, Nat.add_zero] at hi
  subst hi
  rfl
 | e :: p, i, hi => by
  simp only [List.length_cons] at hi
  have hin : i < b.Strokes.length := by omega
  have hB := S.Bb i hin
  have ih := Sim6.l1 ht vm p (i + 1) (by omega)
  have e1 : ((i : Int) + 1) = ((i + 1 : Nat) : Int) := by omega
  have ev : sT (Bg (hF pl) (nF b) d) t i i = fT (Bg (hF pl) (nF b) d) t i := by unfold sT; rw [if_neg (Nat.lt_irrefl _)]
  simp only [lp]
  rw [getMap _ (by omega) (by omega), Int.toNat_natCast, ev, e1]
  simp only [Option.bind_some]
  by_cases h1 : Bg (hF pl) (nF b) d i < t
  ·have e2 : fT (Bg (hF pl) (nF b) d) t i = Bg (hF pl) (nF b) d i := by unfold fT; rw [if_pos h1]
   rw [e2, decide_eq_false (by omega), cond_false, vj (i := i) (by omega)]
   exact ih
  ·have e2 : fT (Bg (hF pl) (nF b) d) t i = -1 := by unfold fT; rw [if_neg h1]
   have e3 : getI ((List.range' 0 b.Strokes.length).map (foL b pl)) i = some (foL b pl i) := by
    unfold getI
    rw [if_pos (by omega), Int.toNat_natCast, List.getElem?_map, List.getElem?_range' (by omega)]
    simp
   have h6 := S.n6
   have e4 : aO (foL b pl i) = true := by
    refine gA ?_
    have h2 : (foL b pl i).length ≤ i := by
     unfold foL
     rw [List.length_map]
     exact Nat.le_trans (List.length_filter_le _ _) (by simp)
    omega
   have e5 := nE (n := b.Strokes.length) (v := sT (Bg (hF pl) (nF b) d) t i) (d := d) (hs := hs) (t := t) (bl := (List.range b.Strokes.length).map (sT (Bg (hF pl) (nF b) d) t i))
    (fun k hk => by rw [getMap _ (by omega) (by omega), Int.toNat_natCast]) S.hh (fun k hk h0 => by
     have h3 := S.Bb k hk
     have h4 := S.d0 k
     refine ⟨?_, h4.1⟩
     unfold sT fT
     split <;> split <;> omega) ((List.range' 0 i).filter (foB b pl i)) 0 (fun k hk => by
     obtain ⟨j, hj, e⟩ := List.mem_range'.1 (List.mem_filter.1 hk).1
     omega)
   rw [e2, decide_eq_true (by omega), cond_true, e3]
   simp only [Option.bind_some]
   rw [e4, cond_true, show nG hs t ((List.range b.Strokes.length).map (sT (Bg (hF pl) (nF b) d) t i)) (foL b pl i) 0 = _ from e5]
   have hr := S.ready hin ht
   by_cases h3 : Bg (hF pl) (nF b) d i ≤ t
   ·rw [if_pos (hr.2 h3)]
    simp only [lbind]
    have h4 : Bg (hF pl) (nF b) d i = t := by omega
    have e6 : List.set ((List.range b.Strokes.length).map (sT (Bg (hF pl) (nF b) d) t i)) i t = (List.range b.Strokes.length).map (sT (Bg (hF pl) (nF b) d) t (i + 1)) := by
     refine List.ext_getElem? fun k => ?_
     rw [List.getElem?_set, List.getElem?_map, List.getElem?_map]
     by_cases hk : i = k
     ·subst hk
      rw [if_pos rfl, if_pos (by simpa using hin), List.getElem?_range hin]
      simp only [Option.map_some]
      unfold sT fT
      rw [if_pos (Nat.lt_succ_self _), if_pos (by omega), h4]
     ·rw [if_neg hk]
      by_cases hkn : k < b.Strokes.length
      ·rw [List.getElem?_range hkn]
       simp only [Option.map_some, Option.some.injEq]
       unfold sT
       by_cases h5 : k < i
       ·simp only [h5, show k < i + 1 by omega, if_true]
       ·simp only [h5, show ¬ k < i + 1 by omega, if_false]
      ·rw [List.getElem?_eq_none (by simp; omega)]
       rfl
    have e7 : ngF (sT (Bg (hF pl) (nF b) d) t i) b.Strokes.length - 1 = ngF (sT (Bg (hF pl) (nF b) d) t (i + 1)) b.Strokes.length := by
     refine vl (i := i) ?_ ?_ ?_ hin
     ·rw [ev, e2]; omega
     ·unfold sT fT
      rw [if_pos (Nat.lt_succ_self _), if_pos (by omega)]
      omega
     ·intro k hk
      unfold sT
      by_cases h5 : k < i
      ·simp only [h5, show k < i + 1 by omega, if_true]
      ·simp only [h5, show ¬ k < i + 1 by omega, if_false]
    have lG := ngF_b (sT (Bg (hF pl) (nF b) d) t (i + 1)) b.Strokes.length
    rw [fk (by omega) (by omega), e7, e6]
    exact ih
   ·rw [if_neg (fun h => h3 (hr.1 h))]
    simp only [lbind, cond_false]
    rw [vj (i := i) (by omega)]
    exact ih
theorem Sim6.l0 : ∀ (k : Nat) (t : Int), 0 ≤ t → t ≤ 200 → 90 < t + k → ∃ c : Int × Int, mr ((List.range' 0 b.Strokes.length).map (foL b pl)) pl hs (k + 1) (ngF (sT (Bg (hF pl) (nF b) d) t 0) b.Strokes.length) t ((List.range b.Strokes.length).map (sT (Bg (hF pl) (nF b) d) t 0)) =
   some (.go (c.1, c.2, (List.range b.Strokes.length).map (Bg (hF pl) (nF b) d))) := by
 have fin : ∀ t : Int, (∀ j, j < b.Strokes.length → Bg (hF pl) (nF b) d j < t) → (List.range b.Strokes.length).map (sT (Bg (hF pl) (nF b) d) t 0) = (List.range b.Strokes.length).map (Bg (hF pl) (nF b) d) := by
  intro t h
  refine List.map_congr_left fun j hj => ?_
  unfold sT fT
  rw [if_neg (Nat.not_lt_zero _), if_pos (h j (List.mem_range.1 hj))]
 have stop : ∀ (k : Nat) (t : Int), ngF (sT (Bg (hF pl) (nF b) d) t 0) b.Strokes.length ≤ 0 → ∃ c : Int × Int, mr ((List.range' 0 b.Strokes.length).map (foL b pl)) pl hs (k + 1) (ngF (sT (Bg (hF pl) (nF b) d) t 0) b.Strokes.length) t ((List.range b.Strokes.length).map (sT (Bg (hF pl) (nF b) d) t 0)) =
   some (.go (c.1, c.2, (List.range b.Strokes.length).map (Bg (hF pl) (nF b) d))) := by
  intro k t hz
  refine ⟨(ngF (sT (Bg (hF pl) (nF b) d) t 0) b.Strokes.length, t), ?_⟩
  simp only [mr]
  rw [decide_eq_false (by omega), cond_false, fin t ?_]
  intro j hj
  have h1 := vk hz j hj
  unfold sT fT at h1
  rw [if_neg (Nat.not_lt_zero _)] at h1
  split at h1
  ·assumption
  ·omega
 intro k
 induction k with
 | zero =>
  intro t h0 h1 h2
  refine stop 0 t ?_
  rw [qa ?_]
  ·exact Int.le_refl _
  ·intro j hj
   have := S.Bb j hj
   unfold sT fT
   rw [if_neg (Nat.not_lt_zero _), if_pos (by omega)]
   exact this.1
 | succ k ih =>
  intro t h0 h1 h2
  by_cases hz : ngF (sT (Bg (hF pl) (nF b) d) t 0) b.Strokes.length ≤ 0
  ·exact stop (k + 1) t hz
  ·have h6 := S.n6
   have ht : t ≤ 90 := by
    by_cases hh : t ≤ 90
    ·exact hh
    ·exfalso
     refine hz ?_
     rw [qa ?_]
     ·exact Int.le_refl _
     ·intro j hj
      have := S.Bb j hj
      unfold sT fT
      rw [if_neg (Nat.not_lt_zero _), if_pos (by omega)]
      exact this.1
   obtain ⟨c, ec⟩ := ih (t + 1) (by omega) (by omega) (by omega)
   refine ⟨c, ?_⟩
   have e1 := S.l1 h0 (by omega) pl 0 (by have := S.hp; omega)
   have en : ∀ j, j < b.Strokes.length → sT (Bg (hF pl) (nF b) d) t b.Strokes.length j = sT (Bg (hF pl) (nF b) d) (t + 1) 0 j := by
    intro j hj
    unfold sT
    rw [if_pos hj, if_neg (Nat.not_lt_zero _)]
   rw [x5 en, List.map_congr_left (fun j hj => en j (List.mem_range.1 hj))] at e1
   rw [mr, decide_eq_true (by omega), cond_true, gA (by have := S.hp; omega), cond_true]
   rw [show lp ((List.range' 0 b.Strokes.length).map (foL b pl)) pl hs t pl 0 _ _ = _ from e1]
   simp only [lbind]
   rw [fk (by omega) (by omega)]
   exact ec
theorem Sim6.begins : vn b pl hs = some ((List.range b.Strokes.length).map (Bg (hF pl) (nF b) d)) := by
 have h6 := S.n6
 have hp := S.hp
 unfold vn
 rw [show mkOk 8 (pl.length : Int) = true by rw [G5]; omega, cond_true, show mkOk 24 (pl.length : Int) = true by rw [G5]; omega, cond_true, gA (by omega), cond_true]
 have e1 := vi S.hL S.hp S.n6 b.Strokes.length 0 [] (by omega)
 simp only [List.replicate_zero, List.nil_append] at e1
 rw [Int.toNat_natCast, hp]
 rw [show ll b pl b.Strokes.length 0 [] (List.replicate b.Strokes.length 0) = _ from e1]
 simp only [Option.bind_some]
 obtain ⟨c, ec⟩ := S.l0 999999 0 (Int.le_refl _) (by omega) (by omega)
 have hneg : ∀ j, j < b.Strokes.length → sT (Bg (hF pl) (nF b) d) 0 0 j = -1 := by
  intro j hj
  have := S.Bb j hj
  unfold sT fT
  rw [if_neg (Nat.not_lt_zero _), if_neg (by omega)]
 have e2 : (List.range b.Strokes.length).map (sT (Bg (hF pl) (nF b) d) 0 0) = List.replicate b.Strokes.length (-1) := by
  rw [List.eq_replicate_iff]
  exact ⟨by simp, fun x hx => by obtain ⟨j, hj, rfl⟩ := List.mem_map.1 hx; exact hneg j (List.mem_range.1 hj)⟩
 have e3 : ∀ n, ngF (fun _ => -1) n = n := by
  intro n
  induction n with
  | zero => rfl
  | succ n ih => unfold ngF; rw [ih, if_pos (by omega)]; omega
 rw [e2, x5 (w := fun _ => -1) hneg, e3] at ec
 rw [show mr ((List.range' 0 b.Strokes.length).map (foL b pl)) pl hs 1000000 (b.Strokes.length : Int) 0 (List.replicate b.Strokes.length (-1)) = _ from ec]
 rfl
theorem Sim6.ended_l0 : ∀ (k i : Nat), i ≤ b.Strokes.length → b.Strokes.length < i + k → ∃ c : Int, qb hs k i ((List.range b.Strokes.length).map fun j => if j < i then Ed (hF pl) (nF b) d j else Bg (hF pl) (nF b) d j) = some (.go (c, (List.range b.Strokes.length).map (Ed (hF pl) (nF b) d)))
 | 0, i, h, h2 => absurd h2 (by omega)
 | k + 1, i, h, h2 => by
  have h6 := S.n6
  simp only [qb, List.length_map, List.length_range]
  by_cases hi : i < b.Strokes.length
  ·have hB := S.Bb i hi
   have hd := S.d0 i
   rw [decide_eq_true (by omega), cond_true, getMap _ (by omega) (by omega), Int.toNat_natCast, if_neg (Nat.lt_irrefl _), S.hh i hi]
   simp only [Option.bind_some]
   rw [fk (n := Bg (hF pl) (nF b) d i + d i) (by omega) (by omega), ← Ed_eq S.hn, fk (by omega) (by omega), show ((i : Int) + 1) = ((i + 1 : Nat) : Int) by omega]
   have e6 : List.set ((List.range b.Strokes.length).map fun j => if j < i then Ed (hF pl) (nF b) d j else Bg (hF pl) (nF b) d j) i (Ed (hF pl) (nF b) d i) = (List.range b.Strokes.length).map fun j => if j < i + 1 then Ed (hF pl) (nF b) d j else Bg (hF pl) (nF b) d j := by
    refine List.ext_getElem? fun q => ?_
    rw [List.getElem?_set, List.getElem?_map, List.getElem?_map]
    by_cases hk : i = q
    ·subst hk
     rw [if_pos rfl, if_pos (by simpa using hi), List.getElem?_range hi]
     simp
    ·rw [if_neg hk]
     by_cases hkn : q < b.Strokes.length
     ·rw [List.getElem?_range hkn]
      simp only [Option.map_some, Option.some.injEq]
      by_cases h5 : q < i
      ·simp only [h5, show q < i + 1 by omega, if_true]
      ·simp only [h5, show ¬ q < i + 1 by omega, if_false]
     ·rw [List.getElem?_eq_none (by simp; omega)]
      rfl
   rw [e6]
   exact Sim6.ended_l0 k (i + 1) (by omega) (by omega)
  ·rw [decide_eq_false (by omega), cond_false]
   refine ⟨i, ?_⟩
   congr 3
   refine List.map_congr_left fun j hj => ?_
   rw [if_pos (by have := List.mem_range.1 hj; omega)]
theorem Sim6.ended : vo b pl hs = some ((List.range b.Strokes.length).map (Ed (hF pl) (nF b) d)) := by
 have h6 := S.n6
 unfold vo
 rw [S.begins]
 simp only [Option.bind_some]
 rw [gA (by simp; omega), cond_true]
 obtain ⟨c, ec⟩ := S.ended_l0 1000000 0 (Nat.zero_le _) (by omega)
 have e : ((List.range b.Strokes.length).map fun j => if j < 0 then Ed (hF pl) (nF b) d j else Bg (hF pl) (nF b) d j) = (List.range b.Strokes.length).map (Bg (hF pl) (nF b) d) := List.map_congr_left fun j _ => if_neg (Nat.not_lt_zero _)
 rw [e] at ec
 rw [show qb hs 1000000 0 ((List.range b.Strokes.length).map (Bg (hF pl) (nF b) d)) = _ from ec]
 rfl
end
theorem G6 {b : GBk} (h : Len b) (hB : BOk b) {pl : List Int} (hp : pl.length = b.Strokes.length) (hi : Bool) : Sim6 b pl (hrL b hi) (dF b (if hi then 1 else 0)) :=
 ⟨h, hB.ns.2, hp, hB.h.nd, fun k => hB.h.d _ k, fun k hk => by rw [G2 hi (by omega) (by omega), Int.toNat_natCast]⟩
end Go.V
end
section
namespace Go.V
open Go Go.Proofs IntKind






theorem G7 (a e : Int) : (if a < e then e else a) = max a e := by split <;> omega
theorem Qc {b : GBk} (h : Len b) : qV b = some false ∨ qV b = some true := by
 unfold qV
 rw [gA h.st, cond_true]
 rcases Mv b.Strokes 0 with e | e
 ·rw [e]
  simp only [lbind]
  cases (decide ((b.Boards.length : Int) ≤ 5)) with
  | false => exact .inl rfl
  | true => cases (decide ((b.Strokes.length : Int) ≤ 8)) <;> simp
 ·rw [e]; exact .inl rfl

def rH  : List Int → Int → Int → Option (LOut (Int) (Int))
 | [], h9, cC => some (.go cC)
 | e0 :: p0, h9, cC => rH p0 (h9 + 1) (if cC < e0 then e0 else cC)
def x7 (bI : List Int) : Option (Int) := cond (aO bI) (lbind (rH bI 0 0) (fun r2 => some r2) (fun c1 => some c1) (fun _ _ => none)) none
theorem QK (bI : List Int) (R : Int) (h : x7 bI = some R) : ak Tryz.prog G0 90 [.sl (ae eI bI) (List.length bI) false] (.tree (.lit (.int .i64 R))) := by
 refine ak.runR mixed Tryz.call90 Tryz.func90 rfl (by simp [Tryz.ntmps90]; kernel_rfl) ?_
 obtain ⟨KF, h, kF, kN⟩ := cV h
 simp only [x7] at h
 cases g4 : (aO bI)
 ·simp only [g4, hs] at h
  exact absurd h kN
 simp only [g4, hs] at h
 simp only [vz, tyf, g4, nm, seval]
 obtain ⟨K3, h, qW, jR, wO, mV⟩ := fZ h kN
 obtain ⟨f3, lN, h⟩ := call3 h
 obtain ⟨I3, fx⟩ : ∃ I : Nat → St → Prop, I = (fun m st => ∃ (p3 : List Int) (hC : Int) (ck : Int), m = List.length p3 ∧ 0 ≤ hC ∧ List.drop (Int.toNat hC) bI = p3 ∧ st.df = [] ∧ 3 ≤ st.nx ∧ st.tm 0 = .sl (ae eI bI) (List.length bI) false ∧ st.tm 3 = .lit (.int .i64 ck) ∧ st.tm 4 = .lit (.int .i64 hC) ∧ K3 (f3 p3 hC ck)) := ⟨_, rfl⟩
 refine loopK mixed (by kernel_rfl) I3 (List.length bI) (by rw [fx]; refine ⟨bI, 0, 0, rfl, Int.le_refl _, rfl, rfl, (show 3 ≤ 3 by omega), ?_, ?_, ?_, h⟩ <;> first | (simp only [ua, nm, seval] <;> rfl) | rfl) ?_
 rintro m ⟨tm, H, eN, df⟩ hinv
 rw [fx] at hinv
 obtain ⟨p3, hC, ck, rfl, cu, cQ, hdf, lO, e5, e6, e7, h⟩ := hinv
 simp only at hdf lO e5 e6 e7
 have n8 := eR (m := 3) (b := eN) (by omega)
 subst hdf lN
 cases p3 with
 | nil =>
  have d9 : (decide (hC < (List.length bI : Int))) = false := ga cu cQ
  simp only [rH, hs, reduceCtorEq] at h
  replace h := jR _ h
  try dsimp only at h
  try simp only [hs] at h
  try simp only [vz, tyf, g4, n8, e5, e6, e7, d9, nm, seval]
  refine cn (x := (.lit (.int .i64 ck))) (by first | (simp only [Tryz.results90, resV, resL, aR, cw, cv, uw, cr, tyf, g4, n8, d9, nm, seval] <;> rfl) | rfl) ?_
  obtain rfl := kF _ h
  refine eJ ?_ ?_
  ·simp only [tre, tytre, Bool.and_self]
  ·first | (simp only [outV, uw, eD, cr, tyf, nrm, aN, g4, n8, e5, e6, e7, d9, nm, seval] <;> rfl) | rfl
 | cons e3 p3 =>
  have gM : (decide (hC < (List.length bI : Int))) = true := gb cu cQ
  have kQ := eT cu cQ
  have rI := fG cu cQ g4
  simp only [rH, hs, reduceCtorEq] at h
  simp only [vz, tyf, g4, n8, e5, e6, e7, gM, (aY kQ), rI, nm, seval]
  exact ⟨List.length p3, Nat.lt_succ_self _, by rw [fx]; refine ⟨p3, hC + 1, (if ck < e3 then e3 else ck), rfl, Int.le_trans cu (Int.le_add_one (Int.le_refl _)), cG cu cQ, rfl, (show 3 ≤ eN + 14 by omega), e5, ?_, ?_, (by first | exact h | (simp only [gM]; exact h))⟩ <;> first | (simp only [ua, n8, e5, e6, e7, gM, rI, nm, seval] <;> rfl) | rfl⟩
def nv (al : GBk) (an : List Int) : Option (Int) := Option.bind (vh al true) (fun r1 => Option.bind (vo al an r1) (fun r2 => Option.bind (x7 r2) (fun r3 => some r3)))
theorem xo (al : GBk) (an : List Int) (R : Int) (h : nv al an = some R) : ak Tryz.prog G0 54 [.agg (cGBk al), .sl (ae eI an) (List.length an) false] (.tree (.lit (.int .i64 R))) := by
 refine ak.runR mixed Tryz.call54 Tryz.func54 rfl (by simp [Tryz.ntmps54]; kernel_rfl) ?_
 obtain ⟨KF, h, kF, kN⟩ := cV h
 simp only [nv] at h
 simp only [vz, tyf, nm, seval]
 refine kL (fun tm => tm 1 = .sl (ae eI an) (List.length an) false ∧ tm 2 = .ptr 0 0 ∧ True) (by refine ⟨?_, ?_, trivial⟩ <;> first | (simp only [ua, nm, seval] <;> rfl) | rfl) ?_
 rintro tm ⟨e4, e5, _⟩
 obtain ⟨r6, o7, h⟩ := optI h kN
 try simp only [hs] at h
 simp only [vz, tyf, e4, e5, nm, seval]
 refine dktA (QL _ _ _ o7) ?_
 refine bS (fun tm => tm 5 = .agg (cGBk al) ∧ tm 6 = .sl (ae eI an) (List.length an) false ∧ tm 8 = .sl (ae eI r6) (List.length r6) false ∧ True) (by refine ⟨?_, ?_, ?_, trivial⟩ <;> first | (simp only [ua, e4, e5, nm, seval] <;> rfl) | rfl) ?_
 rintro tm ⟨e8, e9, bB, _⟩
 obtain ⟨mX, kQ, h⟩ := optI h kN
 try simp only [hs] at h
 simp only [vz, tyf, e8, e9, bB, nm, seval]
 refine dktA (QM _ _ _ _ kQ) ?_
 refine bS (fun tm => tm 9 = .sl (ae eI mX) (List.length mX) false ∧ True) (by refine ⟨?_, trivial⟩ <;> first | (simp only [ua, e8, e9, bB, nm, seval] <;> rfl) | rfl) ?_
 rintro tm ⟨bx, _⟩
 obtain ⟨pa, lI, h⟩ := optI h kN
 try simp only [hs] at h
 simp only [vz, tyf, bx, nm, seval]
 refine dktA (QK _ _ lI) ?_
 refine bS (fun tm => tm 10 = .lit (.int .i64 pa) ∧ True) (by refine ⟨?_, trivial⟩ <;> first | (simp only [ua, bx, nm, seval] <;> rfl) | rfl) ?_
 rintro tm ⟨bF, _⟩
 try simp only [vz, tyf, bF, nm, seval]
 refine cn (x := (.lit (.int .i64 pa))) (by first | (simp only [Tryz.results54, resV, resL, aR, cw, cv, uw, cr, tyf, nm, seval] <;> rfl) | rfl) ?_
 obtain rfl := kF _ h
 refine eJ ?_ ?_
 ·simp only [tre, tytre, Bool.and_self]
 ·first | (simp only [outV, uw, eD, cr, tyf, nrm, aN, bF, nm, seval] <;> rfl) | rfl

theorem Mw : ∀ (p : List Int) (c a : Int), rH p c a = some (.go (p.foldl max a))
 | [], _, _ => rfl
 | e :: p, c, a => by rw [rH, Mw p, G7]; rfl
theorem Mx (f : Nat → Int) : ∀ n : Nat, ((List.range n).map f).foldl max 0 = tkF f n
 | 0 => rfl
 | n + 1 => by rw [List.range_succ, List.map_append, List.foldl_append, Mx f n]; rfl
theorem EW {b : GBk} (h : Len b) (hB : BOk b) {pl : List Int} (hp : pl.length = b.Strokes.length) : nv b pl = some (TK b pl) := by
 have hn := hB.ns
 have e1 := (G6 h hB hp true).ended
 unfold nv
 rw [hr_eq hB]
 simp only [Option.bind_some, e1, if_true]
 unfold x7
 rw [gA (by simp; omega), cond_true, Mw, Mx]
 rfl
end Go.V
end
section
namespace Go.V
open Go Go.Proofs IntKind
end Go.V
namespace Go.V
theorem va {α : Type} : ((([] : List α).length : Nat) : Int) = 0 := rfl
end Go.V
namespace Go.V
open Go Go.Proofs IntKind
end Go.V
end
section
namespace Go.V
open Go Go.Proofs IntKind
set_option maxRecDepth 4000
set_option maxHeartbeats 40000000
theorem joinR {R A : Prop} (hk : R) (hm : R → A) : A := hm hk
theorem My {n : Nat} (h : n ≤ 100000) : aE 8 n = true := by simp [aE]; omega
theorem me {n : Nat} (h : n ≤ 100000) : aE 24 n = true := by simp [aE]; omega
def ltF (b : GBk) (i : Nat) : Int := match b.Strokes[i]? with
 | some s => if s.Round then 0 else b.Apprentices
 | none => 0
def exF (x : List Int) (c : Nat) : List (List Int) := (List.range c).map (fun (n : Nat) => x ++ [(n : Int)])
def nxF (lt : Int) (L : List (List Int)) : List (List Int) := L.flatMap (fun x => exF x (lt.toNat + 1))
def plF (b : GBk) : Nat → List (List Int)
 | 0 => [[]]
 | i + 1 => nxF (ltF b i) (plF b i)
def rp (b : GBk) : Option (List (List Int)) := cond (decide (0 ≤ b.Apprentices) && decide (b.Apprentices ≤ 3) && decide (b.Strokes.length ≤ 6)) (some (plF b b.Strokes.length)) none
theorem vp {x : List Int} {c : Nat} : (exF x c).length = c := by simp [exF]
theorem G8 {x : List Int} {c : Nat} : exF x (c + 1) = exF x c ++ [x ++ [(c : Int)]] := by simp [exF, List.range_succ]
theorem xB {lt : Int} : ∀ (L : List (List Int)), (nxF lt L).length = L.length * (lt.toNat + 1)
 | [] => by simp [nxF]
 | x :: L => by
   have := xB (lt := lt) L
   simp only [nxF, List.flatMap_cons, List.length_append, vp, List.length_cons] at this ⊢
   rw [this, Nat.succ_mul]; omega
theorem G9 {lt : Int} {L : List (List Int)} {k : Nat} {x : List Int} (h : L[k]? = some x) : nxF lt (L.take (k + 1)) = nxF lt (L.take k) ++ exF x (lt.toNat + 1) := by
 rw [List.take_add_one, h]; simp [nxF]
theorem ltF_b {b : GBk} (h0 : 0 ≤ b.Apprentices) (h3 : b.Apprentices ≤ 3) (i : Nat) : 0 ≤ ltF b i ∧ ltF b i ≤ 3 := by
 unfold ltF
 split
 ·split <;> omega
 ·omega
theorem pQ {b : GBk} (h0 : 0 ≤ b.Apprentices) (h3 : b.Apprentices ≤ 3) : ∀ (i : Nat), 0 < (plF b i).length ∧ (plF b i).length ≤ 4 ^ i
 | 0 => by simp [plF]
 | i + 1 => by
   obtain ⟨h1, h2⟩ := pQ h0 h3 i
   obtain ⟨l0, l3⟩ := ltF_b h0 h3 i
   rw [plF, xB]
   exact ⟨Nat.mul_pos h1 (by omega), by rw [Nat.pow_succ]; exact Nat.mul_le_mul h2 (by omega)⟩
theorem xl {b : GBk} : ∀ (i : Nat), ∀ x ∈ plF b i, x.length = i
 | 0, x, h => by simp [plF] at h; subst h; rfl
 | i + 1, x, h => by
   rw [plF, nxF, List.mem_flatMap] at h
   obtain ⟨y, hy, hx⟩ := h
   simp only [exF, List.mem_map] at hx
   obtain ⟨n, _, rfl⟩ := hx
   simp [xl i y hy]
theorem QN (b : GBk) (R : List (List Int)) (h : rp b = some R) : ak Tryz.prog G0 89 [.agg (cGBk b)] (.tree (.sl (ae (eSl eI) R) (List.length R) false)) := by
 refine ak.runR mixed Tryz.call89 Tryz.func89 rfl (by simp [Tryz.ntmps89]; kernel_rfl) ?_
 unfold rp at h
 cases hc : (decide (0 ≤ b.Apprentices) && decide (b.Apprentices ≤ 3) && decide (b.Strokes.length ≤ 6)) with
 | false => rw [hc] at h; cases h
 | true =>
 rw [hc] at h
 obtain rfl := Option.some.inj h
 simp only [Bool.and_eq_true, decide_eq_true_eq] at hc
 obtain ⟨⟨rn, uR⟩, hS⟩ := hc
 simp only [vz, tyf, nm, seval]
 obtain ⟨I0, GA⟩ : ∃ I : Nat → St → Prop, I = (fun m st => ∃ (i β : Nat) (el : Option TypeId), m = b.Strokes.length - i ∧ i ≤ b.Strokes.length ∧ st.df = [] ∧ 5 ≤ st.nx ∧ β < st.nx ∧ β ≠ 0 ∧ st.H 0 = some (.cells (some 25) (cGBk b)) ∧ st.H β = some (.cells el (ae (eSl eI) (plF b i))) ∧ st.tm 1 = .ptr 0 0 ∧ st.tm 3 = .ref β 0 (plF b i).length 1 (plF b i).length ∧ st.tm 4 = .lit (.int .i64 i)) := ⟨_, rfl⟩
 refine VWp.normO (β := 2) (el := some 22) (cs := [.lit (.slice none 0 0)]) (cs' := ae (eSl eI) [[]]) (by first | rfl | (simp only [aK, nm, seval]; done)) (by first | rfl | (simp only [nrm, aN]; rfl)) ?_
 refine loopK mixed (by kernel_rfl) I0 b.Strokes.length (by rw [GA]; refine ⟨0, 2, some 22, by omega, by omega, rfl, by simp, (by dsimp only; omega), by omega, ?_, ?_, ?_, ?_, ?_⟩ <;> first | (simp only [ua, nm, seval] <;> rfl) | rfl | (simp only [nm, seval]; done)) ?_
 rintro m ⟨tm, H, nx, df⟩ hinv
 rw [GA] at hinv
 obtain ⟨i, β, el, hm, hi, hdf, hnx, lq, QO, H0, Hβ, e1, e3, e4⟩ := hinv
 simp only at hdf hnx lq H0 Hβ e1 e3 e4
 subst hdf
 have n1 := eR (m := 5) (b := nx) (by omega)
 have q1 := fK lq
 have q2 := ne_f QO
 by_cases hlt : i < b.Strokes.length
 rotate_left
 ·obtain rfl : i = b.Strokes.length := by omega
  have d : decide (((b.Strokes.length : Nat) : Int) < (b.Strokes.length : Int)) = false := by simp
  simp only [vz, tyf, n1, e1, e3, e4, H0, q1, Hβ, q2, d, nm, seval]
  refine cn (x := (.ref β 0 (plF b b.Strokes.length).length 1 (plF b b.Strokes.length).length)) (by first | (simp only [Tryz.results89, resV, resL, aR, cw, cv, uw, cr, tyf, n1, H0, q1, Hβ, q2, d, nm, seval] <;> rfl) | rfl) ?_
  refine eJ ?_ ?_
  ·simp only [tre, tytre, Bool.and_self]
  ·first | (simp only [outV, uw, eD, cr, tyf, nrm, aN, n1, e1, e3, e4, H0, q1, Hβ, q2, d, nm, seval] <;> rfl) | rfl
 ·have d : decide ((i : Int) < (b.Strokes.length : Int)) = true := by simp; omega
  have o : getI b.Strokes (i : Int) = some b.Strokes[i] := by
   unfold getI
   rw [if_pos (by omega), Int.toNat_natCast, List.getElem?_eq_getElem hlt]
  have jl : ltF b i = if b.Strokes[i].Round then 0 else b.Apprentices := by unfold ltF; rw [List.getElem?_eq_getElem hlt]
  have w : i64.wrap ((i : Int) + 1) = ((i + 1 : Nat) : Int) := by rw [fk (by omega) (by omega)]; omega
  obtain ⟨Tn, To⟩ := ltF_b rn uR i
  obtain ⟨L1, L2⟩ := pQ rn uR i
  have L3 : (plF b i).length ≤ 4096 := Nat.le_trans L2 (Nat.pow_le_pow_right (n := 4) (by omega) (show i ≤ 6 by omega))
  have hmem := xl (b := b) i
  have qc : plF b (i + 1) = nxF (ltF b i) (plF b i) := rfl
  generalize plF b i = L at *
  generalize ltF b i = lt at *
  refine joinR (R := ∀ (tm : Nat → VV) (fg : Nat), nx ≤ fg → tm 1 = .ptr 0 0 → tm 3 = .ref β 0 L.length 1 L.length → tm 4 = .lit (.int .i64 i) → tm 5 = .lit (.int .i64 lt) → tm 6 = .lit (.slice none 0 0) → tm 7 = .lit (.int .i64 0) → CWp Tryz.prog (G0.at (some none)) Tryz.f89.ntmps ?cc ?qq ⟨tm, H, fg, []⟩) ?hk ?hm
  case hm =>
   intro key
   cases hr : b.Strokes[i].Round with
   | false =>
    simp only [hr] at jl
    simp only [vz, tyf, n1, e1, e3, e4, H0, q1, Hβ, q2, d, (bd o), (mA o), hr, nm, seval]
    refine key _ _ ?_ ?_ ?_ ?_ ?_ ?_ ?_
    ·omega
    all_goals first | (simp only [ua, e1, e3, e4, jl, nm, seval] <;> rfl) | (simp only [ua, e1, e3, e4, jl, nm, seval]; done) | rfl
   | true =>
    simp only [hr] at jl
    simp only [vz, tyf, n1, e1, e3, e4, H0, q1, Hβ, q2, d, (bd o), (mA o), hr, nm, seval]
    refine key _ _ ?_ ?_ ?_ ?_ ?_ ?_ ?_
    ·omega
    all_goals first | (simp only [ua, e1, e3, e4, jl, nm, seval] <;> rfl) | (simp only [ua, e1, e3, e4, jl, nm, seval]; done) | rfl
  intro tm fg QP e1 e3 e4 e5 e6 e7
  obtain ⟨I1, kC⟩ : ∃ I : Nat → St → Prop, I = (fun m st => ∃ (k : Nat) (N : List (List Int)) (v : VV), m = L.length - k ∧ k ≤ L.length ∧ N = nxF lt (L.take k) ∧ st.df = [] ∧ fg ≤ st.nx ∧ st.H 0 = some (.cells (some 25) (cGBk b)) ∧ st.H β = some (.cells el (ae (eSl eI) L)) ∧ st.tm 1 = .ptr 0 0 ∧ st.tm 3 = .ref β 0 L.length 1 L.length ∧ st.tm 4 = .lit (.int .i64 i) ∧ st.tm 5 = .lit (.int .i64 lt) ∧ st.tm 6 = v ∧ st.tm 7 = .lit (.int .i64 k) ∧ ((∃ (γ : Nat) (el : Option TypeId), v = .ref γ 0 N.length 1 N.length ∧ γ < st.nx ∧ γ ≠ 0 ∧ γ ≠ β ∧ st.H γ = some (.cells el (ae (eSl eI) N))) ∨ (v = .lit (.slice none 0 0) ∧ N = []))) := ⟨_, rfl⟩
  refine loopK mixed (by kernel_rfl) I1 L.length (by rw [kC]; exact ⟨0, [], .lit (.slice none 0 0), rfl, Nat.zero_le _, rfl, rfl, Nat.le_refl _, H0, Hβ, e1, e3, e4, e5, e6, e7, .inr ⟨rfl, rfl⟩⟩) ?_
  rintro m1 ⟨tm, H, nx, df⟩ hinv
  rw [kC] at hinv
  obtain ⟨k, N, v, Tp, hk, hN, hdf, hnx, H0, Hβ, e1, e3, e4, e5, e6, e7, hv⟩ := hinv
  simp only at hdf hnx H0 Hβ e1 e3 e4 e5 e6 e7 hv
  subst hdf
  have n1 := eR (m := 5) (b := nx) (by omega)
  have q1 := fK (β := β) (nx := nx) (by omega)
  by_cases hkl : k < L.length
  rotate_left
  ·obtain rfl : k = L.length := by omega
   have d1 : decide (((L.length : Nat) : Int) < (L.length : Int)) = false := by simp
   rw [List.take_length] at hN
   have hNl : 0 < N.length := by rw [hN, xB]; exact Nat.mul_pos L1 (by omega)
   rcases hv with ⟨γ, elγ, rfl, lg, rJ, lgβ, Hγ⟩ | ⟨_, rfl⟩
   rotate_left
   ·exact absurd hNl (by simp)
   have q3 := fK lg
   have q4 := ne_f rJ
   have q5 := ne_f lgβ
   simp only [vz, tyf, n1, e1, e3, e4, e5, e6, e7, H0, q1, Hβ, q2, q3, q4, q5, Hγ, d1, w, nm, seval]
   refine ⟨b.Strokes.length - (i + 1), by omega, ?_⟩
   rw [GA]
   rw [hN, ← qc] at Hγ e6
   refine ⟨i + 1, γ, elγ, rfl, by omega, rfl, ?_, ?_, rJ, H0, ?_, ?_, ?_, ?_⟩
   ·dsimp only; omega
   ·dsimp only; omega
   all_goals first | (simp only [ua, n1, e1, e3, e4, e5, e6, e7, H0, q1, Hβ, q2, q3, q4, q5, Hγ, hN, qc, w, nm, seval] <;> rfl) | (simp only [ua, n1, e1, e3, e4, e5, e6, e7, H0, q1, Hβ, q2, q3, q4, q5, Hγ, hN, qc, w, nm, seval]; done) | rfl
  ·have d1 : decide ((k : Int) < (L.length : Int)) = true := by simp; omega
   have o1 : getI L (k : Int) = some L[k] := by
    unfold getI
    rw [if_pos (by omega), Int.toNat_natCast, List.getElem?_eq_getElem hkl]
   have hgk : L[k]? = some L[k] := List.getElem?_eq_getElem hkl
   have hxl : L[k].length = i := hmem _ (List.getElem_mem hkl)
   have w1 : i64.wrap ((k : Int) + 1) = ((k + 1 : Nat) : Int) := by rw [fk (by omega) (by omega)]; omega
   simp only [vz, tyf, n1, e1, e3, e4, e5, e6, e7, H0, q1, Hβ, q2, d1, (bh o1), (bE o1), nm, seval]
   generalize L[k] = x at *
   obtain ⟨I2, lu⟩ : ∃ I : Nat → St → Prop, I = (fun m st => ∃ (c : Nat) (N : List (List Int)) (v : VV), m = lt.toNat + 1 - c ∧ c ≤ lt.toNat + 1 ∧ N = nxF lt (L.take k) ++ exF x c ∧ st.df = [] ∧ nx ≤ st.nx ∧ st.H 0 = some (.cells (some 25) (cGBk b)) ∧ st.H β = some (.cells el (ae (eSl eI) L)) ∧ st.tm 1 = .ptr 0 0 ∧ st.tm 3 = .ref β 0 L.length 1 L.length ∧ st.tm 4 = .lit (.int .i64 i) ∧ st.tm 5 = .lit (.int .i64 lt) ∧ st.tm 6 = v ∧ st.tm 7 = .lit (.int .i64 k) ∧ st.tm 8 = .lit (.int .i64 c) ∧ ((∃ (γ : Nat) (el : Option TypeId), v = .ref γ 0 N.length 1 N.length ∧ γ < st.nx ∧ γ ≠ 0 ∧ γ ≠ β ∧ st.H γ = some (.cells el (ae (eSl eI) N))) ∨ (v = .lit (.slice none 0 0) ∧ N = []))) := ⟨_, rfl⟩
   refine loopKG mixed (by kernel_rfl) I2 (lt.toNat + 1) (by
    rw [lu]
    refine ⟨0, N, v, rfl, Nat.zero_le _, by simp [hN, exF], rfl, by dsimp only; omega, H0, Hβ, ?_, ?_, ?_, ?_, ?_, ?_, ?_, ?_⟩
    rotate_right
    ·rcases hv with ⟨γ, elγ, h1, h2, h3, h4, h5⟩ | h
     ·exact .inl ⟨γ, elγ, h1, by dsimp only; omega, h3, h4, h5⟩
     ·exact .inr h
    all_goals first | (simp only [ua, e1, e3, e4, e5, e6, e7, nm, seval] <;> rfl) | (simp only [ua, e1, e3, e4, e5, e6, e7, nm, seval]; done) | rfl) ?_
   rintro m2 ⟨tm, H, eK, df⟩ hinv
   rw [lu] at hinv
   clear hv hN e1 e3 e4 e5 e6 e7 H0 Hβ
   obtain ⟨c, N, v, Tq, hc, hN, hdf, GB, H0, Hβ, e1, e3, e4, e5, e6, e7, e8, hv⟩ := hinv
   simp only at hdf GB H0 Hβ e1 e3 e4 e5 e6 e7 e8 hv
   subst hdf
   have n2 := eR (m := 5) (b := eK) (by omega)
   have q6 := fK (β := β) (nx := eK) (by omega)
   by_cases hcl : c < lt.toNat + 1
   rotate_left
   ·obtain rfl : c = lt.toNat + 1 := by omega
    have d2 : decide (((lt.toNat + 1 : Nat) : Int) ≤ lt) = false := by simp; omega
    rw [← G9 hgk] at hN
    simp only [vz, tyf, n2, e1, e3, e4, e5, e6, e7, e8, H0, q6, Hβ, q2, d2, w1, nm, seval]
    refine ⟨L.length - (k + 1), by clear hv; omega, ?_⟩
    rw [kC]
    refine ⟨k + 1, N, v, rfl, hkl, hN, rfl, (by clear hv; dsimp only; omega), ?_, ?_, ?_, ?_, ?_, ?_, ?_, ?_, ?_⟩
    rotate_right
    ·rcases hv with ⟨γ, elγ, h1, h2, h3, h4, h5⟩ | h
     ·exact .inl ⟨γ, elγ, h1, by dsimp only; omega, h3, h4, h5⟩
     ·exact .inr h
    all_goals first | assumption | (simp only [ua, n2, e1, e3, e4, e5, e6, e7, e8, H0, q6, Hβ, q2, d2, w1, nm, seval] <;> rfl) | (simp only [ua, n2, e1, e3, e4, e5, e6, e7, e8, H0, q6, Hβ, q2, d2, w1, nm, seval]; done) | rfl
   ·have d2 : decide ((c : Int) ≤ lt) = true := by simp; omega
    have w2 : i64.wrap ((c : Int) + 1) = ((c + 1 : Nat) : Int) := by rw [fk (by omega) (by omega)]; omega
    have hNl : N.length ≤ 20000 := by
     rw [hN, List.length_append, xB, vp, List.length_take]
     have := Nat.mul_le_mul (show min k L.length ≤ 4096 by omega) (show lt.toNat + 1 ≤ 4 by omega)
     omega
    have rK : N ++ [x ++ [(c : Int)]] = nxF lt (L.take k) ++ exF x (c + 1) := by rw [hN, G8, List.append_assoc]
    have r1 : aE 8 (x ++ [(c : Int)]).length = true := My (by rw [List.length_append, hxl]; simp; omega)
    have r2 : aE 24 (N ++ [x ++ [(c : Int)]]).length = true := me (by simp; omega)
    cases hx : neB x with
    | false =>
     obtain rfl := Mz hx
     simp only [vz, tyf, n2, e1, e3, e4, e5, e6, e7, e8, H0, q6, Hβ, q2, d2, (bh o1), (bE o1), nm, seval]
     refine GC (enc := eI) (ys := []) de Tryz.underlying22 hx ?_
     simp only [vz, tyf, n2, e1, e3, e4, e5, e6, e7, e8, H0, q6, Hβ, q2, d2, (bh o1), (bE o1), xC, nm, seval]
     refine jG (w := 1) (enc := eI) (ys := ([(c : Int)])) (dE := (some 3)) (fun _ => rfl) dC de Tryz.underlying22 (by simp only [aK, bk, cT, nm, seval] <;> rfl) (Nat.zero_lt_succ _) r1 ?_
     simp only [vz, tyf, n2, e1, e3, e4, e5, e6, e7, e8, H0, q6, Hβ, q2, d2, (bh o1), (bE o1), xC, nm, seval]
     rcases hv with ⟨γ, elγ, rfl, lg, rJ, lgβ, Hγ⟩ | ⟨rfl, GD⟩
     ·have q3 := fK lg
      have q4 := ne_f rJ
      have q5 := ne_f lgβ
      refine vq (enc := (eSl eI)) (xs := N) (a := [] ++ [(c : Int)]) (y := .ref (eK + 11) 0 ([] ++ [(c : Int)]).length 1 ([] ++ [(c : Int)]).length) (el := elγ) (dE := some 22) (fun _ => rfl) ff Tryz.underlying71 (by first | rfl | assumption | (simp only [aK, bk, bw, n2, e1, e3, e4, e5, e6, e7, e8, H0, q6, Hβ, q2, d2, q3, q4, q5, Hγ, nm, seval] <;> rfl) | (simp only [aK, bk, bw, n2, e1, e3, e4, e5, e6, e7, e8, H0, q6, Hβ, q2, d2, q3, q4, q5, Hγ, nm, seval]; done)) (by first | rfl | assumption | (simp only [aK, bk, bw, n2, e1, e3, e4, e5, e6, e7, e8, H0, q6, Hβ, q2, d2, q3, q4, q5, Hγ, nm, seval] <;> rfl) | (simp only [aK, bk, bw, n2, e1, e3, e4, e5, e6, e7, e8, H0, q6, Hβ, q2, d2, q3, q4, q5, Hγ, nm, seval]; done)) rfl r2 ?_
      simp only [vz, tyf, n2, e1, e3, e4, e5, e6, e7, e8, H0, q6, Hβ, q2, d2, q3, q4, q5, Hγ, nm, seval]
      refine ⟨lt.toNat + 1 - (c + 1), by omega, _, Ghost.snocL (γ := eK + 11) (ε := eK + 13) (xs := N) (ys := [] ++ [(c : Int)]) (cp := ([] ++ [(c : Int)]).length) (by first | rfl | assumption | (simp only [aK, bk, bw, n2, e1, e3, e4, e5, e6, e7, e8, H0, q6, Hβ, q2, d2, q3, q4, q5, Hγ, nm, seval] <;> rfl) | (simp only [aK, bk, bw, n2, e1, e3, e4, e5, e6, e7, e8, H0, q6, Hβ, q2, d2, q3, q4, q5, Hγ, nm, seval]; done)) (by first | rfl | assumption | (simp only [aK, bk, bw, n2, e1, e3, e4, e5, e6, e7, e8, H0, q6, Hβ, q2, d2, q3, q4, q5, Hγ, nm, seval] <;> rfl) | (simp only [aK, bk, bw, n2, e1, e3, e4, e5, e6, e7, e8, H0, q6, Hβ, q2, d2, q3, q4, q5, Hγ, nm, seval]; done)) (by omega), ?_⟩
      rw [lu]
      refine ⟨c + 1, N ++ [[] ++ [(c : Int)]], .ref (eK + 13) 0 (N ++ [[] ++ [(c : Int)]]).length 1 (N ++ [[] ++ [(c : Int)]]).length, rfl, hcl, rK, rfl, (by dsimp only; omega), ?_, ?_, ?_, ?_, ?_, ?_, ?_, ?_, ?_, .inl ⟨eK + 13, sameEl elγ 22, rfl, (by dsimp only; omega), by omega, by omega, ?_⟩⟩
      all_goals first | assumption | (simp only [ua, aK, bk, n2, e1, e3, e4, e5, e6, e7, e8, H0, q6, Hβ, q2, d2, q3, q4, q5, Hγ, w2, nm, seval] <;> rfl) | (simp only [ua, aK, bk, n2, e1, e3, e4, e5, e6, e7, e8, H0, q6, Hβ, q2, d2, q3, q4, q5, Hγ, w2, nm, seval]; done) | rfl
     ·refine vr (y := .ref (eK + 11) 0 ([] ++ [(c : Int)]).length 1 ([] ++ [(c : Int)]).length) (dE := some 22) ff Tryz.underlying71 (by first | rfl | assumption | (simp only [aK, bk, bw, n2, e1, e3, e4, e5, e6, e7, e8, H0, q6, Hβ, q2, d2, nm, seval] <;> rfl) | (simp only [aK, bk, bw, n2, e1, e3, e4, e5, e6, e7, e8, H0, q6, Hβ, q2, d2, nm, seval]; done)) rfl (by rfl) ?_
      simp only [vz, tyf, n2, e1, e3, e4, e5, e6, e7, e8, H0, q6, Hβ, q2, d2, nm, seval]
      refine ⟨lt.toNat + 1 - (c + 1), by omega, _, Ghost.snocL (γ := eK + 11) (ε := eK + 13) (xs := []) (ys := [] ++ [(c : Int)]) (cp := ([] ++ [(c : Int)]).length) (by first | rfl | assumption | (simp only [aK, bk, bw, n2, e1, e3, e4, e5, e6, e7, e8, H0, q6, Hβ, q2, d2, nm, seval] <;> rfl) | (simp only [aK, bk, bw, n2, e1, e3, e4, e5, e6, e7, e8, H0, q6, Hβ, q2, d2, nm, seval]; done)) (by first | rfl | assumption | (simp only [aK, bk, bw, n2, e1, e3, e4, e5, e6, e7, e8, H0, q6, Hβ, q2, d2, nm, seval] <;> rfl) | (simp only [aK, bk, bw, n2, e1, e3, e4, e5, e6, e7, e8, H0, q6, Hβ, q2, d2, nm, seval]; done)) (by omega), ?_⟩
      rw [lu]
      rw [GD] at rK
      refine ⟨c + 1, [] ++ [[] ++ [(c : Int)]], .ref (eK + 13) 0 ([] ++ [[] ++ [(c : Int)]]).length 1 ([] ++ [[] ++ [(c : Int)]]).length, rfl, hcl, rK, rfl, (by dsimp only; omega), ?_, ?_, ?_, ?_, ?_, ?_, ?_, ?_, ?_, .inl ⟨eK + 13, some 22, rfl, (by dsimp only; omega), by omega, by omega, ?_⟩⟩
      all_goals first | assumption | (simp only [ua, aK, bk, n2, e1, e3, e4, e5, e6, e7, e8, H0, q6, Hβ, q2, d2, w2, nm, seval] <;> rfl) | (simp only [ua, aK, bk, n2, e1, e3, e4, e5, e6, e7, e8, H0, q6, Hβ, q2, d2, w2, nm, seval]; done) | rfl
    | true =>
     simp only [vz, tyf, n2, e1, e3, e4, e5, e6, e7, e8, H0, q6, Hβ, q2, d2, (bh o1), (bE o1), nm, seval]
     refine GF (w := 1) (enc := eI) (ys := x) (fun _ => rfl) dC de Tryz.underlying22 hx (My (by simp; omega)) ?_
     simp only [vz, tyf, n2, e1, e3, e4, e5, e6, e7, e8, H0, q6, Hβ, q2, d2, (bh o1), (bE o1), xC, List.nil_append, nm, seval]
     refine k_app (w := 1) (enc := eI) (xs := x) (ys := ([(c : Int)])) (el := (some 3)) (dE := (some 3)) (fun _ => rfl) dC de Tryz.underlying22 (by first | rfl | (simp only [aK, bk, cT, n2, nm, seval] <;> rfl)) (by first | rfl | (simp only [aK, bk, cT, n2, nm, seval] <;> rfl)) (Nat.zero_lt_succ _) r1 ?_
     simp only [vz, tyf, n2, e1, e3, e4, e5, e6, e7, e8, H0, q6, Hβ, q2, d2, (bh o1), (bE o1), xC, nm, seval]
     rcases hv with ⟨γ, elγ, rfl, lg, rJ, lgβ, Hγ⟩ | ⟨rfl, GD⟩
     ·have q3 := fK lg
      have q4 := ne_f rJ
      have q5 := ne_f lgβ
      refine vq (enc := (eSl eI)) (xs := N) (a := x ++ [(c : Int)]) (y := .ref (eK + 11) 0 (x ++ [(c : Int)]).length 1 (x ++ [(c : Int)]).length) (el := elγ) (dE := some 22) (fun _ => rfl) ff Tryz.underlying71 (by first | rfl | assumption | (simp only [aK, bk, bw, n2, e1, e3, e4, e5, e6, e7, e8, H0, q6, Hβ, q2, d2, q3, q4, q5, Hγ, nm, seval] <;> rfl) | (simp only [aK, bk, bw, n2, e1, e3, e4, e5, e6, e7, e8, H0, q6, Hβ, q2, d2, q3, q4, q5, Hγ, nm, seval]; done)) (by first | rfl | assumption | (simp only [aK, bk, bw, n2, e1, e3, e4, e5, e6, e7, e8, H0, q6, Hβ, q2, d2, q3, q4, q5, Hγ, nm, seval] <;> rfl) | (simp only [aK, bk, bw, n2, e1, e3, e4, e5, e6, e7, e8, H0, q6, Hβ, q2, d2, q3, q4, q5, Hγ, nm, seval]; done)) rfl r2 ?_
      simp only [vz, tyf, n2, e1, e3, e4, e5, e6, e7, e8, H0, q6, Hβ, q2, d2, q3, q4, q5, Hγ, nm, seval]
      refine ⟨lt.toNat + 1 - (c + 1), by omega, _, Ghost.snocL (γ := eK + 11) (ε := eK + 13) (xs := N) (ys := x ++ [(c : Int)]) (cp := (x ++ [(c : Int)]).length) (by first | rfl | assumption | (simp only [aK, bk, bw, n2, e1, e3, e4, e5, e6, e7, e8, H0, q6, Hβ, q2, d2, q3, q4, q5, Hγ, nm, seval] <;> rfl) | (simp only [aK, bk, bw, n2, e1, e3, e4, e5, e6, e7, e8, H0, q6, Hβ, q2, d2, q3, q4, q5, Hγ, nm, seval]; done)) (by first | rfl | assumption | (simp only [aK, bk, bw, n2, e1, e3, e4, e5, e6, e7, e8, H0, q6, Hβ, q2, d2, q3, q4, q5, Hγ, nm, seval] <;> rfl) | (simp only [aK, bk, bw, n2, e1, e3, e4, e5, e6, e7, e8, H0, q6, Hβ, q2, d2, q3, q4, q5, Hγ, nm, seval]; done)) (by omega), ?_⟩
      rw [lu]
      refine ⟨c + 1, N ++ [x ++ [(c : Int)]], .ref (eK + 13) 0 (N ++ [x ++ [(c : Int)]]).length 1 (N ++ [x ++ [(c : Int)]]).length, rfl, hcl, rK, rfl, (by dsimp only; omega), ?_, ?_, ?_, ?_, ?_, ?_, ?_, ?_, ?_, .inl ⟨eK + 13, sameEl elγ 22, rfl, (by dsimp only; omega), by omega, by omega, ?_⟩⟩
      all_goals first | assumption | (simp only [ua, aK, bk, n2, e1, e3, e4, e5, e6, e7, e8, H0, q6, Hβ, q2, d2, q3, q4, q5, Hγ, w2, nm, seval] <;> rfl) | (simp only [ua, aK, bk, n2, e1, e3, e4, e5, e6, e7, e8, H0, q6, Hβ, q2, d2, q3, q4, q5, Hγ, w2, nm, seval]; done) | rfl
     ·refine vr (y := .ref (eK + 11) 0 (x ++ [(c : Int)]).length 1 (x ++ [(c : Int)]).length) (dE := some 22) ff Tryz.underlying71 (by first | rfl | assumption | (simp only [aK, bk, bw, n2, e1, e3, e4, e5, e6, e7, e8, H0, q6, Hβ, q2, d2, nm, seval] <;> rfl) | (simp only [aK, bk, bw, n2, e1, e3, e4, e5, e6, e7, e8, H0, q6, Hβ, q2, d2, nm, seval]; done)) rfl (by rfl) ?_
      simp only [vz, tyf, n2, e1, e3, e4, e5, e6, e7, e8, H0, q6, Hβ, q2, d2, nm, seval]
      refine ⟨lt.toNat + 1 - (c + 1), by omega, _, Ghost.snocL (γ := eK + 11) (ε := eK + 13) (xs := []) (ys := x ++ [(c : Int)]) (cp := (x ++ [(c : Int)]).length) (by first | rfl | assumption | (simp only [aK, bk, bw, n2, e1, e3, e4, e5, e6, e7, e8, H0, q6, Hβ, q2, d2, nm, seval] <;> rfl) | (simp only [aK, bk, bw, n2, e1, e3, e4, e5, e6, e7, e8, H0, q6, Hβ, q2, d2, nm, seval]; done)) (by first | rfl | assumption | (simp only [aK, bk, bw, n2, e1, e3, e4, e5, e6, e7, e8, H0, q6, Hβ, q2, d2, nm, seval] <;> rfl) | (simp only [aK, bk, bw, n2, e1, e3, e4, e5, e6, e7, e8, H0, q6, Hβ, q2, d2, nm, seval]; done)) (by omega), ?_⟩
      rw [lu]
      rw [GD] at rK
      refine ⟨c + 1, [] ++ [x ++ [(c : Int)]], .ref (eK + 13) 0 ([] ++ [x ++ [(c : Int)]]).length 1 ([] ++ [x ++ [(c : Int)]]).length, rfl, hcl, rK, rfl, (by dsimp only; omega), ?_, ?_, ?_, ?_, ?_, ?_, ?_, ?_, ?_, .inl ⟨eK + 13, some 22, rfl, (by dsimp only; omega), by omega, by omega, ?_⟩⟩
      all_goals first | assumption | (simp only [ua, aK, bk, n2, e1, e3, e4, e5, e6, e7, e8, H0, q6, Hβ, q2, d2, w2, nm, seval] <;> rfl) | (simp only [ua, aK, bk, n2, e1, e3, e4, e5, e6, e7, e8, H0, q6, Hβ, q2, d2, w2, nm, seval]; done) | rfl
end Go.V
end
section
namespace Go.V
open Go Go.Proofs IntKind
def i6 (al : GBk) : List (List Int) → Int → (List (List Int)) → Int → Option (LOut (List (List Int)) ((List (List Int)) × Int))
 | [], cb, h9, dj => some (.go (h9, dj))
 | e0 :: p0, cb, h9, dj => Option.bind (nv al e0) (fun r2 => cond (cb == 0) (cond (r2 == r2) (cond (aE 24 (List.length (([] : List (List Int)) ++ [e0]))) (i6 al p0 (cb + 1) (([] : List (List Int)) ++ [e0]) r2) none) (i6 al p0 (cb + 1) ([] : List (List Int)) r2)) (cond (decide (r2 < dj)) (cond (r2 == r2) (cond (aE 24 (List.length (([] : List (List Int)) ++ [e0]))) (i6 al p0 (cb + 1) (([] : List (List Int)) ++ [e0]) r2) none) (i6 al p0 (cb + 1) ([] : List (List Int)) r2)) (cond (r2 == dj) (cond (aE 24 (List.length (h9 ++ [e0]))) (i6 al p0 (cb + 1) (h9 ++ [e0]) dj) none) (i6 al p0 (cb + 1) h9 dj))))
def pR (al : GBk) : Option (List (List Int)) := Option.bind (rp al) (fun r1 => cond (aO r1) (lbind (i6 al r1 0 ([] : List (List Int)) 0) (fun r4 => some r4) (fun c3 => some c3.1) (fun _ _ => none)) none)
theorem LV (al : GBk) (R : List (List Int)) (h : pR al = some R) : ak Tryz.prog G0 53 [.agg (cGBk al)] (.tree (.sl (ae (eSl eI) R) (List.length R) false)) := by
 refine ak.runR mixed Tryz.call53 Tryz.func53 rfl (by simp [Tryz.ntmps53]; kernel_rfl) ?_
 obtain ⟨KF, h, kF, kN⟩ := cV h
 simp only [pR] at h
 obtain ⟨r5, o6, h⟩ := optI h kN
 try simp only [hs] at h
 simp only [vz, tyf, nm, seval]
 refine ktA (QN _ _ o6) ?_
 refine bS (fun tm => tm 1 = .ptr 0 0 ∧ tm 9 = .sl (ae (eSl eI) r5) (List.length r5) false ∧ True) (by refine ⟨?_, ?_, trivial⟩ <;> first | (simp only [ua, nm, seval] <;> rfl) | rfl) ?_
 rintro tm ⟨e7, e8, _⟩
 cases gz : (aO r5)
 ·simp only [gz, hs] at h
  exact absurd h kN
 simp only [gz, hs] at h
 simp only [vz, tyf, e7, e8, gz, nm, seval]
 obtain ⟨K9, h, QQ, xD, QR, j4⟩ := fZ h kN
 obtain ⟨f9, GG, h⟩ := call4 h
 obtain ⟨I9, fS⟩ : ∃ I : Nat → St → Prop, I = (fun m st => ∃ (p9 : List (List Int)) (bO : Int) (cF : List (List Int)) (dx : Int) (mu : VV), m = List.length p9 ∧ 0 ≤ bO ∧ List.drop (Int.toNat bO) r5 = p9 ∧ st.df = [] ∧ 8 ≤ st.nx ∧ st.H 0 = some (.cells (some 25) (cGBk al)) ∧ st.tm 1 = .ptr 0 0 ∧ st.tm 3 = .sl (ae (eSl eI) r5) (List.length r5) false ∧ st.tm 4 = mu ∧ st.tm 5 = .lit (.int .i64 dx) ∧ st.tm 6 = .lit (.int .i64 bO) ∧ ((∃ (β : Nat) (el : Option TypeId), mu = .ref β 0 (List.length cF) 1 (List.length cF) ∧ β < st.nx ∧ β ≠ 0 ∧ st.H β = some (.cells el (ae (eSl eI) cF))) ∨ (mu = .lit (.slice none 0 0) ∧ cF = [])) ∧ K9 (f9 p9 bO cF dx)) := ⟨_, rfl⟩
 refine loopK mixed (by kernel_rfl) I9 (List.length r5) (by rw [fS]; refine ⟨r5, 0, ([] : List (List Int)), 0, .lit (.slice none 0 0), rfl, Int.le_refl _, rfl, rfl, (show 8 ≤ 8 by omega), ?_, e7, ?_, ?_, ?_, ?_, Or.inr ⟨rfl, rfl⟩, h⟩ <;> first | (simp only [ua, e7, e8, nm, seval] <;> rfl) | rfl) ?_
 rintro m ⟨tm, H, dT, df⟩ hinv
 rw [fS] at hinv
 obtain ⟨p9, bO, cF, dx, mu, rfl, dv, gi, hdf, j5, fe, bJ, bx, bC, cH, bF, nH, h⟩ := hinv
 simp only at hdf j5 fe bJ bx bC cH bF nH
 have hO := eR (m := 8) (b := dT) (by omega)
 subst hdf GG
 rcases nH with ⟨ky, kz, rfl, pF, pG, rL⟩ | ⟨rfl, rfl⟩
 ·have ig := fK pF
  have ij := ne_f pG
  cases p9 with
  | nil =>
   have jP : (decide (bO < (List.length r5 : Int))) = false := ga dv gi
   simp only [i6, hs, reduceCtorEq] at h
   replace h := xD _ h
   try dsimp only at h
   try simp only [hs] at h
   try simp only [vz, tyf, gz, hO, bJ, bx, bC, cH, bF, fe, ig, rL, ij, jP, nm, seval]
   refine cn (x := (.ref ky 0 (List.length cF) 1 (List.length cF))) (by first | (simp only [Tryz.results53, resV, resL, aR, cw, cv, uw, cr, tyf, gz, hO, fe, ig, rL, ij, jP, nm, seval] <;> rfl) | rfl) ?_
   obtain rfl := kF _ h
   refine eJ ?_ ?_
   ·simp only [tre, tytre, Bool.and_self]
   ·first | (simp only [outV, uw, eD, cr, tyf, nrm, aN, gz, hO, bJ, bx, bC, cH, bF, fe, ig, rL, ij, jP, nm, seval] <;> rfl) | rfl
  | cons e9 p9 =>
   have pH : (decide (bO < (List.length r5 : Int))) = true := gb dv gi
   have fL := eT dv gi
   have ka := fG dv gi gz
   simp only [i6, hs, reduceCtorEq] at h
   simp only [vz, tyf, gz, hO, bJ, bx, bC, cH, bF, fe, ig, rL, ij, pH, (bh fL), ka, nm, seval]
   refine kL (fun tm => tm 1 = .ptr 0 0 ∧ tm 3 = .sl (ae (eSl eI) r5) (List.length r5) false ∧ tm 4 = .ref ky 0 (List.length cF) 1 (List.length cF) ∧ tm 5 = .lit (.int .i64 dx) ∧ tm 6 = .lit (.int .i64 bO) ∧ True) (by refine ⟨bJ, bx, bC, cH, bF, trivial⟩ <;> first | (simp only [ua, hO, bJ, bx, bC, cH, bF, fe, ig, rL, ij, pH, ka, nm, seval] <;> rfl) | rfl) ?_
   rintro tm ⟨gP, ez, bV, eC, eW, _⟩
   have cY := And.intro gz (And.intro hO (And.intro fe (And.intro ig (And.intro rL (And.intro ij (And.intro pH ka))))))
   obtain ⟨k6, pT, h⟩ := optI h j4
   try simp only [hs] at h
   simp only [vz, tyf, cY, (bh fL), gP, ez, bV, eC, eW, nm, seval]
   refine dktA (xo _ _ _ pT) ?_
   refine bS (fun tm => tm 1 = .ptr 0 0 ∧ tm 3 = .sl (ae (eSl eI) r5) (List.length r5) false ∧ tm 4 = .ref ky 0 (List.length cF) 1 (List.length cF) ∧ tm 5 = .lit (.int .i64 dx) ∧ tm 6 = .lit (.int .i64 bO) ∧ tm 21 = .lit (.int .i64 k6) ∧ True) (by refine ⟨gP, ez, bV, eC, eW, ?_, trivial⟩ <;> first | (simp only [ua, cY, gP, ez, bV, eC, eW, nm, seval] <;> rfl) | rfl) ?_
   rintro tm ⟨bz, bD, bH, bL, bX, cP, _⟩
   cases cg : (bO == 0)
   ·simp only [cg, hs] at h
    cases ej : (decide (k6 < dx))
    ·simp only [ej, hs] at h
     cases gf : (k6 == dx)
     ·simp only [gf, hs] at h
      simp only [vz, tyf, cY, (bh fL), bz, bD, bH, bL, bX, cP, cg, ej, gf, nm, seval]
      exact ⟨List.length p9, Nat.lt_succ_self _, by rw [fS]; refine ⟨p9, bO + 1, cF, dx, .ref ky 0 (List.length cF) 1 (List.length cF), rfl, Int.le_trans dv (Int.le_add_one (Int.le_refl _)), cG dv gi, rfl, (show 8 ≤ dT + 24 by omega), ?_, bz, bD, ?_, bL, ?_, Or.inl ⟨ky, kz, rfl, (by first | omega | (simp only [nm, seval]; done) | (simp only [nm, seval]; omega)), (by first | omega | (intro hh; simp only [cY, reduceCtorEq] at hh)), ?_⟩, (by first | exact h | (simp only [cY, cg, ej, gf]; exact h))⟩ <;> first | (simp only [ua, cY, bz, bD, bH, bL, bX, cP, cg, ej, gf, nm, seval] <;> rfl) | rfl⟩
     simp only [gf, hs] at h
     cases qe : (aE 24 (List.length (cF ++ [e9])))
     ·simp only [qe, hs] at h
      exact absurd h j4
     simp only [qe, hs] at h
     simp only [vz, tyf, cY, (bh fL), bz, bD, bH, bL, bX, cP, cg, ej, gf, qe, nm, seval]
     refine k_app (w := 1) (enc := (eSl eI)) (xs := cF) (ys := ([e9])) (el := kz) (dE := (some 22)) (fun _ => rfl) iR ff Tryz.underlying71 (by first | rfl | assumption | (simp only [aK, bk, bw, cY, nm, seval] <;> rfl) | (simp only [aK, bk, fq, fz, fE, fF, tyf, cY, (bh fL), bz, bD, bH, bL, bX, cP, cg, ej, gf, qe, nm, seval]; done)) (by first | rfl | assumption | (simp only [aK, bk, bw, cY, nm, seval] <;> rfl) | (simp only [aK, bk, fq, fz, fE, fF, tyf, cY, (bh fL), bz, bD, bH, bL, bX, cP, cg, ej, gf, qe, nm, seval]; done)) (Nat.zero_lt_succ _) qe ?_
     simp only [vz, tyf, cY, (bh fL), bz, bD, bH, bL, bX, cP, cg, ej, gf, qe, nm, seval]
     exact ⟨List.length p9, Nat.lt_succ_self _, by rw [fS]; refine ⟨p9, bO + 1, (cF ++ [e9]), dx, .ref (dT + 27) 0 (List.length (cF ++ [e9])) 1 (List.length (cF ++ [e9])), rfl, Int.le_trans dv (Int.le_add_one (Int.le_refl _)), cG dv gi, rfl, (show 8 ≤ dT + 32 by omega), ?_, bz, bD, ?_, bL, ?_, Or.inl ⟨dT + 27, (sameEl kz 22), rfl, (by first | omega | (simp only [nm, seval]; done) | (simp only [nm, seval]; omega)), (by first | omega | (intro hh; simp only [cY, reduceCtorEq] at hh)), ?_⟩, (by first | exact h | (simp only [cY, cg, ej, gf]; exact h))⟩ <;> first | (simp only [ua, cY, bz, bD, bH, bL, bX, cP, cg, ej, gf, nm, seval] <;> rfl) | rfl⟩
    simp only [ej, hs] at h
    cases di : (k6 == k6)
    ·simp only [di, hs] at h
     simp only [vz, tyf, cY, (bh fL), bz, bD, bH, bL, bX, cP, cg, ej, di, nm, seval]
     exact ⟨List.length p9, Nat.lt_succ_self _, by rw [fS]; refine ⟨p9, bO + 1, ([] : List (List Int)), k6, .lit (.slice none 0 0), rfl, Int.le_trans dv (Int.le_add_one (Int.le_refl _)), cG dv gi, rfl, (show 8 ≤ dT + 27 by omega), ?_, bz, bD, ?_, ?_, ?_, Or.inr ⟨rfl, rfl⟩, (by first | exact h | (simp only [cY, cg, ej, di]; exact h))⟩ <;> first | (simp only [ua, cY, bz, bD, bH, bL, bX, cP, cg, ej, di, nm, seval] <;> rfl) | rfl⟩
    simp only [di, hs] at h
    cases rM : (aE 24 (List.length (([] : List (List Int)) ++ [e9])))
    ·simp only [rM, hs] at h
     exact absurd h j4
    simp only [rM, hs] at h
    simp only [vz, tyf, cY, (bh fL), bz, bD, bH, bL, bX, cP, cg, ej, di, rM, nm, seval]
    refine jG (w := 1) (enc := (eSl eI)) (ys := ([e9])) (dE := (some 22)) (fun _ => rfl) iR ff Tryz.underlying71 (by first | rfl | assumption | (simp only [aK, bk, bw, cY, nm, seval] <;> rfl) | (simp only [aK, bk, fq, fz, fE, fF, tyf, cY, (bh fL), bz, bD, bH, bL, bX, cP, cg, ej, di, rM, nm, seval]; done)) (Nat.zero_lt_succ _) rM ?_
    simp only [vz, tyf, cY, (bh fL), bz, bD, bH, bL, bX, cP, cg, ej, di, rM, nm, seval]
    exact ⟨List.length p9, Nat.lt_succ_self _, by rw [fS]; refine ⟨p9, bO + 1, (([] : List (List Int)) ++ [e9]), k6, .ref (dT + 30) 0 (List.length (([] : List (List Int)) ++ [e9])) 1 (List.length (([] : List (List Int)) ++ [e9])), rfl, Int.le_trans dv (Int.le_add_one (Int.le_refl _)), cG dv gi, rfl, (show 8 ≤ dT + 35 by omega), ?_, bz, bD, ?_, ?_, ?_, Or.inl ⟨dT + 30, (some 22), rfl, (by first | omega | (simp only [nm, seval]; done) | (simp only [nm, seval]; omega)), (by first | omega | (intro hh; simp only [cY, reduceCtorEq] at hh)), ?_⟩, (by first | exact h | (simp only [cY, cg, ej, di]; exact h))⟩ <;> first | (simp only [ua, cY, bz, bD, bH, bL, bX, cP, cg, ej, di, nm, seval] <;> rfl) | rfl⟩
   simp only [cg, hs] at h
   cases lv : (k6 == k6)
   ·simp only [lv, hs] at h
    simp only [vz, tyf, cY, (bh fL), bz, bD, bH, bL, bX, cP, cg, lv, nm, seval]
    exact ⟨List.length p9, Nat.lt_succ_self _, by rw [fS]; refine ⟨p9, bO + 1, ([] : List (List Int)), k6, .lit (.slice none 0 0), rfl, Int.le_trans dv (Int.le_add_one (Int.le_refl _)), cG dv gi, rfl, (show 8 ≤ dT + 27 by omega), ?_, bz, bD, ?_, ?_, ?_, Or.inr ⟨rfl, rfl⟩, (by first | exact h | (simp only [cY, cg, lv]; exact h))⟩ <;> first | (simp only [ua, cY, bz, bD, bH, bL, bX, cP, cg, lv, nm, seval] <;> rfl) | rfl⟩
   simp only [lv, hs] at h
   cases rN : (aE 24 (List.length (([] : List (List Int)) ++ [e9])))
   ·simp only [rN, hs] at h
    exact absurd h j4
   simp only [rN, hs] at h
   simp only [vz, tyf, cY, (bh fL), bz, bD, bH, bL, bX, cP, cg, lv, rN, nm, seval]
   refine jG (w := 1) (enc := (eSl eI)) (ys := ([e9])) (dE := (some 22)) (fun _ => rfl) iR ff Tryz.underlying71 (by first | rfl | assumption | (simp only [aK, bk, bw, cY, nm, seval] <;> rfl) | (simp only [aK, bk, fq, fz, fE, fF, tyf, cY, (bh fL), bz, bD, bH, bL, bX, cP, cg, lv, rN, nm, seval]; done)) (Nat.zero_lt_succ _) rN ?_
   simp only [vz, tyf, cY, (bh fL), bz, bD, bH, bL, bX, cP, cg, lv, rN, nm, seval]
   exact ⟨List.length p9, Nat.lt_succ_self _, by rw [fS]; refine ⟨p9, bO + 1, (([] : List (List Int)) ++ [e9]), k6, .ref (dT + 30) 0 (List.length (([] : List (List Int)) ++ [e9])) 1 (List.length (([] : List (List Int)) ++ [e9])), rfl, Int.le_trans dv (Int.le_add_one (Int.le_refl _)), cG dv gi, rfl, (show 8 ≤ dT + 35 by omega), ?_, bz, bD, ?_, ?_, ?_, Or.inl ⟨dT + 30, (some 22), rfl, (by first | omega | (simp only [nm, seval]; done) | (simp only [nm, seval]; omega)), (by first | omega | (intro hh; simp only [cY, reduceCtorEq] at hh)), ?_⟩, (by first | exact h | (simp only [cY, cg, lv]; exact h))⟩ <;> first | (simp only [ua, cY, bz, bD, bH, bL, bX, cP, cg, lv, nm, seval] <;> rfl) | rfl⟩
 ·cases p9 with
  | nil =>
   have GH : (decide (bO < (List.length r5 : Int))) = false := ga dv gi
   simp only [i6, hs, reduceCtorEq] at h
   replace h := xD _ h
   try dsimp only at h
   try simp only [hs] at h
   try simp only [vz, tyf, gz, hO, bJ, bx, bC, cH, bF, fe, GH, nm, seval]
   refine cn (x := (.lit (.slice none 0 0))) (by first | (simp only [Tryz.results53, resV, resL, aR, cw, cv, uw, cr, tyf, gz, hO, fe, GH, nm, seval] <;> rfl) | rfl) ?_
   obtain rfl := kF _ h
   refine eJ ?_ ?_
   ·simp only [tre, tytre, Bool.and_self]
   ·first | (simp only [outV, uw, eD, cr, tyf, nrm, aN, gz, hO, bJ, bx, bC, cH, bF, fe, GH, nm, seval] <;> rfl) | rfl
  | cons e9 p9 =>
   have nI : (decide (bO < (List.length r5 : Int))) = true := gb dv gi
   have iN := eT dv gi
   have nJ := fG dv gi gz
   simp only [i6, hs, reduceCtorEq] at h
   simp only [vz, tyf, gz, hO, bJ, bx, bC, cH, bF, fe, nI, (bh iN), nJ, nm, seval]
   refine kL (fun tm => tm 1 = .ptr 0 0 ∧ tm 3 = .sl (ae (eSl eI) r5) (List.length r5) false ∧ tm 4 = .lit (.slice none 0 0) ∧ tm 5 = .lit (.int .i64 dx) ∧ tm 6 = .lit (.int .i64 bO) ∧ True) (by refine ⟨bJ, bx, bC, cH, bF, trivial⟩ <;> first | (simp only [ua, hO, bJ, bx, bC, cH, bF, fe, nI, nJ, nm, seval] <;> rfl) | rfl) ?_
   rintro tm ⟨gv, kO, jw, jx, pU, _⟩
   obtain ⟨k7, QS, h⟩ := optI h j4
   try simp only [hs] at h
   simp only [vz, tyf, gz, hO, fe, nI, (bh iN), nJ, gv, kO, jw, jx, pU, nm, seval]
   refine dktA (xo _ _ _ QS) ?_
   refine bS (fun tm => tm 1 = .ptr 0 0 ∧ tm 3 = .sl (ae (eSl eI) r5) (List.length r5) false ∧ tm 4 = .lit (.slice none 0 0) ∧ tm 5 = .lit (.int .i64 dx) ∧ tm 6 = .lit (.int .i64 bO) ∧ tm 21 = .lit (.int .i64 k7) ∧ True) (by refine ⟨gv, kO, jw, jx, pU, ?_, trivial⟩ <;> first | (simp only [ua, hO, fe, nI, nJ, gv, kO, jw, jx, pU, nm, seval] <;> rfl) | rfl) ?_
   rintro tm ⟨dh, du, gH, gj, g0, fy, _⟩
   cases rO : (bO == 0)
   ·simp only [rO, hs] at h
    cases xE : (decide (k7 < dx))
    ·simp only [xE, hs] at h
     have lx := And.intro gz (And.intro hO (And.intro fe (And.intro nI (And.intro nJ (And.intro rO xE)))))
     cases ly : (k7 == dx)
     ·simp only [ly, hs] at h
      simp only [vz, tyf, lx, (bh iN), dh, du, gH, gj, g0, fy, ly, nm, seval]
      exact ⟨List.length p9, Nat.lt_succ_self _, by rw [fS]; refine ⟨p9, bO + 1, ([] : List (List Int)), dx, .lit (.slice none 0 0), rfl, Int.le_trans dv (Int.le_add_one (Int.le_refl _)), cG dv gi, rfl, (show 8 ≤ dT + 24 by omega), ?_, dh, du, ?_, gj, ?_, Or.inr ⟨rfl, rfl⟩, (by first | exact h | (simp only [lx, ly]; exact h))⟩ <;> first | (simp only [ua, lx, dh, du, gH, gj, g0, fy, ly, nm, seval] <;> rfl) | rfl⟩
     simp only [ly, hs] at h
     cases rP : (aE 24 (List.length (([] : List (List Int)) ++ [e9])))
     ·simp only [rP, hs] at h
      exact absurd h j4
     simp only [rP, hs] at h
     simp only [vz, tyf, lx, (bh iN), dh, du, gH, gj, g0, fy, ly, rP, nm, seval]
     refine jG (w := 1) (enc := (eSl eI)) (ys := ([e9])) (dE := (some 22)) (fun _ => rfl) iR ff Tryz.underlying71 (by first | rfl | assumption | (simp only [aK, bk, bw, lx, nm, seval] <;> rfl) | (simp only [aK, bk, fq, fz, fE, fF, tyf, lx, (bh iN), dh, du, gH, gj, g0, fy, ly, rP, nm, seval]; done)) (Nat.zero_lt_succ _) rP ?_
     simp only [vz, tyf, lx, (bh iN), dh, du, gH, gj, g0, fy, ly, rP, nm, seval]
     exact ⟨List.length p9, Nat.lt_succ_self _, by rw [fS]; refine ⟨p9, bO + 1, (([] : List (List Int)) ++ [e9]), dx, .ref (dT + 27) 0 (List.length (([] : List (List Int)) ++ [e9])) 1 (List.length (([] : List (List Int)) ++ [e9])), rfl, Int.le_trans dv (Int.le_add_one (Int.le_refl _)), cG dv gi, rfl, (show 8 ≤ dT + 32 by omega), ?_, dh, du, ?_, gj, ?_, Or.inl ⟨dT + 27, (some 22), rfl, (by first | omega | (simp only [nm, seval]; done) | (simp only [nm, seval]; omega)), (by first | omega | (intro hh; simp only [lx, reduceCtorEq] at hh)), ?_⟩, (by first | exact h | (simp only [lx, ly]; exact h))⟩ <;> first | (simp only [ua, lx, dh, du, gH, gj, g0, fy, ly, nm, seval] <;> rfl) | rfl⟩
    simp only [xE, hs] at h
    have lz := And.intro gz (And.intro hO (And.intro fe (And.intro nI (And.intro nJ (And.intro rO xE)))))
    cases l5 : (k7 == k7)
    ·simp only [l5, hs] at h
     simp only [vz, tyf, lz, (bh iN), dh, du, gH, gj, g0, fy, l5, nm, seval]
     exact ⟨List.length p9, Nat.lt_succ_self _, by rw [fS]; refine ⟨p9, bO + 1, ([] : List (List Int)), k7, .lit (.slice none 0 0), rfl, Int.le_trans dv (Int.le_add_one (Int.le_refl _)), cG dv gi, rfl, (show 8 ≤ dT + 27 by omega), ?_, dh, du, ?_, ?_, ?_, Or.inr ⟨rfl, rfl⟩, (by first | exact h | (simp only [lz, l5]; exact h))⟩ <;> first | (simp only [ua, lz, dh, du, gH, gj, g0, fy, l5, nm, seval] <;> rfl) | rfl⟩
    simp only [l5, hs] at h
    cases rQ : (aE 24 (List.length (([] : List (List Int)) ++ [e9])))
    ·simp only [rQ, hs] at h
     exact absurd h j4
    simp only [rQ, hs] at h
    simp only [vz, tyf, lz, (bh iN), dh, du, gH, gj, g0, fy, l5, rQ, nm, seval]
    refine jG (w := 1) (enc := (eSl eI)) (ys := ([e9])) (dE := (some 22)) (fun _ => rfl) iR ff Tryz.underlying71 (by first | rfl | assumption | (simp only [aK, bk, bw, lz, nm, seval] <;> rfl) | (simp only [aK, bk, fq, fz, fE, fF, tyf, lz, (bh iN), dh, du, gH, gj, g0, fy, l5, rQ, nm, seval]; done)) (Nat.zero_lt_succ _) rQ ?_
    simp only [vz, tyf, lz, (bh iN), dh, du, gH, gj, g0, fy, l5, rQ, nm, seval]
    exact ⟨List.length p9, Nat.lt_succ_self _, by rw [fS]; refine ⟨p9, bO + 1, (([] : List (List Int)) ++ [e9]), k7, .ref (dT + 30) 0 (List.length (([] : List (List Int)) ++ [e9])) 1 (List.length (([] : List (List Int)) ++ [e9])), rfl, Int.le_trans dv (Int.le_add_one (Int.le_refl _)), cG dv gi, rfl, (show 8 ≤ dT + 35 by omega), ?_, dh, du, ?_, ?_, ?_, Or.inl ⟨dT + 30, (some 22), rfl, (by first | omega | (simp only [nm, seval]; done) | (simp only [nm, seval]; omega)), (by first | omega | (intro hh; simp only [lz, reduceCtorEq] at hh)), ?_⟩, (by first | exact h | (simp only [lz, l5]; exact h))⟩ <;> first | (simp only [ua, lz, dh, du, gH, gj, g0, fy, l5, nm, seval] <;> rfl) | rfl⟩
   simp only [rO, hs] at h
   cases xF : (k7 == k7)
   ·simp only [xF, hs] at h
    have GI := And.intro gz (And.intro hO (And.intro fe (And.intro nI (And.intro nJ (And.intro rO xF)))))
    simp only [vz, tyf, GI, (bh iN), dh, du, gH, gj, g0, fy, nm, seval]
    exact ⟨List.length p9, Nat.lt_succ_self _, by rw [fS]; refine ⟨p9, bO + 1, ([] : List (List Int)), k7, .lit (.slice none 0 0), rfl, Int.le_trans dv (Int.le_add_one (Int.le_refl _)), cG dv gi, rfl, (show 8 ≤ dT + 27 by omega), ?_, dh, du, ?_, ?_, ?_, Or.inr ⟨rfl, rfl⟩, (by first | exact h | (simp only [GI]; exact h))⟩ <;> first | (simp only [ua, GI, dh, du, gH, gj, g0, fy, nm, seval] <;> rfl) | rfl⟩
   simp only [xF, hs] at h
   have qf := And.intro gz (And.intro hO (And.intro fe (And.intro nI (And.intro nJ (And.intro rO xF)))))
   cases rR : (aE 24 (List.length (([] : List (List Int)) ++ [e9])))
   ·simp only [rR, hs] at h
    exact absurd h j4
   simp only [rR, hs] at h
   simp only [vz, tyf, qf, (bh iN), dh, du, gH, gj, g0, fy, rR, nm, seval]
   refine jG (w := 1) (enc := (eSl eI)) (ys := ([e9])) (dE := (some 22)) (fun _ => rfl) iR ff Tryz.underlying71 (by first | rfl | assumption | (simp only [aK, bk, bw, qf, nm, seval] <;> rfl) | (simp only [aK, bk, fq, fz, fE, fF, tyf, qf, (bh iN), dh, du, gH, gj, g0, fy, rR, nm, seval]; done)) (Nat.zero_lt_succ _) rR ?_
   simp only [vz, tyf, qf, (bh iN), dh, du, gH, gj, g0, fy, rR, nm, seval]
   exact ⟨List.length p9, Nat.lt_succ_self _, by rw [fS]; refine ⟨p9, bO + 1, (([] : List (List Int)) ++ [e9]), k7, .ref (dT + 30) 0 (List.length (([] : List (List Int)) ++ [e9])) 1 (List.length (([] : List (List Int)) ++ [e9])), rfl, Int.le_trans dv (Int.le_add_one (Int.le_refl _)), cG dv gi, rfl, (show 8 ≤ dT + 35 by omega), ?_, dh, du, ?_, ?_, ?_, Or.inl ⟨dT + 30, (some 22), rfl, (by first | omega | (simp only [nm, seval]; done) | (simp only [nm, seval]; omega)), (by first | omega | (intro hh; simp only [qf, reduceCtorEq] at hh)), ?_⟩, (by first | exact h | (simp only [qf]; exact h))⟩ <;> first | (simp only [ua, qf, dh, du, gH, gj, g0, fy, nm, seval] <;> rfl) | rfl⟩
end Go.V
end
