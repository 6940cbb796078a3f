/- Part of a proof. -/
import Derived.Test.YtmhlghgbfmcdaaaGreatDoorG6bm
set_option linter.all false
set_option maxRecDepth 4000
set_option maxHeartbeats 40000000
section
namespace Go.V
open Go Go.Proofs IntKind
theorem wF (n : Int) : ∀ (p : List Int) (c : Int), rG n p c = if n ∈ p then some (.ret true) else some (.go ())
 | [], _ => rfl
 | e :: p, c => by
  simp only [rG, wF n p (c + 1), List.mem_cons]
  by_cases h : e = n
  ·subst h; simp
  ·have h' : ¬ n = e := fun h2 => h h2.symm
   simp [h, h']
theorem JW {l : List Int} (hl : l.length < 9223372036854775808) (n : Int) : tH l n = some (decide (n ∈ l)) := by
 unfold tH
 rw [fE hl, cond_true, wF]
 by_cases h : n ∈ l <;> simp [h, lbind]
theorem hr_l0 (hi : Bool) : ∀ (p : List GBs) (c : Int) (acc : List Int), acc.length + p.length ≤ 1000 → jt hi p c acc = some (.go (acc ++ p.map fun s => if hi then s.Hours.High else s.Hours.Low))
 | [], _, acc, _ => by simp [jt]
 | s :: p, c, acc, hn => by
  simp only [List.length_cons] at hn
  simp only [jt]
  cases hi with
  | true =>
   rw [cond_true, room8 (by simp; omega), cond_true, hr_l0 true p (c + 1) _ (by simp; omega)]
   simp
  | false =>
   rw [cond_false, room8 (by simp; omega), cond_true, hr_l0 false p (c + 1) _ (by simp; omega)]
   simp
def hrL (b : GBk) (hi : Bool) : List Int := b.Strokes.map fun s => if hi then s.Hours.High else s.Hours.Low
theorem hr_eq {b : GBk} (hb : BOk b) (hi : Bool) : lP b hi = some (hrL b hi) := by
 have := hb.ns
 unfold lP
 rw [fE (by omega), cond_true, hr_l0 hi b.Strokes 0 [] (by simp; omega)]
 rfl
theorem getMap {n : Nat} (f : Nat → Int) {i : Int} (h0 : 0 ≤ i) (h1 : i.toNat < n) : getI ((List.range n).map f) i = some (f i.toNat) := by
 unfold getI
 rw [if_pos h0, List.getElem?_map, List.getElem?_range h1]
 rfl
theorem yu {b : GBk} (hi : Bool) {i : Int} (h0 : 0 ≤ i) (h1 : i.toNat < b.Strokes.length) : getI (hrL b hi) i = some (dF b (if hi then 1 else 0) i.toNat) := by
 unfold getI hrL dF
 rw [if_pos h0, List.getElem?_map, List.getElem?_eq_getElem h1]
 cases hi <;> simp
def foB (b : GBk) (pl : List Int) (i k : Nat) : Bool := (hF pl k == hF pl i) || decide ((k : Int) ∈ nF b i)
def foL (b : GBk) (pl : List Int) (i : Nat) : List Int := ((List.range' 0 i).filter (foB b pl i)).map fun k : Nat => (k : Int)
theorem N4 {b : GBk} (h : Len b) {pl : List Int} (hp : pl.length = b.Strokes.length) {i k : Nat} (hk : k < i) (hi : i < b.Strokes.length) : mo b pl k i = some (foB b pl i k) := by
 unfold mo foB
 rw [decide_eq_true (by omega), cond_true, getP hp (by omega) (by omega), getP hp (by omega) (by omega)]
 have hx : getI b.Strokes i = some b.Strokes[i] := by
  unfold getI
  rw [if_pos (by omega), Int.toNat_natCast, List.getElem?_eq_getElem hi]
 have hn : nF b i = b.Strokes[i].Needs := by unfold nF; rw [List.getElem?_eq_getElem hi]
 simp only [Option.bind_some, Int.toNat_natCast, hx, hn]
 rw [JW (h.nd _ (List.getElem_mem hi))]
 cases hF pl k == hF pl i <;> rfl
theorem qZ {b : GBk} (h : Len b) {pl : List Int} (hp : pl.length = b.Strokes.length) {i : Nat} (hi : i < b.Strokes.length) (hn : b.Strokes.length ≤ 6) : ∀ (m k : Nat) (w : List Int), k + m = i → w.length ≤ k →
  kM b pl i m k w = some (w ++ ((List.range' k m).filter (foB b pl i)).map fun k : Nat => (k : Int))
 | 0, k, w, _, _ => by simp [kM]
 | m + 1, k, w, hk, hw => by
  simp only [kM, N4 h hp (show k < i by omega) hi, Option.bind_some]
  rw [List.range'_succ, List.filter_cons]
  have e : ((k : Int) + 1) = ((k + 1 : Nat) : Int) := by omega
  rw [e]
  cases hf : foB b pl i k with
  | false => rw [cond_false, qZ h hp hi hn m (k + 1) w (by omega) (by omega)]; simp
  | true => rw [cond_true, room8 (by simp; omega), cond_true, qZ h hp hi hn m (k + 1) _ (by omega) (by simp; omega)]; simp
theorem JX (i m : Nat) : List.set (List.replicate i (-1 : Int) ++ List.replicate (m + 1) 0) i (-1) = List.replicate (i + 1) (-1) ++ List.replicate m 0 := by
 rw [List.set_append_right _ _ (by simp), List.length_replicate, Nat.sub_self, List.replicate_succ, List.set_cons_zero, List.replicate_succ', List.append_assoc]
 rfl
theorem wG {b : GBk} (h : Len b) {pl : List Int} (hp : pl.length = b.Strokes.length) (hn : b.Strokes.length ≤ 6) : ∀ (m i : Nat) (pre : List (List Int)), i + m = b.Strokes.length →
  lH b pl m i pre (List.replicate i (-1) ++ List.replicate m 0) = some (pre ++ (List.range' i m).map (foL b pl), List.replicate b.Strokes.length (-1))
 | 0, i, pre, hi => by simp [lH]; omega
 | m + 1, i, pre, hi => by
  have e := qZ h hp (i := i) (by omega) hn i 0 [] (by omega) (Nat.le_refl _)
  simp only [lH, Int.toNat_natCast]
  rw [show kM b pl i i 0 [] = _ from e]
  simp only [Option.bind_some, List.nil_append]
  rw [JX, show ((i : Int) + 1) = ((i + 1 : Nat) : Int) by omega, wG h hp hn m (i + 1) _ (by omega), List.range'_succ]
  simp [foL]
section
variable {hd : Nat → Int} {nd : Nat → List Int} {d : Nat → Int}
def fT (B : Nat → Int) (t : Int) (j : Nat) : Int := if B j < t then B j else -1
def sT (B : Nat → Int) (t : Int) (i j : Nat) : Int := if j < i then fT B (t + 1) j else fT B t j
theorem wH {B : Nat → Int} {t : Int} {i : Nat} (h : B i ≠ t) : sT B t i = sT B t (i + 1) := by
 funext j
 unfold sT fT
 by_cases e : j = i
 ·subst e
  rw [if_neg (Nat.lt_irrefl _), if_pos (Nat.lt_succ_self _)]
  by_cases h1 : B j < t
  ·rw [if_pos h1, if_pos (by omega)]
  ·rw [if_neg h1, if_neg (by omega)]
 ·by_cases h1 : j < i
  ·simp only [h1, show j < i + 1 by omega, if_true]
  ·simp only [h1, show ¬ j < i + 1 by omega, if_false]
def ngF (v : Nat → Int) : Nat → Int
 | 0 => 0
 | n + 1 => ngF v n + if v n < 0 then 1 else 0
theorem yD {v w : Nat → Int} : ∀ {n : Nat}, (∀ k, k < n → v k = w k) → ngF v n = ngF w n
 | 0, _ => rfl
 | n + 1, h => by unfold ngF; rw [h n (Nat.lt_succ_self _), yD fun k hk => h k (Nat.lt_succ_of_lt hk)]
theorem ngF_b (v : Nat → Int) : ∀ n : Nat, 0 ≤ ngF v n ∧ ngF v n ≤ n
 | 0 => ⟨Int.le_refl _, Int.le_refl _⟩
 | n + 1 => by have := ngF_b v n; unfold ngF; split <;> omega
theorem wI {v : Nat → Int} : ∀ {n : Nat}, ngF v n ≤ 0 → ∀ k, k < n → 0 ≤ v k
 | 0, _, _, h => absurd h (Nat.not_lt_zero _)
 | n + 1, h, k, hk => by
  have h1 := (ngF_b v n).1
  unfold ngF at h
  split at h
  ·omega
  ·rename_i hv
   by_cases e : k = n
   ·subst e; omega
   ·exact wI (n := n) (by omega) k (by omega)
theorem ra {v : Nat → Int} : ∀ {n : Nat}, (∀ k, k < n → 0 ≤ v k) → ngF v n = 0
 | 0, _ => rfl
 | n + 1, h => by
  have := h n (Nat.lt_succ_self _)
  unfold ngF
  rw [ra fun k hk => h k (Nat.lt_succ_of_lt hk), if_neg (by omega)]
  rfl
theorem wJ {v w : Nat → Int} {i : Nat} (h1 : v i < 0) (h2 : 0 ≤ w i) (h3 : ∀ k, k ≠ i → v k = w k) : ∀ {n : Nat}, i < n → ngF v n - 1 = ngF w n
 | 0, h => absurd h (Nat.not_lt_zero _)
 | n + 1, h => by
  unfold ngF
  by_cases e : i = n
  ·subst e
   rw [if_pos h1, if_neg (by omega), yD fun k hk => h3 k (by omega)]
   omega
  ·have := wJ h1 h2 h3 (n := n) (by omega)
   rw [h3 n (fun e' => e e'.symm)]
   omega
theorem oy {n : Nat} {v d : Nat → Int} {hs bl : List Int} {t : Int} (hb : ∀ k : Nat, k < n → getI bl k = some (v k)) (hh : ∀ k : Nat, k < n → getI hs k = some (d k)) (hw : ∀ k : Nat, k < n → 0 ≤ v k → v k + d k < 9223372036854775808 ∧ 0 ≤ d k) :
  ∀ (p : List Nat) (c : Int), (∀ k ∈ p, k < n) → nj hs t bl (p.map fun k : Nat => (k : Int)) c = if ∀ k ∈ p, 0 ≤ v k ∧ v k + d k ≤ t then some (.go ()) else some (.ret false)
 | [], c, _ => by simp [nj]
 | k :: p, c, hp => by
  have hk := hp k (List.mem_cons_self ..)
  have ih := oy (t := t) hb hh hw p (c + 1) fun k hk => hp k (List.mem_cons_of_mem _ hk)
  simp only [List.map_cons, nj, hb k hk, hh k hk, Option.bind_some]
  by_cases h1 : v k < 0
  ·rw [decide_eq_true h1, cond_true, if_neg (fun h => by have := (h k (List.mem_cons_self ..)).1; omega)]
  ·rw [decide_eq_false h1, cond_false]
   have h2 := hw k hk (by omega)
   rw [fD (by omega) (by omega)]
   by_cases h3 : v k + d k > t
   ·rw [decide_eq_true h3, cond_true, if_neg (fun h => by have := (h k (List.mem_cons_self ..)).2; omega)]
   ·rw [decide_eq_false h3, cond_false, ih]
    congr 1
    simp only [List.mem_cons, forall_eq_or_imp, eq_iff_iff]
    exact ⟨fun h => ⟨⟨by omega, by omega⟩, h⟩, fun h => h.2⟩
end
structure Sim6 (b : GBk) (pl : List Int) (hs : List Int) (d : Nat → Int) : Prop where
 hL : Len b
 n6 : b.Strokes.length ≤ 6
 hp : pl.length = b.Strokes.length
 hn : NdOk (nF b)
 d0 : ∀ k, 0 ≤ d k ∧ d k ≤ 15
 hh : ∀ k : Nat, k < b.Strokes.length → getI hs k = some (d k)
section
variable {b : GBk} {pl hs : List Int} {d : Nat → Int} (S : Sim6 b pl hs d)
include S
theorem Sim6.Bb (k : Nat) (hk : k < b.Strokes.length) : 0 ≤ Bg (hF pl) (nF b) d k ∧ Bg (hF pl) (nF b) d k ≤ 90 := by
 have h1 := Fh (hd := hF pl) S.hn S.d0 k
 have h2 := Bg_nn (hd := hF pl) (nd := nF b) (d := d) k
 rw [Ed_eq S.hn] at h1
 have := S.d0 k
 have := S.n6
 omega
theorem Sim6.ready {i : Nat} (hi : i < b.Strokes.length) {t : Int} (ht : 0 ≤ t) : (∀ k ∈ (List.range' 0 i).filter (foB b pl i), 0 ≤ sT (Bg (hF pl) (nF b) d) t i k ∧ sT (Bg (hF pl) (nF b) d) t i k + d k ≤ t) ↔ Bg (hF pl) (nF b) d i ≤ t := by
 constructor
 ·intro h
  have key : ∀ k, k < i → foB b pl i k = true → Ed (hF pl) (nF b) d k ≤ t := by
   intro k hk hf
   obtain ⟨h1, h2⟩ := h k (List.mem_filter.2 ⟨List.mem_range'.2 ⟨k, hk, by omega⟩, hf⟩)
   unfold sT fT at h1 h2
   rw [if_pos hk] at h1 h2
   rw [Ed_eq S.hn]
   split at h2
   ·exact h2
   ·rename_i hne
    rw [if_neg hne] at h1
    omega
  refine vj S.hn ht (fun k hk hh => key k hk ?_) (fun k hk => ?_)
  ·unfold foB; rw [hh]; simp
  ·obtain ⟨h1, h2⟩ := S.hn i k hk
   refine key _ h2 ?_
   unfold foB
   rw [Int.toNat_of_nonneg h1]
   simp [hk]
 ·intro h k hk
  obtain ⟨vW, hf⟩ := List.mem_filter.1 hk
  obtain ⟨j, hj, e⟩ := List.mem_range'.1 vW
  have hki : k < i := by omega
  have hE : Ed (hF pl) (nF b) d k ≤ Bg (hF pl) (nF b) d i := by
   unfold foB at hf
   rcases Bool.or_eq_true_iff.1 hf with h1 | h1
   ·exact uz S.hn (fun k => (S.d0 k).1) hki (by simpa using h1)
   ·have h2 := Ho (hd := hF pl) (d := d) S.hn (of_decide_eq_true h1)
    rwa [Int.toNat_natCast] at h2
  rw [Ed_eq S.hn] at hE
  have h1 := S.Bb k (by omega)
  have h2 := S.d0 k
  unfold sT fT
  rw [if_pos hki, if_pos (by omega)]
  omega
theorem Sim6.l1 {t : Int} (ht : 0 ≤ t) (wi : t ≤ 1000) : ∀ (p : List Int) (i : Nat), i + p.length = b.Strokes.length →
  lI ((List.range' 0 b.Strokes.length).map (foL b pl)) pl hs t p i (ngF (sT (Bg (hF pl) (nF b) d) t i) b.Strokes.length) ((List.range b.Strokes.length).map (sT (Bg (hF pl) (nF b) d) t i)) =
   some (.go (ngF (sT (Bg (hF pl) (nF b) d) t b.Strokes.length) b.Strokes.length, (List.range b.Strokes.length).map (sT (Bg (hF pl) (nF b) d) t b.Strokes.length)))
 | [], i, hi => by
  simp only [List.length_nil, Nat.add_zero] at hi
  subst hi
  rfl
 | e :: p, i, hi => by
  simp only [List.length_cons] at hi
  have hin : i < b.Strokes.length := by omega
  have hB := S.Bb i hin
  have ih := Sim6.l1 ht wi p (i + 1) (by omega)
  have e1 : ((i : Int) + 1) = ((i + 1 : Nat) : Int) := by omega
  have ev : sT (Bg (hF pl) (nF b) d) t i i = fT (Bg (hF pl) (nF b) d) t i := by unfold sT; rw [if_neg (Nat.lt_irrefl _)]
  simp only [lI]
  rw [getMap _ (by omega) (by omega), Int.toNat_natCast, ev, e1]
  simp only [Option.bind_some]
  by_cases h1 : Bg (hF pl) (nF b) d i < t
  ·have e2 : fT (Bg (hF pl) (nF b) d) t i = Bg (hF pl) (nF b) d i := by unfold fT; rw [if_pos h1]
   rw [e2, decide_eq_false (by omega), cond_false, wH (i := i) (by omega)]
   exact ih
  ·have e2 : fT (Bg (hF pl) (nF b) d) t i = -1 := by unfold fT; rw [if_neg h1]
   have e3 : getI ((List.range' 0 b.Strokes.length).map (foL b pl)) i = some (foL b pl i) := by
    unfold getI
    rw [if_pos (by omega), Int.toNat_natCast, List.getElem?_map, List.getElem?_range' (by omega)]
    simp
   have h6 := S.n6
   have e4 : aG (foL b pl i) = true := by
    refine fE ?_
    have h2 : (foL b pl i).length ≤ i := by
     unfold foL
     rw [List.length_map]
     exact Nat.le_trans (List.length_filter_le _ _) (by simp)
    omega
   have e5 := oy (n := b.Strokes.length) (v := sT (Bg (hF pl) (nF b) d) t i) (d := d) (hs := hs) (t := t) (bl := (List.range b.Strokes.length).map (sT (Bg (hF pl) (nF b) d) t i))
    (fun k hk => by rw [getMap _ (by omega) (by omega), Int.toNat_natCast]) S.hh (fun k hk h0 => by
     have h3 := S.Bb k hk
     have h4 := S.d0 k
     refine ⟨?_, h4.1⟩
     unfold sT fT
     split <;> split <;> omega) ((List.range' 0 i).filter (foB b pl i)) 0 (fun k hk => by
     obtain ⟨j, hj, e⟩ := List.mem_range'.1 (List.mem_filter.1 hk).1
     omega)
   rw [e2, decide_eq_true (by omega), cond_true, e3]
   simp only [Option.bind_some]
   rw [e4, cond_true, show nj hs t ((List.range b.Strokes.length).map (sT (Bg (hF pl) (nF b) d) t i)) (foL b pl i) 0 = _ from e5]
   have hr := S.ready hin ht
   by_cases h3 : Bg (hF pl) (nF b) d i ≤ t
   ·rw [if_pos (hr.2 h3)]
    simp only [lbind]
    have h4 : Bg (hF pl) (nF b) d i = t := by omega
    have e6 : List.set ((List.range b.Strokes.length).map (sT (Bg (hF pl) (nF b) d) t i)) i t = (List.range b.Strokes.length).map (sT (Bg (hF pl) (nF b) d) t (i + 1)) := by
     refine List.ext_getElem? fun k => ?_
     rw [List.getElem?_set, List.getElem?_map, List.getElem?_map]
     by_cases hk : i = k
     ·subst hk
      rw [if_pos rfl, if_pos (by simpa using hin), List.getElem?_range hin]
      simp only [Option.map_some]
      unfold sT fT
      rw [if_pos (Nat.lt_succ_self _), if_pos (by omega), h4]
     ·rw [if_neg hk]
      by_cases hkn : k < b.Strokes.length
      ·rw [List.getElem?_range hkn]
       simp only [Option.map_some, Option.some.injEq]
       unfold sT
       by_cases h5 : k < i
       ·simp only [h5, show k < i + 1 by omega, if_true]
       ·simp only [h5, show ¬ k < i + 1 by omega, if_false]
      ·rw [List.getElem?_eq_none (by simp; omega)]
       rfl
    have e7 : ngF (sT (Bg (hF pl) (nF b) d) t i) b.Strokes.length - 1 = ngF (sT (Bg (hF pl) (nF b) d) t (i + 1)) b.Strokes.length := by
     refine wJ (i := i) ?_ ?_ ?_ hin
     ·rw [ev, e2]; omega
     ·unfold sT fT
      rw [if_pos (Nat.lt_succ_self _), if_pos (by omega)]
      omega
     ·intro k hk
      unfold sT
      by_cases h5 : k < i
      ·simp only [h5, show k < i + 1 by omega, if_true]
      ·simp only [h5, show ¬ k < i + 1 by omega, if_false]
    have mm := ngF_b (sT (Bg (hF pl) (nF b) d) t (i + 1)) b.Strokes.length
    rw [fD (by omega) (by omega), e7, e6]
    exact ih
   ·rw [if_neg (fun h => h3 (hr.1 h))]
    simp only [lbind, cond_false]
    rw [wH (i := i) (by omega)]
    exact ih
theorem Sim6.l0 : ∀ (k : Nat) (t : Int), 0 ≤ t → t ≤ 200 → 90 < t + k → ∃ c : Int × Int, mr ((List.range' 0 b.Strokes.length).map (foL b pl)) pl hs (k + 1) (ngF (sT (Bg (hF pl) (nF b) d) t 0) b.Strokes.length) t ((List.range b.Strokes.length).map (sT (Bg (hF pl) (nF b) d) t 0)) =
   some (.go (c.1, c.2, (List.range b.Strokes.length).map (Bg (hF pl) (nF b) d))) := by
 have fin : ∀ t : Int, (∀ j, j < b.Strokes.length → Bg (hF pl) (nF b) d j < t) → (List.range b.Strokes.length).map (sT (Bg (hF pl) (nF b) d) t 0) = (List.range b.Strokes.length).map (Bg (hF pl) (nF b) d) := by
  intro t h
  refine List.map_congr_left fun j hj => ?_
  unfold sT fT
  rw [if_neg (Nat.not_lt_zero _), if_pos (h j (List.mem_range.1 hj))]
 have stop : ∀ (k : Nat) (t : Int), ngF (sT (Bg (hF pl) (nF b) d) t 0) b.Strokes.length ≤ 0 → ∃ c : Int × Int, mr ((List.range' 0 b.Strokes.length).map (foL b pl)) pl hs (k + 1) (ngF (sT (Bg (hF pl) (nF b) d) t 0) b.Strokes.length) t ((List.range b.Strokes.length).map (sT (Bg (hF pl) (nF b) d) t 0)) =
   some (.go (c.1, c.2, (List.range b.Strokes.length).map (Bg (hF pl) (nF b) d))) := by
  intro k t hz
  refine ⟨(ngF (sT (Bg (hF pl) (nF b) d) t 0) b.Strokes.length, t), ?_⟩
  simp only [mr]
  rw [decide_eq_false (by omega), cond_false, fin t ?_]
  intro j hj
  have h1 := wI hz j hj
  unfold sT fT at h1
  rw [if_neg (Nat.not_lt_zero _)] at h1
  split at h1
  ·assumption
  ·omega
 intro k
 induction k with
 | zero =>
  intro t h0 h1 h2
  refine stop 0 t ?_
  rw [ra ?_]
  ·exact Int.le_refl _
  ·intro j hj
   have := S.Bb j hj
   unfold sT fT
   rw [if_neg (Nat.not_lt_zero _), if_pos (by omega)]
   exact this.1
 | succ k ih =>
  intro t h0 h1 h2
  by_cases hz : ngF (sT (Bg (hF pl) (nF b) d) t 0) b.Strokes.length ≤ 0
  ·exact stop (k + 1) t hz
  ·have h6 := S.n6
   have ht : t ≤ 90 := by
    by_cases hh : t ≤ 90
    ·exact hh
    ·exfalso
     refine hz ?_
     rw [ra ?_]
     ·exact Int.le_refl _
     ·intro j hj
      have := S.Bb j hj
      unfold sT fT
      rw [if_neg (Nat.not_lt_zero _), if_pos (by omega)]
      exact this.1
   obtain ⟨c, ec⟩ := ih (t + 1) (by omega) (by omega) (by omega)
   refine ⟨c, ?_⟩
   have e1 := S.l1 h0 (by omega) pl 0 (by have := S.hp; omega)
   have en : ∀ j, j < b.Strokes.length → sT (Bg (hF pl) (nF b) d) t b.Strokes.length j = sT (Bg (hF pl) (nF b) d) (t + 1) 0 j := by
    intro j hj
    unfold sT
    rw [if_pos hj, if_neg (Nat.not_lt_zero _)]
   rw [yD en, List.map_congr_left (fun j hj => en j (List.mem_range.1 hj))] at e1
   rw [mr, decide_eq_true (by omega), cond_true, fE (by have := S.hp; omega), cond_true]
   rw [show lI ((List.range' 0 b.Strokes.length).map (foL b pl)) pl hs t pl 0 _ _ = _ from e1]
   simp only [lbind]
   rw [fD (by omega) (by omega)]
   exact ec
theorem Sim6.begins : rI b pl hs = some ((List.range b.Strokes.length).map (Bg (hF pl) (nF b) d)) := by
 have h6 := S.n6
 have hp := S.hp
 unfold rI
 rw [show mkOk 8 (pl.length : Int) = true by rw [Fx]; omega, cond_true, show mkOk 24 (pl.length : Int) = true by rw [Fx]; omega, cond_true, fE (by omega), cond_true]
 have e1 := wG S.hL S.hp S.n6 b.Strokes.length 0 [] (by omega)
 simp only [List.replicate_zero, List.nil_append] at e1
 rw [Int.toNat_natCast, hp]
 rw [show lH b pl b.Strokes.length 0 [] (List.replicate b.Strokes.length 0) = _ from e1]
 simp only [Option.bind_some]
 obtain ⟨c, ec⟩ := S.l0 999999 0 (Int.le_refl _) (by omega) (by omega)
 have hneg : ∀ j, j < b.Strokes.length → sT (Bg (hF pl) (nF b) d) 0 0 j = -1 := by
  intro j hj
  have := S.Bb j hj
  unfold sT fT
  rw [if_neg (Nat.not_lt_zero _), if_neg (by omega)]
 have e2 : (List.range b.Strokes.length).map (sT (Bg (hF pl) (nF b) d) 0 0) = List.replicate b.Strokes.length (-1) := by
  rw [List.eq_replicate_iff]
  exact ⟨by simp, fun x hx => by obtain ⟨j, hj, rfl⟩ := List.mem_map.1 hx; exact hneg j (List.mem_range.1 hj)⟩
 have e3 : ∀ n, ngF (fun _ => -1) n = n := by
  intro n
  induction n with
  | zero => rfl
  | succ n ih => unfold ngF; rw [ih, if_pos (by omega)]; omega
 rw [e2, yD (w := fun _ => -1) hneg, e3] at ec
 rw [show mr ((List.range' 0 b.Strokes.length).map (foL b pl)) pl hs 1000000 (b.Strokes.length : Int) 0 (List.replicate b.Strokes.length (-1)) = _ from ec]
 rfl
theorem Sim6.ended_l0 : ∀ (k i : Nat), i ≤ b.Strokes.length → b.Strokes.length < i + k → ∃ c : Int, pI hs k i ((List.range b.Strokes.length).map fun j => if j < i then Ed (hF pl) (nF b) d j else Bg (hF pl) (nF b) d j) = some (.go (c, (List.range b.Strokes.length).map (Ed (hF pl) (nF b) d)))
 | 0, i, h, h2 => absurd h2 (by omega)
 | k + 1, i, h, h2 => by
  have h6 := S.n6
  simp only [pI, List.length_map, List.length_range]
  by_cases hi : i < b.Strokes.length
  ·have hB := S.Bb i hi
   have hd := S.d0 i
   rw [decide_eq_true (by omega), cond_true, getMap _ (by omega) (by omega), Int.toNat_natCast, if_neg (Nat.lt_irrefl _), S.hh i hi]
   simp only [Option.bind_some]
   rw [fD (n := Bg (hF pl) (nF b) d i + d i) (by omega) (by omega), ← Ed_eq S.hn, fD (by omega) (by omega), show ((i : Int) + 1) = ((i + 1 : Nat) : Int) by omega]
   have e6 : List.set ((List.range b.Strokes.length).map fun j => if j < i then Ed (hF pl) (nF b) d j else Bg (hF pl) (nF b) d j) i (Ed (hF pl) (nF b) d i) = (List.range b.Strokes.length).map fun j => if j < i + 1 then Ed (hF pl) (nF b) d j else Bg (hF pl) (nF b) d j := by
    refine List.ext_getElem? fun q => ?_
    rw [List.getElem?_set, List.getElem?_map, List.getElem?_map]
    by_cases hk : i = q
    ·subst hk
     rw [if_pos rfl, if_pos (by simpa using hi), List.getElem?_range hi]
     simp
    ·rw [if_neg hk]
     by_cases hkn : q < b.Strokes.length
     ·rw [List.getElem?_range hkn]
      simp only [Option.map_some, Option.some.injEq]
      by_cases h5 : q < i
      ·simp only [h5, show q < i + 1 by omega, if_true]
      ·simp only [h5, show ¬ q < i + 1 by omega, if_false]
     ·rw [List.getElem?_eq_none (by simp; omega)]
      rfl
   rw [e6]
   exact Sim6.ended_l0 k (i + 1) (by omega) (by omega)
  ·rw [decide_eq_false (by omega), cond_false]
   refine ⟨i, ?_⟩
   congr 3
   refine List.map_congr_left fun j hj => ?_
   rw [if_pos (by have := List.mem_range.1 hj; omega)]
theorem Sim6.ended : rL b pl hs = some ((List.range b.Strokes.length).map (Ed (hF pl) (nF b) d)) := by
 have h6 := S.n6
 unfold rL
 rw [S.begins]
 simp only [Option.bind_some]
 rw [fE (by simp; omega), cond_true]
 obtain ⟨c, ec⟩ := S.ended_l0 1000000 0 (Nat.zero_le _) (by omega)
 have e : ((List.range b.Strokes.length).map fun j => if j < 0 then Ed (hF pl) (nF b) d j else Bg (hF pl) (nF b) d j) = (List.range b.Strokes.length).map (Bg (hF pl) (nF b) d) := List.map_congr_left fun j _ => if_neg (Nat.not_lt_zero _)
 rw [e] at ec
 rw [show pI hs 1000000 0 ((List.range b.Strokes.length).map (Bg (hF pl) (nF b) d)) = _ from ec]
 rfl
end
theorem wK {b : GBk} (h : Len b) (hB : BOk b) {pl : List Int} (hp : pl.length = b.Strokes.length) (hi : Bool) : Sim6 b pl (hrL b hi) (dF b (if hi then 1 else 0)) :=
 ⟨h, hB.ns.2, hp, hB.h.nd, fun k => hB.h.d _ k, fun k hk => by rw [yu hi (by omega) (by omega), Int.toNat_natCast]⟩
end Go.V
end
section
namespace Go.V
open Go Go.Proofs IntKind





def rb (eN : List Int) : List Int → Int → Option (LOut (Bool) (Unit))
 | [], cw => some (.go ())
 | e0 :: p0, cw => Option.bind (getI eN cw) (fun x1 => cond (e0 != x1) (some (.ret false)) (rb eN p0 (cw + 1)))
def vy (dp : List Int) (eN : List Int) : Option (Bool) := cond ((List.length dp : Int) != (List.length eN : Int)) (some false) (cond (aG dp) (lbind (rb eN dp 0) (fun r3 => some r3) (fun c2 => some true) (fun _ _ => none)) none)
theorem RQ (dp : List Int) (eN : List Int) (R : Bool) (h : vy dp eN = some R) : ak Tryz.prog G0 40 [.sl (ae eI dp) (List.length dp) false, .sl (ae eI eN) (List.length eN) false] (.tree (.lit (.bool R))) := by
 refine ak.runR mixed Tryz.call40 Tryz.func40 rfl (by simp [Tryz.ntmps40]; kernel_rfl) ?_
 obtain ⟨KF, h, kF, kN⟩ := cI h
 simp only [vy] at h
 cases d4 : ((List.length dp : Int) != (List.length eN : Int))
 ·simp only [d4, hs] at h
  cases g6 : (aG dp)
  ·simp only [g6, hs] at h
   exact absurd h kN
  simp only [g6, hs] at h
  simp only [vz, tyf, d4, g6, nm, seval]
  obtain ⟨K5, h, vp, mC, Hr, lj⟩ := eR h kN
  obtain ⟨f5, ql, h⟩ := call2 h
  obtain ⟨I5, iI⟩ : ∃ I : Nat → St → Prop, I = (fun m st => ∃ (p5 : List Int) (gR : Int), m = List.length p5 ∧ 0 ≤ gR ∧ List.drop (Int.toNat gR) dp = p5 ∧ st.df = [] ∧ 7 ≤ st.nx ∧ st.tm 0 = .sl (ae eI dp) (List.length dp) false ∧ st.tm 1 = .sl (ae eI eN) (List.length eN) false ∧ st.tm 5 = .lit (.int .i64 gR) ∧ K5 (f5 p5 gR)) := ⟨_, rfl⟩
  refine loopK mixed (by kernel_rfl) I5 (List.length dp) (by rw [iI]; refine ⟨dp, 0, rfl, Int.le_refl _, rfl, rfl, (show 7 ≤ 7 by omega), ?_, ?_, ?_, h⟩ <;> first | (simp only [ua, d4, nm, seval] <;> rfl) | rfl) ?_
  rintro m ⟨tm, H, ir, df⟩ hinv
  rw [iI] at hinv
  obtain ⟨p5, gR, rfl, eG, fe, hdf, qm, e7, e8, e9, h⟩ := hinv
  simp only at hdf qm e7 e8 e9
  have di := fw (m := 7) (b := ir) (by omega)
  subst hdf ql
  cases p5 with
  | nil =>
   have cm : (decide (gR < (List.length dp : Int))) = false := fj eG fe
   simp only [rb, hs, reduceCtorEq] at h
   replace h := mC _ h
   try dsimp only at h
   try simp only [hs] at h
   try simp only [vz, tyf, d4, g6, di, e7, e8, e9, cm, nm, seval]
   obtain rfl := kF _ h
   exact bw Tryz.results40 rfl
  | cons e5 p5 =>
   have dJ : (decide (gR < (List.length dp : Int))) = true := fh eG fe
   have JY := dG eG fe
   have wL := eQ eG fe g6
   simp only [rb, hs, reduceCtorEq] at h
   simp only [vz, tyf, d4, g6, di, e7, e8, e9, dJ, (aB JY), wL, nm, seval]
   refine jk (fun tm => tm 0 = .sl (ae eI dp) (List.length dp) false ∧ tm 1 = .sl (ae eI eN) (List.length eN) false ∧ tm 5 = .lit (.int .i64 gR) ∧ True) (by refine ⟨e7, e8, e9, trivial⟩ <;> first | (simp only [ua, d4, di, e7, e8, e9, dJ, wL, nm, seval] <;> rfl) | rfl) ?_
   rintro tm ⟨cM, bB, bK, _⟩
   obtain ⟨Dn, nN, h⟩ := optI h lj
   try simp only [hs] at h
   cases ei : (e5 != Dn)
   ·simp only [ei, hs] at h
    simp only [vz, tyf, d4, g6, di, dJ, (aB JY), wL, cM, bB, bK, (aB nN), ei, nm, seval]
    exact ⟨List.length p5, Nat.lt_succ_self _, by rw [iI]; refine ⟨p5, gR + 1, rfl, Int.le_trans eG (Int.le_add_one (Int.le_refl _)), cU eG fe, rfl, (show 7 ≤ ir + 16 by omega), cM, bB, ?_, (by first | exact h | (simp only [d4, dJ, ei]; exact h))⟩ <;> first | (simp only [ua, d4, di, dJ, wL, cM, bB, bK, ei, nm, seval] <;> rfl) | rfl⟩
   simp only [ei, hs] at h
   try simp only [vz, tyf, d4, g6, di, dJ, (aB JY), wL, cM, bB, bK, (aB nN), ei, nm, seval]
   replace h := vp _ h
   try dsimp only at h
   obtain rfl := kF _ h
   exact bw Tryz.results40 rfl
 simp only [d4, hs] at h
 try simp only [vz, tyf, d4, nm, seval]
 obtain rfl := kF _ h
 exact bw Tryz.results40 rfl
theorem wM {xs : List Int} : ∀ (p : List Int) (c : Nat), xs.drop c = p → rb xs p c = some (.go ())
 | [], _, _ => rfl
 | e :: p, c, h => by
  have h1 : getI xs (c : Int) = some e := dG (by omega) (by simpa using h)
  have h2 : xs.drop (c + 1) = p := by have := cU (i := (c : Int)) (by omega) (by simpa using h); simpa using this
  simp only [rb, h1, Option.bind_some, bne_self_eq_false, cond_false]
  exact wM p (c + 1) h2
theorem sameI {xs : List Int} (h : xs.length ≤ 1000) : vy xs xs = some true := by
 unfold vy
 rw [fE (by omega), cond_true, show rb xs xs 0 = _ from wM xs 0 rfl]
 simp [lbind]
theorem JZ (a e : Int) : (if a < e then e else a) = max a e := by split <;> omega
theorem RW {b : GBk} (h : Len b) : se b = some false ∨ se b = some true := by
 unfold se
 rw [fE h.st, cond_true]
 rcases vL b.Strokes 0 with e | e
 ·rw [e]
  simp only [lbind]
  cases (decide ((b.Boards.length : Int) ≤ 5)) with
  | false => exact .inl rfl
  | true => cases (decide ((b.Strokes.length : Int) ≤ 8)) <;> simp
 ·rw [e]; exact .inl rfl
theorem ak.runRQ {P : Program} {G : Glob} (hm : P.follows .mixedOrders = true) {f : FuncId} {fn : Func} {code : Code} {args : List VV} {r : PRes} (hc : Callable P f) (hf : P.funcs[f]? = some fn) (hb : fn.body = some code)
  (hst : (decide (args.length ≤ fn.ntmps) && codeQ fn.ntmps code) = true) (h : CWp P (G.at (some none)) fn.ntmps code (OpenPostD P G fn (RR r) (RPn r)) { tm := argsTm args, H := fun _ => none, nx := 0, df := [] }) : ak P G f args r := by
 rw [Bool.and_eq_true] at hst
 exact ak.runR hm hc hf hb (by rw [Bool.and_eq_true]; exact ⟨hst.1, lB hst.2⟩) h
def sB  : List Int → Int → Int → Option (LOut (Int) (Int))
 | [], wN, da => some (.go da)
 | e0 :: p0, wN, da => sB p0 (wN + 1) (if da < e0 then e0 else da)
def su (bD : List Int) : Option (Int) := cond (aG bD) (lbind (sB bD 0 0) (fun r2 => some r2) (fun c1 => some c1) (fun _ _ => none)) none
theorem Nb (bD : List Int) (R : Int) (h : su bD = some R) : ak Tryz.prog G0 90 [.sl (ae eI bD) (List.length bD) false] (.tree (.lit (.int .i64 R))) := by
 refine ak.runR mixed Tryz.call90 Tryz.func90 rfl (by simp [Tryz.ntmps90]; kernel_rfl) ?_
 obtain ⟨KF, h, kF, kN⟩ := cI h
 simp only [su] at h
 cases g4 : (aG bD)
 ·simp only [g4, hs] at h
  exact absurd h kN
 simp only [g4, hs] at h
 simp only [vz, tyf, g4, nm, seval]
 obtain ⟨K3, h, mn, iB, rH, kh⟩ := eR h kN
 obtain ⟨f3, j8, h⟩ := call3 h
 obtain ⟨I3, dU⟩ : ∃ I : Nat → St → Prop, I = (fun m st => ∃ (p3 : List Int) (iy : Int) (cB : Int), m = List.length p3 ∧ 0 ≤ iy ∧ List.drop (Int.toNat iy) bD = p3 ∧ st.df = [] ∧ 3 ≤ st.nx ∧ st.tm 0 = .sl (ae eI bD) (List.length bD) false ∧ st.tm 3 = .lit (.int .i64 cB) ∧ st.tm 4 = .lit (.int .i64 iy) ∧ K3 (f3 p3 iy cB)) := ⟨_, rfl⟩
 refine loopK mixed (by kernel_rfl) I3 (List.length bD) (by rw [dU]; refine ⟨bD, 0, 0, rfl, Int.le_refl _, rfl, rfl, (show 3 ≤ 3 by omega), ?_, ?_, ?_, h⟩ <;> first | (simp only [ua, nm, seval] <;> rfl) | rfl) ?_
 rintro m ⟨tm, H, dr, df⟩ hinv
 rw [dU] at hinv
 obtain ⟨p3, iy, cB, rfl, bJ, ca, hdf, j9, e5, e6, e7, h⟩ := hinv
 simp only at hdf j9 e5 e6 e7
 have n8 := fw (m := 3) (b := dr) (by omega)
 subst hdf j8
 cases p3 with
 | nil =>
  have d9 : (decide (iy < (List.length bD : Int))) = false := fj bJ ca
  simp only [sB, hs, reduceCtorEq] at h
  replace h := iB _ h
  try dsimp only at h
  try simp only [hs] at h
  try simp only [vz, tyf, g4, n8, e5, e6, e7, d9, nm, seval]
  refine ct (x := (.lit (.int .i64 cB))) (by first | (simp only [Tryz.results90, resV, resL, aO, bX, bY, uw, cr, tyf, g4, n8, d9, nm, seval] <;> rfl) | rfl) ?_
  obtain rfl := kF _ h
  refine fB ?_ ?_
  ·simp only [tre, aI, Bool.and_self]
  ·first | (simp only [outV, uw, fp, cr, tyf, nrm, aF, g4, n8, e5, e6, e7, d9, nm, seval] <;> rfl) | rfl
 | cons e3 p3 =>
  have gv : (decide (iy < (List.length bD : Int))) = true := fh bJ ca
  have lG := dG bJ ca
  have jn := eQ bJ ca g4
  simp only [sB, hs, reduceCtorEq] at h
  simp only [vz, tyf, g4, n8, e5, e6, e7, gv, (aB lG), jn, nm, seval]
  exact ⟨List.length p3, Nat.lt_succ_self _, by rw [dU]; refine ⟨p3, iy + 1, (if cB < e3 then e3 else cB), rfl, Int.le_trans bJ (Int.le_add_one (Int.le_refl _)), cU bJ ca, rfl, (show 3 ≤ dr + 14 by omega), e5, ?_, ?_, (by first | exact h | (simp only [gv]; exact h))⟩ <;> first | (simp only [ua, n8, e5, e6, e7, gv, jn, nm, seval] <;> rfl) | rfl⟩
def sw (al : GBk) (ah : List Int) : Option (Int) := Option.bind (lP al true) (fun r1 => Option.bind (rL al ah r1) (fun r2 => Option.bind (su r2) (fun r3 => some r3)))
theorem Nc (al : GBk) (ah : List Int) (R : Int) (h : sw al ah = some R) : ak Tryz.prog G0 54 [.agg (cGBk al), .sl (ae eI ah) (List.length ah) false] (.tree (.lit (.int .i64 R))) := by
 refine ak.runR mixed Tryz.call54 Tryz.func54 rfl (by simp [Tryz.ntmps54]; kernel_rfl) ?_
 obtain ⟨KF, h, kF, kN⟩ := cI h
 simp only [sw] at h
 simp only [vz, tyf, nm, seval]
 refine jk (fun tm => tm 1 = .sl (ae eI ah) (List.length ah) false ∧ tm 2 = .ptr 0 0 ∧ True) (by refine ⟨?_, ?_, trivial⟩ <;> first | (simp only [ua, nm, seval] <;> rfl) | rfl) ?_
 rintro tm ⟨e4, e5, _⟩
 obtain ⟨r6, o7, h⟩ := optI h kN
 try simp only [hs] at h
 simp only [vz, tyf, e4, e5, nm, seval]
 refine dktA (Mb _ _ _ o7) ?_
 refine bN (fun tm => tm 5 = .agg (cGBk al) ∧ tm 6 = .sl (ae eI ah) (List.length ah) false ∧ tm 8 = .sl (ae eI r6) (List.length r6) false ∧ True) (by refine ⟨?_, ?_, ?_, trivial⟩ <;> first | (simp only [ua, e4, e5, nm, seval] <;> rfl) | rfl) ?_
 rintro tm ⟨e8, e9, bk, _⟩
 obtain ⟨lV, lG, h⟩ := optI h kN
 try simp only [hs] at h
 simp only [vz, tyf, e8, e9, bk, nm, seval]
 refine dktA (LZ _ _ _ _ lG) ?_
 refine bN (fun tm => tm 9 = .sl (ae eI lV) (List.length lV) false ∧ True) (by refine ⟨?_, trivial⟩ <;> first | (simp only [ua, e8, e9, bk, nm, seval] <;> rfl) | rfl) ?_
 rintro tm ⟨bI, _⟩
 obtain ⟨g9, mB, h⟩ := optI h kN
 try simp only [hs] at h
 simp only [vz, tyf, bI, nm, seval]
 refine dktA (Nb _ _ mB) ?_
 refine bN (fun tm => tm 10 = .lit (.int .i64 g9) ∧ True) (by refine ⟨?_, trivial⟩ <;> first | (simp only [ua, bI, nm, seval] <;> rfl) | rfl) ?_
 rintro tm ⟨bB, _⟩
 try simp only [vz, tyf, bB, nm, seval]
 refine ct (x := (.lit (.int .i64 g9))) (by first | (simp only [Tryz.results54, resV, resL, aO, bX, bY, uw, cr, tyf, nm, seval] <;> rfl) | rfl) ?_
 obtain rfl := kF _ h
 refine fB ?_ ?_
 ·simp only [tre, aI, Bool.and_self]
 ·first | (simp only [outV, uw, fp, cr, tyf, nrm, aF, bB, nm, seval] <;> rfl) | rfl
def oz (al : GBk) (aD : List Int) (aV : List Int) (r1 : List Int) (r2 : List Int) : List Int → Int → Int → Option (LOut (Bool) (Int))
 | [], iz, je => some (.go je)
 | e0 :: p0, iz, je => Option.bind (sf al e0) (fun r3 => cond (r3) (Option.bind (getI r2 e0) (fun x4 => cond (x4 != je) (some (.ret false)) (cond (decide (iz > 0)) (Option.bind (getI aV (i64.wrap (iz - 1))) (fun x5 => Option.bind (mo al aD x5 e0) (fun r6 => cond (r6) (Option.bind (getI r1 e0) (fun x7 => oz al aD aV r1 r2 p0 (iz + 1) (i64.wrap (x4 + x7)))) (some (.ret false))))) (Option.bind (getI r1 e0) (fun x8 => oz al aD aV r1 r2 p0 (iz + 1) (i64.wrap (x4 + x8))))))) (some (.ret false)))
def vX (al : GBk) (aD : List Int) (aV : List Int) : Option (Bool) := cond (decide ((List.length aV : Int) < 1)) (some false) (cond (decide ((List.length aV : Int) > (List.length aD : Int))) (some false) (Option.bind (lP al true) (fun r1 => Option.bind (rI al aD r1) (fun r2 => cond (aG aV) (lbind (oz al aD aV r1 r2 aV 0 0) (fun lV => some lV) (fun c9 => Option.bind (sw al aD) (fun nz => some (c9 == nz))) (fun _ _ => none)) none))))
theorem Sw (al : GBk) (aD : List Int) (aV : List Int) (R : Bool) (h : vX al aD aV = some R) : ak Tryz.prog G0 47 [.agg (cGBk al), .sl (ae eI aD) (List.length aD) false, .sl (ae eI aV) (List.length aV) false] (.tree (.lit (.bool R))) := by
 refine ak.runRQ mixed Tryz.call47 Tryz.func47 rfl (by simp [Tryz.ntmps47]; kernel_rfl) ?_
 obtain ⟨KF, h, kF, kN⟩ := cI h
 simp only [vX] at h
 cases dJ : (decide ((List.length aV : Int) < 1))
 ·simp only [dJ, hs] at h
  cases de : (decide ((List.length aV : Int) > (List.length aD : Int)))
  ·simp only [de, hs] at h
   obtain ⟨g9, mB, h⟩ := optI h kN
   try simp only [hs] at h
   simp only [vz, tyf, dJ, de, nm, seval]
   refine ktA (Mb _ _ _ mB) ?_
   refine bN (fun tm => tm 1 = .sl (ae eI aD) (List.length aD) false ∧ tm 2 = .sl (ae eI aV) (List.length aV) false ∧ tm 3 = .ptr 0 0 ∧ tm 22 = .sl (ae eI g9) (List.length g9) false ∧ True) (by refine ⟨?_, ?_, ?_, ?_, trivial⟩ <;> first | (simp only [ua, dJ, de, nm, seval] <;> rfl) | rfl) ?_
   rintro tm ⟨bB, bK, cv, cD, _⟩
   obtain ⟨gw, iq, h⟩ := optI h kN
   try simp only [hs] at h
   simp only [vz, tyf, dJ, de, bB, bK, cv, cD, nm, seval]
   refine kown (args0 := [.agg (cGBk al), .sl (ae eI aD) (List.length aD) false, .sl (ae eI g9) (List.length g9) false]) (by first | (simp only [nrm, aF] <;> rfl) | rfl) (by simp only [tre, aI, Bool.and_self]) (LV _ _ _ _ iq) ?_
   cases o0 : (aG aV)
   ·simp only [o0, hs] at h
    exact absurd h kN
   simp only [o0, hs] at h
   simp only [vz, tyf, dJ, de, bB, bK, cv, cD, o0, nm, seval]
   obtain ⟨Tg, h, re, Ka, Th, kc⟩ := eR h kN
   obtain ⟨Ti, Kb, h⟩ := call3 h
   obtain ⟨Tj, mX⟩ : ∃ I : Nat → St → Prop, I = (fun m st => ∃ (me : List Int) (bL : Int) (fX : Int), m = List.length me ∧ 0 ≤ bL ∧ List.drop (Int.toNat bL) aV = me ∧ st.df = [] ∧ 22 ≤ st.nx ∧ st.H 0 = some (.cells (some 25) (cGBk al)) ∧ st.H 18 = some (.cells (none) (ae eI gw)) ∧ st.tm 1 = .sl (ae eI aD) (List.length aD) false ∧ st.tm 2 = .sl (ae eI aV) (List.length aV) false ∧ st.tm 3 = .ptr 0 0 ∧ st.tm 7 = .sl (ae eI g9) (List.length g9) false ∧ st.tm 8 = .ref 18 0 (List.length gw) 1 (List.length gw) ∧ st.tm 9 = .lit (.int .i64 fX) ∧ st.tm 10 = .lit (.int .i64 bL) ∧ Tg (Ti me bL fX)) := ⟨_, rfl⟩
   refine loopK mixed (lB (by kernel_rfl)) Tj (List.length aV) (by rw [mX]; refine ⟨aV, 0, 0, rfl, Int.le_refl _, rfl, rfl, (show 22 ≤ 22 by omega), ?_, ?_, bB, bK, cv, ?_, ?_, ?_, ?_, h⟩ <;> first | (simp only [ua, dJ, de, bB, bK, cv, cD, nm, seval] <;> rfl) | rfl) ?_
   rintro m ⟨tm, H, rh, df⟩ hinv
   rw [mX] at hinv
   obtain ⟨me, bL, fX, rfl, i0, kd, hdf, Kc, ri, rj, du, bA, bZ, bR, cj, ck, dV, h⟩ := hinv
   simp only at hdf Kc ri rj du bA bZ bR cj ck dV
   have sC := fw (m := 22) (b := rh) (by omega)
   subst hdf Kb
   cases me with
   | nil =>
    have Ke : (decide (bL < (List.length aV : Int))) = false := fj i0 kd
    simp only [oz, hs, reduceCtorEq] at h
    replace h := Ka _ h
    try dsimp only at h
    try simp only [hs] at h
    obtain ⟨Tk, Tl, h⟩ := optI h kN
    try simp only [hs] at h
    simp only [vz, tyf, dJ, de, o0, sC, du, bA, bZ, bR, cj, ck, dV, ri, rj, Ke, nm, seval]
    refine ktA (Nc _ _ _ Tl) ?_
    refine bN (fun tm => tm 85 = .lit (.int .i64 fX) ∧ tm 88 = .lit (.int .i64 Tk) ∧ True) (by refine ⟨?_, ?_, trivial⟩ <;> first | (simp only [ua, dJ, de, sC, du, bA, bZ, bR, cj, ck, dV, ri, rj, Ke, nm, seval] <;> rfl) | rfl) ?_
    rintro tm ⟨gz, gb, _⟩
    have Tm := And.intro dJ (And.intro de (And.intro o0 (And.intro sC (And.intro ri (And.intro rj Ke)))))
    try simp only [vz, tyf, Tm, gz, gb, nm, seval]
    obtain rfl := kF _ h
    exact bw Tryz.results47 rfl
   | cons cg me =>
    have Kf : (decide (bL < (List.length aV : Int))) = true := fh i0 kd
    have jz := dG i0 kd
    have Kg := eQ i0 kd o0
    simp only [oz, hs, reduceCtorEq] at h
    simp only [vz, tyf, dJ, de, o0, sC, du, bA, bZ, bR, cj, ck, dV, ri, rj, Kf, (aB jz), Kg, nm, seval]
    refine jk (fun tm => tm 1 = .sl (ae eI aD) (List.length aD) false ∧ tm 2 = .sl (ae eI aV) (List.length aV) false ∧ tm 3 = .ptr 0 0 ∧ tm 7 = .sl (ae eI g9) (List.length g9) false ∧ tm 8 = .ref 18 0 (List.length gw) 1 (List.length gw) ∧ tm 9 = .lit (.int .i64 fX) ∧ tm 10 = .lit (.int .i64 bL) ∧ True) (by refine ⟨du, bA, bZ, bR, cj, ck, dV, trivial⟩ <;> first | (simp only [ua, dJ, de, sC, du, bA, bZ, bR, cj, ck, dV, ri, rj, Kf, Kg, nm, seval] <;> rfl) | rfl) ?_
    rintro tm ⟨cy, cz, cW, d6, cF, cu, dD, _⟩
    have gg := And.intro dJ (And.intro de (And.intro o0 (And.intro sC (And.intro ri (And.intro rj (And.intro Kf Kg))))))
    obtain ⟨N5, Tn, h⟩ := optI h kc
    try simp only [hs] at h
    simp only [vz, tyf, gg, (aB jz), cy, cz, cW, d6, cF, cu, dD, nm, seval]
    refine dktA (MR _ _ _ Tn) ?_
    refine bN (fun tm => tm 1 = .sl (ae eI aD) (List.length aD) false ∧ tm 2 = .sl (ae eI aV) (List.length aV) false ∧ tm 3 = .ptr 0 0 ∧ tm 7 = .sl (ae eI g9) (List.length g9) false ∧ tm 8 = .ref 18 0 (List.length gw) 1 (List.length gw) ∧ tm 9 = .lit (.int .i64 fX) ∧ tm 10 = .lit (.int .i64 bL) ∧ tm 38 = .lit (.bool N5) ∧ True) (by refine ⟨cy, cz, cW, d6, cF, cu, dD, ?_, trivial⟩ <;> first | (simp only [ua, gg, cy, cz, cW, d6, cF, cu, dD, nm, seval] <;> rfl) | rfl) ?_
    rintro tm ⟨kz, k6, oC, oD, jY, md, fU, iu, _⟩
    cases fK : (N5)
    ·simp only [fK, hs] at h
     try simp only [vz, tyf, gg, (aB jz), kz, k6, oC, oD, jY, md, fU, iu, fK, nm, seval]
     replace h := re _ h
     try dsimp only at h
     obtain rfl := kF _ h
     exact bw Tryz.results47 rfl
    simp only [fK, hs] at h
    obtain ⟨Kh, rk, h⟩ := optI h kc
    try simp only [hs] at h
    cases iK : (Kh != fX)
    ·simp only [iK, hs] at h
     cases ji : (decide (bL > 0))
     ·simp only [ji, hs] at h
      simp only [vz, tyf, gg, (aB jz), kz, k6, oC, oD, jY, md, fU, iu, fK, (bm rk), iK, ji, nm, seval]
      refine jk (fun tm => tm 1 = .sl (ae eI aD) (List.length aD) false ∧ tm 2 = .sl (ae eI aV) (List.length aV) false ∧ tm 3 = .ptr 0 0 ∧ tm 7 = .sl (ae eI g9) (List.length g9) false ∧ tm 8 = .ref 18 0 (List.length gw) 1 (List.length gw) ∧ tm 10 = .lit (.int .i64 bL) ∧ True) (by refine ⟨kz, k6, oC, oD, jY, fU, trivial⟩ <;> first | (simp only [ua, gg, kz, k6, oC, oD, jY, md, fU, iu, fK, iK, ji, nm, seval] <;> rfl) | rfl) ?_
      rintro tm ⟨gd, fO, kj, my, mz, nD, _⟩
      obtain ⟨To, Tp, h⟩ := optI h kc
      try simp only [hs] at h
      simp only [vz, tyf, gg, (aB jz), fK, (bm rk), iK, ji, gd, fO, kj, my, mz, nD, (aB Tp), nm, seval]
      exact ⟨List.length me, Nat.lt_succ_self _, by rw [mX]; refine ⟨me, bL + 1, i64.wrap (Kh + To), rfl, Int.le_trans i0 (Int.le_add_one (Int.le_refl _)), cU i0 kd, rfl, (show 22 ≤ rh + 60 by omega), ?_, ?_, gd, fO, kj, my, mz, ?_, ?_, (by first | exact h | (simp only [gg, fK, iK, ji]; exact h))⟩ <;> first | (simp only [ua, gg, fK, iK, ji, gd, fO, kj, my, mz, nD, nm, seval] <;> rfl) | rfl⟩
     simp only [ji, hs] at h
     obtain ⟨TE, yE, h⟩ := optI h kc
     try simp only [hs] at h
     obtain ⟨v7, HA, h⟩ := optI h kc
     try simp only [hs] at h
     simp only [vz, tyf, gg, (aB jz), kz, k6, oC, oD, jY, md, fU, iu, fK, (bm rk), iK, ji, (aB yE), nm, seval]
     refine dktA (LP _ _ _ _ _ HA) ?_
     refine bN (fun tm => tm 1 = .sl (ae eI aD) (List.length aD) false ∧ tm 2 = .sl (ae eI aV) (List.length aV) false ∧ tm 3 = .ptr 0 0 ∧ tm 7 = .sl (ae eI g9) (List.length g9) false ∧ tm 8 = .ref 18 0 (List.length gw) 1 (List.length gw) ∧ tm 10 = .lit (.int .i64 bL) ∧ tm 51 = .lit (.bool false) ∧ tm 54 = .lit (.bool true) ∧ tm 66 = .lit (.bool v7) ∧ True) (by refine ⟨kz, k6, oC, oD, jY, fU, ?_, ?_, ?_, trivial⟩ <;> first | (simp only [ua, gg, kz, k6, oC, oD, jY, md, fU, iu, fK, iK, ji, nm, seval] <;> rfl) | rfl) ?_
     rintro tm ⟨nR, nS, nT, jr, js, jD, kl, kT, Ki, _⟩
     cases oE : (v7)
     ·simp only [oE, hs] at h
      try simp only [vz, tyf, gg, (aB jz), fK, (bm rk), iK, ji, (aB yE), nR, nS, nT, jr, js, jD, kl, kT, Ki, oE, nm, seval]
      replace h := re _ h
      try dsimp only at h
      obtain rfl := kF _ h
      exact bw Tryz.results47 rfl
     simp only [oE, hs] at h
     simp only [vz, tyf, gg, (aB jz), fK, (bm rk), iK, ji, (aB yE), nR, nS, nT, jr, js, jD, kl, kT, Ki, oE, nm, seval]
     refine jk (fun tm => tm 1 = .sl (ae eI aD) (List.length aD) false ∧ tm 2 = .sl (ae eI aV) (List.length aV) false ∧ tm 3 = .ptr 0 0 ∧ tm 7 = .sl (ae eI g9) (List.length g9) false ∧ tm 8 = .ref 18 0 (List.length gw) 1 (List.length gw) ∧ tm 10 = .lit (.int .i64 bL) ∧ True) (by refine ⟨nR, nS, nT, jr, js, jD, trivial⟩ <;> first | (simp only [ua, gg, fK, iK, ji, nR, nS, nT, jr, js, jD, kl, kT, Ki, oE, nm, seval] <;> rfl) | rfl) ?_
     rintro tm ⟨nU, nV, nW, nX, nY, sh, _⟩
     obtain ⟨Tq, Ts, h⟩ := optI h kc
     try simp only [hs] at h
     simp only [vz, tyf, gg, (aB jz), fK, (bm rk), iK, ji, (aB yE), oE, nU, nV, nW, nX, nY, sh, (aB Ts), nm, seval]
     exact ⟨List.length me, Nat.lt_succ_self _, by rw [mX]; refine ⟨me, bL + 1, i64.wrap (Kh + Tq), rfl, Int.le_trans i0 (Int.le_add_one (Int.le_refl _)), cU i0 kd, rfl, (show 22 ≤ rh + 60 by omega), ?_, ?_, nU, nV, nW, nX, nY, ?_, ?_, (by first | exact h | (simp only [gg, fK, iK, ji, oE]; exact h))⟩ <;> first | (simp only [ua, gg, fK, iK, ji, oE, nU, nV, nW, nX, nY, sh, nm, seval] <;> rfl) | rfl⟩
    simp only [iK, hs] at h
    try simp only [vz, tyf, gg, (aB jz), kz, k6, oC, oD, jY, md, fU, iu, fK, (bm rk), iK, nm, seval]
    replace h := re _ h
    try dsimp only at h
    obtain rfl := kF _ h
    exact bw Tryz.results47 rfl
  simp only [de, hs] at h
  try simp only [vz, tyf, dJ, de, nm, seval]
  obtain rfl := kF _ h
  exact bw Tryz.results47 rfl
 simp only [dJ, hs] at h
 try simp only [vz, tyf, dJ, nm, seval]
 obtain rfl := kF _ h
 exact bw Tryz.results47 rfl
def oB (b : GBk) (pl : List Int) (pr : Option Int) (e : Int) : Bool := match pr with
 | none => true
 | some x => decide (x < e) && foB b pl e.toNat x.toNat
def stB (b : GBk) (pl : List Int) (pr : Option Int) (t : Int) (e : Int) : Bool := inB 0 ((b.Strokes.length : Int) - 1) e && (BB b pl 1 e.toNat == t && oB b pl pr e)
def chS (b : GBk) (pl : List Int) : Option Int → Int → List Int → Option Int
 | _, t, [] => some t
 | pr, t, e :: p => cond (stB b pl pr t e) (chS b pl (some e) (EE b pl 1 e.toNat) p) none
def chB (b : GBk) (pl l : List Int) : Bool := (decide (1 ≤ l.length) && decide (l.length ≤ b.Strokes.length)) && chS b pl none 0 l == some (TK b pl)
theorem Ip : ∀ (p : List Int) (c a : Int), sB p c a = some (.go (p.foldl max a))
 | [], _, _ => rfl
 | e :: p, c, a => by rw [sB, Ip p, JZ]; rfl
theorem Iq (f : Nat → Int) : ∀ n : Nat, ((List.range n).map f).foldl max 0 = tkF f n
 | 0 => rfl
 | n + 1 => by rw [List.range_succ, List.map_append, List.foldl_append, Iq f n]; rfl
theorem Nh {b : GBk} (h : Len b) (hB : BOk b) {pl : List Int} (hp : pl.length = b.Strokes.length) : sw b pl = some (TK b pl) := by
 have hn := hB.ns
 have e1 := (wK h hB hp true).ended
 unfold sw
 rw [hr_eq hB]
 simp only [Option.bind_some, e1, if_true]
 unfold su
 rw [fE (by simp; omega), cond_true, Ip, Iq]
 rfl
theorem Kj {b : GBk} (h : Len b) {pl : List Int} (hp : pl.length = b.Strokes.length) {x e : Int} (dq : 0 ≤ x) (wo : 0 ≤ e) (he : e.toNat < b.Strokes.length) : mo b pl x e = some (decide (x < e) && foB b pl e.toNat x.toNat) := by
 by_cases hlt : x < e
 ·have := N4 h hp (k := x.toNat) (i := e.toNat) (by omega) he
  rw [Int.toNat_of_nonneg dq, Int.toNat_of_nonneg wo] at this
  rw [this, decide_eq_true hlt]; rfl
 ·unfold mo
  rw [decide_eq_false hlt]; rfl
theorem N6 {b : GBk} (h : Len b) (hB : BOk b) {pl : List Int} (hp : pl.length = b.Strokes.length) {l : List Int} (hl : l.length ≤ 1000) : ∀ (p : List Int) (c : Nat) (t : Int) (pr : Option Int), l.drop c = p → (c = 0 ∧ pr = none ∨ 0 < c ∧ (∃ x, pr = some x ∧ 0 ≤ x ∧ getI l ((c : Int) - 1) = some x)) →
  oz b pl l (hrL b true) ((List.range b.Strokes.length).map (BB b pl 1)) p c t = match chS b pl pr t p with | some a => some (.go a) | none => some (.ret false)
 | [], c, t, pr, _, _ => rfl
 | e :: p, c, t, pr, hd, hpr => by
  have hn := hB.ns
  have hg : getI l (c : Int) = some e := dG (by omega) (by simpa using hd)
  have hclt := (vd hg).2
  have h2 : l.drop (c + 1) = p := by have := cU (i := (c : Int)) (by omega) (by simpa using hd); simpa using this
  simp only [oz, v9 h, Option.bind_some, chS, stB]
  cases hI : inB 0 ((b.Strokes.length : Int) - 1) e with
  | false => rfl
  | true =>
   have hi := lT.1 hI
   have he : e.toNat < b.Strokes.length := by omega
   have hb := BB_b hB.h pl 1 he
   have hd' := hB.h.d 1 e.toNat
   have ih := N6 h hB hp hl p (c + 1) (EE b pl 1 e.toNat) (some e) h2 (.inr ⟨by omega, e, rfl, hi.1, by rw [show (((c + 1 : Nat) : Int) - 1) = c by omega]; exact hg⟩)
   rw [getMap _ hi.1 he]
   simp only [cond_true, Option.bind_some, Bool.true_and]
   by_cases hE : BB b pl 1 e.toNat = t
   ·rw [show (BB b pl 1 e.toNat != t) = false by simp [hE], show (BB b pl 1 e.toNat == t) = true by simp [hE], cond_false, Bool.true_and, yu true hi.1 he]
    simp only [Option.bind_some, if_true]
    have hwE : i64.wrap (BB b pl 1 e.toNat + dF b 1 e.toNat) = EE b pl 1 e.toNat := by rw [fD (by omega) (by omega), ← EE_eq hB.h]
    rw [hwE, show ((c : Int) + 1) = ((c + 1 : Nat) : Int) by omega]
    rcases hpr with ⟨rfl, rfl⟩ | ⟨hc, x, rfl, dq, hgx⟩
    ·rw [show decide (((0 : Nat) : Int) > 0) = false from rfl, cond_false]
     simp only [oB, cond_true]
     exact ih
    ·rw [decide_eq_true (show (c : Int) > 0 by omega), cond_true, fD (by omega) (by omega), hgx, Option.bind_some, Kj h hp dq hi.1 he, Option.bind_some]
     simp only [oB]
     cases (decide (x < e) && foB b pl e.toNat x.toNat) with
     | false => rfl
     | true => exact ih
   ·rw [show (BB b pl 1 e.toNat != t) = true by simp [hE], show (BB b pl 1 e.toNat == t) = false by simp [hE]]
    rfl
theorem Nf {b : GBk} (h : Len b) (hB : BOk b) {pl : List Int} (hp : pl.length = b.Strokes.length) {l : List Int} (hl : l.length < 9223372036854775808) : vX b pl l = some (chB b pl l) := by
 have hn := hB.ns
 unfold vX chB
 by_cases h1 : (l.length : Int) < 1
 ·rw [decide_eq_true h1, decide_eq_false (show ¬ 1 ≤ l.length by omega)]; rfl
 rw [decide_eq_false h1, cond_false, decide_eq_true (show 1 ≤ l.length by omega), hp]
 by_cases h2 : (l.length : Int) > (b.Strokes.length : Int)
 ·rw [decide_eq_true h2, decide_eq_false (show ¬ l.length ≤ b.Strokes.length by omega)]; rfl
 have e1 := (wK h hB hp true).begins
 have e2 := N6 h hB hp (l := l) (by omega) l 0 0 none rfl (.inl ⟨rfl, rfl⟩)
 rw [decide_eq_false h2, cond_false, decide_eq_true (show l.length ≤ b.Strokes.length by omega), hr_eq hB]
 simp only [Option.bind_some, e1, if_true]
 rw [fE hl, cond_true]
 have e3 : oz b pl l (hrL b true) ((List.range b.Strokes.length).map (Bg (hF pl) (nF b) (dF b 1))) l 0 0 = _ := e2
 rw [e3, Nh h hB hp]
 cases chS b pl none 0 l with
 | none => rfl
 | some a => rfl
def sumD (b : GBk) : List Int → Int
 | [] => 0
 | e :: l => dF b 1 e.toNat + sumD b l
def lnk (b : GBk) (pl : List Int) : Option Int → List Int → Bool
 | _, [] => true
 | pr, e :: p => (inB 0 ((b.Strokes.length : Int) - 1) e && oB b pl pr e) && lnk b pl (some e) p
theorem yk {b : GBk} (hB : BH b) {pl : List Int} : ∀ (l : List Int) (pr : Option Int) (t a : Int), chS b pl pr t l = some a → lnk b pl pr l = true ∧ a = t + sumD b l
 | [], pr, t, a, h => by simp [chS] at h; exact ⟨rfl, by simp [sumD]; omega⟩
 | e :: l, pr, t, a, h => by
  simp only [chS] at h
  cases hs : stB b pl pr t e with
  | false => rw [hs] at h; cases h
  | true =>
   rw [hs, cond_true] at h
   obtain ⟨h1, h2⟩ := yk hB l _ _ _ h
   unfold stB at hs
   simp only [Bool.and_eq_true, beq_iff_eq] at hs
   refine ⟨by unfold lnk; rw [hs.1, hs.2.2, h1]; rfl, ?_⟩
   have := EE_eq hB pl 1 e.toNat
   simp only [sumD]
   omega
theorem vA {b : GBk} {pl : List Int} : ∀ (l : List Int) (pr : Option Int), lnk b pl pr l = true → (∀ x ∈ l, (0 ≤ x ∧ x < b.Strokes.length) ∧ ∀ y, pr = some y → y < x) ∧ l.Pairwise (· < ·)
 | [], _, _ => ⟨(fun x h => by cases h), List.Pairwise.nil⟩
 | e :: l, pr, h => by
  unfold lnk at h
  simp only [Bool.and_eq_true] at h
  obtain ⟨⟨hI, ho⟩, hl⟩ := h
  have hi := lT.1 hI
  obtain ⟨h1, h2⟩ := vA l (some e) hl
  have hpe : ∀ y, pr = some y → y < e := by
   intro y hy
   subst hy
   unfold oB at ho
   simp only [Bool.and_eq_true, decide_eq_true_eq] at ho
   exact ho.1
  refine ⟨fun x hx => ?_, List.pairwise_cons.2 ⟨fun x hx => (h1 x hx).2 e rfl, h2⟩⟩
  rcases List.mem_cons.1 hx with rfl | hx
  ·exact ⟨by omega, hpe⟩
  ·have := (h1 x hx).2 e rfl
   exact ⟨(h1 x hx).1, fun y hy => by have := hpe y hy; omega⟩
theorem q9 : ∀ (l : List Int) (a m : Int), l.Pairwise (· < ·) → (∀ x ∈ l, a ≤ x ∧ x < m) → a ≤ m → (l.length : Int) ≤ m - a
 | [], a, m, _, _, h => by simp; omega
 | e :: l, a, m, hp, h, hm => by
  obtain ⟨h1, h2⟩ := List.pairwise_cons.1 hp
  have he := h e (List.mem_cons_self ..)
  have := q9 l (e + 1) m h2 (fun x hx => by have := h1 x hx; have := h x (List.mem_cons_of_mem _ hx); omega) (by omega)
  simp only [List.length_cons]
  omega

end Go.V
end
section
namespace Go.V
open Go Go.Proofs IntKind
def bfB : List Int → List Int → Bool
 | [], b => decide (0 < b.length)
 | _ :: _, [] => false
 | x :: a, y :: b => if x = y then bfB a b else decide (x < y)
def atF (b : GBk) (pl ch : List Int) : Int := match ch.getLast? with | none => 0 | some a => EE b pl 1 a.toNat
def cS (b : GBk) (pl ch t : List Int) : Option Int := chS b pl ch.getLast? (atF b pl ch) t
section
variable {b : GBk} (hB : BH b) (hd : ∀ s, s < b.Strokes.length → 1 ≤ dF b 1 s) {pl : List Int}
include hB hd
theorem Kk {ch : List Int} (hc : ∀ x ∈ ch, 0 ≤ x ∧ x.toNat < b.Strokes.length) {s : Nat} (hs : s < b.Strokes.length) : stB b pl ch.getLast? (atF b pl ch) (s : Int) = mfB b pl ch s := by
 have hI : inB 0 ((b.Strokes.length : Int) - 1) (s : Int) = true := lT.2 (by omega)
 unfold stB
 rw [hI, Bool.true_and, Int.toNat_natCast]
 cases hg : ch.getLast? with
 | none => simp [mfB, atF, hg, oB]
 | some a =>
  have ha := hc a (List.mem_of_getLast? hg)
  have hlt := mf_lt hB hd (pl := pl) hg ha.1 ha.2 hs
  have e1 : ((a.toNat : Nat) : Int) = a := Int.toNat_of_nonneg ha.1
  unfold mfB at hlt ⊢
  rw [hg] at hlt
  dsimp only at hlt
  simp only [hg, atF, oB, foB, e1, Int.toNat_natCast]
  cases h1 : (BB b pl 1 s == EE b pl 1 a.toNat) with
  | false => rfl
  | true =>
   rw [h1] at hlt
   simp only [Bool.true_and]
   by_cases h2 : a ∈ nF b s
   ·have := hlt (by simp [h2])
    simp [h2]; omega
   ·by_cases h3 : hF pl s = hF pl a.toNat
    ·have := hlt (by simp [h3])
     simp [h2, h3]; omega
    ·have n3 : (hF pl s == hF pl a.toNat) = false := beq_eq_false_iff_ne.2 h3
     have n4 : (hF pl a.toNat == hF pl s) = false := beq_eq_false_iff_ne.2 (Ne.symm h3)
     rw [n3, n4, decide_eq_false h2]
     simp
theorem wO {ch : List Int} (hc : ∀ x ∈ ch, 0 ≤ x ∧ x.toNat < b.Strokes.length) {s : Nat} (hs : s < b.Strokes.length) (p : List Int) : cS b pl ch ((s : Int) :: p) = cond (mfB b pl ch s) (cS b pl (ch ++ [(s : Int)]) p) none := by
 unfold cS
 rw [chS, Kk hB hd hc hs]
 simp only [List.getLast?_concat, atF, Int.toNat_natCast]
omit hB hd in
theorem cS_in {ch : List Int} {e : Int} {p : List Int} {a : Int} (h : cS b pl ch (e :: p) = some a) : 0 ≤ e ∧ e.toNat < b.Strokes.length := by
 unfold cS at h
 rw [chS] at h
 cases hs : stB b pl ch.getLast? (atF b pl ch) e with
 | false => rw [hs] at h; cases h
 | true =>
  unfold stB at hs
  simp only [Bool.and_eq_true] at hs
  have := lT.1 hs.1
  omega
def Found (b : GBk) (pl ch : List Int) (r : Option (List Int)) (S : Int → Prop) : Prop := match r with
 | none => ∀ e p, S e → cS b pl ch (e :: p) ≠ some (TK b pl)
 | some c => ∃ e p, S e ∧ c = ch ++ e :: p ∧ cS b pl ch (e :: p) = some (TK b pl) ∧ ∀ e' p', S e' → cS b pl ch (e' :: p') = some (TK b pl) → bfB (e' :: p') (e :: p) = false
theorem N7 {k : Nat} {ch : List Int} (hc : ChOk b ch (k + 1)) (hn : ch.length ≤ 50) (ih : ∀ s, s < b.Strokes.length → mfB b pl ch s = true → Found b pl (ch ++ [(s : Int)]) (skF b pl k (ch ++ [(s : Int)])) (fun _ => True)) :
  ∀ (m s : Nat), s + m = b.Strokes.length → Found b pl ch (skL (skF b pl k) b pl ch (List.range' s m)) (fun e => (s : Int) ≤ e)
 | 0, s, h => by
  intro e p he hh
  have := cS_in hh
  omega
 | m + 1, s, h => by
  have hs : s < b.Strokes.length := by omega
  have rest := N7 hc hn ih m (s + 1) (by omega)
  have step : skL (skF b pl k) b pl ch (List.range' s (m + 1)) = cond (mfB b pl ch s) (cond (EE b pl 1 s == TK b pl) (some (ch ++ [(s : Int)])) (match skF b pl k (ch ++ [(s : Int)]) with | some c => some c | none => skL (skF b pl k) b pl ch (List.range' (s + 1) m))) (skL (skF b pl k) b pl ch (List.range' (s + 1) m)) := by rw [List.range'_succ]; rfl
  have skip : (∀ p, cS b pl ch ((s : Int) :: p) ≠ some (TK b pl)) → ∀ r, Found b pl ch r (fun e => ((s + 1 : Nat) : Int) ≤ e) → Found b pl ch r (fun e => (s : Int) ≤ e) := by
   intro hno r hr
   cases r with
   | none =>
    intro e p he hh
    by_cases e1 : e = s
    ·subst e1; exact hno p hh
    ·exact hr e p (by omega) hh
   | some c =>
    obtain ⟨e, p, h1, h2, h3, h4⟩ := hr
    refine ⟨e, p, by omega, h2, h3, fun e' p' he' hh => ?_⟩
    by_cases e1 : e' = s
    ·subst e1; exact absurd hh (hno p')
    ·exact h4 e' p' (by omega) hh
  rw [step]
  cases hm : mfB b pl ch s with
  | false =>
   rw [cond_false]
   exact skip (fun p hh => by rw [wO hB hd hc.st hs, hm] at hh; cases hh) _ rest
  | true =>
   rw [cond_true]
   have h0 : cS b pl (ch ++ [(s : Int)]) [] = some (EE b pl 1 s) := by simp [cS, chS, atF]
   have ih := ih s hs hm
   by_cases hf : EE b pl 1 s = TK b pl
   ·rw [show (EE b pl 1 s == TK b pl) = true by simpa using hf, cond_true]
    refine ⟨(s : Int), [], Int.le_refl _, rfl, by rw [wO hB hd hc.st hs, hm, cond_true, h0, hf], fun e' p' he' hh => ?_⟩
    by_cases e1 : e' = s
    ·subst e1
     cases p' with
     | nil => simp [bfB]
     | cons a q => simp [bfB]
    ·rw [bfB, if_neg e1]
     exact decide_eq_false (by omega)
   ·rw [show (EE b pl 1 s == TK b pl) = false by simpa using hf, cond_false]
    cases hr : skF b pl k (ch ++ [(s : Int)]) with
    | none =>
     rw [hr] at ih
     refine skip (fun p hh => ?_) _ rest
     rw [wO hB hd hc.st hs, hm, cond_true] at hh
     cases p with
     | nil => rw [h0] at hh; exact hf (Option.some.inj hh)
     | cons e p => exact ih e p trivial hh
    | some c =>
     rw [hr] at ih
     obtain ⟨e, p, _, h2, h3, h4⟩ := ih
     refine ⟨(s : Int), e :: p, Int.le_refl _, by rw [h2]; simp, by rw [wO hB hd hc.st hs, hm, cond_true, h3], fun e' p' he' hh => ?_⟩
     by_cases e1 : e' = s
     ·subst e1
      rw [wO hB hd hc.st hs, hm, cond_true] at hh
      rw [bfB, if_pos rfl]
      cases p' with
      | nil => rw [h0] at hh; exact absurd (Option.some.inj hh) hf
      | cons a q => exact h4 a q trivial hh
     ·rw [bfB, if_neg e1]
      exact decide_eq_false (by omega)
theorem N8 : ∀ (k : Nat) (ch : List Int), ChOk b ch k → ch.length + k ≤ 50 → Found b pl ch (skF b pl k ch) (fun _ => True)
 | 0, ch, hc, _ => absurd hc.pos (Nat.lt_irrefl _)
 | k + 1, ch, hc, hn => by
  have h := N7 hB hd (pl := pl) hc (by omega) (fun s hs hm => N8 k _ (hc.next hB hd (by omega) hs hm) (by simp; omega)) b.Strokes.length 0 (by omega)
  have e : skF b pl (k + 1) ch = skL (skF b pl k) b pl ch (List.range' 0 b.Strokes.length) := rfl
  rw [e]
  cases hr : skL (skF b pl k) b pl ch (List.range' 0 b.Strokes.length) with
  | none =>
   rw [hr] at h
   intro e p _ hh
   exact h e p (by have := cS_in hh; omega) hh
  | some c =>
   rw [hr] at h
   obtain ⟨e, p, h1, h2, h3, h4⟩ := h
   exact ⟨e, p, trivial, h2, h3, fun e' p' _ hh => h4 e' p' (by have := cS_in hh; omega) hh⟩
end
theorem wP {hd : Nat → Int} {e : Nat → Int} {h : Int} : ∀ n : Nat, frF hd e h n = 0 ∨ ∃ k, k < n ∧ hd k = h ∧ e k = frF hd e h n
 | 0 => .inl rfl
 | n + 1 => by
  unfold frF
  split
  ·rename_i hh; exact .inr ⟨n, Nat.lt_succ_self _, hh, rfl⟩
  ·rcases wP (hd := hd) (e := e) (h := h) n with h | ⟨k, h1, h2, h3⟩
   ·exact .inl h
   ·exact .inr ⟨k, by omega, h2, h3⟩
theorem wQ {e : Nat → Int} : ∀ n : Nat, tkF e n = 0 ∨ ∃ k, k < n ∧ e k = tkF e n
 | 0 => .inl rfl
 | n + 1 => by
  unfold tkF
  by_cases h : tkF e n ≤ e n
  ·exact .inr ⟨n, Nat.lt_succ_self _, by omega⟩
  ·rcases wQ (e := e) n with h1 | ⟨k, h1, h2⟩
   ·left; omega
   ·exact .inr ⟨k, by omega, by omega⟩
theorem Kl {b : GBk} (hB : BH b) (pl : List Int) (s : Nat) : BB b pl 1 s = 0 ∨ ∃ k, k < s ∧ foB b pl s k = true ∧ EE b pl 1 k = BB b pl 1 s := by
 have hm := vM (b := b) pl 1 s
 have h1 := wP (hd := hF pl) (e := EE b pl 1) (h := hF pl s) s
 have e1 : FF b pl 1 s = frF (hF pl) (EE b pl 1) (hF pl s) s := rfl
 by_cases hz : BB b pl 1 s = 0
 ·exact .inl hz
 ·right
  have hnn : 0 ≤ BB b pl 1 s := Bg_nn _
  by_cases hc : BB b pl 1 s = FF b pl 1 s
  ·rcases h1 with h1 | ⟨k, k1, k2, k3⟩
   ·omega
   ·exact ⟨k, k1, by unfold foB; simp [k2], k3.trans (e1.symm.trans hc.symm)⟩
  ·have hx : BB b pl 1 s = mxL ((nF b s).map fun k => EE b pl 1 k.toNat) := by
    rw [hm] at hz hc ⊢
    generalize FF b pl 1 s = A at hz hc ⊢
    generalize mxL ((nF b s).map fun k => EE b pl 1 k.toNat) = M at hz hc ⊢
    omega
   rcases Hl ((nF b s).map fun k => EE b pl 1 k.toNat) with h2 | h2
   ·omega
   ·obtain ⟨k, hk, e⟩ := List.mem_map.1 h2
    have hk' := hB.nd s k hk
    refine ⟨k.toNat, hk'.2, ?_, e.trans hx.symm⟩
    unfold foB
    rw [Int.toNat_of_nonneg hk'.1]
    simp [hk]
theorem wR {b : GBk} {pl : List Int} {e : Int} : ∀ (t : List Int) (pr : Option Int) (yF a x : Int), chS b pl pr yF t = some a → t.getLast? = some x → chS b pl pr yF (t ++ [e]) = cond (stB b pl (some x) a e) (some (EE b pl 1 e.toNat)) none
 | [], _, _, _, _, _, h => by simp at h
 | y :: t, pr, yF, a, x, h, hl => by
  simp only [chS, List.cons_append] at h ⊢
  cases hs : stB b pl pr yF y with
  | false => rw [hs] at h; cases h
  | true =>
   rw [hs, cond_true] at h
   rw [cond_true]
   cases t with
   | nil =>
    simp only [chS, Option.some.injEq] at h
    simp at hl
    subst hl h
    rfl
   | cons z t => exact wR (z :: t) _ _ a x h (by simpa using hl)
theorem wS {b : GBk} (hB : BH b) (pl : List Int) : ∀ (f s : Nat), s < f → s < b.Strokes.length → ∃ t, chS b pl none 0 t = some (EE b pl 1 s) ∧ t.getLast? = some (s : Int)
 | 0, _, h, _ => absurd h (Nat.not_lt_zero _)
 | f + 1, s, h, hs => by
  have hI : inB 0 ((b.Strokes.length : Int) - 1) (s : Int) = true := lT.2 (by omega)
  rcases Kl hB pl s with h0 | ⟨k, k1, k2, k3⟩
  ·refine ⟨[(s : Int)], ?_, rfl⟩
   simp [chS, stB, hI, h0, oB]
  ·obtain ⟨t, h1, h2⟩ := wS hB pl f k (by omega) (by omega)
   refine ⟨t ++ [(s : Int)], ?_, by simp⟩
   rw [wR t none 0 _ _ h1 h2]
   have : stB b pl (some (k : Int)) (EE b pl 1 k) (s : Int) = true := by
    unfold stB oB
    rw [hI]
    simp [k2, k3]
    omega
   rw [this, Int.toNat_natCast]
   rfl
theorem Km {b : GBk} (hB : BOk b) : ∀ s, s < b.Strokes.length → 1 ≤ dF b 1 s := by
 intro s hs
 obtain ⟨y, _, g2⟩ := getS (b := b) (s := (s : Int)) (by omega) (by omega)
 rw [Int.toNat_natCast] at g2
 have := (hB.s g2).hr
 unfold dF
 rw [g2]
 simp
 omega
theorem HF {b : GBk} (hB : BOk b) (pl : List Int) : ∃ c, skF b pl (b.Strokes.length + 1) [] = some c ∧ c ≠ [] ∧ chS b pl none 0 c = some (TK b pl) ∧ ∀ t, t ≠ [] → chS b pl none 0 t = some (TK b pl) → bfB t c = false := by
 have hn := hB.ns
 have h1 : ChOk b [] (b.Strokes.length + 1) := ⟨(fun x h => by cases h), (fun _ => Nat.le_refl _), (fun a h => by cases h), (by simp)⟩
 have hf := N8 hB.h (Km hB) (pl := pl) _ [] h1 (by simp; omega)
 have hT := TK_b hB pl
 have hp : ∃ t, t ≠ [] ∧ chS b pl none 0 t = some (TK b pl) := by
  rcases wQ (e := EE b pl 1) b.Strokes.length with h | ⟨k, k1, k2⟩
  ·have : TK b pl = tkF (EE b pl 1) b.Strokes.length := rfl
   omega
  ·obtain ⟨t, t1, t2⟩ := wS hB.h pl (k + 1) k (Nat.lt_succ_self _) k1
   refine ⟨t, by rintro rfl; simp at t2, ?_⟩
   rw [t1, k2]
   rfl
 obtain ⟨t, tne, ht⟩ := hp
 cases hr : skF b pl (b.Strokes.length + 1) [] with
 | none =>
  rw [hr] at hf
  cases t with
  | nil => exact absurd rfl tne
  | cons e p => exact absurd ht (hf e p trivial)
 | some c =>
  rw [hr] at hf
  obtain ⟨e, p, _, h2, h3, h4⟩ := hf
  have hc : c = e :: p := h2
  subst hc
  refine ⟨_, rfl, by simp, h3, fun t tne ht => ?_⟩
  cases t with
  | nil => exact absurd rfl tne
  | cons a q => exact h4 a q trivial ht
theorem wb {b : GBk} (hB : BOk b) {pl l : List Int} : chB b pl l = true ↔ l ≠ [] ∧ chS b pl none 0 l = some (TK b pl) := by
 unfold chB
 simp only [Bool.and_eq_true, decide_eq_true_eq, beq_iff_eq]
 constructor
 ·rintro ⟨⟨h1, _⟩, h2⟩
  exact ⟨by rintro rfl; simp at h1, h2⟩
 ·rintro ⟨h1, h2⟩
  have hl := (yk hB.h l _ _ _ h2).1
  obtain ⟨i1, i2⟩ := vA l none hl
  have := q9 l 0 b.Strokes.length i2 (fun x hx => (i1 x hx).1) (by omega)
  refine ⟨⟨?_, by omega⟩, h2⟩
  cases l with
  | nil => exact absurd rfl h1
  | cons a q => simp
end Go.V
end
section
namespace Go.V
open Go Go.Proofs IntKind
def ym (xs : List Int) : Option (List Int) := cond (neB xs) (cond (aS 8 xs.length) (some xs) none) none
theorem Si (xs R : List Int) (h : ym xs = some R) : ak Tryz.prog G0 124 [.sl (ae eI xs) xs.length false] (.own (ae eI R) R.length 1) := by
 unfold ym at h
 cases hn : neB xs with
 | false => rw [hn] at h; cases h
 | true =>
 cases hr : aS 8 xs.length with
 | false => rw [hn, hr] at h; cases h
 | true =>
 rw [hn, hr] at h
 simp only [cond_true, Option.some.injEq] at h
 subst h
 have hc : ae eI xs ≠ [] := by
  cases xs with
  | nil => cases hn
  | cons a l => intro hh; cases hh
 have hnil : ∀ (H : Nat → Option VObj) (x y : Operand), binV Tryz.prog H .eql 22 x y (.sl (ae eI xs) xs.length false) (.lit (.slice none 0 0)) = some (.lit (.bool false)) := fun H x y => Lf Tryz.underlying22 hc
 have hb : aL Tryz.prog 22 0 [] = some ([], 1) := by kernel_rfl
 refine ak.run mixed Tryz.call124 Tryz.func124 rfl (by simp [Tryz.ntmps124]; kernel_rfl) ?_
 simp only [vz, tyf, hnil, hb, List.map_nil, seval]
 refine oS (w := 1) (enc := eI) (xs := ([] : List Int)) (ys := xs) (el := some 3) (fun _ => rfl) dW dL Tryz.underlying22 rfl hn (by rw [List.nil_append]; exact hr) ?_
 simp only [vz, tyf, List.nil_append, seval]
 refine ⟨rfl, .ref 5 0 xs.length 1 xs.length, by simp [Tryz.results124, resV, resL, aO, upd], (ae eI xs).length + 1, 5, _, ae eI xs, ⟨_, rfl⟩, by simp only [ba, bj, seval] <;> rfl, kE _ _ (eI_ok.treeL xs) (Nat.lt_succ_self _)⟩
theorem HY : ak Tryz.prog G0 124 [.lit (.slice none 0 0)] (.tree (.lit (.slice none 0 0))) := by
  have hnil : ∀ (H : Nat → Option VObj) (x y : Operand), binV Tryz.prog H .eql 22 x y (.lit (.slice none 0 0)) (.lit (.slice none 0 0)) = some (.lit (.bool true)) := fun H x y => by kernel_rfl
  refine ak.run mixed Tryz.call124 Tryz.func124 rfl (by simp [Tryz.ntmps124]; kernel_rfl) ?_
  simp only [vz, tyf, @uP, @uO, @uN, @nJ, hnil, seval, ua]
  exact ⟨rfl, .lit (.slice none 0 0), by simp [Tryz.results124, resV, resL, aO, upd], 1, rfl⟩


def planC (b : GBk) (pl : List Int) : List VV := cGBk b ++ [sI pl]
theorem au.atR {P : Program} {G : Glob} {x : Option (Option Nat)} {f : FuncId} {args : List VV} {H : Nat → Option VObj} {nx : Nat} {R Rp : VV → (Nat → Option VObj) → Nat → Prop} (h : au P G f args H nx R Rp) : au P (G.at x) f args H nx R Rp := h
def plM (b : GBk) (p : List Int) (δ : Nat) : VV := .agg [.lit (.int .i64 b.Apprentices), .sl (ae eI b.Boards) (List.length b.Boards) false, .sl (ae cGBs b.Strokes) (List.length b.Strokes) false, .sl (ae eI p) (List.length p) false, .mp δ]
theorem vT {b : GBk} {p : List Int} {δ : Nat} : plM b p δ = .agg [.lit (.int .i64 b.Apprentices), .sl (ae eI b.Boards) (List.length b.Boards) false, .sl (ae cGBs b.Strokes) (List.length b.Strokes) false, .sl (ae eI p) (List.length p) false, .mp δ] := rfl
def cPl (b : GBk) (p : List Int) (δ : Nat) : List VV := [.lit (.int .i64 b.Apprentices), .sl (ae eI b.Boards) (List.length b.Boards) false, .sl (ae cGBs b.Strokes) (List.length b.Strokes) false, .sl (ae eI p) (List.length p) false, .mp δ]
theorem sq {b : GBk} {p : List Int} {δ : Nat} : cPl b p δ = [.lit (.int .i64 b.Apprentices), .sl (ae eI b.Boards) (List.length b.Boards) false, .sl (ae cGBs b.Strokes) (List.length b.Strokes) false, .sl (ae eI p) (List.length p) false, .mp δ] := rfl
end Go.V
end
