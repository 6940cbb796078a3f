/- Part of a proof: a logic of values by content, lifted functions, what follows. -/
import Derived.Test.YtekhjalgmlflpaaGreatDoorQbf
import Derived.Test.YtekhjalgmlflpaaGreatDoorQbg
import Derived.Test.YtekhjalgmlflpaaGreatDoorQbn
import Derived.Test.YtekhjalgmlflpaaGreatDoorQbo
import Derived.Test.YtekhjalgmlflpaaGreatDoorQbe
import Derived.Test.YtekhjalgmlflpaaGreatDoorQbl
import Derived.Test.YtekhjalgmlflpaaGreatDoorQbj
import Derived.Test.YtekhjalgmlflpaaGreatDoorQbi
import Derived.Test.YtekhjalgmlflpaaGreatDoorQbm
import Derived.Test.YtekhjalgmlflpaaGreatDoorQbq
import Derived.Test.YtekhjalgmlflpaaGreatDoorQbk
set_option linter.all false
set_option maxRecDepth 4000
set_option maxHeartbeats 40000000
section
set_option maxRecDepth 100000
namespace Go.V
open Go Go.Proofs
def zgn (x : GTintSheet) : Prop := lenOk x.Tins = true
def zmq (x : GTintTruth) : Prop := lenOk x.Tins = true
section
variable {P : Program} (hu3 : P.underlying 3 = some (.int .i64)) (hu22 : P.underlying 22 = some (.array 3 3)) {f24 : Array Field} (hu24 : P.underlying 24 = some (.struct f24)) (ht24 : f24.toList.map Field.type = [3, 3]) (hu25 : P.underlying 25 = some (.array 3 24)) {f94 : Array Field} (hu94 : P.underlying 94 = some (.struct f94)) (ht94 : f94.toList.map Field.type = [25]) (hu26 : P.underlying 26 = some (.slice 94)) {f28 : Array Field} (hu28 : P.underlying 28 = some (.struct f28)) (ht28 : f28.toList.map Field.type = [22, 25, 24, 3, 26]) (hu29 : P.underlying 29 = some (.slice 3)) (hu40 : P.underlying 40 = some (.slice 22)) {f42 : Array Field} (hu42 : P.underlying 42 = some (.struct f42)) (ht42 : f42.toList.map Field.type = [40, 3, 22])
include hu3 hu22 hu24 ht24 hu25 hu94 ht94 hu26 hu28 ht28 hu29 hu40 hu42 ht42
theorem gd_3 {n : Nat} : Dec P (n + 1) 3 eI (fun _ => True) := zaii hu3
theorem gd_22 {n : Nat} : Dec P (n + 2) 22 cGA3Int (fun _ => True) := by
 intro xs h
 obtain ⟨yss, hf, rfl⟩ := zni (n := n + 1) (ts := [3, 3, 3]) hu22 rfl h
 match yss, hf with
 | [y0, y1, y2], ⟨h0, h1, h2, _⟩ =>
  obtain ⟨x0, r0, e0⟩ := gd_3 hu3 hu22 hu24 ht24 hu25 hu94 ht94 hu26 hu28 ht28 hu29 hu40 hu42 ht42 (n := n + 0) _ h0
  obtain ⟨x1, r1, e1⟩ := gd_3 hu3 hu22 hu24 ht24 hu25 hu94 ht94 hu26 hu28 ht28 hu29 hu40 hu42 ht42 (n := n + 0) _ h1
  obtain ⟨x2, r2, e2⟩ := gd_3 hu3 hu22 hu24 ht24 hu25 hu94 ht94 hu26 hu28 ht28 hu29 hu40 hu42 ht42 (n := n + 0) _ h2
  exact ⟨⟨x0, x1, x2⟩, trivial, by simp only [List.flatten_cons, List.flatten_nil, List.append_nil, zcn, e0, e1, e2, eI, eU8, eB, eS, eSl, zfv, List.cons_append, List.nil_append]⟩
theorem gd_24 {n : Nat} : Dec P (n + 2) 24 cGSpan (fun _ => True) := by
 intro xs h
 obtain ⟨yss, hf, rfl⟩ := zhi (n := n + 1) (ts := [3, 3]) hu24 ht24 h
 match yss, hf with
 | [y0, y1], ⟨h0, h1, _⟩ =>
  obtain ⟨x0, r0, e0⟩ := gd_3 hu3 hu22 hu24 ht24 hu25 hu94 ht94 hu26 hu28 ht28 hu29 hu40 hu42 ht42 (n := n + 0) _ h0
  obtain ⟨x1, r1, e1⟩ := gd_3 hu3 hu22 hu24 ht24 hu25 hu94 ht94 hu26 hu28 ht28 hu29 hu40 hu42 ht42 (n := n + 0) _ h1
  exact ⟨⟨x0, x1⟩, trivial, by simp only [List.flatten_cons, List.flatten_nil, List.append_nil, zcn, e0, e1, eI, eU8, eB, eS, eSl, zfk, List.cons_append, List.nil_append]⟩
theorem gd_25 {n : Nat} : Dec P (n + 3) 25 cGA3GSpan (fun _ => True) := by
 intro xs h
 obtain ⟨yss, hf, rfl⟩ := zni (n := n + 2) (ts := [24, 24, 24]) hu25 rfl h
 match yss, hf with
 | [y0, y1, y2], ⟨h0, h1, h2, _⟩ =>
  obtain ⟨x0, r0, e0⟩ := gd_24 hu3 hu22 hu24 ht24 hu25 hu94 ht94 hu26 hu28 ht28 hu29 hu40 hu42 ht42 (n := n + 0) _ h0
  obtain ⟨x1, r1, e1⟩ := gd_24 hu3 hu22 hu24 ht24 hu25 hu94 ht94 hu26 hu28 ht28 hu29 hu40 hu42 ht42 (n := n + 0) _ h1
  obtain ⟨x2, r2, e2⟩ := gd_24 hu3 hu22 hu24 ht24 hu25 hu94 ht94 hu26 hu28 ht28 hu29 hu40 hu42 ht42 (n := n + 0) _ h2
  exact ⟨⟨x0, x1, x2⟩, trivial, by simp only [List.flatten_cons, List.flatten_nil, List.append_nil, zcn, e0, e1, e2, eI, eU8, eB, eS, eSl, zdw, zfk, List.cons_append, List.nil_append]⟩
theorem gd_94 {n : Nat} : Dec P (n + 4) 94 cGTintTin (fun _ => True) := by
 intro xs h
 obtain ⟨yss, hf, rfl⟩ := zhi (n := n + 3) (ts := [25]) hu94 ht94 h
 match yss, hf with
 | [y0], ⟨h0, _⟩ =>
  obtain ⟨x0, r0, e0⟩ := gd_25 hu3 hu22 hu24 ht24 hu25 hu94 ht94 hu26 hu28 ht28 hu29 hu40 hu42 ht42 (n := n + 0) _ h0
  exact ⟨⟨x0⟩, trivial, by simp only [List.flatten_cons, List.flatten_nil, List.append_nil, zcn, e0, eI, eU8, eB, eS, eSl, zdw, zfk, zfl, List.cons_append, List.nil_append]⟩
theorem gd_26 {n : Nat} : Dec P (n + 5) 26 (eSl cGTintTin) (fun l => lenOk l = true ∧ ∀ x ∈ l, True) := zln hu26 (gd_94 hu3 hu22 hu24 ht24 hu25 hu94 ht94 hu26 hu28 ht28 hu29 hu40 hu42 ht42 (n := n))
theorem gd_28 {n : Nat} : Dec P (n + 6) 28 cGTintSheet (zgn) := by
 intro xs h
 obtain ⟨yss, hf, rfl⟩ := zhi (n := n + 5) (ts := [22, 25, 24, 3, 26]) hu28 ht28 h
 match yss, hf with
 | [y0, y1, y2, y3, y4], ⟨h0, h1, h2, h3, h4, _⟩ =>
  obtain ⟨x0, r0, e0⟩ := gd_22 hu3 hu22 hu24 ht24 hu25 hu94 ht94 hu26 hu28 ht28 hu29 hu40 hu42 ht42 (n := n + 3) _ h0
  obtain ⟨x1, r1, e1⟩ := gd_25 hu3 hu22 hu24 ht24 hu25 hu94 ht94 hu26 hu28 ht28 hu29 hu40 hu42 ht42 (n := n + 2) _ h1
  obtain ⟨x2, r2, e2⟩ := gd_24 hu3 hu22 hu24 ht24 hu25 hu94 ht94 hu26 hu28 ht28 hu29 hu40 hu42 ht42 (n := n + 3) _ h2
  obtain ⟨x3, r3, e3⟩ := gd_3 hu3 hu22 hu24 ht24 hu25 hu94 ht94 hu26 hu28 ht28 hu29 hu40 hu42 ht42 (n := n + 4) _ h3
  obtain ⟨x4, r4, e4⟩ := gd_26 hu3 hu22 hu24 ht24 hu25 hu94 ht94 hu26 hu28 ht28 hu29 hu40 hu42 ht42 (n := n + 0) _ h4
  exact ⟨⟨x0, x1, x2, x3, x4⟩, r4.1, by simp only [List.flatten_cons, List.flatten_nil, List.append_nil, zcn, e0, e1, e2, e3, e4, eI, eU8, eB, eS, eSl, zdw, zfv, zfk, zfc, List.cons_append, List.nil_append]⟩
theorem gd_29 {n : Nat} : Dec P (n + 2) 29 (eSl eI) (fun l => lenOk l = true ∧ ∀ x ∈ l, True) := zln hu29 (gd_3 hu3 hu22 hu24 ht24 hu25 hu94 ht94 hu26 hu28 ht28 hu29 hu40 hu42 ht42 (n := n))
theorem gd_40 {n : Nat} : Dec P (n + 3) 40 (eSl cGA3Int) (fun l => lenOk l = true ∧ ∀ x ∈ l, True) := zln hu40 (gd_22 hu3 hu22 hu24 ht24 hu25 hu94 ht94 hu26 hu28 ht28 hu29 hu40 hu42 ht42 (n := n))
theorem gd_42 {n : Nat} : Dec P (n + 4) 42 cGTintTruth (zmq) := by
 intro xs h
 obtain ⟨yss, hf, rfl⟩ := zhi (n := n + 3) (ts := [40, 3, 22]) hu42 ht42 h
 match yss, hf with
 | [y0, y1, y2], ⟨h0, h1, h2, _⟩ =>
  obtain ⟨x0, r0, e0⟩ := gd_40 hu3 hu22 hu24 ht24 hu25 hu94 ht94 hu26 hu28 ht28 hu29 hu40 hu42 ht42 (n := n + 0) _ h0
  obtain ⟨x1, r1, e1⟩ := gd_3 hu3 hu22 hu24 ht24 hu25 hu94 ht94 hu26 hu28 ht28 hu29 hu40 hu42 ht42 (n := n + 2) _ h1
  obtain ⟨x2, r2, e2⟩ := gd_22 hu3 hu22 hu24 ht24 hu25 hu94 ht94 hu26 hu28 ht28 hu29 hu40 hu42 ht42 (n := n + 1) _ h2
  exact ⟨⟨x0, x1, x2⟩, r0.1, by simp only [List.flatten_cons, List.flatten_nil, List.append_nil, zcn, e0, e1, e2, eI, eU8, eB, eS, eSl, zfv, zft, List.cons_append, List.nil_append]⟩
end
theorem zalv {n : Nat} : Dec Tryz.prog (n + 6) 28 cGTintSheet (zgn) := gd_28 Tryz.underlying3 Tryz.underlying22 Tryz.underlying24 (by kernel_rfl) Tryz.underlying25 Tryz.underlying94 (by kernel_rfl) Tryz.underlying26 Tryz.underlying28 (by kernel_rfl) Tryz.underlying29 Tryz.underlying40 Tryz.underlying42 (by kernel_rfl)
theorem zalu {n : Nat} : Dec Tryz.prog (n + 2) 29 (eSl eI) (fun l => lenOk l = true ∧ ∀ x ∈ l, True) := gd_29 Tryz.underlying3 Tryz.underlying22 Tryz.underlying24 (by kernel_rfl) Tryz.underlying25 Tryz.underlying94 (by kernel_rfl) Tryz.underlying26 Tryz.underlying28 (by kernel_rfl) Tryz.underlying29 Tryz.underlying40 Tryz.underlying42 (by kernel_rfl)
theorem zarm {n : Nat} : Dec Tryz.prog (n + 4) 42 cGTintTruth (zmq) := gd_42 Tryz.underlying3 Tryz.underlying22 Tryz.underlying24 (by kernel_rfl) Tryz.underlying25 Tryz.underlying94 (by kernel_rfl) Tryz.underlying26 Tryz.underlying28 (by kernel_rfl) Tryz.underlying29 Tryz.underlying40 Tryz.underlying42 (by kernel_rfl)
end Go.V
end
section
set_option linter.unusedVariables false
namespace Go.V
open Go
section
variable {K V : Type} {q : K → K → Bool} {z : V}
def getR (q : K → K → Bool) (z : V) (k : K) : List (K × V) → V
 | [] => z
 | e :: l => if q k e.1 then e.2 else getR q z k l
def setR (q : K → K → Bool) (k : K) (v : V) : List (K × V) → List (K × V)
 | [] => [(k, v)]
 | e :: l => if q k e.1 then (k, v) :: l else e :: setR q k v l
theorem zvp (k : K) : ∀ (es : List K) (i : Nat), kIdx q k es (i + 1) = (kIdx q k es i).map (· + 1)
 | [], _ => rfl
 | e :: es, i => by
  unfold kIdx
  cases q k e with
  | true => rfl
  | false => exact zvp k es (i + 1)
theorem zrg (k : K) : ∀ l : List (K × V), mapGet q z l k = getR q z k l
 | [] => rfl
 | e :: l => by
  have ih := zrg k l
  unfold mapGet at ih ⊢
  rw [List.map_cons]
  unfold kIdx getR
  cases hq : q k e.1 with
  | true => rfl
  | false =>
   simp only [cond_false, Bool.false_eq_true, if_false]
   rw [zvp]
   cases h : kIdx q k (l.map (·.1)) 0 with
   | none => rw [h] at ih; exact ih
   | some i => rw [h] at ih; simpa using ih
theorem zww (k : K) (v : V) : ∀ l : List (K × V), mapSet q l k v = setR q k v l
 | [] => rfl
 | e :: l => by
  have ih := zww k v l
  unfold mapSet at ih ⊢
  rw [List.map_cons]
  unfold kIdx setR
  cases hq : q k e.1 with
  | true => rfl
  | false =>
   simp only [cond_false, Bool.false_eq_true, if_false]
   rw [zvp]
   cases h : kIdx q k (l.map (·.1)) 0 with
   | none => rw [h] at ih; simpa using ih
   | some i => rw [h] at ih; simpa using ih
theorem zym (hq : ∀ a b, q a b = true ↔ a = b) (k k' : K) (v : V) : ∀ l : List (K × V), getR q z k' (setR q k v l) = if q k' k then v else getR q z k' l
 | [] => rfl
 | e :: l => by
  have ih := zym hq k k' v l
  unfold setR
  cases he : q k e.1 with
  | true =>
   have e1 := (hq _ _).1 he
   simp only [if_true, getR, ← e1]
   split <;> rfl
  | false =>
   simp only [Bool.false_eq_true, if_false, getR, ih]
   cases h1 : q k' e.1 with
   | true =>
    have e1 := (hq _ _).1 h1
    have : q k' k = false := by
     cases h2 : q k' k with
     | false => rfl
     | true =>
      have e2 := (hq _ _).1 h2
      rw [e2] at e1
      rw [e1, (hq _ _).2 rfl] at he
      cases he
    rw [this]
    simp
   | false => simp
theorem zadc (hq : ∀ a b, q a b = true ↔ a = b) (k k' : K) (v : V) (l : List (K × V)) : mapGet q z (mapSet q l k v) k' = if q k' k then v else mapGet q z l k' := by
 rw [zrg, zrg, zww, zym hq]
end
end Go.V
end
section
namespace Go.V
open Go Go.Proofs
end Go.V
end
section
namespace Go.V
open Go Go.Proofs
end Go.V
end
section
namespace Go.V
open Go Go.Proofs
end Go.V
end
section
namespace Go.V
open Go Go.Proofs
end Go.V
end
section
namespace Go.V
open Go Go.Proofs
end Go.V
end
section
namespace Go.V
open Go
def anyR (T : Int → Bool) : Nat → Int → Bool
 | 0, _ => false
 | k + 1, c => T c || anyR T k (c + 1)
def canT (s : GTintSheet) (mix : List Int) (p : P3) (y f : Int) : Bool := decide (sumL mix * leftI (selI s.Old p) y f - sumL mix * s.Off ≤ (sumsP s mix p).High) && decide ((sumsP s mix p).Low ≤ sumL mix * leftI (selI s.Old p) y f + sumL mix * s.Off)
def canB (s : GTintSheet) (mix : List Int) (p : P3) (y : Int) : Bool := anyR (canT s mix p y) ((selS s.Fade p).High + 1 - (selS s.Fade p).Low).toNat (selS s.Fade p).Low
def fillM (p : Int) (T : Int → Bool) : Nat → Int → List (Gtintfading × Bool) → List (Gtintfading × Bool)
 | 0, _, m => m
 | k + 1, c, m => fillM p T k (c + 1) (mapSet q138 m ⟨p, c⟩ (T c))
theorem zvo (a b : Gtintfading) : q138 a b = true ↔ a = b := by
 constructor
 ·exact hq138 a b
 ·rintro rfl
  simp [q138]
theorem zkf (p : Int) (T : Int → Bool) : ∀ (k : Nat) (c : Int) (m : List (Gtintfading × Bool)) (p' y : Int), mapGet q138 false (fillM p T k c m) ⟨p', y⟩ = if p' = p ∧ c ≤ y ∧ y < c + k then T y else mapGet q138 false m ⟨p', y⟩
 | 0, c, m, p', y => by
  rw [if_neg (by rintro ⟨_, h1, h2⟩; omega)]
  rfl
 | k + 1, c, m, p', y => by
  rw [fillM, zkf p T k (c + 1), zadc zvo]
  by_cases h1 : p' = p
  ·by_cases h2 : y = c
   ·subst h1 h2
    rw [if_neg (by rintro ⟨_, h1, _⟩; omega), if_pos (by simp [q138]), if_pos ⟨rfl, by omega, by omega⟩]
   ·have h3 : ¬ q138 ⟨p', y⟩ ⟨p, c⟩ = true := by
     rw [zvo]
     intro e
     exact h2 (congrArg Gtintfading.years e)
    rw [if_neg h3]
    by_cases h4 : c + 1 ≤ y ∧ y < c + 1 + k
    ·rw [if_pos ⟨h1, h4⟩, if_pos ⟨h1, by omega, by omega⟩]
    ·rw [if_neg (fun h => h4 h.2), if_neg (fun h => h4 ⟨by omega, by omega⟩)]
  ·have h3 : ¬ q138 ⟨p', y⟩ ⟨p, c⟩ = true := by
    rw [zvo]
    intro e
    exact h1 (congrArg Gtintfading.pigment e)
   rw [if_neg (fun h => h1 h.1), if_neg h3, if_neg (fun h => h1 h.1)]
def yrsN (s : GTintSheet) : Nat := (s.Years.High + 1 - s.Years.Low).toNat
def mapM (s : GTintSheet) (mix : List Int) : List (Gtintfading × Bool) := fillM 2 (canB s mix .p2) (yrsN s) s.Years.Low (fillM 1 (canB s mix .p1) (yrsN s) s.Years.Low (fillM 0 (canB s mix .p0) (yrsN s) s.Years.Low []))
end Go.V
end
section
namespace Go.V
open Go
theorem zaig (t : GTintTruth) (p : P3) : ∀ (ms : List Int) (ts : List GA3Int) (c acc : Int), 0 ≤ c → List.drop c.toNat t.Tins = ts → ms.length ≤ ts.length → (∀ e ∈ ms, 0 ≤ e ∧ e ≤ 8) → (∀ a ∈ ts, 0 ≤ selI a p ∧ selI a p ≤ 99) → 0 ≤ acc → acc + 792 * ms.length ≤ 1000000 →
  zdg t p.i ms c acc = some (.go (acc + dot (fun a => selI a p) ms ts))
 | [], ts, c, acc, _, _, _, _, _, _, _ => by simp [zdg, dot]
 | e :: ms, [], _, _, _, _, hl, _, _, _, _ => by simp at hl
 | e :: ms, a :: ts, c, acc, h0, hd, hl, h, h2, ha, hb => by
  have h1 := h e (List.mem_cons_self ..)
  have h3 := h2 a (List.mem_cons_self ..)
  have h4 := mulR h1.1 h1.2 h3.1 h3.2
  simp only [List.length_cons] at hb hl
  have ih := zaig t p ms ts (c + 1) (acc + e * selI a p) (by omega) (zay h0 hd) (by omega) (fun x hx => h x (List.mem_cons_of_mem _ hx)) (fun x hx => h2 x (List.mem_cons_of_mem _ hx)) (by omega) (by omega)
  simp only [zdg, zaj h0 hd, Option.bind_some]
  have hw : IntKind.i64.wrap (acc + IntKind.i64.wrap (e * selI a p)) = acc + e * selI a p := by rw [zek (n := e * selI a p) (by omega) (by omega), zek (by omega) (by omega)]
  have hg : acc + e * selI a p + dot (fun a => selI a p) ms ts = acc + dot (fun a => selI a p) (e :: ms) (a :: ts) := by simp only [dot]; omega
  rw [hg] at ih
  cases p <;> simp only [P3.i, Int.reduceBEq, cond_true, cond_false] <;> simp only [selI] at hw <;> rw [hw] <;> exact ih
theorem TrOk.b {s : GTintSheet} (hs : ShOk s) {t : GTintTruth} (ht : TrOk s t) (p : P3) : ∀ a ∈ t.Tins, 0 ≤ selI a p ∧ selI a p ≤ 99 := by
 intro a ha
 obtain ⟨i, hi⟩ := List.mem_iff_getElem?.1 ha
 have hlt := (List.getElem?_eq_some_iff.1 hi).1
 obtain ⟨c, hc⟩ : ∃ c, s.Tins[i]? = some c := ⟨_, List.getElem?_eq_getElem (by rw [← ht.n]; exact hlt)⟩
 have h1 := ht.tin i a c hi hc p
 have h2 := hs.low p c (List.mem_of_getElem? hc)
 have h3 := hs.high p c (List.mem_of_getElem? hc)
 omega
theorem zadg {s : GTintSheet} (hs : ShOk s) {mix : List Int} (hm : MixOk s mix) {t : GTintTruth} (ht : TrOk s t) (p : P3) : zhc mix t p.i = some (sumT mix t p) := by
 have hl := hs.n
 have hn := hm.n
 have h2 := ht.n
 unfold zhc
 rw [zhg (by omega)]
 have := zaig t p mix t.Tins 0 0 (Int.le_refl _) rfl (by omega) hm.b (ht.b hs p) (Int.le_refl _) (by omega)
 simp only [cond_true]
 rw [this]
 simp [lbind, sumT]
theorem zwf {s : GTintSheet} (hs : ShOk s) {t : GTintTruth} (ht : TrOk s t) (p : P3) : zaw s p.i t.Years (selI t.Fade p) = some (fadT s t p) := by
 have h1 := hs.yrs
 have h2 := ht.y
 have h3 := hs.fade p
 have h4 := ht.fade p
 exact zkx hs p (by omega) (by omega)
theorem zatf (a b : Int) : decide (a > b) = !decide (a ≤ b) := by
 by_cases h : a ≤ b
 ·simp [h]
 ·simp [h]; omega
theorem zakl {s : GTintSheet} (hs : ShOk s) {mix : List Int} (hm : MixOk s mix) {t : GTintTruth} (ht : TrOk s t) : zgd s mix t = some (trueB s mix t) := by
 have hl := hs.n
 have hn := hm.n
 have s0 := zadg hs hm ht .p0
 have s1 := zadg hs hm ht .p1
 have s2 := zadg hs hm ht .p2
 have f0 := zwf hs ht .p0
 have f1 := zwf hs ht .p1
 have f2 := zwf hs ht .p2
 simp only [P3.i, selI] at s0 s1 s2 f0 f1 f2
 have hw : ∀ p, IntKind.i64.wrap (sumL mix * fadT s t p) = sumL mix * fadT s t p ∧ IntKind.i64.wrap (sumT mix t p - sumL mix * fadT s t p) = sumT mix t p - sumL mix * fadT s t p ∧ IntKind.i64.wrap (-(sumT mix t p - sumL mix * fadT s t p)) = -(sumT mix t p - sumL mix * fadT s t p) := by
  intro p
  have h1 := zark hs hm ht p
  have h2 := zarq hs ht p
  have h3 := hm.s
  have h4 := mulR (a := sumL mix) (A := 8) (by omega) h3.2 h2.1 h2.2
  exact ⟨zek (by omega) (by omega), zek (by omega) (by omega), zek (by omega) (by omega)⟩
 have ho : IntKind.i64.wrap (sumL mix * s.Off) = sumL mix * s.Off := by
  have h3 := hm.s
  have h4 := hs.off
  have h5 := mulR (a := sumL mix) (A := 8) (b := s.Off) (B := 20) (by omega) h3.2 (by omega) (by omega)
  exact zek (by omega) (by omega)
 unfold zgd
 rw [show Int.toNat (3 - 0) = 3 from rfl, show boundOk 3 = true from rfl]
 simp only [zdy, Int.reduceAdd, Int.reduceBEq, cond_true, cond_false, s0, s1, s2, zyx hm.b (show mix.length ≤ 1000 by omega), f0, f1, f2, Option.bind_some, (hw _).1, (hw _).2.1, (hw _).2.2, ho]
 show lbind (cond (decide (absI (sumT mix t .p0 - sumL mix * fadT s t .p0) > sumL mix * s.Off)) (some (.ret false)) (cond (decide (absI (sumT mix t .p1 - sumL mix * fadT s t .p1) > sumL mix * s.Off)) (some (.ret false)) (cond (decide (absI (sumT mix t .p2 - sumL mix * fadT s t .p2) > sumL mix * s.Off)) (some (.ret false)) (some (.go ()))))) (fun r => some r) (fun _ => some true) (fun _ _ => none) = some (trueB s mix t)
 unfold trueB
 simp only [zatf, cnot]
 cases decide (absI (sumT mix t .p0 - sumL mix * fadT s t .p0) ≤ sumL mix * s.Off) <;> cases decide (absI (sumT mix t .p1 - sumL mix * fadT s t .p1) ≤ sumL mix * s.Off) <;> cases decide (absI (sumT mix t .p2 - sumL mix * fadT s t .p2) ≤ sumL mix * s.Off) <;> rfl
theorem zanm {s : GTintSheet} (h : lenOk s.Tins = true) (mix : List Int) {t : GTintTruth} (ht : lenOk t.Tins = true) : zha s mix t = some (cond (sheetB s && (mixB s mix && truthB s t)) (trueB s mix t, 0) (false, 2)) := by
 unfold zha
 rw [zls h]
 cases hb : sheetB s with
 | false => rfl
 | true =>
  have hs := ShOk.of hb
  simp only [Option.bind_some, cond_true, zadk hs, Bool.true_and]
  cases hx : mixB s mix with
  | false => rfl
  | true =>
   have hm := MixOk.of hx
   simp only [cond_true, zabf s ht, Option.bind_some, Bool.true_and]
   cases hy : truthB s t with
   | false => rfl
   | true =>
    have hT := TrOk.of hy
    simp only [cond_true, zaky hs hT, Option.bind_some, zafy (knOk hs hT) (knMix hT hm), zagy hs hm hT]
end Go.V
end
section
namespace Go.V
open Go Go.Proofs
def zex (x0_s : GTintSheet) (x1_a1 : List Int) (x2_a2 : GTintTruth) : Option (Bool) := Option.bind (zeg x0_s) (fun r1 => cond (r1) (cond (decide ((List.length x1_a1 : Int) > 6)) (some true) (cond (decide ((List.length x2_a2.Tins : Int) > 6)) (some true) (Option.bind (zha x0_s x1_a1 x2_a2) (fun r2 => Option.bind (zee x0_s) (fun r3 => cond (r3) (Option.bind (zfr x0_s x1_a1) (fun r4 => cond (r4) (Option.bind (zfq x0_s x2_a2) (fun r5 => cond (r5) (cond (r2.2 == 0) (Option.bind (zgd x0_s x1_a1 x2_a2) (fun r6 => cond (r2.1 == r6) (some true) (some false))) (some false)) (cond (r2.2 == 2) (cond (r2.1) (some false) (some true)) (some false)))) (cond (r2.2 == 2) (cond (r2.1) (some false) (some true)) (some false)))) (cond (r2.2 == 2) (cond (r2.1) (some false) (some true)) (some false))))))) (some true))
theorem zko (x0_s : GTintSheet) (x1_a1 : List Int) (x2_a2 : GTintTruth) (R : Bool) (h : zex x0_s x1_a1 x2_a2 = some R) : VPure Tryz.prog G0 4 [.agg (cGTintSheet x0_s), .sl (cellsL eI x1_a1) (List.length x1_a1) false, .agg (cGTintTruth x2_a2)] (.tree (.lit (.bool R))) := by
 refine VPure.runR mixed Tryz.call4 Tryz.func4 rfl (by simp [Tryz.ntmps4]; kernel_rfl) ?_
 obtain ⟨KF, h, kF, kN⟩ := zak h
 simp only [zex] at h
 rcases o8 : (zeg x0_s) with _ | r7
 ·simp only [o8, hs] at h
  exact absurd h kN
 simp only [o8, hs] at h
 simp only [vz, tyf, nm, seval]
 refine ktree (args0 := [.agg (cGTintSheet x0_s)]) (by first | (simp only [nrm, tynrm] <;> rfl) | rfl) (by simp only [tre, tytre, Bool.and_self]) (zjo _ _ o8) ?_
 refine zac (fun tm => tm 1 = .sl (cellsL eI x1_a1) (List.length x1_a1) false ∧ tm 3 = .ptr 0 0 ∧ tm 5 = .ptr 1 0 ∧ tm 10 = .lit (.bool r7) ∧ True) (by refine ⟨?_, ?_, ?_, ?_, trivial⟩ <;> first | (simp only [ua, nm, seval] <;> rfl) | rfl) ?_
 rintro tm ⟨e9, e10, e11, e12, _⟩
 cases d13 : (r7)
 ·simp only [d13, hs] at h
  simp only [vz, tyf, e9, e10, e11, e12, d13, nm, seval]
  refine ktree0 zbk ?_
  try simp only [vz, tyf, e9, e10, e11, e12, d13, nm, seval]
  obtain rfl := kF _ h
  exact zab Tryz.results4 rfl
 simp only [d13, hs] at h
 cases d14 : (decide ((List.length x1_a1 : Int) > 6))
 ·simp only [d14, hs] at h
  cases d15 : (decide ((List.length x2_a2.Tins : Int) > 6))
  ·simp only [d15, hs] at h
   rcases o17 : (zha x0_s x1_a1 x2_a2) with _ | r16
   ·simp only [o17, hs] at h
    exact absurd h kN
   simp only [o17, hs] at h
   simp only [vz, tyf, e9, e10, e11, e12, d13, d14, d15, nm, seval]
   refine ktree (args0 := [.agg (cGTintSheet x0_s), .sl (cellsL eI x1_a1) (List.length x1_a1) false, .agg (cGTintTruth x2_a2)]) (by first | (simp only [nrm, tynrm] <;> rfl) | rfl) (by simp only [tre, tytre, Bool.and_self]) (zru _ _ _ _ o17) ?_
   refine zac (fun tm => tm 1 = .sl (cellsL eI x1_a1) (List.length x1_a1) false ∧ tm 3 = .ptr 0 0 ∧ tm 5 = .ptr 1 0 ∧ tm 28 = .tup [.lit (.bool r16.1), .lit (.int .i64 r16.2)] ∧ True) (by refine ⟨e9, e10, e11, ?_, trivial⟩ <;> first | (simp only [ua, e9, e10, e11, e12, d13, d14, d15, nm, seval] <;> rfl) | rfl) ?_
   rintro tm ⟨e18, e19, e20, e21, _⟩
   rcases o23 : (zee x0_s) with _ | r22
   ·simp only [o23, hs] at h
    exact absurd h kN
   simp only [o23, hs] at h
   simp only [vz, tyf, d13, d14, d15, e18, e19, e20, e21, nm, seval]
   refine ktree (args0 := [.agg (cGTintSheet x0_s)]) (by first | (simp only [nrm, tynrm] <;> rfl) | rfl) (by simp only [tre, tytre, Bool.and_self]) (zkc _ _ o23) ?_
   refine zac (fun tm => tm 1 = .sl (cellsL eI x1_a1) (List.length x1_a1) false ∧ tm 3 = .ptr 0 0 ∧ tm 5 = .ptr 1 0 ∧ tm 7 = .lit (.bool r16.1) ∧ tm 8 = .lit (.int .i64 r16.2) ∧ tm 32 = .lit (.bool r22) ∧ True) (by refine ⟨e18, e19, e20, ?_, ?_, ?_, trivial⟩ <;> first | (simp only [ua, d13, d14, d15, e18, e19, e20, e21, nm, seval] <;> rfl) | rfl) ?_
   rintro tm ⟨e24, e25, e26, e27, e28, e29, _⟩
   cases d30 : (r22)
   ·simp only [d30, hs] at h
    cases d31 : (r16.2 == 2)
    ·simp only [d31, hs] at h
     try simp only [vz, tyf, d13, d14, d15, e24, e25, e26, e27, e28, e29, d30, d31, nm, seval]
     obtain rfl := kF _ h
     exact zab Tryz.results4 rfl
    simp only [d31, hs] at h
    cases d32 : (r16.1)
    ·simp only [d32, hs] at h
     simp only [vz, tyf, d13, d14, d15, e24, e25, e26, e27, e28, e29, d30, d31, d32, nm, seval]
     refine ktree0 zbk ?_
     try simp only [vz, tyf, d13, d14, d15, e24, e25, e26, e27, e28, e29, d30, d31, d32, nm, seval]
     obtain rfl := kF _ h
     exact zab Tryz.results4 rfl
    simp only [d32, hs] at h
    try simp only [vz, tyf, d13, d14, d15, e24, e25, e26, e27, e28, e29, d30, d31, d32, nm, seval]
    obtain rfl := kF _ h
    exact zab Tryz.results4 rfl
   simp only [d30, hs] at h
   rcases o34 : (zfr x0_s x1_a1) with _ | r33
   ·simp only [o34, hs] at h
    exact absurd h kN
   simp only [o34, hs] at h
   simp only [vz, tyf, d13, d14, d15, e24, e25, e26, e27, e28, e29, d30, nm, seval]
   refine ktree (args0 := [.agg (cGTintSheet x0_s), .sl (cellsL eI x1_a1) (List.length x1_a1) false]) (by first | (simp only [nrm, tynrm] <;> rfl) | rfl) (by simp only [tre, tytre, Bool.and_self]) (zlh _ _ _ o34) ?_
   refine zac (fun tm => tm 1 = .sl (cellsL eI x1_a1) (List.length x1_a1) false ∧ tm 3 = .ptr 0 0 ∧ tm 5 = .ptr 1 0 ∧ tm 7 = .lit (.bool r16.1) ∧ tm 8 = .lit (.int .i64 r16.2) ∧ tm 34 = .lit (.bool false) ∧ tm 37 = .lit (.bool r33) ∧ True) (by refine ⟨e24, e25, e26, e27, e28, ?_, ?_, trivial⟩ <;> first | (simp only [ua, d13, d14, d15, e24, e25, e26, e27, e28, e29, d30, nm, seval] <;> rfl) | rfl) ?_
   rintro tm ⟨e35, e36, e37, e38, e39, e40, e41, _⟩
   cases d42 : (r33)
   ·simp only [d42, hs] at h
    cases d43 : (r16.2 == 2)
    ·simp only [d43, hs] at h
     try simp only [vz, tyf, d13, d14, d15, d30, e35, e36, e37, e38, e39, e40, e41, d42, d43, nm, seval]
     obtain rfl := kF _ h
     exact zab Tryz.results4 rfl
    simp only [d43, hs] at h
    cases d44 : (r16.1)
    ·simp only [d44, hs] at h
     have b45 := And.intro d13 (And.intro d14 (And.intro d15 (And.intro d30 (And.intro d42 (And.intro d43 d44)))))
     simp only [vz, tyf, b45, e35, e36, e37, e38, e39, e40, e41, nm, seval]
     refine ktree0 zbk ?_
     try simp only [vz, tyf, b45, e35, e36, e37, e38, e39, e40, e41, nm, seval]
     obtain rfl := kF _ h
     exact zab Tryz.results4 rfl
    simp only [d44, hs] at h
    have b46 := And.intro d13 (And.intro d14 (And.intro d15 (And.intro d30 (And.intro d42 (And.intro d43 d44)))))
    try simp only [vz, tyf, b46, e35, e36, e37, e38, e39, e40, e41, nm, seval]
    obtain rfl := kF _ h
    exact zab Tryz.results4 rfl
   simp only [d42, hs] at h
   rcases o48 : (zfq x0_s x2_a2) with _ | r47
   ·simp only [o48, hs] at h
    exact absurd h kN
   simp only [o48, hs] at h
   simp only [vz, tyf, d13, d14, d15, d30, e35, e36, e37, e38, e39, e40, e41, d42, nm, seval]
   refine ktree (args0 := [.agg (cGTintSheet x0_s), .agg (cGTintTruth x2_a2)]) (by first | (simp only [nrm, tynrm] <;> rfl) | rfl) (by simp only [tre, tytre, Bool.and_self]) (zor _ _ _ o48) ?_
   refine zac (fun tm => tm 1 = .sl (cellsL eI x1_a1) (List.length x1_a1) false ∧ tm 3 = .ptr 0 0 ∧ tm 5 = .ptr 1 0 ∧ tm 7 = .lit (.bool r16.1) ∧ tm 8 = .lit (.int .i64 r16.2) ∧ tm 40 = .lit (.bool false) ∧ tm 43 = .lit (.bool r47) ∧ True) (by refine ⟨e35, e36, e37, e38, e39, ?_, ?_, trivial⟩ <;> first | (simp only [ua, d13, d14, d15, d30, e35, e36, e37, e38, e39, e40, e41, d42, nm, seval] <;> rfl) | rfl) ?_
   rintro tm ⟨e49, e50, e51, e52, e53, e54, e55, _⟩
   cases d56 : (r47)
   ·simp only [d56, hs] at h
    cases d57 : (r16.2 == 2)
    ·simp only [d57, hs] at h
     have b58 := And.intro d13 (And.intro d14 (And.intro d15 (And.intro d30 (And.intro d42 (And.intro d56 d57)))))
     try simp only [vz, tyf, b58, e49, e50, e51, e52, e53, e54, e55, nm, seval]
     obtain rfl := kF _ h
     exact zab Tryz.results4 rfl
    simp only [d57, hs] at h
    have b59 := And.intro d13 (And.intro d14 (And.intro d15 (And.intro d30 (And.intro d42 (And.intro d56 d57)))))
    cases d60 : (r16.1)
    ·simp only [d60, hs] at h
     simp only [vz, tyf, b59, e49, e50, e51, e52, e53, e54, e55, d60, nm, seval]
     refine ktree0 zbk ?_
     try simp only [vz, tyf, b59, e49, e50, e51, e52, e53, e54, e55, d60, nm, seval]
     obtain rfl := kF _ h
     exact zab Tryz.results4 rfl
    simp only [d60, hs] at h
    try simp only [vz, tyf, b59, e49, e50, e51, e52, e53, e54, e55, d60, nm, seval]
    obtain rfl := kF _ h
    exact zab Tryz.results4 rfl
   simp only [d56, hs] at h
   cases d61 : (r16.2 == 0)
   ·simp only [d61, hs] at h
    have b62 := And.intro d13 (And.intro d14 (And.intro d15 (And.intro d30 (And.intro d42 (And.intro d56 d61)))))
    try simp only [vz, tyf, b62, e49, e50, e51, e52, e53, e54, e55, nm, seval]
    obtain rfl := kF _ h
    exact zab Tryz.results4 rfl
   simp only [d61, hs] at h
   have b63 := And.intro d13 (And.intro d14 (And.intro d15 (And.intro d30 (And.intro d42 (And.intro d56 d61)))))
   rcases o65 : (zgd x0_s x1_a1 x2_a2) with _ | r64
   ·simp only [o65, hs] at h
    exact absurd h kN
   simp only [o65, hs] at h
   simp only [vz, tyf, b63, e49, e50, e51, e52, e53, e54, e55, nm, seval]
   refine ktree (args0 := [.agg (cGTintSheet x0_s), .sl (cellsL eI x1_a1) (List.length x1_a1) false, .agg (cGTintTruth x2_a2)]) (by first | (simp only [nrm, tynrm] <;> rfl) | rfl) (by simp only [tre, tytre, Bool.and_self]) (zpm _ _ _ _ o65) ?_
   refine zac (fun tm => tm 57 = .lit (.bool true) ∧ tm 58 = .lit (.bool r16.1) ∧ tm 62 = .lit (.bool r64) ∧ True) (by refine ⟨?_, ?_, ?_, trivial⟩ <;> first | (simp only [ua, b63, e49, e50, e51, e52, e53, e54, e55, nm, seval] <;> rfl) | rfl) ?_
   rintro tm ⟨e66, e67, e68, _⟩
   cases d69 : (r16.1 == r64)
   ·simp only [d69, hs] at h
    try simp only [vz, tyf, b63, e66, e67, e68, d69, nm, seval]
    obtain rfl := kF _ h
    exact zab Tryz.results4 rfl
   simp only [d69, hs] at h
   simp only [vz, tyf, b63, e66, e67, e68, d69, nm, seval]
   refine ktree0 zbk ?_
   try simp only [vz, tyf, b63, e66, e67, e68, d69, nm, seval]
   obtain rfl := kF _ h
   exact zab Tryz.results4 rfl
  simp only [d15, hs] at h
  simp only [vz, tyf, e9, e10, e11, e12, d13, d14, d15, nm, seval]
  refine ktree0 zbk ?_
  try simp only [vz, tyf, e9, e10, e11, e12, d13, d14, d15, nm, seval]
  obtain rfl := kF _ h
  exact zab Tryz.results4 rfl
 simp only [d14, hs] at h
 simp only [vz, tyf, e9, e10, e11, e12, d13, d14, nm, seval]
 refine ktree0 zbk ?_
 try simp only [vz, tyf, e9, e10, e11, e12, d13, d14, nm, seval]
 obtain rfl := kF _ h
 exact zab Tryz.results4 rfl
end Go.V
end
section
namespace Go.V
open Go
theorem zpw (s : GTintSheet) (mix : List Int) (t : GTintTruth) (h : lenOk s.Tins = true) (hm : lenOk mix = true) (ht : lenOk t.Tins = true) : zex s mix t = some true := by
 unfold zex
 rw [show zeg s = some (decide ((List.length s.Tins : Int) ≤ 6)) from rfl, zanm h mix ht, zxw h]
 cases decide ((List.length s.Tins : Int) ≤ 6) with
 | false => rfl
 | true =>
 cases decide ((List.length mix : Int) > 6) with
 | true => rfl
 | false =>
 cases decide ((List.length t.Tins : Int) > 6) with
 | true => rfl
 | false =>
 simp only [Option.bind_some, cond_true, cond_false]
 cases hb : sheetB s with
 | false => rfl
 | true =>
  have hs := ShOk.of hb
  simp only [cond_true, zaiu hs hm, Option.bind_some, Bool.true_and]
  cases hx : mixB s mix with
  | false => rfl
  | true =>
   have hm := MixOk.of hx
   simp only [cond_true, zafs s ht, Option.bind_some, Bool.true_and]
   cases hy : truthB s t with
   | false => rfl
   | true =>
    simp only [cond_true, zakl hs hm (TrOk.of hy), Option.bind_some, beq_self_eq_true]
end Go.V
end
