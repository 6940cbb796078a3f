/- Part of a proof. -/
import Derived.Test.YtjpgejagakmjgaaGreatDoorTbh
set_option linter.all false
set_option maxRecDepth 4000
set_option maxHeartbeats 40000000
section
namespace Go.V
open Go
def Dec (P : Program) (n : Nat) (t : TypeId) {α : Type} (enc : α → List VV) (R : α → Prop) : Prop := ∀ xs, ShapeT P n t xs → ∃ x : α, R x ∧ normL xs = enc x
theorem zacm {P : Program} {n : Nat} {t : TypeId} (hu : P.underlying t = some (.int .i64)) : Dec P (n + 1) t eI (fun _ => True) := by
 intro xs h
 simp only [ShapeT, hu] at h
 obtain ⟨i, _, rfl⟩ := h
 exact ⟨i, trivial, by simp only [zfn, zhj, zvz, eI]⟩
theorem zajl {P : Program} {n : Nat} {t : TypeId} (hu : P.underlying t = some .bool) : Dec P (n + 1) t eB (fun _ => True) := by
 intro xs h
 simp only [ShapeT, hu] at h
 obtain ⟨b, rfl⟩ := h
 exact ⟨b, trivial, by simp only [zfn, zhj, zng, eB]⟩
theorem zaac {P : Program} {n : Nat} {t : TypeId} {α : Type} {enc : α → List VV} {R : α → Prop} (h : Dec P n t enc R) : ∀ yss : List (List VV), (∀ ys ∈ yss, ShapeT P n t ys) → ∃ l : List α, l.length = yss.length ∧ (∀ x ∈ l, R x) ∧ normL yss.flatten = cellsL enc l
 | [], _ => ⟨[], rfl, fun _ hx => (by cases hx), rfl⟩
 | ys :: yss, hs => by
  obtain ⟨x, hx, e⟩ := h ys (hs ys (List.mem_cons_self ..))
  obtain ⟨l, h1, h2, h3⟩ := zaac h yss (fun y hy => hs y (List.mem_cons_of_mem _ hy))
  refine ⟨x :: l, by simp [h1], fun y hy => ?_, by rw [List.flatten_cons, zem, e, h3, zac]⟩
  rcases List.mem_cons.1 hy with rfl | hy
  ·exact hx
  ·exact h2 y hy
theorem zpx {P : Program} {n : Nat} {t e : TypeId} {α : Type} {enc : α → List VV} {R : α → Prop} (hu : P.underlying t = some (.slice e)) (h : Dec P n e enc R) : Dec P (n + 1) t (fun l : List α => [.sl (cellsL enc l) l.length false]) (fun l => lenOk l = true ∧ ∀ x ∈ l, R x) := by
 intro xs hs
 simp only [ShapeT, hu] at hs
 rcases hs with rfl | ⟨yss, hl, hall, rfl⟩
 ·exact ⟨[], ⟨rfl, fun _ hx => (by cases hx)⟩, by simp only [zfn, zhj, zwx]; rfl⟩
 ·obtain ⟨l, h1, h2, h3⟩ := zaac h yss hall
  refine ⟨l, ⟨?_, h2⟩, by simp only [zfn, zhj, zabc, h3, h1]⟩
  have : maxLen = 9223372036854775807 := by decide
  unfold lenOk
  exact decide_eq_true (by omega)
theorem zaam {P : Program} {n : Nat} {t : TypeId} {fs : Array Field} {xs : List VV} (hu : P.underlying t = some (.struct fs)) (h : ShapeT P (n + 1) t xs) : ∃ yss, FieldsS (ShapeT P n) fs.toList yss ∧ xs = yss.flatten := by
 simp only [ShapeT, hu] at h
 exact h
def TypesS (S : TypeId → List VV → Prop) : List TypeId → List (List VV) → Prop
 | [], [] => True
 | t :: ts, ys :: yss => S t ys ∧ TypesS S ts yss
 | _, _ => False
theorem zada {S : TypeId → List VV → Prop} : ∀ (fs : List Field) (yss : List (List VV)), FieldsS S fs yss → TypesS S (fs.map Field.type) yss
 | [], [], _ => trivial
 | f :: fs, ys :: yss, ⟨h1, h2⟩ => ⟨h1, zada fs yss h2⟩
 | [], _ :: _, h => h
 | _ :: _, [], h => h
theorem zjb {P : Program} {n : Nat} {t : TypeId} {fs : Array Field} {ts : List TypeId} {xs : List VV} (hu : P.underlying t = some (.struct fs)) (ht : fs.toList.map Field.type = ts) (h : ShapeT P (n + 1) t xs) : ∃ yss, TypesS (ShapeT P n) ts yss ∧ xs = yss.flatten := by
 obtain ⟨yss, h1, h2⟩ := zaam hu h
 exact ⟨yss, ht ▸ zada _ _ h1, h2⟩
theorem zne {P : Program} {n : Nat} {t : TypeId} {ts : List TypeId} {xs : List VV} (h : ArgsS P n (t :: ts) xs) : ∃ x xs', xs = x :: xs' ∧ ArgS P n t x ∧ ArgsS P n ts xs' := by
 match xs, h with
 | x :: xs', h => exact ⟨x, xs', rfl, h.1, h.2⟩
theorem zagk {P : Program} {n : Nat} {xs : List VV} (h : ArgsS P n [] xs) : xs = [] := by
 match xs, h with
 | [], _ => rfl
theorem zaaa {P : Program} {n : Nat} {t : TypeId} {fs : Array Field} {x : VV} {α : Type} {enc : α → List VV} {R : α → Prop} (hu : P.underlying t = some (.struct fs)) (hd : Dec P n t enc R) (h : ArgS P n t x) : ∃ s, R s ∧ normV x = .agg (enc s) := by
 obtain ⟨ys, h1, h2⟩ := h
 rw [hu] at h2
 obtain rfl : x = .agg ys := h2
 obtain ⟨s, hs, e⟩ := hd ys h1
 exact ⟨s, hs, by rw [zvq, e]⟩
theorem zaay {P : Program} {n : Nat} {t : TypeId} {d : TypeDesc} {x : VV} {α : Type} {enc : α → List VV} {R : α → Prop} (hu : P.underlying t = some d) (hn : (∀ fs, d ≠ .struct fs) ∧ ∀ m e, d ≠ .array m e) (hd : Dec P n t enc R) (h : ArgS P n t x) : ∃ s, R s ∧ [normV x] = enc s := by
 obtain ⟨ys, h1, h2⟩ := h
 rw [hu] at h2
 have h3 : ys = [x] := by
  cases d <;> first | exact h2 | exact absurd rfl (hn.1 _) | exact absurd rfl (hn.2 _ _)
 subst h3
 obtain ⟨s, hs, e⟩ := hd _ h1
 exact ⟨s, hs, by rw [← e, zfn, zhj]⟩
end Go.V
end
section
set_option maxRecDepth 100000
namespace Go.V
open Go Go.Proofs
def zjs (x : GPriceSheet) : Prop := lenOk x.Offs = true ∧ lenOk x.Boards = true ∧ lenOk x.Tariffs = true
section
variable {P : Program} (hu3 : P.underlying 3 = some (.int .i64)) (hu22 : P.underlying 22 = some (.slice 3)) {f33 : Array Field} (hu33 : P.underlying 33 = some (.struct f33)) (ht33 : f33.toList.map Field.type = [3, 3]) {f75 : Array Field} (hu75 : P.underlying 75 = some (.struct f75)) (ht75 : f75.toList.map Field.type = [3, 3, 33, 3]) (hu23 : P.underlying 23 = some (.slice 75)) (hu39 : P.underlying 39 = some (.int .i64)) (hu40 : P.underlying 40 = some (.int .i64)) (hu4 : P.underlying 4 = some (.bool)) {f42 : Array Field} (hu42 : P.underlying 42 = some (.struct f42)) (ht42 : f42.toList.map Field.type = [39, 3, 3, 40, 4]) (hu24 : P.underlying 24 = some (.slice 42)) {f26 : Array Field} (hu26 : P.underlying 26 = some (.struct f26)) (ht26 : f26.toList.map Field.type = [22, 23, 24])
include hu3 hu22 hu33 ht33 hu75 ht75 hu23 hu39 hu40 hu4 hu42 ht42 hu24 hu26 ht26
theorem gd_3 {n : Nat} : Dec P (n + 1) 3 eI (fun _ => True) := zacm hu3
theorem gd_22 {n : Nat} : Dec P (n + 2) 22 (eSl eI) (fun l => lenOk l = true ∧ ∀ x ∈ l, True) := zpx hu22 (gd_3 hu3 hu22 hu33 ht33 hu75 ht75 hu23 hu39 hu40 hu4 hu42 ht42 hu24 hu26 ht26 (n := n))
theorem gd_33 {n : Nat} : Dec P (n + 2) 33 cGSpan (fun _ => True) := by
 intro xs h
 obtain ⟨yss, hf, rfl⟩ := zjb (n := n + 1) (ts := [3, 3]) hu33 ht33 h
 match yss, hf with
 | [y0, y1], ⟨h0, h1, _⟩ =>
  obtain ⟨x0, r0, e0⟩ := gd_3 hu3 hu22 hu33 ht33 hu75 ht75 hu23 hu39 hu40 hu4 hu42 ht42 hu24 hu26 ht26 (n := n + 0) _ h0
  obtain ⟨x1, r1, e1⟩ := gd_3 hu3 hu22 hu33 ht33 hu75 ht75 hu23 hu39 hu40 hu4 hu42 ht42 hu24 hu26 ht26 (n := n + 0) _ h1
  exact ⟨⟨x0, x1⟩, trivial, by simp only [List.flatten_cons, List.flatten_nil, List.append_nil, zem, e0, e1, eI, eU8, eB, eS, eSl, zib, List.cons_append, List.nil_append]⟩
theorem gd_75 {n : Nat} : Dec P (n + 3) 75 cGPriceBoard (fun _ => True) := by
 intro xs h
 obtain ⟨yss, hf, rfl⟩ := zjb (n := n + 2) (ts := [3, 3, 33, 3]) hu75 ht75 h
 match yss, hf with
 | [y0, y1, y2, y3], ⟨h0, h1, h2, h3, _⟩ =>
  obtain ⟨x0, r0, e0⟩ := gd_3 hu3 hu22 hu33 ht33 hu75 ht75 hu23 hu39 hu40 hu4 hu42 ht42 hu24 hu26 ht26 (n := n + 1) _ h0
  obtain ⟨x1, r1, e1⟩ := gd_3 hu3 hu22 hu33 ht33 hu75 ht75 hu23 hu39 hu40 hu4 hu42 ht42 hu24 hu26 ht26 (n := n + 1) _ h1
  obtain ⟨x2, r2, e2⟩ := gd_33 hu3 hu22 hu33 ht33 hu75 ht75 hu23 hu39 hu40 hu4 hu42 ht42 hu24 hu26 ht26 (n := n + 0) _ h2
  obtain ⟨x3, r3, e3⟩ := gd_3 hu3 hu22 hu33 ht33 hu75 ht75 hu23 hu39 hu40 hu4 hu42 ht42 hu24 hu26 ht26 (n := n + 1) _ h3
  exact ⟨⟨x0, x1, x2, x3⟩, trivial, by simp only [List.flatten_cons, List.flatten_nil, List.append_nil, zem, e0, e1, e2, e3, eI, eU8, eB, eS, eSl, zei, zib, List.cons_append, List.nil_append]⟩
theorem gd_23 {n : Nat} : Dec P (n + 4) 23 (eSl cGPriceBoard) (fun l => lenOk l = true ∧ ∀ x ∈ l, True) := zpx hu23 (gd_75 hu3 hu22 hu33 ht33 hu75 ht75 hu23 hu39 hu40 hu4 hu42 ht42 hu24 hu26 ht26 (n := n))
theorem gd_39 {n : Nat} : Dec P (n + 1) 39 eI (fun _ => True) := zacm hu39
theorem gd_40 {n : Nat} : Dec P (n + 1) 40 eI (fun _ => True) := zacm hu40
theorem gd_4 {n : Nat} : Dec P (n + 1) 4 eB (fun _ => True) := zajl hu4
theorem gd_42 {n : Nat} : Dec P (n + 2) 42 cGPriceTariff (fun _ => True) := by
 intro xs h
 obtain ⟨yss, hf, rfl⟩ := zjb (n := n + 1) (ts := [39, 3, 3, 40, 4]) hu42 ht42 h
 match yss, hf with
 | [y0, y1, y2, y3, y4], ⟨h0, h1, h2, h3, h4, _⟩ =>
  obtain ⟨x0, r0, e0⟩ := gd_39 hu3 hu22 hu33 ht33 hu75 ht75 hu23 hu39 hu40 hu4 hu42 ht42 hu24 hu26 ht26 (n := n + 0) _ h0
  obtain ⟨x1, r1, e1⟩ := gd_3 hu3 hu22 hu33 ht33 hu75 ht75 hu23 hu39 hu40 hu4 hu42 ht42 hu24 hu26 ht26 (n := n + 0) _ h1
  obtain ⟨x2, r2, e2⟩ := gd_3 hu3 hu22 hu33 ht33 hu75 ht75 hu23 hu39 hu40 hu4 hu42 ht42 hu24 hu26 ht26 (n := n + 0) _ h2
  obtain ⟨x3, r3, e3⟩ := gd_40 hu3 hu22 hu33 ht33 hu75 ht75 hu23 hu39 hu40 hu4 hu42 ht42 hu24 hu26 ht26 (n := n + 0) _ h3
  obtain ⟨x4, r4, e4⟩ := gd_4 hu3 hu22 hu33 ht33 hu75 ht75 hu23 hu39 hu40 hu4 hu42 ht42 hu24 hu26 ht26 (n := n + 0) _ h4
  exact ⟨⟨x0, x1, x2, x3, x4⟩, trivial, by simp only [List.flatten_cons, List.flatten_nil, List.append_nil, zem, e0, e1, e2, e3, e4, eI, eU8, eB, eS, eSl, zea, List.cons_append, List.nil_append]⟩
theorem gd_24 {n : Nat} : Dec P (n + 3) 24 (eSl cGPriceTariff) (fun l => lenOk l = true ∧ ∀ x ∈ l, True) := zpx hu24 (gd_42 hu3 hu22 hu33 ht33 hu75 ht75 hu23 hu39 hu40 hu4 hu42 ht42 hu24 hu26 ht26 (n := n))
theorem gd_26 {n : Nat} : Dec P (n + 5) 26 cGPriceSheet (zjs) := by
 intro xs h
 obtain ⟨yss, hf, rfl⟩ := zjb (n := n + 4) (ts := [22, 23, 24]) hu26 ht26 h
 match yss, hf with
 | [y0, y1, y2], ⟨h0, h1, h2, _⟩ =>
  obtain ⟨x0, r0, e0⟩ := gd_22 hu3 hu22 hu33 ht33 hu75 ht75 hu23 hu39 hu40 hu4 hu42 ht42 hu24 hu26 ht26 (n := n + 2) _ h0
  obtain ⟨x1, r1, e1⟩ := gd_23 hu3 hu22 hu33 ht33 hu75 ht75 hu23 hu39 hu40 hu4 hu42 ht42 hu24 hu26 ht26 (n := n + 0) _ h1
  obtain ⟨x2, r2, e2⟩ := gd_24 hu3 hu22 hu33 ht33 hu75 ht75 hu23 hu39 hu40 hu4 hu42 ht42 hu24 hu26 ht26 (n := n + 1) _ h2
  exact ⟨⟨x0, x1, x2⟩, ⟨r0.1, r1.1, r2.1⟩, by simp only [List.flatten_cons, List.flatten_nil, List.append_nil, zem, e0, e1, e2, eI, eU8, eB, eS, eSl, zeh, List.cons_append, List.nil_append]⟩
end
theorem dec_3 {n : Nat} : Dec Tryz.prog (n + 1) 3 eI (fun _ => True) := gd_3 Tryz.underlying3 Tryz.underlying22 Tryz.underlying33 (by kernel_rfl) Tryz.underlying75 (by kernel_rfl) Tryz.underlying23 Tryz.underlying39 Tryz.underlying40 Tryz.underlying4 Tryz.underlying42 (by kernel_rfl) Tryz.underlying24 Tryz.underlying26 (by kernel_rfl)
theorem zarw {n : Nat} : Dec Tryz.prog (n + 2) 22 (eSl eI) (fun l => lenOk l = true ∧ ∀ x ∈ l, True) := gd_22 Tryz.underlying3 Tryz.underlying22 Tryz.underlying33 (by kernel_rfl) Tryz.underlying75 (by kernel_rfl) Tryz.underlying23 Tryz.underlying39 Tryz.underlying40 Tryz.underlying4 Tryz.underlying42 (by kernel_rfl) Tryz.underlying24 Tryz.underlying26 (by kernel_rfl)
theorem zars {n : Nat} : Dec Tryz.prog (n + 5) 26 cGPriceSheet (zjs) := gd_26 Tryz.underlying3 Tryz.underlying22 Tryz.underlying33 (by kernel_rfl) Tryz.underlying75 (by kernel_rfl) Tryz.underlying23 Tryz.underlying39 Tryz.underlying40 Tryz.underlying4 Tryz.underlying42 (by kernel_rfl) Tryz.underlying24 Tryz.underlying26 (by kernel_rfl)
end Go.V
end
section
namespace Go.V
open Go
def goB (b : Bool) : Option (LOut Bool Unit) := cond b (some (.go ())) (some (.ret false))
theorem zky (a b : Bool) : goB (a && b) = cond a (goB b) (some (.ret false)) := by cases a <;> rfl
theorem csome (a b : Bool) : cond a (some b) (some false) = some (a && b) := by cases a <;> rfl
theorem zll {X : Type} (b : Bool) (kr : Bool → Option X) (kg : Unit → Option X) (kb : Nat → Unit → Option X) : lbind (goB b) kr kg kb = cond b (kg ()) (kr false) := by cases b <;> rfl
def inB (a b n : Int) : Bool := decide (a ≤ n) && decide (n ≤ b)
theorem zgy {a b n : Int} : inB a b n = true ↔ a ≤ n ∧ n ≤ b := by simp [inB]
theorem zco {n : Int} (h1 : -9223372036854775808 ≤ n) (h2 : n < 9223372036854775808) : IntKind.i64.wrap n = n := IntWalk.i64_in _ (by omega)
theorem zki {α : Type} {xs : List α} (h : lenOk xs = true) : xs.length < 9223372036854775808 := by simpa [lenOk] using h
theorem zgj {α : Type} {xs : List α} (h : xs.length < 9223372036854775808) : lenOk xs = true := by simpa [lenOk] using h
theorem zafb {α : Type} {xs : List α} {i : Int} (h0 : 0 ≤ i) (h1 : i < xs.length) : ∃ x, getI xs i = some x ∧ x ∈ xs := by
 unfold getI
 rw [if_pos h0]
 have h : i.toNat < xs.length := by omega
 exact ⟨xs[i.toNat], List.getElem?_eq_getElem h, List.getElem_mem h⟩
theorem mulR {a b A B : Int} (h1 : 0 ≤ a) (h2 : a ≤ A) (h3 : 0 ≤ b) (h4 : b ≤ B) : 0 ≤ a * b ∧ a * b ≤ A * B :=
 ⟨Int.mul_nonneg h1 h3, Int.mul_le_mul h2 h4 h3 (Int.le_trans h1 h2)⟩
end Go.V
end
section
namespace Go.V
open Go Go.Proofs
def zba (x0_least : Int) (x1_n : Int) (x2_most : Int) : Option (Bool) := cond (decide (x0_least ≤ x1_n)) (some (decide (x1_n ≤ x2_most))) (some false)
theorem zaz (x0_least : Int) (x1_n : Int) (x2_most : Int) (R : Bool) (h : zba x0_least x1_n x2_most = some R) : VPure Tryz.prog G0 98 [.lit (.int .i64 x0_least), .lit (.int .i64 x1_n), .lit (.int .i64 x2_most)] (.tree (.lit (.bool R))) := by
 refine VPure.runR mixed Tryz.call98 Tryz.func98 rfl (by simp [Tryz.ntmps98]; kernel_rfl) ?_
 obtain ⟨KF, h, kF, kN⟩ := zaq h
 simp only [zba] at h
 cases d1 : (decide (x0_least ≤ x1_n))
 ·simp only [d1, hs] at h
  try simp only [vz, tyf, d1, nm, seval]
  obtain rfl := kF _ h
  exact zai Tryz.results98 rfl
 simp only [d1, hs] at h
 try simp only [vz, tyf, d1, nm, seval]
 obtain rfl := kF _ h
 exact zai Tryz.results98 rfl
def zch (x0_least : Int) (x2_most : Int) : List Int → Int → Option (LOut (Bool) (Unit))
 | [], c0_11 => some (.go ())
 | e0 :: p0, c0_11 => Option.bind (zba x0_least e0 x2_most) (fun r1 => cond (r1) (zch x0_least x2_most p0 (c0_11 + 1)) (some (.ret false)))
def zeu (x0_least : Int) (x1_numbers : List Int) (x2_most : Int) : Option (Bool) := cond (lenOk x1_numbers) (lbind (zch x0_least x2_most x1_numbers 0) (fun r3 => some r3) (fun c2 => some true) (fun _ _ => none)) none
theorem zjf (x0_least : Int) (x1_numbers : List Int) (x2_most : Int) (R : Bool) (h : zeu x0_least x1_numbers x2_most = some R) : VPure Tryz.prog G0 99 [.lit (.int .i64 x0_least), .sl (cellsL eI x1_numbers) (List.length x1_numbers) false, .lit (.int .i64 x2_most)] (.tree (.lit (.bool R))) := by
 refine VPure.runR mixed Tryz.call99 Tryz.func99 rfl (by simp [Tryz.ntmps99]; kernel_rfl) ?_
 obtain ⟨KF, h, kF, kN⟩ := zaq h
 simp only [zeu] at h
 cases g5 : (lenOk x1_numbers)
 ·simp only [g5, hs] at h
  exact absurd h kN
 simp only [g5, hs] at h
 simp only [vz, tyf, g5, nm, seval]
 obtain ⟨K4, h, kR4, kG4, kB4, kN4⟩ := zbf h kN
 obtain ⟨f4, hf4, h⟩ := call2 h
 obtain ⟨I4, hI4⟩ : ∃ I : Nat → St → Prop, I = (fun m st => ∃ (p4 : List Int) (c4_11 : Int), m = List.length p4 ∧ 0 ≤ c4_11 ∧ List.drop (Int.toNat c4_11) x1_numbers = p4 ∧ st.df = [] ∧ 4 ≤ st.nx ∧ st.tm 0 = .lit (.int .i64 x0_least) ∧ st.tm 2 = .lit (.int .i64 x2_most) ∧ st.tm 9 = .sl (cellsL eI x1_numbers) (List.length x1_numbers) false ∧ st.tm 10 = .lit (.int .i64 (List.length x1_numbers : Int)) ∧ st.tm 11 = .lit (.int .i64 c4_11) ∧ K4 (f4 p4 c4_11)) := ⟨_, rfl⟩
 refine loopK mixed (by kernel_rfl) I4 (List.length x1_numbers) (by rw [hI4]; refine ⟨x1_numbers, 0, rfl, Int.le_refl _, rfl, rfl, (show 4 ≤ 4 by omega), ?_, ?_, ?_, ?_, ?_, h⟩ <;> first | (simp only [ua, nm, seval] <;> rfl) | rfl) ?_
 rintro m ⟨tm, H, nx4, df⟩ hinv
 rw [hI4] at hinv
 obtain ⟨p4, c4_11, rfl, hi4, hp4, hdf, hn4, e6, e7, e8, e9, e10, h⟩ := hinv
 simp only at hdf hn4 e6 e7 e8 e9 e10
 have n11 := zda (m := 4) (b := nx4) (by omega)
 subst hdf hf4
 cases p4 with
 | nil =>
  have d12 : (decide (c4_11 < (List.length x1_numbers : Int))) = false := zaj hi4 hp4
  simp only [zch, hs, reduceCtorEq] at h
  replace h := kG4 _ h
  try dsimp only at h
  try simp only [hs] at h
  try simp only [vz, tyf, g5, n11, e6, e7, e8, e9, e10, d12, nm, seval]
  obtain rfl := kF _ h
  exact zai Tryz.results99 rfl
 | cons e4 p4 =>
  have d13 : (decide (c4_11 < (List.length x1_numbers : Int))) = true := zaw hi4 hp4
  have o15 := zak hi4 hp4
  have w14 := zbj hi4 hp4 g5
  simp only [zch, hs, reduceCtorEq] at h
  obtain ⟨r16, o17, h⟩ := optI h kN4
  try simp only [hs] at h
  simp only [vz, tyf, g5, n11, e6, e7, e8, e9, e10, d13, (ix22 o15), w14, nm, seval]
  refine ktA (zaz _ _ _ _ o17) ?_
  refine zar (fun tm => tm 0 = .lit (.int .i64 x0_least) ∧ tm 2 = .lit (.int .i64 x2_most) ∧ tm 9 = .sl (cellsL eI x1_numbers) (List.length x1_numbers) false ∧ tm 10 = .lit (.int .i64 (List.length x1_numbers : Int)) ∧ tm 11 = .lit (.int .i64 c4_11) ∧ tm 18 = .lit (.bool r16) ∧ True) (by refine ⟨e6, e7, e8, e9, e10, ?_, trivial⟩ <;> first | (simp only [ua, n11, e6, e7, e8, e9, e10, d13, w14, nm, seval] <;> rfl) | rfl) ?_
  rintro tm ⟨e18, e19, e20, e21, e22, e23, _⟩
  cases d24 : (r16)
  ·simp only [d24, hs] at h
   try simp only [vz, tyf, g5, n11, d13, (ix22 o15), w14, e18, e19, e20, e21, e22, e23, d24, nm, seval]
   replace h := kR4 _ h
   try dsimp only at h
   obtain rfl := kF _ h
   exact zai Tryz.results99 rfl
  simp only [d24, hs] at h
  simp only [vz, tyf, g5, n11, d13, (ix22 o15), w14, e18, e19, e20, e21, e22, e23, d24, nm, seval]
  exact ⟨List.length p4, Nat.lt_succ_self _, by rw [hI4]; refine ⟨p4, c4_11 + 1, rfl, Int.le_trans hi4 (Int.le_add_one (Int.le_refl _)), zax hi4 hp4, rfl, (show 4 ≤ nx4 + 11 by omega), e18, e19, e20, e21, ?_, (by first | exact h | (simp only [d13, d24]; exact h))⟩ <;> first | (simp only [ua, n11, d13, w14, e18, e19, e20, e21, e22, e23, d24, nm, seval] <;> rfl) | rfl⟩
def zeg (x0_least : Int) (x1_x : GSpan) (x2_most : Int) : Option (Bool) := cond (decide (x0_least ≤ x1_x.Low)) (cond (decide (x1_x.Low ≤ x1_x.High)) (some (decide (x1_x.High ≤ x2_most))) (some false)) (some false)
theorem zka (x0_least : Int) (x1_x : GSpan) (x2_most : Int) (R : Bool) (h : zeg x0_least x1_x x2_most = some R) : VPure Tryz.prog G0 143 [.lit (.int .i64 x0_least), .agg (cGSpan x1_x), .lit (.int .i64 x2_most)] (.tree (.lit (.bool R))) := by
 refine VPure.runR mixed Tryz.call143 Tryz.func143 rfl (by simp [Tryz.ntmps143]; kernel_rfl) ?_
 obtain ⟨KF, h, kF, kN⟩ := zaq h
 simp only [zeg] at h
 cases d1 : (decide (x0_least ≤ x1_x.Low))
 ·simp only [d1, hs] at h
  try simp only [vz, tyf, d1, nm, seval]
  obtain rfl := kF _ h
  exact zai Tryz.results143 rfl
 simp only [d1, hs] at h
 cases d2 : (decide (x1_x.Low ≤ x1_x.High))
 ·simp only [d2, hs] at h
  try simp only [vz, tyf, d1, d2, nm, seval]
  obtain rfl := kF _ h
  exact zai Tryz.results143 rfl
 simp only [d2, hs] at h
 try simp only [vz, tyf, d1, d2, nm, seval]
 obtain rfl := kF _ h
 exact zai Tryz.results143 rfl
def zej (x0_b : GPriceBoard) : Option (Bool) := Option.bind (zba 0 x0_b.Letters 60) (fun r1 => cond (r1) (Option.bind (zba 0 x0_b.Feet 40) (fun r2 => cond (r2) (Option.bind (zeg 0 x0_b.Hours 40) (fun r3 => cond (r3) (some (decide ((IntKind.i64.wrap (x0_b.Hours.High - x0_b.Hours.Low)) ≤ 6))) (some false))) (some false))) (some false))
theorem zjz (x0_b : GPriceBoard) (R : Bool) (h : zej x0_b = some R) : VPure Tryz.prog G0 126 [.agg (cGPriceBoard x0_b)] (.tree (.lit (.bool R))) := by
 refine VPure.runR mixed Tryz.call126 Tryz.func126 rfl (by simp [Tryz.ntmps126]; kernel_rfl) ?_
 obtain ⟨KF, h, kF, kN⟩ := zaq h
 simp only [zej] at h
 obtain ⟨r4, o5, h⟩ := optI h kN
 try simp only [hs] at h
 simp only [vz, tyf, nm, seval]
 refine ktA (zaz _ _ _ _ o5) ?_
 refine zar (fun tm => tm 1 = .ptr 0 0 ∧ tm 5 = .lit (.bool r4) ∧ True) (by refine ⟨?_, ?_, trivial⟩ <;> first | (simp only [ua, nm, seval] <;> rfl) | rfl) ?_
 rintro tm ⟨e6, e7, _⟩
 cases d8 : (r4)
 ·simp only [d8, hs] at h
  try simp only [vz, tyf, e6, e7, d8, nm, seval]
  obtain rfl := kF _ h
  exact zai Tryz.results126 rfl
 simp only [d8, hs] at h
 obtain ⟨r9, o10, h⟩ := optI h kN
 try simp only [hs] at h
 simp only [vz, tyf, e6, e7, d8, nm, seval]
 refine ktA (zaz _ _ _ _ o10) ?_
 refine zar (fun tm => tm 1 = .ptr 0 0 ∧ tm 6 = .lit (.bool true) ∧ tm 9 = .lit (.bool r9) ∧ True) (by refine ⟨e6, ?_, ?_, trivial⟩ <;> first | (simp only [ua, e6, e7, d8, nm, seval] <;> rfl) | rfl) ?_
 rintro tm ⟨e11, e12, e13, _⟩
 cases d14 : (r9)
 ·simp only [d14, hs] at h
  try simp only [vz, tyf, d8, e11, e12, e13, d14, nm, seval]
  obtain rfl := kF _ h
  exact zai Tryz.results126 rfl
 simp only [d14, hs] at h
 obtain ⟨r15, o16, h⟩ := optI h kN
 try simp only [hs] at h
 simp only [vz, tyf, d8, e11, e12, e13, d14, nm, seval]
 refine ktA (zka _ _ _ _ o16) ?_
 refine zar (fun tm => tm 1 = .ptr 0 0 ∧ tm 11 = .lit (.bool true) ∧ tm 14 = .lit (.bool r15) ∧ True) (by refine ⟨e11, ?_, ?_, trivial⟩ <;> first | (simp only [ua, d8, e11, e12, e13, d14, nm, seval] <;> rfl) | rfl) ?_
 rintro tm ⟨e17, e18, e19, _⟩
 cases d20 : (r15)
 ·simp only [d20, hs] at h
  try simp only [vz, tyf, d8, d14, e17, e18, e19, d20, nm, seval]
  obtain rfl := kF _ h
  exact zai Tryz.results126 rfl
 simp only [d20, hs] at h
 try simp only [vz, tyf, d8, d14, e17, e18, e19, d20, nm, seval]
 obtain rfl := kF _ h
 exact zai Tryz.results126 rfl
def zcf (x1_owners : Int) : List GPriceBoard → Int → Option (LOut (Bool) (Unit))
 | [], c0_9 => some (.go ())
 | e0 :: p0, c0_9 => Option.bind (zej e0) (fun r1 => cond (r1) (Option.bind (zba 0 e0.Owner (IntKind.i64.wrap (x1_owners - 1))) (fun r2 => cond (r2) (zcf x1_owners p0 (c0_9 + 1)) (some (.ret false)))) (some (.ret false)))
def zek (x0_boards : List GPriceBoard) (x1_owners : Int) : Option (Bool) := cond (lenOk x0_boards) (lbind (zcf x1_owners x0_boards 0) (fun r5 => some r5) (fun c3 => Option.bind (zba 1 (List.length x0_boards : Int) 4) (fun r4 => some r4)) (fun _ _ => none)) none
theorem ziw (x0_boards : List GPriceBoard) (x1_owners : Int) (R : Bool) (h : zek x0_boards x1_owners = some R) : VPure Tryz.prog G0 100 [.sl (cellsL cGPriceBoard x0_boards) (List.length x0_boards) false, .lit (.int .i64 x1_owners)] (.tree (.lit (.bool R))) := by
 refine VPure.runR mixed Tryz.call100 Tryz.func100 rfl (by simp [Tryz.ntmps100]; kernel_rfl) ?_
 obtain ⟨KF, h, kF, kN⟩ := zaq h
 simp only [zek] at h
 cases g7 : (lenOk x0_boards)
 ·simp only [g7, hs] at h
  exact absurd h kN
 simp only [g7, hs] at h
 simp only [vz, tyf, g7, nm, seval]
 obtain ⟨K6, h, kR6, kG6, kB6, kN6⟩ := zbf h kN
 obtain ⟨f6, hf6, h⟩ := call2 h
 obtain ⟨I6, hI6⟩ : ∃ I : Nat → St → Prop, I = (fun m st => ∃ (p6 : List GPriceBoard) (c6_9 : Int), m = List.length p6 ∧ 0 ≤ c6_9 ∧ List.drop (Int.toNat c6_9) x0_boards = p6 ∧ st.df = [] ∧ 4 ≤ st.nx ∧ st.tm 0 = .sl (cellsL cGPriceBoard x0_boards) (List.length x0_boards) false ∧ st.tm 1 = .lit (.int .i64 x1_owners) ∧ st.tm 7 = .sl (cellsL cGPriceBoard x0_boards) (List.length x0_boards) false ∧ st.tm 8 = .lit (.int .i64 (List.length x0_boards : Int)) ∧ st.tm 9 = .lit (.int .i64 c6_9) ∧ K6 (f6 p6 c6_9)) := ⟨_, rfl⟩
 refine loopK mixed (by kernel_rfl) I6 (List.length x0_boards) (by rw [hI6]; refine ⟨x0_boards, 0, rfl, Int.le_refl _, rfl, rfl, (show 4 ≤ 4 by omega), ?_, ?_, ?_, ?_, ?_, h⟩ <;> first | (simp only [ua, nm, seval] <;> rfl) | rfl) ?_
 rintro m ⟨tm, H, nx6, df⟩ hinv
 rw [hI6] at hinv
 obtain ⟨p6, c6_9, rfl, hi6, hp6, hdf, hn6, e8, e9, e10, e11, e12, h⟩ := hinv
 simp only at hdf hn6 e8 e9 e10 e11 e12
 have n13 := zda (m := 4) (b := nx6) (by omega)
 subst hdf hf6
 cases p6 with
 | nil =>
  have d14 : (decide (c6_9 < (List.length x0_boards : Int))) = false := zaj hi6 hp6
  simp only [zcf, hs, reduceCtorEq] at h
  replace h := kG6 _ h
  try dsimp only at h
  try simp only [hs] at h
  obtain ⟨r15, o16, h⟩ := optI h kN
  try simp only [hs] at h
  simp only [vz, tyf, g7, n13, e8, e9, e10, e11, e12, d14, nm, seval]
  refine ktA (zaz _ _ _ _ o16) ?_
  refine zar (fun tm => tm 27 = .lit (.bool r15) ∧ True) (by refine ⟨?_, trivial⟩ <;> first | (simp only [ua, n13, e8, e9, e10, e11, e12, d14, nm, seval] <;> rfl) | rfl) ?_
  rintro tm ⟨e17, _⟩
  try simp only [vz, tyf, g7, n13, d14, e17, nm, seval]
  obtain rfl := kF _ h
  exact zai Tryz.results100 rfl
 | cons e6 p6 =>
  have d18 : (decide (c6_9 < (List.length x0_boards : Int))) = true := zaw hi6 hp6
  have o20 := zak hi6 hp6
  have w19 := zbj hi6 hp6 g7
  simp only [zcf, hs, reduceCtorEq] at h
  obtain ⟨r21, o22, h⟩ := optI h kN6
  try simp only [hs] at h
  simp only [vz, tyf, g7, n13, e8, e9, e10, e11, e12, d18, (ix23 o20), w19, nm, seval]
  refine ktA (zjz _ _ o22) ?_
  refine zar (fun tm => tm 0 = .sl (cellsL cGPriceBoard x0_boards) (List.length x0_boards) false ∧ tm 1 = .lit (.int .i64 x1_owners) ∧ tm 6 = .ptr (nx6 + 3) 0 ∧ tm 7 = .sl (cellsL cGPriceBoard x0_boards) (List.length x0_boards) false ∧ tm 8 = .lit (.int .i64 (List.length x0_boards : Int)) ∧ tm 9 = .lit (.int .i64 c6_9) ∧ tm 14 = .lit (.bool r21) ∧ True) (by refine ⟨e8, e9, ?_, e10, e11, e12, ?_, trivial⟩ <;> first | (simp only [ua, n13, e8, e9, e10, e11, e12, d18, w19, nm, seval] <;> rfl) | rfl) ?_
  rintro tm ⟨e23, e24, e25, e26, e27, e28, e29, _⟩
  cases d30 : (r21)
  ·simp only [d30, hs] at h
   try simp only [vz, tyf, g7, n13, d18, (ix23 o20), w19, e23, e24, e25, e26, e27, e28, e29, d30, nm, seval]
   replace h := kR6 _ h
   try dsimp only at h
   obtain rfl := kF _ h
   exact zai Tryz.results100 rfl
  simp only [d30, hs] at h
  obtain ⟨r31, o32, h⟩ := optI h kN6
  try simp only [hs] at h
  simp only [vz, tyf, g7, n13, d18, (ix23 o20), w19, e23, e24, e25, e26, e27, e28, e29, d30, nm, seval]
  refine ktA (zaz _ _ _ _ o32) ?_
  refine zar (fun tm => tm 0 = .sl (cellsL cGPriceBoard x0_boards) (List.length x0_boards) false ∧ tm 1 = .lit (.int .i64 x1_owners) ∧ tm 7 = .sl (cellsL cGPriceBoard x0_boards) (List.length x0_boards) false ∧ tm 8 = .lit (.int .i64 (List.length x0_boards : Int)) ∧ tm 9 = .lit (.int .i64 c6_9) ∧ tm 16 = .lit (.bool false) ∧ tm 21 = .lit (.bool r31) ∧ True) (by refine ⟨e23, e24, e26, e27, e28, ?_, ?_, trivial⟩ <;> first | (simp only [ua, n13, d18, w19, e23, e24, e25, e26, e27, e28, e29, d30, nm, seval] <;> rfl) | rfl) ?_
  rintro tm ⟨e33, e34, e35, e36, e37, e38, e39, _⟩
  cases d40 : (r31)
  ·simp only [d40, hs] at h
   try simp only [vz, tyf, g7, n13, d18, (ix23 o20), w19, d30, e33, e34, e35, e36, e37, e38, e39, d40, nm, seval]
   replace h := kR6 _ h
   try dsimp only at h
   obtain rfl := kF _ h
   exact zai Tryz.results100 rfl
  simp only [d40, hs] at h
  simp only [vz, tyf, g7, n13, d18, (ix23 o20), w19, d30, e33, e34, e35, e36, e37, e38, e39, d40, nm, seval]
  exact ⟨List.length p6, Nat.lt_succ_self _, by rw [hI6]; refine ⟨p6, c6_9 + 1, rfl, Int.le_trans hi6 (Int.le_add_one (Int.le_refl _)), zax hi6 hp6, rfl, (show 4 ≤ nx6 + 18 by omega), e33, e34, e35, e36, ?_, (by first | exact h | (simp only [d18, d30, d40]; exact h))⟩ <;> first | (simp only [ua, n13, d18, w19, d30, e33, e34, e35, e36, e37, e38, e39, d40, nm, seval] <;> rfl) | rfl⟩
def zdz (x0_t : GPriceTariff) : Option (Bool) := cond (decide (1 ≤ x0_t.Kind)) (cond (decide (x0_t.Kind ≤ 4)) (cond (decide (1 ≤ x0_t.Rule)) (cond (decide (x0_t.Rule ≤ 4)) (Option.bind (zba 0 x0_t.Coins 500) (fun r1 => cond (r1) (Option.bind (zba 1 x0_t.Units 12) (fun r2 => some r2)) (some false))) (some false)) (some false)) (some false)) (some false)
theorem zjn (x0_t : GPriceTariff) (R : Bool) (h : zdz x0_t = some R) : VPure Tryz.prog G0 127 [.agg (cGPriceTariff x0_t)] (.tree (.lit (.bool R))) := by
 refine VPure.runR mixed Tryz.call127 Tryz.func127 rfl (by simp [Tryz.ntmps127]; kernel_rfl) ?_
 obtain ⟨KF, h, kF, kN⟩ := zaq h
 simp only [zdz] at h
 cases d3 : (decide (1 ≤ x0_t.Kind))
 ·simp only [d3, hs] at h
  try simp only [vz, tyf, d3, nm, seval]
  obtain rfl := kF _ h
  exact zai Tryz.results127 rfl
 simp only [d3, hs] at h
 cases d4 : (decide (x0_t.Kind ≤ 4))
 ·simp only [d4, hs] at h
  try simp only [vz, tyf, d3, d4, nm, seval]
  obtain rfl := kF _ h
  exact zai Tryz.results127 rfl
 simp only [d4, hs] at h
 cases d5 : (decide (1 ≤ x0_t.Rule))
 ·simp only [d5, hs] at h
  try simp only [vz, tyf, d3, d4, d5, nm, seval]
  obtain rfl := kF _ h
  exact zai Tryz.results127 rfl
 simp only [d5, hs] at h
 cases d6 : (decide (x0_t.Rule ≤ 4))
 ·simp only [d6, hs] at h
  try simp only [vz, tyf, d3, d4, d5, d6, nm, seval]
  obtain rfl := kF _ h
  exact zai Tryz.results127 rfl
 simp only [d6, hs] at h
 obtain ⟨r7, o8, h⟩ := optI h kN
 try simp only [hs] at h
 simp only [vz, tyf, d3, d4, d5, d6, nm, seval]
 refine ktA (zaz _ _ _ _ o8) ?_
 refine zar (fun tm => tm 1 = .ptr 0 0 ∧ tm 21 = .lit (.bool true) ∧ tm 24 = .lit (.bool r7) ∧ True) (by refine ⟨?_, ?_, ?_, trivial⟩ <;> first | (simp only [ua, d3, d4, d5, d6, nm, seval] <;> rfl) | rfl) ?_
 rintro tm ⟨e9, e10, e11, _⟩
 cases d12 : (r7)
 ·simp only [d12, hs] at h
  try simp only [vz, tyf, d3, d4, d5, d6, e9, e10, e11, d12, nm, seval]
  obtain rfl := kF _ h
  exact zai Tryz.results127 rfl
 simp only [d12, hs] at h
 obtain ⟨r13, o14, h⟩ := optI h kN
 try simp only [hs] at h
 simp only [vz, tyf, d3, d4, d5, d6, e9, e10, e11, d12, nm, seval]
 refine ktA (zaz _ _ _ _ o14) ?_
 refine zar (fun tm => tm 26 = .lit (.bool true) ∧ tm 29 = .lit (.bool r13) ∧ True) (by refine ⟨?_, ?_, trivial⟩ <;> first | (simp only [ua, d3, d4, d5, d6, e9, e10, e11, d12, nm, seval] <;> rfl) | rfl) ?_
 rintro tm ⟨e15, e16, _⟩
 try simp only [vz, tyf, d3, d4, d5, d6, d12, e15, e16, nm, seval]
 obtain rfl := kF _ h
 exact zai Tryz.results127 rfl
def zby  : List GPriceTariff → Int → Option (LOut (Bool) (Unit))
 | [], c0_7 => some (.go ())
 | e0 :: p0, c0_7 => Option.bind (zdz e0) (fun r1 => cond (r1) (zby p0 (c0_7 + 1)) (some (.ret false)))
def zec (x0_tariffs : List GPriceTariff) : Option (Bool) := cond (lenOk x0_tariffs) (lbind (zby x0_tariffs 0) (fun r4 => some r4) (fun c2 => Option.bind (zba 1 (List.length x0_tariffs : Int) 3) (fun r3 => some r3)) (fun _ _ => none)) none
theorem zim (x0_tariffs : List GPriceTariff) (R : Bool) (h : zec x0_tariffs = some R) : VPure Tryz.prog G0 101 [.sl (cellsL cGPriceTariff x0_tariffs) (List.length x0_tariffs) false] (.tree (.lit (.bool R))) := by
 refine VPure.runR mixed Tryz.call101 Tryz.func101 rfl (by simp [Tryz.ntmps101]; kernel_rfl) ?_
 obtain ⟨KF, h, kF, kN⟩ := zaq h
 simp only [zec] at h
 cases g6 : (lenOk x0_tariffs)
 ·simp only [g6, hs] at h
  exact absurd h kN
 simp only [g6, hs] at h
 simp only [vz, tyf, g6, nm, seval]
 obtain ⟨K5, h, kR5, kG5, kB5, kN5⟩ := zbf h kN
 obtain ⟨f5, hf5, h⟩ := call2 h
 obtain ⟨I5, hI5⟩ : ∃ I : Nat → St → Prop, I = (fun m st => ∃ (p5 : List GPriceTariff) (c5_7 : Int), m = List.length p5 ∧ 0 ≤ c5_7 ∧ List.drop (Int.toNat c5_7) x0_tariffs = p5 ∧ st.df = [] ∧ 4 ≤ st.nx ∧ st.tm 0 = .sl (cellsL cGPriceTariff x0_tariffs) (List.length x0_tariffs) false ∧ st.tm 5 = .sl (cellsL cGPriceTariff x0_tariffs) (List.length x0_tariffs) false ∧ st.tm 6 = .lit (.int .i64 (List.length x0_tariffs : Int)) ∧ st.tm 7 = .lit (.int .i64 c5_7) ∧ K5 (f5 p5 c5_7)) := ⟨_, rfl⟩
 refine loopK mixed (by kernel_rfl) I5 (List.length x0_tariffs) (by rw [hI5]; refine ⟨x0_tariffs, 0, rfl, Int.le_refl _, rfl, rfl, (show 4 ≤ 4 by omega), ?_, ?_, ?_, ?_, h⟩ <;> first | (simp only [ua, nm, seval] <;> rfl) | rfl) ?_
 rintro m ⟨tm, H, nx5, df⟩ hinv
 rw [hI5] at hinv
 obtain ⟨p5, c5_7, rfl, hi5, hp5, hdf, hn5, e7, e8, e9, e10, h⟩ := hinv
 simp only at hdf hn5 e7 e8 e9 e10
 have n11 := zda (m := 4) (b := nx5) (by omega)
 subst hdf hf5
 cases p5 with
 | nil =>
  have d12 : (decide (c5_7 < (List.length x0_tariffs : Int))) = false := zaj hi5 hp5
  simp only [zby, hs, reduceCtorEq] at h
  replace h := kG5 _ h
  try dsimp only at h
  try simp only [hs] at h
  obtain ⟨r13, o14, h⟩ := optI h kN
  try simp only [hs] at h
  simp only [vz, tyf, g6, n11, e7, e8, e9, e10, d12, nm, seval]
  refine ktA (zaz _ _ _ _ o14) ?_
  refine zar (fun tm => tm 17 = .lit (.bool r13) ∧ True) (by refine ⟨?_, trivial⟩ <;> first | (simp only [ua, n11, e7, e8, e9, e10, d12, nm, seval] <;> rfl) | rfl) ?_
  rintro tm ⟨e15, _⟩
  try simp only [vz, tyf, g6, n11, d12, e15, nm, seval]
  obtain rfl := kF _ h
  exact zai Tryz.results101 rfl
 | cons e5 p5 =>
  have d16 : (decide (c5_7 < (List.length x0_tariffs : Int))) = true := zaw hi5 hp5
  have o18 := zak hi5 hp5
  have w17 := zbj hi5 hp5 g6
  simp only [zby, hs, reduceCtorEq] at h
  obtain ⟨r19, o20, h⟩ := optI h kN5
  try simp only [hs] at h
  simp only [vz, tyf, g6, n11, e7, e8, e9, e10, d16, (ix24 o18), w17, nm, seval]
  refine ktA (zjn _ _ o20) ?_
  refine zar (fun tm => tm 0 = .sl (cellsL cGPriceTariff x0_tariffs) (List.length x0_tariffs) false ∧ tm 5 = .sl (cellsL cGPriceTariff x0_tariffs) (List.length x0_tariffs) false ∧ tm 6 = .lit (.int .i64 (List.length x0_tariffs : Int)) ∧ tm 7 = .lit (.int .i64 c5_7) ∧ tm 12 = .lit (.bool r19) ∧ True) (by refine ⟨e7, e8, e9, e10, ?_, trivial⟩ <;> first | (simp only [ua, n11, e7, e8, e9, e10, d16, w17, nm, seval] <;> rfl) | rfl) ?_
  rintro tm ⟨e21, e22, e23, e24, e25, _⟩
  cases d26 : (r19)
  ·simp only [d26, hs] at h
   try simp only [vz, tyf, g6, n11, d16, (ix24 o18), w17, e21, e22, e23, e24, e25, d26, nm, seval]
   replace h := kR5 _ h
   try dsimp only at h
   obtain rfl := kF _ h
   exact zai Tryz.results101 rfl
  simp only [d26, hs] at h
  simp only [vz, tyf, g6, n11, d16, (ix24 o18), w17, e21, e22, e23, e24, e25, d26, nm, seval]
  exact ⟨List.length p5, Nat.lt_succ_self _, by rw [hI5]; refine ⟨p5, c5_7 + 1, rfl, Int.le_trans hi5 (Int.le_add_one (Int.le_refl _)), zax hi5 hp5, rfl, (show 4 ≤ nx5 + 10 by omega), e21, e22, e23, ?_, (by first | exact h | (simp only [d16, d26]; exact h))⟩ <;> first | (simp only [ua, n11, d16, w17, e21, e22, e23, e24, e25, d26, nm, seval] <;> rfl) | rfl⟩
def zcq (x0_s : GPriceSheet) : Option (Bool) := Option.bind (zba 1 (List.length x0_s.Offs : Int) 3) (fun r1 => cond (r1) (Option.bind (zeu 0 x0_s.Offs 100) (fun r2 => cond (r2) (Option.bind (zek x0_s.Boards (List.length x0_s.Offs : Int)) (fun r3 => cond (r3) (Option.bind (zec x0_s.Tariffs) (fun r4 => some r4)) (some false))) (some false))) (some false))
theorem zff (x0_s : GPriceSheet) (R : Bool) (h : zcq x0_s = some R) : VPure Tryz.prog G0 63 [.agg (cGPriceSheet x0_s)] (.tree (.lit (.bool R))) := by
 refine VPure.runR mixed Tryz.call63 Tryz.func63 rfl (by simp [Tryz.ntmps63]; kernel_rfl) ?_
 obtain ⟨KF, h, kF, kN⟩ := zaq h
 simp only [zcq] at h
 obtain ⟨r5, o6, h⟩ := optI h kN
 try simp only [hs] at h
 simp only [vz, tyf, nm, seval]
 refine ktA (zaz _ _ _ _ o6) ?_
 refine zar (fun tm => tm 1 = .ptr 0 0 ∧ tm 6 = .lit (.bool r5) ∧ True) (by refine ⟨?_, ?_, trivial⟩ <;> first | (simp only [ua, nm, seval] <;> rfl) | rfl) ?_
 rintro tm ⟨e7, e8, _⟩
 cases d9 : (r5)
 ·simp only [d9, hs] at h
  try simp only [vz, tyf, e7, e8, d9, nm, seval]
  obtain rfl := kF _ h
  exact zai Tryz.results63 rfl
 simp only [d9, hs] at h
 obtain ⟨r10, o11, h⟩ := optI h kN
 try simp only [hs] at h
 simp only [vz, tyf, e7, e8, d9, nm, seval]
 refine ktA (zjf _ _ _ _ o11) ?_
 refine zar (fun tm => tm 1 = .ptr 0 0 ∧ tm 7 = .lit (.bool true) ∧ tm 10 = .lit (.bool r10) ∧ True) (by refine ⟨e7, ?_, ?_, trivial⟩ <;> first | (simp only [ua, e7, e8, d9, nm, seval] <;> rfl) | rfl) ?_
 rintro tm ⟨e12, e13, e14, _⟩
 cases d15 : (r10)
 ·simp only [d15, hs] at h
  try simp only [vz, tyf, d9, e12, e13, e14, d15, nm, seval]
  obtain rfl := kF _ h
  exact zai Tryz.results63 rfl
 simp only [d15, hs] at h
 obtain ⟨r16, o17, h⟩ := optI h kN
 try simp only [hs] at h
 simp only [vz, tyf, d9, e12, e13, e14, d15, nm, seval]
 refine ktA (ziw _ _ _ o17) ?_
 refine zar (fun tm => tm 1 = .ptr 0 0 ∧ tm 12 = .lit (.bool true) ∧ tm 18 = .lit (.bool r16) ∧ True) (by refine ⟨e12, ?_, ?_, trivial⟩ <;> first | (simp only [ua, d9, e12, e13, e14, d15, nm, seval] <;> rfl) | rfl) ?_
 rintro tm ⟨e18, e19, e20, _⟩
 cases d21 : (r16)
 ·simp only [d21, hs] at h
  try simp only [vz, tyf, d9, d15, e18, e19, e20, d21, nm, seval]
  obtain rfl := kF _ h
  exact zai Tryz.results63 rfl
 simp only [d21, hs] at h
 obtain ⟨r22, o23, h⟩ := optI h kN
 try simp only [hs] at h
 simp only [vz, tyf, d9, d15, e18, e19, e20, d21, nm, seval]
 refine ktA (zim _ _ o23) ?_
 refine zar (fun tm => tm 20 = .lit (.bool true) ∧ tm 23 = .lit (.bool r22) ∧ True) (by refine ⟨?_, ?_, trivial⟩ <;> first | (simp only [ua, d9, d15, e18, e19, e20, d21, nm, seval] <;> rfl) | rfl) ?_
 rintro tm ⟨e24, e25, _⟩
 try simp only [vz, tyf, d9, d15, d21, e24, e25, nm, seval]
 obtain rfl := kF _ h
 exact zai Tryz.results63 rfl
def zck (x0_s : GPriceSheet) (x1_tariff : Int) : Option (Bool) := Option.bind (zba 0 x1_tariff (IntKind.i64.wrap ((List.length x0_s.Tariffs : Int) - 1))) (fun r1 => some r1)
theorem zfs (x0_s : GPriceSheet) (x1_tariff : Int) (R : Bool) (h : zck x0_s x1_tariff = some R) : VPure Tryz.prog G0 64 [.agg (cGPriceSheet x0_s), .lit (.int .i64 x1_tariff)] (.tree (.lit (.bool R))) := by
 refine VPure.runR mixed Tryz.call64 Tryz.func64 rfl (by simp [Tryz.ntmps64]; kernel_rfl) ?_
 obtain ⟨KF, h, kF, kN⟩ := zaq h
 simp only [zck] at h
 obtain ⟨r2, o3, h⟩ := optI h kN
 try simp only [hs] at h
 simp only [vz, tyf, nm, seval]
 refine ktA (zaz _ _ _ _ o3) ?_
 refine zar (fun tm => tm 10 = .lit (.bool r2) ∧ True) (by refine ⟨?_, trivial⟩ <;> first | (simp only [ua, nm, seval] <;> rfl) | rfl) ?_
 rintro tm ⟨e4, _⟩
 try simp only [vz, tyf, e4, nm, seval]
 obtain rfl := kF _ h
 exact zai Tryz.results64 rfl

def zet (x0_b : GPriceBoard) (x1_number : Int) : Option (Bool) := Option.bind (zba x0_b.Hours.Low x1_number x0_b.Hours.High) (fun r1 => some r1)
theorem zjv (x0_b : GPriceBoard) (x1_number : Int) (R : Bool) (h : zet x0_b x1_number = some R) : VPure Tryz.prog G0 105 [.agg (cGPriceBoard x0_b), .lit (.int .i64 x1_number)] (.tree (.lit (.bool R))) := by
 refine VPure.runR mixed Tryz.call105 Tryz.func105 rfl (by simp [Tryz.ntmps105]; kernel_rfl) ?_
 obtain ⟨KF, h, kF, kN⟩ := zaq h
 simp only [zet] at h
 obtain ⟨r2, o3, h⟩ := optI h kN
 try simp only [hs] at h
 simp only [vz, tyf, nm, seval]
 refine ktA (zaz _ _ _ _ o3) ?_
 refine zar (fun tm => tm 12 = .lit (.bool r2) ∧ True) (by refine ⟨?_, trivial⟩ <;> first | (simp only [ua, nm, seval] <;> rfl) | rfl) ?_
 rintro tm ⟨e4, _⟩
 try simp only [vz, tyf, e4, nm, seval]
 obtain rfl := kF _ h
 exact zai Tryz.results105 rfl
def zbz (x0_s : GPriceSheet) : List Int → Int → Option (LOut (Bool) (Unit))
 | [], c0_15 => some (.go ())
 | e0 :: p0, c0_15 => Option.bind (getI x0_s.Boards c0_15) (fun x1 => Option.bind (zet x1 e0) (fun r2 => cond (r2) (zbz x0_s p0 (c0_15 + 1)) (some (.ret false))))
def zcy (x0_s : GPriceSheet) (x1_hours : List Int) : Option (Bool) := cond ((List.length x1_hours : Int) != (List.length x0_s.Boards : Int)) (some false) (cond (lenOk x1_hours) (lbind (zbz x0_s x1_hours 0) (fun r4 => some r4) (fun c3 => some true) (fun _ _ => none)) none)
theorem zio (x0_s : GPriceSheet) (x1_hours : List Int) (R : Bool) (h : zcy x0_s x1_hours = some R) : VPure Tryz.prog G0 69 [.agg (cGPriceSheet x0_s), .sl (cellsL eI x1_hours) (List.length x1_hours) false] (.tree (.lit (.bool R))) := by
 refine VPure.runR mixed Tryz.call69 Tryz.func69 rfl (by simp [Tryz.ntmps69]; kernel_rfl) ?_
 obtain ⟨KF, h, kF, kN⟩ := zaq h
 simp only [zcy] at h
 cases d5 : ((List.length x1_hours : Int) != (List.length x0_s.Boards : Int))
 ·simp only [d5, hs] at h
  cases g7 : (lenOk x1_hours)
  ·simp only [g7, hs] at h
   exact absurd h kN
  simp only [g7, hs] at h
  simp only [vz, tyf, d5, g7, nm, seval]
  obtain ⟨K6, h, kR6, kG6, kB6, kN6⟩ := zbf h kN
  obtain ⟨f6, hf6, h⟩ := call2 h
  obtain ⟨I6, hI6⟩ : ∃ I : Nat → St → Prop, I = (fun m st => ∃ (p6 : List Int) (c6_15 : Int), m = List.length p6 ∧ 0 ≤ c6_15 ∧ List.drop (Int.toNat c6_15) x1_hours = p6 ∧ st.df = [] ∧ 11 ≤ st.nx ∧ st.H 0 = some (.cells (some 26) (cGPriceSheet x0_s)) ∧ st.tm 2 = .ptr 0 0 ∧ st.tm 13 = .sl (cellsL eI x1_hours) (List.length x1_hours) false ∧ st.tm 14 = .lit (.int .i64 (List.length x1_hours : Int)) ∧ st.tm 15 = .lit (.int .i64 c6_15) ∧ K6 (f6 p6 c6_15)) := ⟨_, rfl⟩
  refine loopK mixed (by kernel_rfl) I6 (List.length x1_hours) (by rw [hI6]; refine ⟨x1_hours, 0, rfl, Int.le_refl _, rfl, rfl, (show 11 ≤ 11 by omega), ?_, ?_, ?_, ?_, ?_, h⟩ <;> first | (simp only [ua, d5, nm, seval] <;> rfl) | rfl) ?_
  rintro m ⟨tm, H, nx6, df⟩ hinv
  rw [hI6] at hinv
  obtain ⟨p6, c6_15, rfl, hi6, hp6, hdf, hn6, H8, e9, e10, e11, e12, h⟩ := hinv
  simp only at hdf hn6 H8 e9 e10 e11 e12
  have n13 := zda (m := 11) (b := nx6) (by omega)
  subst hdf hf6
  cases p6 with
  | nil =>
   have d14 : (decide (c6_15 < (List.length x1_hours : Int))) = false := zaj hi6 hp6
   simp only [zbz, hs, reduceCtorEq] at h
   replace h := kG6 _ h
   try dsimp only at h
   try simp only [hs] at h
   try simp only [vz, tyf, d5, g7, n13, e9, e10, e11, e12, H8, d14, nm, seval]
   obtain rfl := kF _ h
   exact zai Tryz.results69 rfl
  | cons e6 p6 =>
   have d15 : (decide (c6_15 < (List.length x1_hours : Int))) = true := zaw hi6 hp6
   have o17 := zak hi6 hp6
   have w16 := zbj hi6 hp6 g7
   simp only [zbz, hs, reduceCtorEq] at h
   obtain ⟨x18, o19, h⟩ := optI h kN6
   try simp only [hs] at h
   obtain ⟨r20, o21, h⟩ := optI h kN6
   try simp only [hs] at h
   simp only [vz, tyf, d5, g7, n13, e9, e10, e11, e12, H8, d15, (ix22 o17), w16, (ix23 o19), nm, seval]
   refine ktA (zjv _ _ _ o21) ?_
   refine zar (fun tm => tm 2 = .ptr 0 0 ∧ tm 13 = .sl (cellsL eI x1_hours) (List.length x1_hours) false ∧ tm 14 = .lit (.int .i64 (List.length x1_hours : Int)) ∧ tm 15 = .lit (.int .i64 c6_15) ∧ tm 26 = .lit (.bool r20) ∧ True) (by refine ⟨e9, e10, e11, e12, ?_, trivial⟩ <;> first | (simp only [ua, d5, n13, e9, e10, e11, e12, H8, d15, w16, nm, seval] <;> rfl) | rfl) ?_
   rintro tm ⟨e22, e23, e24, e25, e26, _⟩
   cases d27 : (r20)
   ·simp only [d27, hs] at h
    have b28 := And.intro d5 (And.intro g7 (And.intro n13 (And.intro H8 (And.intro d15 (And.intro w16 d27)))))
    try simp only [vz, tyf, b28, (ix22 o17), (ix23 o19), e22, e23, e24, e25, e26, nm, seval]
    replace h := kR6 _ h
    try dsimp only at h
    obtain rfl := kF _ h
    exact zai Tryz.results69 rfl
   simp only [d27, hs] at h
   have b29 := And.intro d5 (And.intro g7 (And.intro n13 (And.intro H8 (And.intro d15 (And.intro w16 d27)))))
   simp only [vz, tyf, b29, (ix22 o17), (ix23 o19), e22, e23, e24, e25, e26, nm, seval]
   exact ⟨List.length p6, Nat.lt_succ_self _, by rw [hI6]; refine ⟨p6, c6_15 + 1, rfl, Int.le_trans hi6 (Int.le_add_one (Int.le_refl _)), zax hi6 hp6, rfl, (show 11 ≤ nx6 + 16 by omega), ?_, e22, e23, e24, ?_, (by first | exact h | (simp only [b29]; exact h))⟩ <;> first | (simp only [ua, b29, e22, e23, e24, e25, e26, nm, seval] <;> rfl) | rfl⟩
 simp only [d5, hs] at h
 try simp only [vz, tyf, d5, nm, seval]
 obtain rfl := kF _ h
 exact zai Tryz.results69 rfl
def zci (x0_n : Int) (x1_low : Int) (x2_high : Int) : Option (Bool) := cond (decide (x0_n ≥ x1_low)) (some (decide (x0_n ≤ x2_high))) (some false)
theorem zbs (x0_n : Int) (x1_low : Int) (x2_high : Int) (R : Bool) (h : zci x0_n x1_low x2_high = some R) : VPure Tryz.prog G0 70 [.lit (.int .i64 x0_n), .lit (.int .i64 x1_low), .lit (.int .i64 x2_high)] (.tree (.lit (.bool R))) := by
 refine VPure.runR mixed Tryz.call70 Tryz.func70 rfl (by simp [Tryz.ntmps70]; kernel_rfl) ?_
 obtain ⟨KF, h, kF, kN⟩ := zaq h
 simp only [zci] at h
 cases d1 : (decide (x0_n ≥ x1_low))
 ·simp only [d1, hs] at h
  try simp only [vz, tyf, d1, nm, seval]
  obtain rfl := kF _ h
  exact zai Tryz.results70 rfl
 simp only [d1, hs] at h
 try simp only [vz, tyf, d1, nm, seval]
 obtain rfl := kF _ h
 exact zai Tryz.results70 rfl
def zgk (x0_t : GPriceTariff) : Option (Bool) := cond (decide (x0_t.Kind ≥ 1)) (cond (decide (x0_t.Kind ≤ 4)) (Option.bind (zci x0_t.Coins 0 500) (fun r1 => cond (r1) (Option.bind (zci x0_t.Units 1 12) (fun r2 => cond (r2) (cond (decide (x0_t.Rule ≥ 1)) (some (decide (x0_t.Rule ≤ 4))) (some false)) (some false))) (some false))) (some false)) (some false)
theorem znr (x0_t : GPriceTariff) (R : Bool) (h : zgk x0_t = some R) : VPure Tryz.prog G0 71 [.agg (cGPriceTariff x0_t)] (.tree (.lit (.bool R))) := by
 refine VPure.runR mixed Tryz.call71 Tryz.func71 rfl (by simp [Tryz.ntmps71]; kernel_rfl) ?_
 obtain ⟨KF, h, kF, kN⟩ := zaq h
 simp only [zgk] at h
 cases d3 : (decide (x0_t.Kind ≥ 1))
 ·simp only [d3, hs] at h
  try simp only [vz, tyf, d3, nm, seval]
  obtain rfl := kF _ h
  exact zai Tryz.results71 rfl
 simp only [d3, hs] at h
 cases d4 : (decide (x0_t.Kind ≤ 4))
 ·simp only [d4, hs] at h
  try simp only [vz, tyf, d3, d4, nm, seval]
  obtain rfl := kF _ h
  exact zai Tryz.results71 rfl
 simp only [d4, hs] at h
 obtain ⟨r5, o6, h⟩ := optI h kN
 try simp only [hs] at h
 simp only [vz, tyf, d3, d4, nm, seval]
 refine ktA (zbs _ _ _ _ o6) ?_
 refine zar (fun tm => tm 1 = .ptr 0 0 ∧ tm 11 = .lit (.bool true) ∧ tm 14 = .lit (.bool r5) ∧ True) (by refine ⟨?_, ?_, ?_, trivial⟩ <;> first | (simp only [ua, d3, d4, nm, seval] <;> rfl) | rfl) ?_
 rintro tm ⟨e7, e8, e9, _⟩
 cases d10 : (r5)
 ·simp only [d10, hs] at h
  try simp only [vz, tyf, d3, d4, e7, e8, e9, d10, nm, seval]
  obtain rfl := kF _ h
  exact zai Tryz.results71 rfl
 simp only [d10, hs] at h
 obtain ⟨r11, o12, h⟩ := optI h kN
 try simp only [hs] at h
 simp only [vz, tyf, d3, d4, e7, e8, e9, d10, nm, seval]
 refine ktA (zbs _ _ _ _ o12) ?_
 refine zar (fun tm => tm 1 = .ptr 0 0 ∧ tm 16 = .lit (.bool true) ∧ tm 19 = .lit (.bool r11) ∧ True) (by refine ⟨e7, ?_, ?_, trivial⟩ <;> first | (simp only [ua, d3, d4, e7, e8, e9, d10, nm, seval] <;> rfl) | rfl) ?_
 rintro tm ⟨e13, e14, e15, _⟩
 cases d16 : (r11)
 ·simp only [d16, hs] at h
  try simp only [vz, tyf, d3, d4, d10, e13, e14, e15, d16, nm, seval]
  obtain rfl := kF _ h
  exact zai Tryz.results71 rfl
 simp only [d16, hs] at h
 cases d17 : (decide (x0_t.Rule ≥ 1))
 ·simp only [d17, hs] at h
  try simp only [vz, tyf, d3, d4, d10, e13, e14, e15, d16, d17, nm, seval]
  obtain rfl := kF _ h
  exact zai Tryz.results71 rfl
 simp only [d17, hs] at h
 try simp only [vz, tyf, d3, d4, d10, e13, e14, e15, d16, d17, nm, seval]
 obtain rfl := kF _ h
 exact zai Tryz.results71 rfl
def zct  : List GPriceTariff → Int → Option (LOut (Bool) (Unit))
 | [], c2_6 => some (.go ())
 | e2 :: p2, c2_6 => Option.bind (zgk e2) (fun r12 => cond (r12) (zct p2 (c2_6 + 1)) (some (.ret false)))
def zcv (x0_s : GPriceSheet) : List GPriceBoard → Int → Option (LOut (Bool) (Unit))
 | [], c1_4 => some (.go ())
 | e1 :: p1, c1_4 => Option.bind (zci e1.Letters 0 60) (fun r6 => cond (r6) (Option.bind (zci e1.Feet 0 40) (fun r7 => cond (r7) (Option.bind (zci e1.Hours.Low 0 40) (fun r8 => cond (r8) (Option.bind (zci e1.Hours.High e1.Hours.Low (if (IntKind.i64.wrap (e1.Hours.Low + 6)) < 40 then (IntKind.i64.wrap (e1.Hours.Low + 6)) else 40)) (fun r9 => cond (r9) (Option.bind (zci e1.Owner 0 (IntKind.i64.wrap ((List.length x0_s.Offs : Int) - 1))) (fun r10 => cond (r10) (zcv x0_s p1 (c1_4 + 1)) (some (.ret false)))) (some (.ret false)))) (some (.ret false)))) (some (.ret false)))) (some (.ret false)))
def zcz  : List Int → Int → Option (LOut (Bool) (Unit))
 | [], c0_3 => some (.go ())
 | e0 :: p0, c0_3 => Option.bind (zci e0 0 100) (fun r4 => cond (r4) (zcz p0 (c0_3 + 1)) (some (.ret false)))
def zfp (x0_s : GPriceSheet) : Option (Bool) := Option.bind (zci (List.length x0_s.Offs : Int) 1 3) (fun r1 => cond (r1) (Option.bind (zci (List.length x0_s.Boards : Int) 1 4) (fun r2 => cond (r2) (Option.bind (zci (List.length x0_s.Tariffs : Int) 1 3) (fun r3 => cond (r3) (cond (lenOk x0_s.Offs) (lbind (zcz x0_s.Offs 0) (fun r16 => some r16) (fun c5 => cond (lenOk x0_s.Boards) (lbind (zcv x0_s x0_s.Boards 0) (fun r15 => some r15) (fun c11 => cond (lenOk x0_s.Tariffs) (lbind (zct x0_s.Tariffs 0) (fun r14 => some r14) (fun c13 => some true) (fun _ _ => none)) none) (fun _ _ => none)) none) (fun _ _ => none)) none) (some false))) (some false))) (some false))
theorem zme (x0_s : GPriceSheet) (R : Bool) (h : zfp x0_s = some R) : VPure Tryz.prog G0 25 [.agg (cGPriceSheet x0_s)] (.tree (.lit (.bool R))) := by
 refine VPure.runR mixed Tryz.call25 Tryz.func25 rfl (by simp [Tryz.ntmps25]; kernel_rfl) ?_
 obtain ⟨KF, h, kF, kN⟩ := zaq h
 simp only [zfp] at h
 obtain ⟨r17, o18, h⟩ := optI h kN
 try simp only [hs] at h
 simp only [vz, tyf, nm, seval]
 refine ktA (zbs _ _ _ _ o18) ?_
 refine zar (fun tm => tm 1 = .ptr 0 0 ∧ tm 10 = .lit (.bool r17) ∧ True) (by refine ⟨?_, ?_, trivial⟩ <;> first | (simp only [ua, nm, seval] <;> rfl) | rfl) ?_
 rintro tm ⟨e19, e20, _⟩
 cases d21 : (r17)
 ·simp only [d21, hs] at h
  try simp only [vz, tyf, e19, e20, d21, nm, seval]
  obtain rfl := kF _ h
  exact zai Tryz.results25 rfl
 simp only [d21, hs] at h
 obtain ⟨r22, o23, h⟩ := optI h kN
 try simp only [hs] at h
 simp only [vz, tyf, e19, e20, d21, nm, seval]
 refine ktA (zbs _ _ _ _ o23) ?_
 refine zar (fun tm => tm 1 = .ptr 0 0 ∧ tm 12 = .lit (.bool false) ∧ tm 16 = .lit (.bool r22) ∧ True) (by refine ⟨e19, ?_, ?_, trivial⟩ <;> first | (simp only [ua, e19, e20, d21, nm, seval] <;> rfl) | rfl) ?_
 rintro tm ⟨e24, e25, e26, _⟩
 cases d27 : (r22)
 ·simp only [d27, hs] at h
  try simp only [vz, tyf, d21, e24, e25, e26, d27, nm, seval]
  obtain rfl := kF _ h
  exact zai Tryz.results25 rfl
 simp only [d27, hs] at h
 obtain ⟨r28, o29, h⟩ := optI h kN
 try simp only [hs] at h
 simp only [vz, tyf, d21, e24, e25, e26, d27, nm, seval]
 refine ktA (zbs _ _ _ _ o29) ?_
 refine zar (fun tm => tm 1 = .ptr 0 0 ∧ tm 19 = .lit (.bool false) ∧ tm 23 = .lit (.bool r28) ∧ True) (by refine ⟨e24, ?_, ?_, trivial⟩ <;> first | (simp only [ua, d21, e24, e25, e26, d27, nm, seval] <;> rfl) | rfl) ?_
 rintro tm ⟨e30, e31, e32, _⟩
 cases d33 : (r28)
 ·simp only [d33, hs] at h
  try simp only [vz, tyf, d21, d27, e30, e31, e32, d33, nm, seval]
  obtain rfl := kF _ h
  exact zai Tryz.results25 rfl
 simp only [d33, hs] at h
 cases g35 : (lenOk x0_s.Offs)
 ·simp only [g35, hs] at h
  exact absurd h kN
 simp only [g35, hs] at h
 simp only [vz, tyf, d21, d27, e30, e31, e32, d33, g35, nm, seval]
 obtain ⟨K34, h, kR34, kG34, kB34, kN34⟩ := zbf h kN
 obtain ⟨f34, hf34, h⟩ := call2 h
 obtain ⟨I34, hI34⟩ : ∃ I : Nat → St → Prop, I = (fun m st => ∃ (p34 : List Int) (c34_3 : Int), m = List.length p34 ∧ 0 ≤ c34_3 ∧ List.drop (Int.toNat c34_3) x0_s.Offs = p34 ∧ st.df = [] ∧ 22 ≤ st.nx ∧ st.H 0 = some (.cells (some 26) (cGPriceSheet x0_s)) ∧ st.tm 1 = .ptr 0 0 ∧ st.tm 3 = .lit (.int .i64 c34_3) ∧ K34 (f34 p34 c34_3)) := ⟨_, rfl⟩
 refine loopK mixed (by kernel_rfl) I34 (List.length x0_s.Offs) (by rw [hI34]; refine ⟨x0_s.Offs, 0, rfl, Int.le_refl _, rfl, rfl, (show 22 ≤ 22 by omega), ?_, e30, ?_, h⟩ <;> first | (simp only [ua, d21, d27, e30, e31, e32, d33, nm, seval] <;> rfl) | rfl) ?_
 rintro m ⟨tm, H, nx34, df⟩ hinv
 rw [hI34] at hinv
 obtain ⟨p34, c34_3, rfl, hi34, hp34, hdf, hn34, H36, e37, e38, h⟩ := hinv
 simp only at hdf hn34 H36 e37 e38
 have n39 := zda (m := 22) (b := nx34) (by omega)
 subst hdf hf34
 cases p34 with
 | nil =>
  have d40 : (decide (c34_3 < (List.length x0_s.Offs : Int))) = false := zaj hi34 hp34
  simp only [zcz, hs, reduceCtorEq] at h
  replace h := kG34 _ h
  try dsimp only at h
  try simp only [hs] at h
  cases g42 : (lenOk x0_s.Boards)
  ·simp only [g42, hs] at h
   exact absurd h kN
  simp only [g42, hs] at h
  simp only [vz, tyf, d21, d27, d33, g35, n39, e37, e38, H36, d40, g42, nm, seval]
  obtain ⟨K41, h, kR41, kG41, kB41, kN41⟩ := zbf h kN
  obtain ⟨f41, hf41, h⟩ := call2 h
  obtain ⟨I41, hI41⟩ : ∃ I : Nat → St → Prop, I = (fun m st => ∃ (p41 : List GPriceBoard) (c41_4 : Int), m = List.length p41 ∧ 0 ≤ c41_4 ∧ List.drop (Int.toNat c41_4) x0_s.Boards = p41 ∧ st.df = [] ∧ nx34 + 6 ≤ st.nx ∧ st.H 0 = some (.cells (some 26) (cGPriceSheet x0_s)) ∧ st.tm 1 = .ptr 0 0 ∧ st.tm 4 = .lit (.int .i64 c41_4) ∧ K41 (f41 p41 c41_4)) := ⟨_, rfl⟩
  refine loopK mixed (by kernel_rfl) I41 (List.length x0_s.Boards) (by rw [hI41]; refine ⟨x0_s.Boards, 0, rfl, Int.le_refl _, rfl, rfl, (show nx34 + 6 ≤ nx34 + 6 by omega), ?_, e37, ?_, h⟩ <;> first | (simp only [ua, d21, d27, d33, n39, e37, e38, H36, d40, nm, seval] <;> rfl) | rfl) ?_
  rintro m ⟨tm, H, nx41, df⟩ hinv
  rw [hI41] at hinv
  obtain ⟨p41, c41_4, rfl, hi41, hp41, hdf, hn41, H43, e44, e45, h⟩ := hinv
  simp only at hdf hn41 H43 e44 e45
  have n46 := zda (m := 22) (b := nx41) (by omega)
  have n47 := zit (a := nx34) (m := 6) (b := nx41) (by omega)
  subst hdf hf41
  cases p41 with
  | nil =>
   have d48 : (decide (c41_4 < (List.length x0_s.Boards : Int))) = false := zaj hi41 hp41
   simp only [zcv, hs, reduceCtorEq] at h
   replace h := kG41 _ h
   try dsimp only at h
   try simp only [hs] at h
   cases g50 : (lenOk x0_s.Tariffs)
   ·simp only [g50, hs] at h
    exact absurd h kN
   simp only [g50, hs] at h
   simp only [vz, tyf, d21, d27, d33, g35, n39, d40, g42, n46, n47, e44, e45, H43, d48, g50, nm, seval]
   obtain ⟨K49, h, kR49, kG49, kB49, kN49⟩ := zbf h kN
   obtain ⟨f49, hf49, h⟩ := call2 h
   obtain ⟨I49, hI49⟩ : ∃ I : Nat → St → Prop, I = (fun m st => ∃ (p49 : List GPriceTariff) (c49_6 : Int), m = List.length p49 ∧ 0 ≤ c49_6 ∧ List.drop (Int.toNat c49_6) x0_s.Tariffs = p49 ∧ st.df = [] ∧ nx41 + 6 ≤ st.nx ∧ st.H 0 = some (.cells (some 26) (cGPriceSheet x0_s)) ∧ st.tm 1 = .ptr 0 0 ∧ st.tm 6 = .lit (.int .i64 c49_6) ∧ K49 (f49 p49 c49_6)) := ⟨_, rfl⟩
   refine loopK mixed (by kernel_rfl) I49 (List.length x0_s.Tariffs) (by rw [hI49]; refine ⟨x0_s.Tariffs, 0, rfl, Int.le_refl _, rfl, rfl, (show nx41 + 6 ≤ nx41 + 6 by omega), ?_, e44, ?_, h⟩ <;> first | (simp only [ua, d21, d27, d33, n39, d40, n46, n47, e44, e45, H43, d48, nm, seval] <;> rfl) | rfl) ?_
   rintro m ⟨tm, H, nx49, df⟩ hinv
   rw [hI49] at hinv
   obtain ⟨p49, c49_6, rfl, hi49, hp49, hdf, hn49, H51, e52, e53, h⟩ := hinv
   simp only at hdf hn49 H51 e52 e53
   have n54 := zda (m := 22) (b := nx49) (by omega)
   have n55 := zit (a := nx34) (m := 6) (b := nx49) (by omega)
   have n56 := zit (a := nx41) (m := 6) (b := nx49) (by omega)
   subst hdf hf49
   cases p49 with
   | nil =>
    have d57 : (decide (c49_6 < (List.length x0_s.Tariffs : Int))) = false := zaj hi49 hp49
    simp only [zct, hs, reduceCtorEq] at h
    replace h := kG49 _ h
    try dsimp only at h
    try simp only [hs] at h
    try simp only [vz, tyf, d21, d27, d33, g35, n39, d40, g42, n46, n47, d48, g50, n54, n55, n56, e52, e53, H51, d57, nm, seval]
    obtain rfl := kF _ h
    exact zai Tryz.results25 rfl
   | cons e49 p49 =>
    have d58 : (decide (c49_6 < (List.length x0_s.Tariffs : Int))) = true := zaw hi49 hp49
    have o60 := zak hi49 hp49
    have w59 := zbj hi49 hp49 g50
    simp only [zct, hs, reduceCtorEq] at h
    obtain ⟨r61, o62, h⟩ := optI h kN49
    try simp only [hs] at h
    simp only [vz, tyf, d21, d27, d33, g35, n39, d40, g42, n46, n47, d48, g50, n54, n55, n56, e52, e53, H51, d58, (ix24 o60), w59, nm, seval]
    refine ktA (znr _ _ o62) ?_
    refine zar (fun tm => tm 1 = .ptr 0 0 ∧ tm 6 = .lit (.int .i64 c49_6) ∧ tm 106 = .lit (.bool r61) ∧ True) (by refine ⟨e52, e53, ?_, trivial⟩ <;> first | (simp only [ua, d21, d27, d33, n39, d40, n46, n47, d48, n54, n55, n56, e52, e53, H51, d58, w59, nm, seval] <;> rfl) | rfl) ?_
    rintro tm ⟨e63, e64, e65, _⟩
    have b66 := And.intro d21 (And.intro d27 (And.intro d33 (And.intro g35 (And.intro n39 (And.intro d40 (And.intro g42 (And.intro n46 (And.intro n47 (And.intro d48 (And.intro g50 (And.intro n54 (And.intro n55 (And.intro n56 (And.intro H51 (And.intro d58 w59)))))))))))))))
    cases d67 : (r61)
    ·simp only [d67, hs] at h
     try simp only [vz, tyf, b66, (ix24 o60), e63, e64, e65, d67, nm, seval]
     replace h := kR49 _ h
     try dsimp only at h
     obtain rfl := kF _ h
     exact zai Tryz.results25 rfl
    simp only [d67, hs] at h
    simp only [vz, tyf, b66, (ix24 o60), e63, e64, e65, d67, nm, seval]
    exact ⟨List.length p49, Nat.lt_succ_self _, by rw [hI49]; refine ⟨p49, c49_6 + 1, rfl, Int.le_trans hi49 (Int.le_add_one (Int.le_refl _)), zax hi49 hp49, rfl, (show nx41 + 6 ≤ nx49 + 15 by omega), ?_, e63, ?_, (by first | exact h | (simp only [b66, d67]; exact h))⟩ <;> first | (simp only [ua, b66, e63, e64, e65, d67, nm, seval] <;> rfl) | rfl⟩
  | cons e41 p41 =>
   have d68 : (decide (c41_4 < (List.length x0_s.Boards : Int))) = true := zaw hi41 hp41
   have o70 := zak hi41 hp41
   have w69 := zbj hi41 hp41 g42
   simp only [zcv, hs, reduceCtorEq] at h
   obtain ⟨r71, o72, h⟩ := optI h kN41
   try simp only [hs] at h
   simp only [vz, tyf, d21, d27, d33, g35, n39, d40, g42, n46, n47, e44, e45, H43, d68, (ix23 o70), w69, nm, seval]
   refine ktA (zbs _ _ _ _ o72) ?_
   refine zar (fun tm => tm 1 = .ptr 0 0 ∧ tm 4 = .lit (.int .i64 c41_4) ∧ tm 5 = .ptr (nx41 + 10) 0 ∧ tm 54 = .lit (.bool r71) ∧ True) (by refine ⟨e44, e45, ?_, ?_, trivial⟩ <;> first | (simp only [ua, d21, d27, d33, n39, d40, n46, n47, e44, e45, H43, d68, w69, nm, seval] <;> rfl) | rfl) ?_
   rintro tm ⟨e73, e74, e75, e76, _⟩
   have b77 := And.intro d21 (And.intro d27 (And.intro d33 (And.intro g35 (And.intro n39 (And.intro d40 (And.intro g42 (And.intro n46 (And.intro n47 (And.intro H43 (And.intro d68 w69))))))))))
   cases d78 : (r71)
   ·simp only [d78, hs] at h
    try simp only [vz, tyf, b77, (ix23 o70), e73, e74, e75, e76, d78, nm, seval]
    replace h := kR41 _ h
    try dsimp only at h
    obtain rfl := kF _ h
    exact zai Tryz.results25 rfl
   simp only [d78, hs] at h
   obtain ⟨r79, o80, h⟩ := optI h kN41
   try simp only [hs] at h
   simp only [vz, tyf, b77, (ix23 o70), e73, e74, e75, e76, d78, nm, seval]
   refine ktA (zbs _ _ _ _ o80) ?_
   refine zar (fun tm => tm 1 = .ptr 0 0 ∧ tm 4 = .lit (.int .i64 c41_4) ∧ tm 5 = .ptr (nx41 + 10) 0 ∧ tm 56 = .lit (.bool false) ∧ tm 59 = .lit (.bool r79) ∧ True) (by refine ⟨e73, e74, e75, ?_, ?_, trivial⟩ <;> first | (simp only [ua, b77, e73, e74, e75, e76, d78, nm, seval] <;> rfl) | rfl) ?_
   rintro tm ⟨e81, e82, e83, e84, e85, _⟩
   cases d86 : (r79)
   ·simp only [d86, hs] at h
    try simp only [vz, tyf, b77, (ix23 o70), d78, e81, e82, e83, e84, e85, d86, nm, seval]
    replace h := kR41 _ h
    try dsimp only at h
    obtain rfl := kF _ h
    exact zai Tryz.results25 rfl
   simp only [d86, hs] at h
   obtain ⟨r87, o88, h⟩ := optI h kN41
   try simp only [hs] at h
   simp only [vz, tyf, b77, (ix23 o70), d78, e81, e82, e83, e84, e85, d86, nm, seval]
   refine ktA (zbs _ _ _ _ o88) ?_
   refine zar (fun tm => tm 1 = .ptr 0 0 ∧ tm 4 = .lit (.int .i64 c41_4) ∧ tm 5 = .ptr (nx41 + 10) 0 ∧ tm 62 = .lit (.bool false) ∧ tm 66 = .lit (.bool r87) ∧ True) (by refine ⟨e81, e82, e83, ?_, ?_, trivial⟩ <;> first | (simp only [ua, b77, d78, e81, e82, e83, e84, e85, d86, nm, seval] <;> rfl) | rfl) ?_
   rintro tm ⟨e89, e90, e91, e92, e93, _⟩
   cases d94 : (r87)
   ·simp only [d94, hs] at h
    try simp only [vz, tyf, b77, (ix23 o70), d78, d86, e89, e90, e91, e92, e93, d94, nm, seval]
    replace h := kR41 _ h
    try dsimp only at h
    obtain rfl := kF _ h
    exact zai Tryz.results25 rfl
   simp only [d94, hs] at h
   obtain ⟨r95, o96, h⟩ := optI h kN41
   try simp only [hs] at h
   simp only [vz, tyf, b77, (ix23 o70), d78, d86, e89, e90, e91, e92, e93, d94, nm, seval]
   refine ktA (zbs _ _ _ _ o96) ?_
   refine zar (fun tm => tm 1 = .ptr 0 0 ∧ tm 4 = .lit (.int .i64 c41_4) ∧ tm 5 = .ptr (nx41 + 10) 0 ∧ tm 69 = .lit (.bool false) ∧ tm 81 = .lit (.bool r95) ∧ True) (by refine ⟨e89, e90, e91, ?_, ?_, trivial⟩ <;> first | (simp only [ua, b77, d78, d86, e89, e90, e91, e92, e93, d94, nm, seval] <;> rfl) | rfl) ?_
   rintro tm ⟨e97, e98, e99, e100, e101, _⟩
   cases d102 : (r95)
   ·simp only [d102, hs] at h
    try simp only [vz, tyf, b77, (ix23 o70), d78, d86, d94, e97, e98, e99, e100, e101, d102, nm, seval]
    replace h := kR41 _ h
    try dsimp only at h
    obtain rfl := kF _ h
    exact zai Tryz.results25 rfl
   simp only [d102, hs] at h
   obtain ⟨r103, o104, h⟩ := optI h kN41
   try simp only [hs] at h
   simp only [vz, tyf, b77, (ix23 o70), d78, d86, d94, e97, e98, e99, e100, e101, d102, nm, seval]
   refine ktA (zbs _ _ _ _ o104) ?_
   refine zar (fun tm => tm 1 = .ptr 0 0 ∧ tm 4 = .lit (.int .i64 c41_4) ∧ tm 84 = .lit (.bool false) ∧ tm 91 = .lit (.bool r103) ∧ True) (by refine ⟨e97, e98, ?_, ?_, trivial⟩ <;> first | (simp only [ua, b77, d78, d86, d94, e97, e98, e99, e100, e101, d102, nm, seval] <;> rfl) | rfl) ?_
   rintro tm ⟨e105, e106, e107, e108, _⟩
   cases d109 : (r103)
   ·simp only [d109, hs] at h
    try simp only [vz, tyf, b77, (ix23 o70), d78, d86, d94, d102, e105, e106, e107, e108, d109, nm, seval]
    replace h := kR41 _ h
    try dsimp only at h
    obtain rfl := kF _ h
    exact zai Tryz.results25 rfl
   simp only [d109, hs] at h
   simp only [vz, tyf, b77, (ix23 o70), d78, d86, d94, d102, e105, e106, e107, e108, d109, nm, seval]
   exact ⟨List.length p41, Nat.lt_succ_self _, by rw [hI41]; refine ⟨p41, c41_4 + 1, rfl, Int.le_trans hi41 (Int.le_add_one (Int.le_refl _)), zax hi41 hp41, rfl, (show nx34 + 6 ≤ nx41 + 57 by omega), ?_, e105, ?_, (by first | exact h | (simp only [b77, d78, d86, d94, d102, d109]; exact h))⟩ <;> first | (simp only [ua, b77, d78, d86, d94, d102, e105, e106, e107, e108, d109, nm, seval] <;> rfl) | rfl⟩
 | cons e34 p34 =>
  have d110 : (decide (c34_3 < (List.length x0_s.Offs : Int))) = true := zaw hi34 hp34
  have o112 := zak hi34 hp34
  have w111 := zbj hi34 hp34 g35
  simp only [zcz, hs, reduceCtorEq] at h
  obtain ⟨r113, o114, h⟩ := optI h kN34
  try simp only [hs] at h
  simp only [vz, tyf, d21, d27, d33, g35, n39, e37, e38, H36, d110, (ix22 o112), w111, nm, seval]
  refine ktA (zbs _ _ _ _ o114) ?_
  refine zar (fun tm => tm 1 = .ptr 0 0 ∧ tm 3 = .lit (.int .i64 c34_3) ∧ tm 38 = .lit (.bool r113) ∧ True) (by refine ⟨e37, e38, ?_, trivial⟩ <;> first | (simp only [ua, d21, d27, d33, n39, e37, e38, H36, d110, w111, nm, seval] <;> rfl) | rfl) ?_
  rintro tm ⟨e115, e116, e117, _⟩
  have b118 := And.intro d21 (And.intro d27 (And.intro d33 (And.intro g35 (And.intro n39 (And.intro H36 (And.intro d110 w111))))))
  cases d119 : (r113)
  ·simp only [d119, hs] at h
   try simp only [vz, tyf, b118, (ix22 o112), e115, e116, e117, d119, nm, seval]
   replace h := kR34 _ h
   try dsimp only at h
   obtain rfl := kF _ h
   exact zai Tryz.results25 rfl
  simp only [d119, hs] at h
  simp only [vz, tyf, b118, (ix22 o112), e115, e116, e117, d119, nm, seval]
  exact ⟨List.length p34, Nat.lt_succ_self _, by rw [hI34]; refine ⟨p34, c34_3 + 1, rfl, Int.le_trans hi34 (Int.le_add_one (Int.le_refl _)), zax hi34 hp34, rfl, (show 22 ≤ nx34 + 15 by omega), ?_, e115, ?_, (by first | exact h | (simp only [b118, d119]; exact h))⟩ <;> first | (simp only [ua, b118, e115, e116, e117, d119, nm, seval] <;> rfl) | rfl⟩
def zev (x0_s : GPriceSheet) (x1_n : Int) : Option (Bool) := Option.bind (zci x1_n 0 (IntKind.i64.wrap ((List.length x0_s.Tariffs : Int) - 1))) (fun r1 => some r1)
theorem zlb (x0_s : GPriceSheet) (x1_n : Int) (R : Bool) (h : zev x0_s x1_n = some R) : VPure Tryz.prog G0 26 [.agg (cGPriceSheet x0_s), .lit (.int .i64 x1_n)] (.tree (.lit (.bool R))) := by
 refine VPure.runR mixed Tryz.call26 Tryz.func26 rfl (by simp [Tryz.ntmps26]; kernel_rfl) ?_
 obtain ⟨KF, h, kF, kN⟩ := zaq h
 simp only [zev] at h
 obtain ⟨r2, o3, h⟩ := optI h kN
 try simp only [hs] at h
 simp only [vz, tyf, nm, seval]
 refine ktA (zbs _ _ _ _ o3) ?_
 refine zar (fun tm => tm 10 = .lit (.bool r2) ∧ True) (by refine ⟨?_, trivial⟩ <;> first | (simp only [ua, nm, seval] <;> rfl) | rfl) ?_
 rintro tm ⟨e4, _⟩
 try simp only [vz, tyf, e4, nm, seval]
 obtain rfl := kF _ h
 exact zai Tryz.results26 rfl
def zcs (x0_s : GPriceSheet) : List Int → Int → Option (LOut (Bool) (Unit))
 | [], c0_5 => some (.go ())
 | e0 :: p0, c0_5 => Option.bind (getI x0_s.Boards c0_5) (fun x1 => Option.bind (zci e0 x1.Hours.Low x1.Hours.High) (fun r2 => cond (r2) (zcs x0_s p0 (c0_5 + 1)) (some (.ret false))))
def zfm (x0_s : GPriceSheet) (x1_l : List Int) : Option (Bool) := cond ((List.length x1_l : Int) != (List.length x0_s.Boards : Int)) (some false) (cond (lenOk x1_l) (lbind (zcs x0_s x1_l 0) (fun r4 => some r4) (fun c3 => some true) (fun _ _ => none)) none)
theorem zmr (x0_s : GPriceSheet) (x1_l : List Int) (R : Bool) (h : zfm x0_s x1_l = some R) : VPure Tryz.prog G0 28 [.agg (cGPriceSheet x0_s), .sl (cellsL eI x1_l) (List.length x1_l) false] (.tree (.lit (.bool R))) := by
 refine VPure.runR mixed Tryz.call28 Tryz.func28 rfl (by simp [Tryz.ntmps28]; kernel_rfl) ?_
 obtain ⟨KF, h, kF, kN⟩ := zaq h
 simp only [zfm] at h
 cases d5 : ((List.length x1_l : Int) != (List.length x0_s.Boards : Int))
 ·simp only [d5, hs] at h
  cases g7 : (lenOk x1_l)
  ·simp only [g7, hs] at h
   exact absurd h kN
  simp only [g7, hs] at h
  simp only [vz, tyf, d5, g7, nm, seval]
  obtain ⟨K6, h, kR6, kG6, kB6, kN6⟩ := zbf h kN
  obtain ⟨f6, hf6, h⟩ := call2 h
  obtain ⟨I6, hI6⟩ : ∃ I : Nat → St → Prop, I = (fun m st => ∃ (p6 : List Int) (c6_5 : Int), m = List.length p6 ∧ 0 ≤ c6_5 ∧ List.drop (Int.toNat c6_5) x1_l = p6 ∧ st.df = [] ∧ 9 ≤ st.nx ∧ st.H 0 = some (.cells (some 26) (cGPriceSheet x0_s)) ∧ st.tm 1 = .sl (cellsL eI x1_l) (List.length x1_l) false ∧ st.tm 2 = .ptr 0 0 ∧ st.tm 5 = .lit (.int .i64 c6_5) ∧ K6 (f6 p6 c6_5)) := ⟨_, rfl⟩
  refine loopK mixed (by kernel_rfl) I6 (List.length x1_l) (by rw [hI6]; refine ⟨x1_l, 0, rfl, Int.le_refl _, rfl, rfl, (show 9 ≤ 9 by omega), ?_, ?_, ?_, ?_, h⟩ <;> first | (simp only [ua, d5, nm, seval] <;> rfl) | rfl) ?_
  rintro m ⟨tm, H, nx6, df⟩ hinv
  rw [hI6] at hinv
  obtain ⟨p6, c6_5, rfl, hi6, hp6, hdf, hn6, H8, e9, e10, e11, h⟩ := hinv
  simp only at hdf hn6 H8 e9 e10 e11
  have n12 := zda (m := 9) (b := nx6) (by omega)
  subst hdf hf6
  cases p6 with
  | nil =>
   have d13 : (decide (c6_5 < (List.length x1_l : Int))) = false := zaj hi6 hp6
   simp only [zcs, hs, reduceCtorEq] at h
   replace h := kG6 _ h
   try dsimp only at h
   try simp only [hs] at h
   try simp only [vz, tyf, d5, g7, n12, e9, e10, e11, H8, d13, nm, seval]
   obtain rfl := kF _ h
   exact zai Tryz.results28 rfl
  | cons e6 p6 =>
   have d14 : (decide (c6_5 < (List.length x1_l : Int))) = true := zaw hi6 hp6
   have o16 := zak hi6 hp6
   have w15 := zbj hi6 hp6 g7
   simp only [zcs, hs, reduceCtorEq] at h
   simp only [vz, tyf, d5, g7, n12, e9, e10, e11, H8, d14, (ix22 o16), w15, nm, seval]
   refine zig (fun tm => tm 1 = .sl (cellsL eI x1_l) (List.length x1_l) false ∧ tm 2 = .ptr 0 0 ∧ tm 5 = .lit (.int .i64 c6_5) ∧ True) (by refine ⟨e9, e10, e11, trivial⟩ <;> first | (simp only [ua, d5, n12, e9, e10, e11, H8, d14, w15, nm, seval] <;> rfl) | rfl) ?_
   rintro tm ⟨e17, e18, e19, _⟩
   obtain ⟨x20, o21, h⟩ := optI h kN6
   try simp only [hs] at h
   obtain ⟨r22, o23, h⟩ := optI h kN6
   try simp only [hs] at h
   simp only [vz, tyf, d5, g7, n12, H8, d14, (ix22 o16), w15, e17, e18, e19, (ix23 o21), nm, seval]
   refine dktA (zbs _ _ _ _ o23) ?_
   refine zar (fun tm => tm 1 = .sl (cellsL eI x1_l) (List.length x1_l) false ∧ tm 2 = .ptr 0 0 ∧ tm 5 = .lit (.int .i64 c6_5) ∧ tm 36 = .lit (.bool r22) ∧ True) (by refine ⟨e17, e18, e19, ?_, trivial⟩ <;> first | (simp only [ua, d5, n12, H8, d14, w15, e17, e18, e19, nm, seval] <;> rfl) | rfl) ?_
   rintro tm ⟨e24, e25, e26, e27, _⟩
   cases d28 : (r22)
   ·simp only [d28, hs] at h
    have b29 := And.intro d5 (And.intro g7 (And.intro n12 (And.intro H8 (And.intro d14 (And.intro w15 d28)))))
    try simp only [vz, tyf, b29, (ix22 o16), (ix23 o21), e24, e25, e26, e27, nm, seval]
    replace h := kR6 _ h
    try dsimp only at h
    obtain rfl := kF _ h
    exact zai Tryz.results28 rfl
   simp only [d28, hs] at h
   have b30 := And.intro d5 (And.intro g7 (And.intro n12 (And.intro H8 (And.intro d14 (And.intro w15 d28)))))
   simp only [vz, tyf, b30, (ix22 o16), (ix23 o21), e24, e25, e26, e27, nm, seval]
   exact ⟨List.length p6, Nat.lt_succ_self _, by rw [hI6]; refine ⟨p6, c6_5 + 1, rfl, Int.le_trans hi6 (Int.le_add_one (Int.le_refl _)), zax hi6 hp6, rfl, (show 9 ≤ nx6 + 27 by omega), ?_, e24, e25, ?_, (by first | exact h | (simp only [b30]; exact h))⟩ <;> first | (simp only [ua, b30, e24, e25, e26, e27, nm, seval] <;> rfl) | rfl⟩
 simp only [d5, hs] at h
 try simp only [vz, tyf, d5, nm, seval]
 obtain rfl := kF _ h
 exact zai Tryz.results28 rfl
def zer (x0_s : GPriceSheet) : Option (Bool) := cond (decide ((List.length x0_s.Offs : Int) ≤ 5)) (cond (decide ((List.length x0_s.Boards : Int) ≤ 6)) (some (decide ((List.length x0_s.Tariffs : Int) ≤ 5))) (some false)) (some false)
theorem zlr (x0_s : GPriceSheet) (R : Bool) (h : zer x0_s = some R) : VPure Tryz.prog G0 19 [.agg (cGPriceSheet x0_s)] (.tree (.lit (.bool R))) := by
 refine VPure.runR mixed Tryz.call19 Tryz.func19 rfl (by simp [Tryz.ntmps19]; kernel_rfl) ?_
 obtain ⟨KF, h, kF, kN⟩ := zaq h
 simp only [zer] at h
 cases d1 : (decide ((List.length x0_s.Offs : Int) ≤ 5))
 ·simp only [d1, hs] at h
  try simp only [vz, tyf, d1, nm, seval]
  obtain rfl := kF _ h
  exact zai Tryz.results19 rfl
 simp only [d1, hs] at h
 cases d2 : (decide ((List.length x0_s.Boards : Int) ≤ 6))
 ·simp only [d2, hs] at h
  try simp only [vz, tyf, d1, d2, nm, seval]
  obtain rfl := kF _ h
  exact zai Tryz.results19 rfl
 simp only [d2, hs] at h
 try simp only [vz, tyf, d1, d2, nm, seval]
 obtain rfl := kF _ h
 exact zai Tryz.results19 rfl
def zfd (x0_l : List Int) : Option (Bool) := some (decide ((List.length x0_l : Int) ≤ 7))
theorem znv (x0_l : List Int) (R : Bool) (h : zfd x0_l = some R) : VPure Tryz.prog G0 20 [.sl (cellsL eI x0_l) (List.length x0_l) false] (.tree (.lit (.bool R))) := by
 refine VPure.runR mixed Tryz.call20 Tryz.func20 rfl (by simp [Tryz.ntmps20]; kernel_rfl) ?_
 obtain ⟨KF, h, kF, kN⟩ := zaq h
 simp only [zfd] at h
 try simp only [vz, tyf, nm, seval]
 obtain rfl := kF _ h
 exact zai Tryz.results20 rfl


end Go.V
end
