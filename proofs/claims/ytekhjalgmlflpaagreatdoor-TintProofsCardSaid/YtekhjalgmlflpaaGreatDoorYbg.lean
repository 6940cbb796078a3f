/- Part of a proof. -/
import Derived.Test.YtekhjalgmlflpaaGreatDoorYbf
set_option linter.all false
set_option maxRecDepth 4000
set_option maxHeartbeats 40000000
section
namespace Go.V
open Go
def Dec (P : Program) (n : Nat) (t : TypeId) {α : Type} (enc : α → List VV) (R : α → Prop) : Prop := ∀ xs, ShapeT P n t xs → ∃ x : α, R x ∧ normL xs = enc x
theorem zajw {P : Program} {n : Nat} {t : TypeId} (hu : P.underlying t = some (.int .i64)) : Dec P (n + 1) t eI (fun _ => True) := by
 intro xs h
 simp only [ShapeT, hu] at h
 obtain ⟨i, _, rfl⟩ := h
 exact ⟨i, trivial, by simp only [zgy, ziu, zuy, eI]⟩
theorem zxw {P : Program} {n : Nat} {t : TypeId} {α : Type} {enc : α → List VV} {R : α → Prop} (h : Dec P n t enc R) : ∀ yss : List (List VV), (∀ ys ∈ yss, ShapeT P n t ys) → ∃ l : List α, l.length = yss.length ∧ (∀ x ∈ l, R x) ∧ normL yss.flatten = cellsL enc l
 | [], _ => ⟨[], rfl, fun _ hx => (by cases hx), rfl⟩
 | ys :: yss, hs => by
  obtain ⟨x, hx, e⟩ := h ys (hs ys (List.mem_cons_self ..))
  obtain ⟨l, h1, h2, h3⟩ := zxw h yss (fun y hy => hs y (List.mem_cons_of_mem _ hy))
  refine ⟨x :: l, by simp [h1], fun y hy => ?_, by rw [List.flatten_cons, zdv, e, h3, zir]⟩
  rcases List.mem_cons.1 hy with rfl | hy
  ·exact hx
  ·exact h2 y hy
theorem zaci {P : Program} {n : Nat} {t e : TypeId} {α : Type} {enc : α → List VV} {R : α → Prop} (hu : P.underlying t = some (.slice e)) (h : Dec P n e enc R) : Dec P (n + 1) t (fun l : List α => [.sl (cellsL enc l) l.length false]) (fun l => lenOk l = true ∧ ∀ x ∈ l, R x) := by
 intro xs hs
 simp only [ShapeT, hu] at hs
 rcases hs with rfl | ⟨yss, hl, hall, rfl⟩
 ·exact ⟨[], ⟨rfl, fun _ hx => (by cases hx)⟩, by simp only [zgy, ziu, zui]; rfl⟩
 ·obtain ⟨l, h1, h2, h3⟩ := zxw h yss hall
  refine ⟨l, ⟨?_, h2⟩, by simp only [zgy, ziu, zaad, h3, h1]⟩
  have : maxLen = 9223372036854775807 := by decide
  unfold lenOk
  exact decide_eq_true (by omega)
theorem zaaq {P : Program} {n : Nat} {t : TypeId} {fs : Array Field} {xs : List VV} (hu : P.underlying t = some (.struct fs)) (h : ShapeT P (n + 1) t xs) : ∃ yss, FieldsS (ShapeT P n) fs.toList yss ∧ xs = yss.flatten := by
 simp only [ShapeT, hu] at h
 exact h
def TypesS (S : TypeId → List VV → Prop) : List TypeId → List (List VV) → Prop
 | [], [] => True
 | t :: ts, ys :: yss => S t ys ∧ TypesS S ts yss
 | _, _ => False
theorem zzm {S : TypeId → List VV → Prop} : ∀ (fs : List Field) (yss : List (List VV)), FieldsS S fs yss → TypesS S (fs.map Field.type) yss
 | [], [], _ => trivial
 | f :: fs, ys :: yss, ⟨h1, h2⟩ => ⟨h1, zzm fs yss h2⟩
 | [], _ :: _, h => h
 | _ :: _, [], h => h
theorem zmr {P : Program} {n : Nat} {t : TypeId} {fs : Array Field} {ts : List TypeId} {xs : List VV} (hu : P.underlying t = some (.struct fs)) (ht : fs.toList.map Field.type = ts) (h : ShapeT P (n + 1) t xs) : ∃ yss, TypesS (ShapeT P n) ts yss ∧ xs = yss.flatten := by
 obtain ⟨yss, h1, h2⟩ := zaaq hu h
 exact ⟨yss, ht ▸ zzm _ _ h1, h2⟩
theorem zvk {S : TypeId → List VV → Prop} {e : TypeId} : ∀ (yss : List (List VV)), (∀ ys ∈ yss, S e ys) → TypesS S (List.replicate yss.length e) yss
 | [], _ => trivial
 | ys :: yss, h => ⟨h ys (List.mem_cons_self ..), zvk yss fun z hz => h z (List.mem_cons_of_mem _ hz)⟩
theorem zun {P : Program} {n : Nat} {t e : TypeId} {m : Nat} {ts : List TypeId} {xs : List VV} (hu : P.underlying t = some (.array m e)) (ht : List.replicate m e = ts) (h : ShapeT P (n + 1) t xs) : ∃ yss, TypesS (ShapeT P n) ts yss ∧ xs = yss.flatten := by
 simp only [ShapeT, hu] at h
 obtain ⟨yss, h1, h2, h3⟩ := h
 refine ⟨yss, ?_, h3⟩
 rw [← ht, ← h1]
 exact zvk yss h2
theorem zyu {P : Program} {n : Nat} {t : TypeId} {ts : List TypeId} {xs : List VV} (h : ArgsS P n (t :: ts) xs) : ∃ x xs', xs = x :: xs' ∧ ArgS P n t x ∧ ArgsS P n ts xs' := by
 match xs, h with
 | x :: xs', h => exact ⟨x, xs', rfl, h.1, h.2⟩
theorem zacv {P : Program} {n : Nat} {xs : List VV} (h : ArgsS P n [] xs) : xs = [] := by
 match xs, h with
 | [], _ => rfl
theorem zaam {P : Program} {n : Nat} {t : TypeId} {fs : Array Field} {x : VV} {α : Type} {enc : α → List VV} {R : α → Prop} (hu : P.underlying t = some (.struct fs)) (hd : Dec P n t enc R) (h : ArgS P n t x) : ∃ s, R s ∧ normV x = .agg (enc s) := by
 obtain ⟨ys, h1, h2⟩ := h
 rw [hu] at h2
 obtain rfl : x = .agg ys := h2
 obtain ⟨s, hs, e⟩ := hd ys h1
 exact ⟨s, hs, by rw [zut, e]⟩
end Go.V
end
section
set_option maxRecDepth 100000
namespace Go.V
open Go Go.Proofs
def zld (x : Gs) : Prop := lenOk x.Tins = true
section
variable {P : Program} (hu3 : P.underlying 3 = some (.int .i64)) (hu22 : P.underlying 22 = some (.array 3 3)) {f24 : Array Field} (hu24 : P.underlying 24 = some (.struct f24)) (ht24 : f24.toList.map Field.type = [3, 3]) (hu25 : P.underlying 25 = some (.array 3 24)) {f94 : Array Field} (hu94 : P.underlying 94 = some (.struct f94)) (ht94 : f94.toList.map Field.type = [25]) (hu26 : P.underlying 26 = some (.slice 94)) {f28 : Array Field} (hu28 : P.underlying 28 = some (.struct f28)) (ht28 : f28.toList.map Field.type = [22, 25, 24, 3, 26])
include hu3 hu22 hu24 ht24 hu25 hu94 ht94 hu26 hu28 ht28
theorem gd_3 {n : Nat} : Dec P (n + 1) 3 eI (fun _ => True) := zajw hu3
theorem gd_22 {n : Nat} : Dec P (n + 2) 22 cGi (fun _ => True) := by
 intro xs h
 obtain ⟨yss, hf, rfl⟩ := zun (n := n + 1) (ts := [3, 3, 3]) hu22 rfl h
 match yss, hf with
 | [y0, y1, y2], ⟨h0, h1, h2, _⟩ =>
  obtain ⟨x0, r0, e0⟩ := gd_3 hu3 hu22 hu24 ht24 hu25 hu94 ht94 hu26 hu28 ht28 (n := n + 0) _ h0
  obtain ⟨x1, r1, e1⟩ := gd_3 hu3 hu22 hu24 ht24 hu25 hu94 ht94 hu26 hu28 ht28 (n := n + 0) _ h1
  obtain ⟨x2, r2, e2⟩ := gd_3 hu3 hu22 hu24 ht24 hu25 hu94 ht94 hu26 hu28 ht28 (n := n + 0) _ h2
  exact ⟨⟨x0, x1, x2⟩, trivial, by simp only [List.flatten_cons, List.flatten_nil, List.append_nil, zdv, e0, e1, e2, eI, eU8, eB, eS, eSl, zgp, List.cons_append, List.nil_append]⟩
theorem gd_24 {n : Nat} : Dec P (n + 2) 24 cGSpan (fun _ => True) := by
 intro xs h
 obtain ⟨yss, hf, rfl⟩ := zmr (n := n + 1) (ts := [3, 3]) hu24 ht24 h
 match yss, hf with
 | [y0, y1], ⟨h0, h1, _⟩ =>
  obtain ⟨x0, r0, e0⟩ := gd_3 hu3 hu22 hu24 ht24 hu25 hu94 ht94 hu26 hu28 ht28 (n := n + 0) _ h0
  obtain ⟨x1, r1, e1⟩ := gd_3 hu3 hu22 hu24 ht24 hu25 hu94 ht94 hu26 hu28 ht28 (n := n + 0) _ h1
  exact ⟨⟨x0, x1⟩, trivial, by simp only [List.flatten_cons, List.flatten_nil, List.append_nil, zdv, e0, e1, eI, eU8, eB, eS, eSl, zgh, List.cons_append, List.nil_append]⟩
theorem gd_25 {n : Nat} : Dec P (n + 3) 25 cGa (fun _ => True) := by
 intro xs h
 obtain ⟨yss, hf, rfl⟩ := zun (n := n + 2) (ts := [24, 24, 24]) hu25 rfl h
 match yss, hf with
 | [y0, y1, y2], ⟨h0, h1, h2, _⟩ =>
  obtain ⟨x0, r0, e0⟩ := gd_24 hu3 hu22 hu24 ht24 hu25 hu94 ht94 hu26 hu28 ht28 (n := n + 0) _ h0
  obtain ⟨x1, r1, e1⟩ := gd_24 hu3 hu22 hu24 ht24 hu25 hu94 ht94 hu26 hu28 ht28 (n := n + 0) _ h1
  obtain ⟨x2, r2, e2⟩ := gd_24 hu3 hu22 hu24 ht24 hu25 hu94 ht94 hu26 hu28 ht28 (n := n + 0) _ h2
  exact ⟨⟨x0, x1, x2⟩, trivial, by simp only [List.flatten_cons, List.flatten_nil, List.append_nil, zdv, e0, e1, e2, eI, eU8, eB, eS, eSl, zen, zgh, List.cons_append, List.nil_append]⟩
theorem gd_94 {n : Nat} : Dec P (n + 4) 94 cGt (fun _ => True) := by
 intro xs h
 obtain ⟨yss, hf, rfl⟩ := zmr (n := n + 3) (ts := [25]) hu94 ht94 h
 match yss, hf with
 | [y0], ⟨h0, _⟩ =>
  obtain ⟨x0, r0, e0⟩ := gd_25 hu3 hu22 hu24 ht24 hu25 hu94 ht94 hu26 hu28 ht28 (n := n + 0) _ h0
  exact ⟨⟨x0⟩, trivial, by simp only [List.flatten_cons, List.flatten_nil, List.append_nil, zdv, e0, eI, eU8, eB, eS, eSl, zen, zgh, zfz, List.cons_append, List.nil_append]⟩
theorem gd_26 {n : Nat} : Dec P (n + 5) 26 (eSl cGt) (fun l => lenOk l = true ∧ ∀ x ∈ l, True) := zaci hu26 (gd_94 hu3 hu22 hu24 ht24 hu25 hu94 ht94 hu26 hu28 ht28 (n := n))
theorem gd_28 {n : Nat} : Dec P (n + 6) 28 cGs (zld) := by
 intro xs h
 obtain ⟨yss, hf, rfl⟩ := zmr (n := n + 5) (ts := [22, 25, 24, 3, 26]) hu28 ht28 h
 match yss, hf with
 | [y0, y1, y2, y3, y4], ⟨h0, h1, h2, h3, h4, _⟩ =>
  obtain ⟨x0, r0, e0⟩ := gd_22 hu3 hu22 hu24 ht24 hu25 hu94 ht94 hu26 hu28 ht28 (n := n + 3) _ h0
  obtain ⟨x1, r1, e1⟩ := gd_25 hu3 hu22 hu24 ht24 hu25 hu94 ht94 hu26 hu28 ht28 (n := n + 2) _ h1
  obtain ⟨x2, r2, e2⟩ := gd_24 hu3 hu22 hu24 ht24 hu25 hu94 ht94 hu26 hu28 ht28 (n := n + 3) _ h2
  obtain ⟨x3, r3, e3⟩ := gd_3 hu3 hu22 hu24 ht24 hu25 hu94 ht94 hu26 hu28 ht28 (n := n + 4) _ h3
  obtain ⟨x4, r4, e4⟩ := gd_26 hu3 hu22 hu24 ht24 hu25 hu94 ht94 hu26 hu28 ht28 (n := n + 0) _ h4
  exact ⟨⟨x0, x1, x2, x3, x4⟩, r4.1, by simp only [List.flatten_cons, List.flatten_nil, List.append_nil, zdv, e0, e1, e2, e3, e4, eI, eU8, eB, eS, eSl, zen, zgp, zgh, zey, List.cons_append, List.nil_append]⟩
end
theorem zasb {n : Nat} : Dec Tryz.prog (n + 6) 28 cGs (zld) := gd_28 Tryz.underlying3 Tryz.underlying22 Tryz.underlying24 (by kernel_rfl) Tryz.underlying25 Tryz.underlying94 (by kernel_rfl) Tryz.underlying26 Tryz.underlying28 (by kernel_rfl)
end Go.V
end
section
namespace Go.V
open Go
def goB (b : Bool) : Option (LOut Bool Unit) := cond b (some (.go ())) (some (.ret false))
theorem zoh (a b : Bool) : goB (a && b) = cond a (goB b) (some (.ret false)) := by cases a <;> rfl
theorem csome (a b : Bool) : cond a (some b) (some false) = some (a && b) := by cases a <;> rfl
theorem zlm {X : Type} (b : Bool) (kr : Bool → Option X) (kg : Unit → Option X) (kb : Nat → Unit → Option X) : lbind (goB b) kr kg kb = cond b (kg ()) (kr false) := by cases b <;> rfl
def inB (a b n : Int) : Bool := decide (a ≤ n) && decide (n ≤ b)
theorem zop {a b n : Int} : inB a b n = true ↔ a ≤ n ∧ n ≤ b := by simp [inB]
theorem zgj {n : Int} (h1 : -9223372036854775808 ≤ n) (h2 : n < 9223372036854775808) : IntKind.i64.wrap n = n := IntWalk.i64_in _ (by omega)
theorem zsr {α : Type} {xs : List α} (h : xs.length < 9223372036854775808) : lenOk xs = true := by simpa [lenOk] using h
theorem mulR {a b A B : Int} (h1 : 0 ≤ a) (h2 : a ≤ A) (h3 : 0 ≤ b) (h4 : b ≤ B) : 0 ≤ a * b ∧ a * b ≤ A * B :=
 ⟨Int.mul_nonneg h1 h3, Int.mul_le_mul h2 h4 h3 (Int.le_trans h1 h2)⟩
end Go.V
end
section
namespace Go.V
def ea : Option Bool → Bool | none => true | some b => b
def eo : Option Bool → Bool | none => false | some b => b
end Go.V
end
section
namespace Go.V
open Go Go.Proofs
def zdn (x0_least : Int) (x1_n : Int) (x2_most : Int) : Option (Bool) := cond (decide (x0_least ≤ x1_n)) (some (decide (x1_n ≤ x2_most))) (some false)
theorem zfc (x0_least : Int) (x1_n : Int) (x2_most : Int) (R : Bool) (h : zdn x0_least x1_n x2_most = some R) : VPure Tryz.prog G0 92 [.lit (.int .i64 x0_least), .lit (.int .i64 x1_n), .lit (.int .i64 x2_most)] (.tree (.lit (.bool R))) := by
 refine VPure.runR mixed Tryz.call92 Tryz.func92 rfl (by simp [Tryz.ntmps92]; kernel_rfl) ?_
 obtain ⟨KF, h, kF, kN⟩ := zan h
 simp only [zdn] at h
 cases d1 : (decide (x0_least ≤ x1_n))
 ·simp only [d1, hs] at h
  try simp only [vz, tyf, d1, nm, seval]
  obtain rfl := kF _ h
  exact zaj Tryz.results92 rfl
 simp only [d1, hs] at h
 try simp only [vz, tyf, d1, nm, seval]
 obtain rfl := kF _ h
 exact zaj Tryz.results92 rfl
def zby (x0_least : Int) (x2_most : Int) : List Int → Int → Option (LOut (Bool) (Unit))
 | [], c0_11 => some (.go ())
 | e0 :: p0, c0_11 => Option.bind (zdn x0_least e0 x2_most) (fun r1 => cond (r1) (zby x0_least x2_most p0 (c0_11 + 1)) (some (.ret false)))
def zdw (x0_least : Int) (x1_numbers : List Int) (x2_most : Int) : Option (Bool) := cond (lenOk x1_numbers) (lbind (zby x0_least x2_most x1_numbers 0) (fun r3 => some r3) (fun c2 => some true) (fun _ _ => none)) none
theorem zjr (x0_least : Int) (x1_numbers : List Int) (x2_most : Int) (R : Bool) (h : zdw x0_least x1_numbers x2_most = some R) : VPure Tryz.prog G0 89 [.lit (.int .i64 x0_least), .sl (cellsL eI x1_numbers) (List.length x1_numbers) false, .lit (.int .i64 x2_most)] (.tree (.lit (.bool R))) := by
 refine VPure.runR mixed Tryz.call89 Tryz.func89 rfl (by simp [Tryz.ntmps89]; kernel_rfl) ?_
 obtain ⟨KF, h, kF, kN⟩ := zan h
 simp only [zdw] at h
 cases g5 : (lenOk x1_numbers)
 ·simp only [g5, hs] at h
  exact absurd h kN
 simp only [g5, hs] at h
 simp only [vz, tyf, g5, nm, seval]
 obtain ⟨K4, h, kR4, kG4, kB4, kN4⟩ := zax h kN
 obtain ⟨f4, hf4, h⟩ := call2 h
 obtain ⟨I4, hI4⟩ : ∃ I : Nat → St → Prop, I = (fun m st => ∃ (p4 : List Int) (c4_11 : Int), m = List.length p4 ∧ 0 ≤ c4_11 ∧ List.drop (Int.toNat c4_11) x1_numbers = p4 ∧ st.df = [] ∧ 4 ≤ st.nx ∧ st.tm 0 = .lit (.int .i64 x0_least) ∧ st.tm 2 = .lit (.int .i64 x2_most) ∧ st.tm 9 = .sl (cellsL eI x1_numbers) (List.length x1_numbers) false ∧ st.tm 10 = .lit (.int .i64 (List.length x1_numbers : Int)) ∧ st.tm 11 = .lit (.int .i64 c4_11) ∧ K4 (f4 p4 c4_11)) := ⟨_, rfl⟩
 refine loopK mixed (by kernel_rfl) I4 (List.length x1_numbers) (by rw [hI4]; refine ⟨x1_numbers, 0, rfl, Int.le_refl _, rfl, rfl, (show 4 ≤ 4 by omega), ?_, ?_, ?_, ?_, ?_, h⟩ <;> first | (simp only [ua, nm, seval] <;> rfl) | rfl) ?_
 rintro m ⟨tm, H, nx4, df⟩ hinv
 rw [hI4] at hinv
 obtain ⟨p4, c4_11, rfl, hi4, hp4, hdf, hn4, e6, e7, e8, e9, e10, h⟩ := hinv
 simp only at hdf hn4 e6 e7 e8 e9 e10
 have n11 := zct (m := 4) (b := nx4) (by omega)
 subst hdf hf4
 cases p4 with
 | nil =>
  have d12 : (decide (c4_11 < (List.length x1_numbers : Int))) = false := zaw hi4 hp4
  simp only [zby, hs, reduceCtorEq] at h
  replace h := kG4 _ h
  try dsimp only at h
  try simp only [hs] at h
  try simp only [vz, tyf, g5, n11, e6, e7, e8, e9, e10, d12, nm, seval]
  obtain rfl := kF _ h
  exact zaj Tryz.results89 rfl
 | cons e4 p4 =>
  have d13 : (decide (c4_11 < (List.length x1_numbers : Int))) = true := zcj hi4 hp4
  have o15 := zba hi4 hp4
  have w14 := zdf hi4 hp4 g5
  simp only [zby, hs, reduceCtorEq] at h
  obtain ⟨r16, o17, h⟩ := optI h kN4
  try simp only [hs] at h
  simp only [vz, tyf, g5, n11, e6, e7, e8, e9, e10, d13, (ix29 o15), w14, nm, seval]
  refine ktA (zfc _ _ _ _ o17) ?_
  refine zaf (fun tm => tm 0 = .lit (.int .i64 x0_least) ∧ tm 2 = .lit (.int .i64 x2_most) ∧ tm 9 = .sl (cellsL eI x1_numbers) (List.length x1_numbers) false ∧ tm 10 = .lit (.int .i64 (List.length x1_numbers : Int)) ∧ tm 11 = .lit (.int .i64 c4_11) ∧ tm 18 = .lit (.bool r16) ∧ True) (by refine ⟨e6, e7, e8, e9, e10, ?_, trivial⟩ <;> first | (simp only [ua, n11, e6, e7, e8, e9, e10, d13, w14, nm, seval] <;> rfl) | rfl) ?_
  rintro tm ⟨e18, e19, e20, e21, e22, e23, _⟩
  cases d24 : (r16)
  ·simp only [d24, hs] at h
   try simp only [vz, tyf, g5, n11, d13, (ix29 o15), w14, e18, e19, e20, e21, e22, e23, d24, nm, seval]
   replace h := kR4 _ h
   try dsimp only at h
   obtain rfl := kF _ h
   exact zaj Tryz.results89 rfl
  simp only [d24, hs] at h
  simp only [vz, tyf, g5, n11, d13, (ix29 o15), w14, e18, e19, e20, e21, e22, e23, d24, nm, seval]
  exact ⟨List.length p4, Nat.lt_succ_self _, by rw [hI4]; refine ⟨p4, c4_11 + 1, rfl, Int.le_trans hi4 (Int.le_add_one (Int.le_refl _)), zbt hi4 hp4, rfl, (show 4 ≤ nx4 + 11 by omega), e18, e19, e20, e21, ?_, h⟩ <;> first | (simp only [ua, n11, d13, w14, e18, e19, e20, e21, e22, e23, d24, nm, seval] <;> rfl) | rfl⟩
def zdl (x0_least : Int) (x1_x : GSpan) (x2_most : Int) : Option (Bool) := cond (decide (x0_least ≤ x1_x.Low)) (cond (decide (x1_x.Low ≤ x1_x.High)) (some (decide (x1_x.High ≤ x2_most))) (some false)) (some false)
theorem zhb (x0_least : Int) (x1_x : GSpan) (x2_most : Int) (R : Bool) (h : zdl x0_least x1_x x2_most = some R) : VPure Tryz.prog G0 91 [.lit (.int .i64 x0_least), .agg (cGSpan x1_x), .lit (.int .i64 x2_most)] (.tree (.lit (.bool R))) := by
 refine VPure.runR mixed Tryz.call91 Tryz.func91 rfl (by simp [Tryz.ntmps91]; kernel_rfl) ?_
 obtain ⟨KF, h, kF, kN⟩ := zan h
 simp only [zdl] at h
 cases d1 : (decide (x0_least ≤ x1_x.Low))
 ·simp only [d1, hs] at h
  try simp only [vz, tyf, d1, nm, seval]
  obtain rfl := kF _ h
  exact zaj Tryz.results91 rfl
 simp only [d1, hs] at h
 cases d2 : (decide (x1_x.Low ≤ x1_x.High))
 ·simp only [d2, hs] at h
  try simp only [vz, tyf, d1, d2, nm, seval]
  obtain rfl := kF _ h
  exact zaj Tryz.results91 rfl
 simp only [d2, hs] at h
 try simp only [vz, tyf, d1, d2, nm, seval]
 obtain rfl := kF _ h
 exact zaj Tryz.results91 rfl
def zbs (x0_least : Int) (x2_most : Int) : List GSpan → Int → Option (LOut (Bool) (Unit))
 | [], c0_11 => some (.go ())
 | e0 :: p0, c0_11 => Option.bind (zdl x0_least e0 x2_most) (fun r1 => cond (r1) (zbs x0_least x2_most p0 (c0_11 + 1)) (some (.ret false)))
def zca (x0_least : Int) (x1_spans : List GSpan) (x2_most : Int) : Option (Bool) := cond (lenOk x1_spans) (lbind (zbs x0_least x2_most x1_spans 0) (fun r3 => some r3) (fun c2 => some true) (fun _ _ => none)) none
theorem zft (x0_least : Int) (x1_spans : List GSpan) (x2_most : Int) (R : Bool) (h : zca x0_least x1_spans x2_most = some R) : VPure Tryz.prog G0 90 [.lit (.int .i64 x0_least), .sl (cellsL cGSpan x1_spans) (List.length x1_spans) false, .lit (.int .i64 x2_most)] (.tree (.lit (.bool R))) := by
 refine VPure.runR mixed Tryz.call90 Tryz.func90 rfl (by simp [Tryz.ntmps90]; kernel_rfl) ?_
 obtain ⟨KF, h, kF, kN⟩ := zan h
 simp only [zca] at h
 cases g5 : (lenOk x1_spans)
 ·simp only [g5, hs] at h
  exact absurd h kN
 simp only [g5, hs] at h
 simp only [vz, tyf, g5, nm, seval]
 obtain ⟨K4, h, kR4, kG4, kB4, kN4⟩ := zax h kN
 obtain ⟨f4, hf4, h⟩ := call2 h
 obtain ⟨I4, hI4⟩ : ∃ I : Nat → St → Prop, I = (fun m st => ∃ (p4 : List GSpan) (c4_11 : Int), m = List.length p4 ∧ 0 ≤ c4_11 ∧ List.drop (Int.toNat c4_11) x1_spans = p4 ∧ st.df = [] ∧ 4 ≤ st.nx ∧ st.tm 0 = .lit (.int .i64 x0_least) ∧ st.tm 2 = .lit (.int .i64 x2_most) ∧ st.tm 9 = .sl (cellsL cGSpan x1_spans) (List.length x1_spans) false ∧ st.tm 10 = .lit (.int .i64 (List.length x1_spans : Int)) ∧ st.tm 11 = .lit (.int .i64 c4_11) ∧ K4 (f4 p4 c4_11)) := ⟨_, rfl⟩
 refine loopK mixed (by kernel_rfl) I4 (List.length x1_spans) (by rw [hI4]; refine ⟨x1_spans, 0, rfl, Int.le_refl _, rfl, rfl, (show 4 ≤ 4 by omega), ?_, ?_, ?_, ?_, ?_, h⟩ <;> first | (simp only [ua, nm, seval] <;> rfl) | rfl) ?_
 rintro m ⟨tm, H, nx4, df⟩ hinv
 rw [hI4] at hinv
 obtain ⟨p4, c4_11, rfl, hi4, hp4, hdf, hn4, e6, e7, e8, e9, e10, h⟩ := hinv
 simp only at hdf hn4 e6 e7 e8 e9 e10
 have n11 := zct (m := 4) (b := nx4) (by omega)
 subst hdf hf4
 cases p4 with
 | nil =>
  have d12 : (decide (c4_11 < (List.length x1_spans : Int))) = false := zaw hi4 hp4
  simp only [zbs, hs, reduceCtorEq] at h
  replace h := kG4 _ h
  try dsimp only at h
  try simp only [hs] at h
  try simp only [vz, tyf, g5, n11, e6, e7, e8, e9, e10, d12, nm, seval]
  obtain rfl := kF _ h
  exact zaj Tryz.results90 rfl
 | cons e4 p4 =>
  have d13 : (decide (c4_11 < (List.length x1_spans : Int))) = true := zcj hi4 hp4
  have o15 := zba hi4 hp4
  have w14 := zdf hi4 hp4 g5
  simp only [zbs, hs, reduceCtorEq] at h
  obtain ⟨r16, o17, h⟩ := optI h kN4
  try simp only [hs] at h
  simp only [vz, tyf, g5, n11, e6, e7, e8, e9, e10, d13, (ix121 o15), w14, nm, seval]
  refine ktA (zhb _ _ _ _ o17) ?_
  refine zaf (fun tm => tm 0 = .lit (.int .i64 x0_least) ∧ tm 2 = .lit (.int .i64 x2_most) ∧ tm 9 = .sl (cellsL cGSpan x1_spans) (List.length x1_spans) false ∧ tm 10 = .lit (.int .i64 (List.length x1_spans : Int)) ∧ tm 11 = .lit (.int .i64 c4_11) ∧ tm 18 = .lit (.bool r16) ∧ True) (by refine ⟨e6, e7, e8, e9, e10, ?_, trivial⟩ <;> first | (simp only [ua, n11, e6, e7, e8, e9, e10, d13, w14, nm, seval] <;> rfl) | rfl) ?_
  rintro tm ⟨e18, e19, e20, e21, e22, e23, _⟩
  cases d24 : (r16)
  ·simp only [d24, hs] at h
   try simp only [vz, tyf, g5, n11, d13, (ix121 o15), w14, e18, e19, e20, e21, e22, e23, d24, nm, seval]
   replace h := kR4 _ h
   try dsimp only at h
   obtain rfl := kF _ h
   exact zaj Tryz.results90 rfl
  simp only [d24, hs] at h
  simp only [vz, tyf, g5, n11, d13, (ix121 o15), w14, e18, e19, e20, e21, e22, e23, d24, nm, seval]
  exact ⟨List.length p4, Nat.lt_succ_self _, by rw [hI4]; refine ⟨p4, c4_11 + 1, rfl, Int.le_trans hi4 (Int.le_add_one (Int.le_refl _)), zbt hi4 hp4, rfl, (show 4 ≤ nx4 + 12 by omega), e18, e19, e20, e21, ?_, h⟩ <;> first | (simp only [ua, n11, d13, w14, e18, e19, e20, e21, e22, e23, d24, nm, seval] <;> rfl) | rfl⟩
def zcn  : List Gt → Int → Option (LOut (Bool) (Unit))
 | [], c0_11 => some (.go ())
 | e0 :: p0, c0_11 => Option.bind (zca 0 ([e0.pg.a0, e0.pg.a1, e0.pg.a2]) 99) (fun r2 => cond (r2) (zcn p0 (c0_11 + 1)) (some (.ret false)))
def zfn (x0_tins : List Gt) : Option (Bool) := Option.bind (zdn 1 (List.length x0_tins : Int) 4) (fun r1 => cond (r1) (cond (lenOk x0_tins) (lbind (zcn x0_tins 0) (fun r4 => some r4) (fun c3 => some true) (fun _ _ => none)) none) (some false))
theorem zlg (x0_tins : List Gt) (R : Bool) (h : zfn x0_tins = some R) : VPure Tryz.prog G0 93 [.sl (cellsL cGt x0_tins) (List.length x0_tins) false] (.tree (.lit (.bool R))) := by
 refine VPure.runR mixed Tryz.call93 Tryz.func93 rfl (by simp [Tryz.ntmps93]; kernel_rfl) ?_
 obtain ⟨KF, h, kF, kN⟩ := zan h
 simp only [zfn] at h
 obtain ⟨r5, o6, h⟩ := optI h kN
 try simp only [hs] at h
 simp only [vz, tyf, nm, seval]
 refine ktA (zfc _ _ _ _ o6) ?_
 refine zaf (fun tm => tm 0 = .sl (cellsL cGt x0_tins) (List.length x0_tins) false ∧ tm 7 = .lit (.bool r5) ∧ True) (by refine ⟨?_, ?_, trivial⟩ <;> first | (simp only [ua, nm, seval] <;> rfl) | rfl) ?_
 rintro tm ⟨e7, e8, _⟩
 cases d9 : (r5)
 ·simp only [d9, hs] at h
  try simp only [vz, tyf, e7, e8, d9, nm, seval]
  obtain rfl := kF _ h
  exact zaj Tryz.results93 rfl
 simp only [d9, hs] at h
 cases g11 : (lenOk x0_tins)
 ·simp only [g11, hs] at h
  exact absurd h kN
 simp only [g11, hs] at h
 simp only [vz, tyf, e7, e8, d9, g11, nm, seval]
 obtain ⟨K10, h, kR10, kG10, kB10, kN10⟩ := zax h kN
 obtain ⟨f10, hf10, h⟩ := call2 h
 obtain ⟨I10, hI10⟩ : ∃ I : Nat → St → Prop, I = (fun m st => ∃ (p10 : List Gt) (c10_11 : Int), m = List.length p10 ∧ 0 ≤ c10_11 ∧ List.drop (Int.toNat c10_11) x0_tins = p10 ∧ st.df = [] ∧ 8 ≤ st.nx ∧ st.tm 9 = .sl (cellsL cGt x0_tins) (List.length x0_tins) false ∧ st.tm 10 = .lit (.int .i64 (List.length x0_tins : Int)) ∧ st.tm 11 = .lit (.int .i64 c10_11) ∧ K10 (f10 p10 c10_11)) := ⟨_, rfl⟩
 refine loopK mixed (by kernel_rfl) I10 (List.length x0_tins) (by rw [hI10]; refine ⟨x0_tins, 0, rfl, Int.le_refl _, rfl, rfl, (show 8 ≤ 8 by omega), ?_, ?_, ?_, h⟩ <;> first | (simp only [ua, e7, e8, d9, nm, seval] <;> rfl) | rfl) ?_
 rintro m ⟨tm, H, nx10, df⟩ hinv
 rw [hI10] at hinv
 obtain ⟨p10, c10_11, rfl, hi10, hp10, hdf, hn10, e12, e13, e14, h⟩ := hinv
 simp only at hdf hn10 e12 e13 e14
 have n15 := zct (m := 8) (b := nx10) (by omega)
 subst hdf hf10
 cases p10 with
 | nil =>
  have d16 : (decide (c10_11 < (List.length x0_tins : Int))) = false := zaw hi10 hp10
  simp only [zcn, hs, reduceCtorEq] at h
  replace h := kG10 _ h
  try dsimp only at h
  try simp only [hs] at h
  try simp only [vz, tyf, d9, g11, n15, e12, e13, e14, d16, nm, seval]
  obtain rfl := kF _ h
  exact zaj Tryz.results93 rfl
 | cons e10 p10 =>
  have d17 : (decide (c10_11 < (List.length x0_tins : Int))) = true := zcj hi10 hp10
  have o19 := zba hi10 hp10
  have w18 := zdf hi10 hp10 g11
  simp only [zcn, hs, reduceCtorEq] at h
  try simp only [vz, tyf, d9, g11, n15, e12, e13, e14, d17, (ix26 o19), w18, nm, seval]
  refine k_slA (n := 3) (w := 2) (off := 0) (cs := cGt e10) (el := some 94) Tryz.underlying25 (by kernel_rfl) (by first | (simp only [zmm, zil, zadm, zem, d9, g11, n15, e12, e13, e14, d17, (ix26 o19), w18, nm, seval] <;> rfl) | rfl) (by first | rfl | assumption | (simp only [zaa, zaq, n15, nm, seval] <;> rfl)) (by decide) (Nat.le_of_ble_eq_true rfl) ?_
  obtain ⟨r20, o21, h⟩ := optI h kN10
  try simp only [hs] at h
  simp only [vz, tyf, d9, g11, n15, e12, e13, e14, d17, (ix26 o19), w18, nm, seval]
  refine kseen (args0 := [.lit (.int .i64 0), .sl (cellsL cGSpan ([e10.pg.a0, e10.pg.a1, e10.pg.a2])) (List.length ([e10.pg.a0, e10.pg.a1, e10.pg.a2])) false, .lit (.int .i64 99)]) (by simp only [List.map_cons, List.map_nil, List.drop_succ_cons, List.drop_zero, List.take_succ_cons, List.take_zero, List.length_cons, List.length_nil, zah, zaa, zaq, cr, tyf, nrm, tynrm, d9, g11, n15, e12, e13, e14, d17, (ix26 o19), w18, nm, seval] <;> rfl) (by simp only [List.map_cons, List.map_nil, List.drop_succ_cons, List.drop_zero, List.take_succ_cons, List.take_zero, List.length_cons, List.length_nil, zah, zaa, zaq, cr, tyf, nrm, tynrm, d9, g11, n15, e12, e13, e14, d17, (ix26 o19), w18, nm, seval]; simp only [tre, tytre, Bool.and_self]) (zft _ _ _ _ o21) (by first | rfl | simp only [VV.flat, flatL, Bool.and_self]) ?_
  refine zaf (fun tm => tm 9 = .sl (cellsL cGt x0_tins) (List.length x0_tins) false ∧ tm 10 = .lit (.int .i64 (List.length x0_tins : Int)) ∧ tm 11 = .lit (.int .i64 c10_11) ∧ tm 17 = .lit (.bool r20) ∧ True) (by refine ⟨e12, e13, e14, ?_, trivial⟩ <;> first | (simp only [ua, d9, n15, e12, e13, e14, d17, w18, nm, seval] <;> rfl) | rfl) ?_
  rintro tm ⟨e22, e23, e24, e25, _⟩
  cases d26 : (r20)
  ·simp only [d26, hs] at h
   try simp only [vz, tyf, d9, g11, n15, d17, (ix26 o19), w18, e22, e23, e24, e25, d26, nm, seval]
   replace h := kR10 _ h
   try dsimp only at h
   obtain rfl := kF _ h
   exact zaj Tryz.results93 rfl
  simp only [d26, hs] at h
  simp only [vz, tyf, d9, g11, n15, d17, (ix26 o19), w18, e22, e23, e24, e25, d26, nm, seval]
  exact ⟨List.length p10, Nat.lt_succ_self _, by rw [hI10]; refine ⟨p10, c10_11 + 1, rfl, Int.le_trans hi10 (Int.le_add_one (Int.le_refl _)), zbt hi10 hp10, rfl, (show 8 ≤ nx10 + 11 by omega), e22, e23, ?_, h⟩ <;> first | (simp only [ua, d9, n15, d17, w18, e22, e23, e24, e25, d26, nm, seval] <;> rfl) | rfl⟩
def zbb (x0_s : Gs) : Option (Bool) := Option.bind (zdw 0 ([x0_s.Old.a0, x0_s.Old.a1, x0_s.Old.a2]) 99) (fun r1 => cond (r1) (Option.bind (zca 0 ([x0_s.Fade.a0, x0_s.Fade.a1, x0_s.Fade.a2]) 9) (fun r2 => cond (r2) (Option.bind (zdl 0 x0_s.Years 20) (fun r3 => cond (r3) (Option.bind (zdn 1 x0_s.Off 20) (fun r4 => cond (r4) (Option.bind (zfn x0_s.Tins) (fun r5 => some r5)) (some false))) (some false))) (some false))) (some false))
theorem zdk (x0_s : Gs) (R : Bool) (h : zbb x0_s = some R) : VPure Tryz.prog G0 60 [.agg (cGs x0_s)] (.tree (.lit (.bool R))) := by
 refine VPure.runR mixed Tryz.call60 Tryz.func60 rfl (by simp [Tryz.ntmps60]; kernel_rfl) ?_
 obtain ⟨KF, h, kF, kN⟩ := zan h
 simp only [zbb] at h
 try simp only [vz, tyf, nm, seval]
 refine k_slA (n := 3) (w := 1) (off := 0) (cs := cGs x0_s) (el := some 28) Tryz.underlying22 (by kernel_rfl) (by first | (simp only [zmm, zil, zadm, zem, nm, seval] <;> rfl) | rfl) (by first | rfl | assumption | (simp only [zaa, zaq, nm, seval] <;> rfl)) (by decide) (Nat.le_of_ble_eq_true rfl) ?_
 obtain ⟨r6, o7, h⟩ := optI h kN
 try simp only [hs] at h
 simp only [vz, tyf, nm, seval]
 refine kseen (args0 := [.lit (.int .i64 0), .sl (cellsL eI ([x0_s.Old.a0, x0_s.Old.a1, x0_s.Old.a2])) (List.length ([x0_s.Old.a0, x0_s.Old.a1, x0_s.Old.a2])) false, .lit (.int .i64 99)]) (by simp only [List.map_cons, List.map_nil, List.drop_succ_cons, List.drop_zero, List.take_succ_cons, List.take_zero, List.length_cons, List.length_nil, zah, zaa, zaq, cr, tyf, nrm, tynrm, nm, seval] <;> rfl) (by simp only [List.map_cons, List.map_nil, List.drop_succ_cons, List.drop_zero, List.take_succ_cons, List.take_zero, List.length_cons, List.length_nil, zah, zaa, zaq, cr, tyf, nrm, tynrm, nm, seval]; simp only [tre, tytre, Bool.and_self]) (zjr _ _ _ _ o7) (by first | rfl | simp only [VV.flat, flatL, Bool.and_self]) ?_
 refine zaf (fun tm => tm 1 = .ptr 0 0 ∧ tm 5 = .lit (.bool r6) ∧ True) (by refine ⟨?_, ?_, trivial⟩ <;> first | (simp only [ua, nm, seval] <;> rfl) | rfl) ?_
 rintro tm ⟨e8, e9, _⟩
 cases d10 : (r6)
 ·simp only [d10, hs] at h
  try simp only [vz, tyf, e8, e9, d10, nm, seval]
  obtain rfl := kF _ h
  exact zaj Tryz.results60 rfl
 simp only [d10, hs] at h
 try simp only [vz, tyf, e8, e9, d10, nm, seval]
 refine k_slA (n := 3) (w := 2) (off := 3) (cs := cGs x0_s) (el := some 28) Tryz.underlying25 (by kernel_rfl) (by first | (simp only [zmm, zil, zadm, zem, e8, e9, d10, nm, seval] <;> rfl) | rfl) (by first | rfl | assumption | (simp only [zaa, zaq, nm, seval] <;> rfl)) (by decide) (Nat.le_of_ble_eq_true rfl) ?_
 obtain ⟨r11, o12, h⟩ := optI h kN
 try simp only [hs] at h
 simp only [vz, tyf, e8, e9, d10, nm, seval]
 refine kseen (args0 := [.lit (.int .i64 0), .sl (cellsL cGSpan ([x0_s.Fade.a0, x0_s.Fade.a1, x0_s.Fade.a2])) (List.length ([x0_s.Fade.a0, x0_s.Fade.a1, x0_s.Fade.a2])) false, .lit (.int .i64 9)]) (by simp only [List.map_cons, List.map_nil, List.drop_succ_cons, List.drop_zero, List.take_succ_cons, List.take_zero, List.length_cons, List.length_nil, zah, zaa, zaq, cr, tyf, nrm, tynrm, e8, e9, d10, nm, seval] <;> rfl) (by simp only [List.map_cons, List.map_nil, List.drop_succ_cons, List.drop_zero, List.take_succ_cons, List.take_zero, List.length_cons, List.length_nil, zah, zaa, zaq, cr, tyf, nrm, tynrm, e8, e9, d10, nm, seval]; simp only [tre, tytre, Bool.and_self]) (zft _ _ _ _ o12) (by first | rfl | simp only [VV.flat, flatL, Bool.and_self]) ?_
 refine zaf (fun tm => tm 1 = .ptr 0 0 ∧ tm 6 = .lit (.bool true) ∧ tm 9 = .lit (.bool r11) ∧ True) (by refine ⟨e8, ?_, ?_, trivial⟩ <;> first | (simp only [ua, e8, e9, d10, nm, seval] <;> rfl) | rfl) ?_
 rintro tm ⟨e13, e14, e15, _⟩
 cases d16 : (r11)
 ·simp only [d16, hs] at h
  try simp only [vz, tyf, d10, e13, e14, e15, d16, nm, seval]
  obtain rfl := kF _ h
  exact zaj Tryz.results60 rfl
 simp only [d16, hs] at h
 obtain ⟨r17, o18, h⟩ := optI h kN
 try simp only [hs] at h
 simp only [vz, tyf, d10, e13, e14, e15, d16, nm, seval]
 refine ktA (zhb _ _ _ _ o18) ?_
 refine zaf (fun tm => tm 1 = .ptr 0 0 ∧ tm 11 = .lit (.bool true) ∧ tm 14 = .lit (.bool r17) ∧ True) (by refine ⟨e13, ?_, ?_, trivial⟩ <;> first | (simp only [ua, d10, e13, e14, e15, d16, nm, seval] <;> rfl) | rfl) ?_
 rintro tm ⟨e19, e20, e21, _⟩
 cases d22 : (r17)
 ·simp only [d22, hs] at h
  try simp only [vz, tyf, d10, d16, e19, e20, e21, d22, nm, seval]
  obtain rfl := kF _ h
  exact zaj Tryz.results60 rfl
 simp only [d22, hs] at h
 obtain ⟨r23, o24, h⟩ := optI h kN
 try simp only [hs] at h
 simp only [vz, tyf, d10, d16, e19, e20, e21, d22, nm, seval]
 refine ktA (zfc _ _ _ _ o24) ?_
 refine zaf (fun tm => tm 1 = .ptr 0 0 ∧ tm 16 = .lit (.bool true) ∧ tm 19 = .lit (.bool r23) ∧ True) (by refine ⟨e19, ?_, ?_, trivial⟩ <;> first | (simp only [ua, d10, d16, e19, e20, e21, d22, nm, seval] <;> rfl) | rfl) ?_
 rintro tm ⟨e25, e26, e27, _⟩
 cases d28 : (r23)
 ·simp only [d28, hs] at h
  try simp only [vz, tyf, d10, d16, d22, e25, e26, e27, d28, nm, seval]
  obtain rfl := kF _ h
  exact zaj Tryz.results60 rfl
 simp only [d28, hs] at h
 obtain ⟨r29, o30, h⟩ := optI h kN
 try simp only [hs] at h
 simp only [vz, tyf, d10, d16, d22, e25, e26, e27, d28, nm, seval]
 refine ktA (zlg _ _ o30) ?_
 refine zaf (fun tm => tm 21 = .lit (.bool true) ∧ tm 24 = .lit (.bool r29) ∧ True) (by refine ⟨?_, ?_, trivial⟩ <;> first | (simp only [ua, d10, d16, d22, e25, e26, e27, d28, nm, seval] <;> rfl) | rfl) ?_
 rintro tm ⟨e31, e32, _⟩
 try simp only [vz, tyf, d10, d16, d22, d28, e31, e32, nm, seval]
 obtain rfl := kF _ h
 exact zaj Tryz.results60 rfl
def ziy  : List Int → Int → Int → Option (LOut (Int) (Int))
 | [], c0_8, c0_3 => some (.go c0_3)
 | e0 :: p0, c0_8, c0_3 => ziy p0 (c0_8 + 1) (IntKind.i64.wrap (c0_3 + e0))
def zpo (x0_numbers : List Int) : Option (Int) := cond (lenOk x0_numbers) (lbind (ziy x0_numbers 0 0) (fun r2 => some r2) (fun c1 => some c1) (fun _ _ => none)) none
theorem zoe (x0_numbers : List Int) (R : Int) (h : zpo x0_numbers = some R) : VPure Tryz.prog G0 95 [.sl (cellsL eI x0_numbers) (List.length x0_numbers) false] (.tree (.lit (.int .i64 R))) := by
 refine VPure.runR mixed Tryz.call95 Tryz.func95 rfl (by simp [Tryz.ntmps95]; kernel_rfl) ?_
 obtain ⟨KF, h, kF, kN⟩ := zan h
 simp only [zpo] at h
 cases g4 : (lenOk x0_numbers)
 ·simp only [g4, hs] at h
  exact absurd h kN
 simp only [g4, hs] at h
 simp only [vz, tyf, g4, nm, seval]
 obtain ⟨K3, h, kR3, kG3, kB3, kN3⟩ := zax h kN
 obtain ⟨f3, hf3, h⟩ := call3 h
 obtain ⟨I3, hI3⟩ : ∃ I : Nat → St → Prop, I = (fun m st => ∃ (p3 : List Int) (c3_8 : Int) (c3_3 : Int), m = List.length p3 ∧ 0 ≤ c3_8 ∧ List.drop (Int.toNat c3_8) x0_numbers = p3 ∧ st.df = [] ∧ 5 ≤ st.nx ∧ st.tm 6 = .sl (cellsL eI x0_numbers) (List.length x0_numbers) false ∧ st.tm 7 = .lit (.int .i64 (List.length x0_numbers : Int)) ∧ st.tm 3 = .lit (.int .i64 c3_3) ∧ st.tm 8 = .lit (.int .i64 c3_8) ∧ K3 (f3 p3 c3_8 c3_3)) := ⟨_, rfl⟩
 refine loopK mixed (by kernel_rfl) I3 (List.length x0_numbers) (by rw [hI3]; refine ⟨x0_numbers, 0, 0, rfl, Int.le_refl _, rfl, rfl, (show 5 ≤ 5 by omega), ?_, ?_, ?_, ?_, h⟩ <;> first | (simp only [ua, nm, seval] <;> rfl) | rfl) ?_
 rintro m ⟨tm, H, nx3, df⟩ hinv
 rw [hI3] at hinv
 obtain ⟨p3, c3_8, c3_3, rfl, hi3, hp3, hdf, hn3, e5, e6, e7, e8, h⟩ := hinv
 simp only at hdf hn3 e5 e6 e7 e8
 have n9 := zct (m := 5) (b := nx3) (by omega)
 subst hdf hf3
 cases p3 with
 | nil =>
  have d10 : (decide (c3_8 < (List.length x0_numbers : Int))) = false := zaw hi3 hp3
  simp only [ziy, hs, reduceCtorEq] at h
  replace h := kG3 _ h
  try dsimp only at h
  try simp only [hs] at h
  try simp only [vz, tyf, g4, n9, e5, e6, e7, e8, d10, nm, seval]
  refine zap (x := (.lit (.int .i64 c3_3))) (by first | (simp only [Tryz.results95, resV, resL, resV1, zat, zbq, uw, cr, tyf, g4, n9, d10, nm, seval] <;> rfl) | rfl) ?_
  obtain rfl := kF _ h
  refine zas ?_ ?_
  ·simp only [tre, tytre, Bool.and_self]
  ·first | (simp only [outV, uw, zah, cr, tyf, nrm, tynrm, g4, n9, e5, e6, e7, e8, d10, nm, seval] <;> rfl) | rfl
 | cons e3 p3 =>
  have d11 : (decide (c3_8 < (List.length x0_numbers : Int))) = true := zcj hi3 hp3
  have o13 := zba hi3 hp3
  have w12 := zdf hi3 hp3 g4
  simp only [ziy, hs, reduceCtorEq] at h
  simp only [vz, tyf, g4, n9, e5, e6, e7, e8, d11, (ix29 o13), w12, nm, seval]
  exact ⟨List.length p3, Nat.lt_succ_self _, by rw [hI3]; refine ⟨p3, c3_8 + 1, IntKind.i64.wrap (c3_3 + e3), rfl, Int.le_trans hi3 (Int.le_add_one (Int.le_refl _)), zbt hi3 hp3, rfl, (show 5 ≤ nx3 + 10 by omega), e5, e6, ?_, ?_, h⟩ <;> first | (simp only [ua, n9, e5, e6, e7, e8, d11, w12, nm, seval] <;> rfl) | rfl⟩



def zbm (x0_x : Gm) (xpg : Int) : List Int → Int → Int → Option (LOut (Int) (Int))
 | [], c0_11, c0_5 => some (.go c0_5)
 | e0 :: p0, c0_11, c0_5 => Option.bind (getI x0_x.sh.Tins c0_11) (fun x1 => cond (xpg == 0) (zbm x0_x xpg p0 (c0_11 + 1) (IntKind.i64.wrap (c0_5 + (IntKind.i64.wrap (e0 * x1.pg.a0.Low))))) (cond (xpg == 1) (zbm x0_x xpg p0 (c0_11 + 1) (IntKind.i64.wrap (c0_5 + (IntKind.i64.wrap (e0 * x1.pg.a1.Low))))) (cond (xpg == 2) (zbm x0_x xpg p0 (c0_11 + 1) (IntKind.i64.wrap (c0_5 + (IntKind.i64.wrap (e0 * x1.pg.a2.Low))))) (none))))
def zdb (x0_x : Gm) (xpg : Int) : Option (Int) := cond (lenOk x0_x.mix) (lbind (zbm x0_x xpg x0_x.mix 0 0) (fun r3 => some r3) (fun c2 => some c2) (fun _ _ => none)) none
theorem zeg (x0_x : Gm) (xpg : Int) (R : Int) (h : zdb x0_x xpg = some R) : VPure Tryz.prog G0 96 [.agg (cGm x0_x), .lit (.int .i64 xpg)] (.tree (.lit (.int .i64 R))) := by
 refine VPure.runR mixed Tryz.call96 Tryz.func96 rfl (by simp [Tryz.ntmps96]; kernel_rfl) ?_
 obtain ⟨KF, h, kF, kN⟩ := zan h
 simp only [zdb] at h
 cases g5 : (lenOk x0_x.mix)
 ·simp only [g5, hs] at h
  exact absurd h kN
 simp only [g5, hs] at h
 simp only [vz, tyf, g5, nm, seval]
 obtain ⟨K4, h, kR4, kG4, kB4, kN4⟩ := zax h kN
 obtain ⟨f4, hf4, h⟩ := call3 h
 obtain ⟨I4, hI4⟩ : ∃ I : Nat → St → Prop, I = (fun m st => ∃ (p4 : List Int) (c4_11 : Int) (c4_5 : Int), m = List.length p4 ∧ 0 ≤ c4_11 ∧ List.drop (Int.toNat c4_11) x0_x.mix = p4 ∧ st.df = [] ∧ 7 ≤ st.nx ∧ st.H 0 = some (.cells (some 89) (cGm x0_x)) ∧ st.tm 1 = .lit (.int .i64 xpg) ∧ st.tm 2 = .ptr 0 0 ∧ st.tm 9 = .sl (cellsL eI x0_x.mix) (List.length x0_x.mix) false ∧ st.tm 10 = .lit (.int .i64 (List.length x0_x.mix : Int)) ∧ st.tm 5 = .lit (.int .i64 c4_5) ∧ st.tm 11 = .lit (.int .i64 c4_11) ∧ K4 (f4 p4 c4_11 c4_5)) := ⟨_, rfl⟩
 refine loopK mixed (by kernel_rfl) I4 (List.length x0_x.mix) (by rw [hI4]; refine ⟨x0_x.mix, 0, 0, rfl, Int.le_refl _, rfl, rfl, (show 7 ≤ 7 by omega), ?_, ?_, ?_, ?_, ?_, ?_, ?_, h⟩ <;> first | (simp only [ua, nm, seval] <;> rfl) | rfl) ?_
 rintro m ⟨tm, H, nx4, df⟩ hinv
 rw [hI4] at hinv
 obtain ⟨p4, c4_11, c4_5, rfl, hi4, hp4, hdf, hn4, H6, e7, e8, e9, e10, e11, e12, h⟩ := hinv
 simp only at hdf hn4 H6 e7 e8 e9 e10 e11 e12
 have n13 := zct (m := 7) (b := nx4) (by omega)
 subst hdf hf4
 cases p4 with
 | nil =>
  have d14 : (decide (c4_11 < (List.length x0_x.mix : Int))) = false := zaw hi4 hp4
  simp only [zbm, hs, reduceCtorEq] at h
  replace h := kG4 _ h
  try dsimp only at h
  try simp only [hs] at h
  try simp only [vz, tyf, g5, n13, e7, e8, e9, e10, e11, e12, H6, d14, nm, seval]
  refine zap (x := (.lit (.int .i64 c4_5))) (by first | (simp only [Tryz.results96, resV, resL, resV1, zat, zbq, uw, cr, tyf, g5, n13, H6, d14, nm, seval] <;> rfl) | rfl) ?_
  obtain rfl := kF _ h
  refine zas ?_ ?_
  ·simp only [tre, tytre, Bool.and_self]
  ·first | (simp only [outV, uw, zah, cr, tyf, nrm, tynrm, g5, n13, e7, e8, e9, e10, e11, e12, H6, d14, nm, seval] <;> rfl) | rfl
 | cons e4 p4 =>
  have d15 : (decide (c4_11 < (List.length x0_x.mix : Int))) = true := zcj hi4 hp4
  have o17 := zba hi4 hp4
  have w16 := zdf hi4 hp4 g5
  simp only [zbm, hs, reduceCtorEq] at h
  obtain ⟨x18, o19, h⟩ := optI h kN4
  try simp only [hs] at h
  cases d20 : (xpg == 0)
  ·simp only [d20, hs] at h
   cases d21 : (xpg == 1)
   ·simp only [d21, hs] at h
    have b22 := And.intro g5 (And.intro n13 (And.intro H6 (And.intro d15 (And.intro w16 (And.intro d20 d21)))))
    cases d23 : (xpg == 2)
    ·simp only [d23, hs] at h
     exact absurd h kN4
    simp only [d23, hs] at h
    simp only [vz, tyf, b22, e7, e8, e9, e10, e11, e12, (ix29 o17), (ix26 o19), d23, (zyt d23), nm, seval]
    exact ⟨List.length p4, Nat.lt_succ_self _, by rw [hI4]; refine ⟨p4, c4_11 + 1, IntKind.i64.wrap (c4_5 + (IntKind.i64.wrap (e4 * x18.pg.a2.Low))), rfl, Int.le_trans hi4 (Int.le_add_one (Int.le_refl _)), zbt hi4 hp4, rfl, (show 7 ≤ nx4 + 23 by omega), ?_, e7, e8, e9, e10, ?_, ?_, h⟩ <;> first | (simp only [ua, b22, e7, e8, e9, e10, e11, e12, d23, nm, seval] <;> rfl) | rfl⟩
   simp only [d21, hs] at h
   have b24 := And.intro g5 (And.intro n13 (And.intro H6 (And.intro d15 (And.intro w16 (And.intro d20 d21)))))
   simp only [vz, tyf, b24, e7, e8, e9, e10, e11, e12, (ix29 o17), (ix26 o19), (zaag d21), nm, seval]
   exact ⟨List.length p4, Nat.lt_succ_self _, by rw [hI4]; refine ⟨p4, c4_11 + 1, IntKind.i64.wrap (c4_5 + (IntKind.i64.wrap (e4 * x18.pg.a1.Low))), rfl, Int.le_trans hi4 (Int.le_add_one (Int.le_refl _)), zbt hi4 hp4, rfl, (show 7 ≤ nx4 + 23 by omega), ?_, e7, e8, e9, e10, ?_, ?_, h⟩ <;> first | (simp only [ua, b24, e7, e8, e9, e10, e11, e12, nm, seval] <;> rfl) | rfl⟩
  simp only [d20, hs] at h
  simp only [vz, tyf, g5, n13, e7, e8, e9, e10, e11, e12, H6, d15, (ix29 o17), w16, (ix26 o19), d20, (zyn d20), nm, seval]
  exact ⟨List.length p4, Nat.lt_succ_self _, by rw [hI4]; refine ⟨p4, c4_11 + 1, IntKind.i64.wrap (c4_5 + (IntKind.i64.wrap (e4 * x18.pg.a0.Low))), rfl, Int.le_trans hi4 (Int.le_add_one (Int.le_refl _)), zbt hi4 hp4, rfl, (show 7 ≤ nx4 + 23 by omega), ?_, e7, e8, e9, e10, ?_, ?_, h⟩ <;> first | (simp only [ua, n13, e7, e8, e9, e10, e11, e12, H6, d15, w16, d20, nm, seval] <;> rfl) | rfl⟩
def zbc (x0_x : Gm) (xpg : Int) : List Int → Int → Int → Option (LOut (Int) (Int))
 | [], c0_11, c0_5 => some (.go c0_5)
 | e0 :: p0, c0_11, c0_5 => Option.bind (getI x0_x.sh.Tins c0_11) (fun x1 => cond (xpg == 0) (zbc x0_x xpg p0 (c0_11 + 1) (IntKind.i64.wrap (c0_5 + (IntKind.i64.wrap (e0 * x1.pg.a0.High))))) (cond (xpg == 1) (zbc x0_x xpg p0 (c0_11 + 1) (IntKind.i64.wrap (c0_5 + (IntKind.i64.wrap (e0 * x1.pg.a1.High))))) (cond (xpg == 2) (zbc x0_x xpg p0 (c0_11 + 1) (IntKind.i64.wrap (c0_5 + (IntKind.i64.wrap (e0 * x1.pg.a2.High))))) (none))))
def zcc (x0_x : Gm) (xpg : Int) : Option (Int) := cond (lenOk x0_x.mix) (lbind (zbc x0_x xpg x0_x.mix 0 0) (fun r3 => some r3) (fun c2 => some c2) (fun _ _ => none)) none
theorem zdh (x0_x : Gm) (xpg : Int) (R : Int) (h : zcc x0_x xpg = some R) : VPure Tryz.prog G0 97 [.agg (cGm x0_x), .lit (.int .i64 xpg)] (.tree (.lit (.int .i64 R))) := by
 refine VPure.runR mixed Tryz.call97 Tryz.func97 rfl (by simp [Tryz.ntmps97]; kernel_rfl) ?_
 obtain ⟨KF, h, kF, kN⟩ := zan h
 simp only [zcc] at h
 cases g5 : (lenOk x0_x.mix)
 ·simp only [g5, hs] at h
  exact absurd h kN
 simp only [g5, hs] at h
 simp only [vz, tyf, g5, nm, seval]
 obtain ⟨K4, h, kR4, kG4, kB4, kN4⟩ := zax h kN
 obtain ⟨f4, hf4, h⟩ := call3 h
 obtain ⟨I4, hI4⟩ : ∃ I : Nat → St → Prop, I = (fun m st => ∃ (p4 : List Int) (c4_11 : Int) (c4_5 : Int), m = List.length p4 ∧ 0 ≤ c4_11 ∧ List.drop (Int.toNat c4_11) x0_x.mix = p4 ∧ st.df = [] ∧ 7 ≤ st.nx ∧ st.H 0 = some (.cells (some 89) (cGm x0_x)) ∧ st.tm 1 = .lit (.int .i64 xpg) ∧ st.tm 2 = .ptr 0 0 ∧ st.tm 9 = .sl (cellsL eI x0_x.mix) (List.length x0_x.mix) false ∧ st.tm 10 = .lit (.int .i64 (List.length x0_x.mix : Int)) ∧ st.tm 5 = .lit (.int .i64 c4_5) ∧ st.tm 11 = .lit (.int .i64 c4_11) ∧ K4 (f4 p4 c4_11 c4_5)) := ⟨_, rfl⟩
 refine loopK mixed (by kernel_rfl) I4 (List.length x0_x.mix) (by rw [hI4]; refine ⟨x0_x.mix, 0, 0, rfl, Int.le_refl _, rfl, rfl, (show 7 ≤ 7 by omega), ?_, ?_, ?_, ?_, ?_, ?_, ?_, h⟩ <;> first | (simp only [ua, nm, seval] <;> rfl) | rfl) ?_
 rintro m ⟨tm, H, nx4, df⟩ hinv
 rw [hI4] at hinv
 obtain ⟨p4, c4_11, c4_5, rfl, hi4, hp4, hdf, hn4, H6, e7, e8, e9, e10, e11, e12, h⟩ := hinv
 simp only at hdf hn4 H6 e7 e8 e9 e10 e11 e12
 have n13 := zct (m := 7) (b := nx4) (by omega)
 subst hdf hf4
 cases p4 with
 | nil =>
  have d14 : (decide (c4_11 < (List.length x0_x.mix : Int))) = false := zaw hi4 hp4
  simp only [zbc, hs, reduceCtorEq] at h
  replace h := kG4 _ h
  try dsimp only at h
  try simp only [hs] at h
  try simp only [vz, tyf, g5, n13, e7, e8, e9, e10, e11, e12, H6, d14, nm, seval]
  refine zap (x := (.lit (.int .i64 c4_5))) (by first | (simp only [Tryz.results97, resV, resL, resV1, zat, zbq, uw, cr, tyf, g5, n13, H6, d14, nm, seval] <;> rfl) | rfl) ?_
  obtain rfl := kF _ h
  refine zas ?_ ?_
  ·simp only [tre, tytre, Bool.and_self]
  ·first | (simp only [outV, uw, zah, cr, tyf, nrm, tynrm, g5, n13, e7, e8, e9, e10, e11, e12, H6, d14, nm, seval] <;> rfl) | rfl
 | cons e4 p4 =>
  have d15 : (decide (c4_11 < (List.length x0_x.mix : Int))) = true := zcj hi4 hp4
  have o17 := zba hi4 hp4
  have w16 := zdf hi4 hp4 g5
  simp only [zbc, hs, reduceCtorEq] at h
  obtain ⟨x18, o19, h⟩ := optI h kN4
  try simp only [hs] at h
  cases d20 : (xpg == 0)
  ·simp only [d20, hs] at h
   cases d21 : (xpg == 1)
   ·simp only [d21, hs] at h
    have b22 := And.intro g5 (And.intro n13 (And.intro H6 (And.intro d15 (And.intro w16 (And.intro d20 d21)))))
    cases d23 : (xpg == 2)
    ·simp only [d23, hs] at h
     exact absurd h kN4
    simp only [d23, hs] at h
    simp only [vz, tyf, b22, e7, e8, e9, e10, e11, e12, (ix29 o17), (ix26 o19), d23, (zyt d23), nm, seval]
    exact ⟨List.length p4, Nat.lt_succ_self _, by rw [hI4]; refine ⟨p4, c4_11 + 1, IntKind.i64.wrap (c4_5 + (IntKind.i64.wrap (e4 * x18.pg.a2.High))), rfl, Int.le_trans hi4 (Int.le_add_one (Int.le_refl _)), zbt hi4 hp4, rfl, (show 7 ≤ nx4 + 23 by omega), ?_, e7, e8, e9, e10, ?_, ?_, h⟩ <;> first | (simp only [ua, b22, e7, e8, e9, e10, e11, e12, d23, nm, seval] <;> rfl) | rfl⟩
   simp only [d21, hs] at h
   have b24 := And.intro g5 (And.intro n13 (And.intro H6 (And.intro d15 (And.intro w16 (And.intro d20 d21)))))
   simp only [vz, tyf, b24, e7, e8, e9, e10, e11, e12, (ix29 o17), (ix26 o19), (zaag d21), nm, seval]
   exact ⟨List.length p4, Nat.lt_succ_self _, by rw [hI4]; refine ⟨p4, c4_11 + 1, IntKind.i64.wrap (c4_5 + (IntKind.i64.wrap (e4 * x18.pg.a1.High))), rfl, Int.le_trans hi4 (Int.le_add_one (Int.le_refl _)), zbt hi4 hp4, rfl, (show 7 ≤ nx4 + 23 by omega), ?_, e7, e8, e9, e10, ?_, ?_, h⟩ <;> first | (simp only [ua, b24, e7, e8, e9, e10, e11, e12, nm, seval] <;> rfl) | rfl⟩
  simp only [d20, hs] at h
  simp only [vz, tyf, g5, n13, e7, e8, e9, e10, e11, e12, H6, d15, (ix29 o17), w16, (ix26 o19), d20, (zyn d20), nm, seval]
  exact ⟨List.length p4, Nat.lt_succ_self _, by rw [hI4]; refine ⟨p4, c4_11 + 1, IntKind.i64.wrap (c4_5 + (IntKind.i64.wrap (e4 * x18.pg.a0.High))), rfl, Int.le_trans hi4 (Int.le_add_one (Int.le_refl _)), zbt hi4 hp4, rfl, (show 7 ≤ nx4 + 23 by omega), ?_, e7, e8, e9, e10, ?_, ?_, h⟩ <;> first | (simp only [ua, n13, e7, e8, e9, e10, e11, e12, H6, d15, w16, d20, nm, seval] <;> rfl) | rfl⟩
def zfk (x0_x : Gm) : Option (Ga) := Option.bind (zdb x0_x 0) (fun r1 => Option.bind (zcc x0_x 0) (fun r2 => Option.bind (zdb x0_x 1) (fun r3 => Option.bind (zcc x0_x 1) (fun r4 => Option.bind (zdb x0_x 2) (fun r5 => Option.bind (zcc x0_x 2) (fun r6 => some (Ga.mk (GSpan.mk r1 r2) (GSpan.mk r3 r4) (GSpan.mk r5 r6))))))))
theorem zji (x0_x : Gm) (R : Ga) (h : zfk x0_x = some R) : VPure Tryz.prog G0 63 [.agg (cGm x0_x)] (.tree (.agg (cGa R))) := by
 refine VPure.runR mixed Tryz.call63 Tryz.func63 rfl (by simp [Tryz.ntmps63]; kernel_rfl) ?_
 obtain ⟨KF, h, kF, kN⟩ := zan h
 simp only [zfk] at h
 simp only [vz, tyf, nm, seval]
 refine zgq mixed (by kernel_rfl) 4 ?_
 simp only [vz, tyf, nm, seval]
 refine zea (fun tm => tm 2 = .ptr 1 0 ∧ tm 3 = .ptr 7 0 ∧ tm 4 = .ptr 9 0 ∧ tm 5 = .lit (.int .i64 0) ∧ tm 11 = .lit (.int .i64 0) ∧ True) (by refine ⟨?_, ?_, ?_, ?_, ?_, trivial⟩ <;> first | (simp only [ua, nm, seval] <;> rfl) | rfl) ?_
 rintro tm ⟨e7, e8, e9, e10, e11, _⟩
 obtain ⟨r12, o13, h⟩ := optI h kN
 try simp only [hs] at h
 simp only [vz, tyf, e7, e8, e9, e10, e11, nm, seval]
 refine dktA (zeg _ _ _ o13) ?_
 refine zaf (fun tm => tm 2 = .ptr 1 0 ∧ tm 3 = .ptr 7 0 ∧ tm 4 = .ptr 9 0 ∧ tm 5 = .lit (.int .i64 0) ∧ tm 11 = .lit (.int .i64 0) ∧ tm 14 = .lit (.int .i64 0) ∧ tm 18 = .lit (.int .i64 r12) ∧ True) (by refine ⟨e7, e8, e9, e10, e11, ?_, ?_, trivial⟩ <;> first | (simp only [ua, e7, e8, e9, e10, e11, nm, seval] <;> rfl) | rfl) ?_
 rintro tm ⟨e14, e15, e16, e17, e18, e19, e20, _⟩
 obtain ⟨r21, o22, h⟩ := optI h kN
 try simp only [hs] at h
 simp only [vz, tyf, e14, e15, e16, e17, e18, e19, e20, nm, seval]
 refine dktA (zdh _ _ _ o22) ?_
 refine zaf (fun tm => tm 2 = .ptr 1 0 ∧ tm 3 = .ptr 7 0 ∧ tm 4 = .ptr 9 0 ∧ tm 11 = .lit (.int .i64 0) ∧ tm 14 = .lit (.int .i64 0) ∧ tm 18 = .lit (.int .i64 r12) ∧ tm 22 = .lit (.int .i64 r21) ∧ True) (by refine ⟨e14, e15, e16, e18, e19, e20, ?_, trivial⟩ <;> first | (simp only [ua, e14, e15, e16, e17, e18, e19, e20, nm, seval] <;> rfl) | rfl) ?_
 rintro tm ⟨e23, e24, e25, e26, e27, e28, e29, _⟩
 simp only [vz, tyf, e23, e24, e25, e26, e27, e28, e29, nm, seval]
 refine zcr ⟨?_, ?_⟩
 ·simp only [zbl, zbv, zam, zdy, and_true, true_and]
  repeat' (first | exact trivial | refine And.intro ?_ ?_ | rw [zam] | rw [zcs] | exact Or.inl (by decide +kernel) | exact Or.inl (by dsimp only; decide +kernel) | (refine Or.inr ⟨?_, ?_⟩ <;> simp; done) | (refine Or.inr ⟨?_, ?_⟩ <;> simp <;> omega) | (refine Or.inr ⟨?_, ?_⟩ <;> simp [VEff.wr] <;> omega))
 simp only [vz, tyf, e23, e24, e25, e26, e27, e28, e29, nm, seval]
 refine zea (fun tm => tm 2 = .ptr 1 0 ∧ tm 3 = .ptr 7 0 ∧ tm 4 = .ptr 9 0 ∧ tm 5 = .lit (.int .i64 1) ∧ tm 11 = .lit (.int .i64 1) ∧ True) (by refine ⟨e23, e24, e25, ?_, ?_, trivial⟩ <;> first | (simp only [ua, e23, e24, e25, e26, e27, e28, e29, nm, seval] <;> rfl) | rfl) ?_
 rintro tm ⟨e30, e31, e32, e33, e34, _⟩
 obtain ⟨r35, o36, h⟩ := optI h kN
 try simp only [hs] at h
 simp only [vz, tyf, e30, e31, e32, e33, e34, nm, seval]
 refine dktA (zeg _ _ _ o36) ?_
 refine zaf (fun tm => tm 2 = .ptr 1 0 ∧ tm 3 = .ptr 7 0 ∧ tm 4 = .ptr 9 0 ∧ tm 5 = .lit (.int .i64 1) ∧ tm 11 = .lit (.int .i64 1) ∧ tm 14 = .lit (.int .i64 1) ∧ tm 18 = .lit (.int .i64 r35) ∧ True) (by refine ⟨e30, e31, e32, e33, e34, ?_, ?_, trivial⟩ <;> first | (simp only [ua, e30, e31, e32, e33, e34, nm, seval] <;> rfl) | rfl) ?_
 rintro tm ⟨e37, e38, e39, e40, e41, e42, e43, _⟩
 obtain ⟨r44, o45, h⟩ := optI h kN
 try simp only [hs] at h
 simp only [vz, tyf, e37, e38, e39, e40, e41, e42, e43, nm, seval]
 refine dktA (zdh _ _ _ o45) ?_
 refine zaf (fun tm => tm 2 = .ptr 1 0 ∧ tm 3 = .ptr 7 0 ∧ tm 4 = .ptr 9 0 ∧ tm 11 = .lit (.int .i64 1) ∧ tm 14 = .lit (.int .i64 1) ∧ tm 18 = .lit (.int .i64 r35) ∧ tm 22 = .lit (.int .i64 r44) ∧ True) (by refine ⟨e37, e38, e39, e41, e42, e43, ?_, trivial⟩ <;> first | (simp only [ua, e37, e38, e39, e40, e41, e42, e43, nm, seval] <;> rfl) | rfl) ?_
 rintro tm ⟨e46, e47, e48, e49, e50, e51, e52, _⟩
 simp only [vz, tyf, e46, e47, e48, e49, e50, e51, e52, nm, seval]
 refine zcr ⟨?_, ?_⟩
 ·simp only [zbl, zbv, zam, zdy, and_true, true_and]
  repeat' (first | exact trivial | refine And.intro ?_ ?_ | rw [zam] | rw [zcs] | exact Or.inl (by decide +kernel) | exact Or.inl (by dsimp only; decide +kernel) | (refine Or.inr ⟨?_, ?_⟩ <;> simp; done) | (refine Or.inr ⟨?_, ?_⟩ <;> simp <;> omega) | (refine Or.inr ⟨?_, ?_⟩ <;> simp [VEff.wr] <;> omega))
 simp only [vz, tyf, e46, e47, e48, e49, e50, e51, e52, nm, seval]
 refine zea (fun tm => tm 2 = .ptr 1 0 ∧ tm 3 = .ptr 7 0 ∧ tm 4 = .ptr 9 0 ∧ tm 5 = .lit (.int .i64 2) ∧ tm 11 = .lit (.int .i64 2) ∧ True) (by refine ⟨e46, e47, e48, ?_, ?_, trivial⟩ <;> first | (simp only [ua, e46, e47, e48, e49, e50, e51, e52, nm, seval] <;> rfl) | rfl) ?_
 rintro tm ⟨e53, e54, e55, e56, e57, _⟩
 obtain ⟨r58, o59, h⟩ := optI h kN
 try simp only [hs] at h
 simp only [vz, tyf, e53, e54, e55, e56, e57, nm, seval]
 refine dktA (zeg _ _ _ o59) ?_
 refine zaf (fun tm => tm 2 = .ptr 1 0 ∧ tm 3 = .ptr 7 0 ∧ tm 4 = .ptr 9 0 ∧ tm 5 = .lit (.int .i64 2) ∧ tm 11 = .lit (.int .i64 2) ∧ tm 14 = .lit (.int .i64 2) ∧ tm 18 = .lit (.int .i64 r58) ∧ True) (by refine ⟨e53, e54, e55, e56, e57, ?_, ?_, trivial⟩ <;> first | (simp only [ua, e53, e54, e55, e56, e57, nm, seval] <;> rfl) | rfl) ?_
 rintro tm ⟨e60, e61, e62, e63, e64, e65, e66, _⟩
 obtain ⟨r67, o68, h⟩ := optI h kN
 try simp only [hs] at h
 simp only [vz, tyf, e60, e61, e62, e63, e64, e65, e66, nm, seval]
 refine dktA (zdh _ _ _ o68) ?_
 refine zaf (fun tm => tm 2 = .ptr 1 0 ∧ tm 3 = .ptr 7 0 ∧ tm 4 = .ptr 9 0 ∧ tm 11 = .lit (.int .i64 2) ∧ tm 14 = .lit (.int .i64 2) ∧ tm 18 = .lit (.int .i64 r58) ∧ tm 22 = .lit (.int .i64 r67) ∧ True) (by refine ⟨e60, e61, e62, e64, e65, e66, ?_, trivial⟩ <;> first | (simp only [ua, e60, e61, e62, e63, e64, e65, e66, nm, seval] <;> rfl) | rfl) ?_
 rintro tm ⟨e69, e70, e71, e72, e73, e74, e75, _⟩
 simp only [vz, tyf, e69, e70, e71, e72, e73, e74, e75, nm, seval]
 refine zcr ⟨?_, ?_⟩
 ·simp only [zbl, zbv, zam, zdy, and_true, true_and]
  repeat' (first | exact trivial | refine And.intro ?_ ?_ | rw [zam] | rw [zcs] | exact Or.inl (by decide +kernel) | exact Or.inl (by dsimp only; decide +kernel) | (refine Or.inr ⟨?_, ?_⟩ <;> simp; done) | (refine Or.inr ⟨?_, ?_⟩ <;> simp <;> omega) | (refine Or.inr ⟨?_, ?_⟩ <;> simp [VEff.wr] <;> omega))
 try simp only [vz, tyf, e69, e70, e71, e72, e73, e74, e75, nm, seval]
 refine zap (x := (.agg ([.lit (.int .i64 r12)] ++ [.lit (.int .i64 r21)] ++ [.lit (.int .i64 r35)] ++ [.lit (.int .i64 r44)] ++ [.lit (.int .i64 r58)] ++ [.lit (.int .i64 r67)]))) (by first | (simp only [Tryz.results63, resV, resL, resV1, zat, zbq, uw, cr, tyf, e69, e70, e71, e72, e73, e74, e75, nm, seval] <;> rfl) | rfl) ?_
 obtain rfl := kF _ h
 refine zas ?_ ?_
 ·simp only [tre, tytre, Bool.and_self]
 ·first | (simp only [outV, uw, zah, cr, tyf, nrm, tynrm, e69, e70, e71, e72, e73, e74, e75, nm, seval] <;> rfl) | rfl

def zcg (x0_old : Int) (x1_years : Int) (x2_fade : Int) : Option (Int) := some (if 0 < (IntKind.i64.wrap (x0_old - (IntKind.i64.wrap (x1_years * x2_fade)))) then (IntKind.i64.wrap (x0_old - (IntKind.i64.wrap (x1_years * x2_fade)))) else 0)
theorem zed (x0_old : Int) (x1_years : Int) (x2_fade : Int) (R : Int) (h : zcg x0_old x1_years x2_fade = some R) : VPure Tryz.prog G0 94 [.lit (.int .i64 x0_old), .lit (.int .i64 x1_years), .lit (.int .i64 x2_fade)] (.tree (.lit (.int .i64 R))) := by
 refine VPure.runR mixed Tryz.call94 Tryz.func94 rfl (by simp [Tryz.ntmps94]; kernel_rfl) ?_
 obtain ⟨KF, h, kF, kN⟩ := zan h
 simp only [zcg] at h
 try simp only [vz, tyf, nm, seval]
 refine zap (x := (.lit (.int .i64 (if 0 < (IntKind.i64.wrap (x0_old - (IntKind.i64.wrap (x1_years * x2_fade)))) then (IntKind.i64.wrap (x0_old - (IntKind.i64.wrap (x1_years * x2_fade)))) else 0)))) (by first | (simp only [Tryz.results94, resV, resL, resV1, zat, zbq, uw, cr, tyf, nm, seval] <;> rfl) | rfl) ?_
 obtain rfl := kF _ h
 refine zas ?_ ?_
 ·simp only [tre, tytre, Bool.and_self]
 ·first | (simp only [outV, uw, zah, cr, tyf, nrm, tynrm, nm, seval] <;> rfl) | rfl
def zev (x0_s : Gs) : Option (Ga) := Option.bind (zcg x0_s.Old.a0 x0_s.Years.High x0_s.Fade.a0.High) (fun r1 => Option.bind (zcg x0_s.Old.a0 x0_s.Years.Low x0_s.Fade.a0.Low) (fun r2 => Option.bind (zcg x0_s.Old.a1 x0_s.Years.High x0_s.Fade.a1.High) (fun r3 => Option.bind (zcg x0_s.Old.a1 x0_s.Years.Low x0_s.Fade.a1.Low) (fun r4 => Option.bind (zcg x0_s.Old.a2 x0_s.Years.High x0_s.Fade.a2.High) (fun r5 => Option.bind (zcg x0_s.Old.a2 x0_s.Years.Low x0_s.Fade.a2.Low) (fun r6 => some (Ga.mk (GSpan.mk r1 r2) (GSpan.mk r3 r4) (GSpan.mk r5 r6))))))))
theorem zgm (x0_s : Gs) (R : Ga) (h : zev x0_s = some R) : VPure Tryz.prog G0 61 [.agg (cGs x0_s)] (.tree (.agg (cGa R))) := by
 refine VPure.runR mixed Tryz.call61 Tryz.func61 rfl (by simp [Tryz.ntmps61]; kernel_rfl) ?_
 obtain ⟨KF, h, kF, kN⟩ := zan h
 simp only [zev] at h
 simp only [vz, tyf, nm, seval]
 refine zgq mixed (by kernel_rfl) 4 ?_
 simp only [vz, tyf, nm, seval]
 refine zea (fun tm => tm 1 = .ptr 0 0 ∧ tm 2 = .ptr 1 0 ∧ tm 3 = .ptr 2 0 ∧ tm 4 = .lit (.int .i64 0) ∧ tm 5 = .lit (.int .i64 x0_s.Old.a0) ∧ tm 6 = .ptr 15 0 ∧ tm 8 = .agg (cGi x0_s.Old) ∧ tm 9 = .lit (.int .i64 0) ∧ True) (by refine ⟨?_, ?_, ?_, ?_, ?_, ?_, ?_, ?_, trivial⟩ <;> first | (simp only [ua, nm, seval] <;> rfl) | rfl) ?_
 rintro tm ⟨e7, e8, e9, e10, e11, e12, e13, e14, _⟩
 obtain ⟨r15, o16, h⟩ := optI h kN
 try simp only [hs] at h
 simp only [vz, tyf, e7, e8, e9, e10, e11, e12, e13, e14, nm, seval]
 refine dktA (zed _ _ _ _ o16) ?_
 refine zaf (fun tm => tm 1 = .ptr 0 0 ∧ tm 2 = .ptr 1 0 ∧ tm 3 = .ptr 2 0 ∧ tm 5 = .lit (.int .i64 x0_s.Old.a0) ∧ tm 6 = .ptr 15 0 ∧ tm 8 = .agg (cGi x0_s.Old) ∧ tm 9 = .lit (.int .i64 0) ∧ tm 17 = .lit (.int .i64 0) ∧ tm 24 = .lit (.int .i64 r15) ∧ True) (by refine ⟨e7, e8, e9, e11, e12, e13, e14, ?_, ?_, trivial⟩ <;> first | (simp only [ua, e7, e8, e9, e10, e11, e12, e13, e14, nm, seval] <;> rfl) | rfl) ?_
 rintro tm ⟨e17, e18, e19, e20, e21, e22, e23, e24, e25, _⟩
 obtain ⟨r26, o27, h⟩ := optI h kN
 try simp only [hs] at h
 simp only [vz, tyf, e17, e18, e19, e20, e21, e22, e23, e24, e25, nm, seval]
 refine dktA (zed _ _ _ _ o27) ?_
 refine zaf (fun tm => tm 1 = .ptr 0 0 ∧ tm 2 = .ptr 1 0 ∧ tm 3 = .ptr 2 0 ∧ tm 8 = .agg (cGi x0_s.Old) ∧ tm 9 = .lit (.int .i64 0) ∧ tm 17 = .lit (.int .i64 0) ∧ tm 24 = .lit (.int .i64 r15) ∧ tm 31 = .lit (.int .i64 r26) ∧ True) (by refine ⟨e17, e18, e19, e22, e23, e24, e25, ?_, trivial⟩ <;> first | (simp only [ua, e17, e18, e19, e20, e21, e22, e23, e24, e25, nm, seval] <;> rfl) | rfl) ?_
 rintro tm ⟨e28, e29, e30, e31, e32, e33, e34, e35, _⟩
 simp only [vz, tyf, e28, e29, e30, e31, e32, e33, e34, e35, nm, seval]
 refine zcr ⟨?_, ?_⟩
 ·simp only [zbl, zbv, zam, zdy, and_true, true_and]
  repeat' (first | exact trivial | refine And.intro ?_ ?_ | rw [zam] | rw [zcs] | exact Or.inl (by decide +kernel) | exact Or.inl (by dsimp only; decide +kernel) | (refine Or.inr ⟨?_, ?_⟩ <;> simp; done) | (refine Or.inr ⟨?_, ?_⟩ <;> simp <;> omega) | (refine Or.inr ⟨?_, ?_⟩ <;> simp [VEff.wr] <;> omega))
 simp only [vz, tyf, e28, e29, e30, e31, e32, e33, e34, e35, nm, seval]
 refine zea (fun tm => tm 1 = .ptr 0 0 ∧ tm 2 = .ptr 1 0 ∧ tm 3 = .ptr 2 0 ∧ tm 4 = .lit (.int .i64 1) ∧ tm 5 = .lit (.int .i64 x0_s.Old.a1) ∧ tm 6 = .ptr 46 0 ∧ tm 8 = .agg (cGi x0_s.Old) ∧ tm 9 = .lit (.int .i64 1) ∧ True) (by refine ⟨e28, e29, e30, ?_, ?_, ?_, e31, ?_, trivial⟩ <;> first | (simp only [ua, e28, e29, e30, e31, e32, e33, e34, e35, nm, seval] <;> rfl) | rfl) ?_
 rintro tm ⟨e36, e37, e38, e39, e40, e41, e42, e43, _⟩
 obtain ⟨r44, o45, h⟩ := optI h kN
 try simp only [hs] at h
 simp only [vz, tyf, e36, e37, e38, e39, e40, e41, e42, e43, nm, seval]
 refine dktA (zed _ _ _ _ o45) ?_
 refine zaf (fun tm => tm 1 = .ptr 0 0 ∧ tm 2 = .ptr 1 0 ∧ tm 3 = .ptr 2 0 ∧ tm 5 = .lit (.int .i64 x0_s.Old.a1) ∧ tm 6 = .ptr 46 0 ∧ tm 8 = .agg (cGi x0_s.Old) ∧ tm 9 = .lit (.int .i64 1) ∧ tm 17 = .lit (.int .i64 1) ∧ tm 24 = .lit (.int .i64 r44) ∧ True) (by refine ⟨e36, e37, e38, e40, e41, e42, e43, ?_, ?_, trivial⟩ <;> first | (simp only [ua, e36, e37, e38, e39, e40, e41, e42, e43, nm, seval] <;> rfl) | rfl) ?_
 rintro tm ⟨e46, e47, e48, e49, e50, e51, e52, e53, e54, _⟩
 obtain ⟨r55, o56, h⟩ := optI h kN
 try simp only [hs] at h
 simp only [vz, tyf, e46, e47, e48, e49, e50, e51, e52, e53, e54, nm, seval]
 refine dktA (zed _ _ _ _ o56) ?_
 refine zaf (fun tm => tm 1 = .ptr 0 0 ∧ tm 2 = .ptr 1 0 ∧ tm 3 = .ptr 2 0 ∧ tm 8 = .agg (cGi x0_s.Old) ∧ tm 9 = .lit (.int .i64 1) ∧ tm 17 = .lit (.int .i64 1) ∧ tm 24 = .lit (.int .i64 r44) ∧ tm 31 = .lit (.int .i64 r55) ∧ True) (by refine ⟨e46, e47, e48, e51, e52, e53, e54, ?_, trivial⟩ <;> first | (simp only [ua, e46, e47, e48, e49, e50, e51, e52, e53, e54, nm, seval] <;> rfl) | rfl) ?_
 rintro tm ⟨e57, e58, e59, e60, e61, e62, e63, e64, _⟩
 simp only [vz, tyf, e57, e58, e59, e60, e61, e62, e63, e64, nm, seval]
 refine zcr ⟨?_, ?_⟩
 ·simp only [zbl, zbv, zam, zdy, and_true, true_and]
  repeat' (first | exact trivial | refine And.intro ?_ ?_ | rw [zam] | rw [zcs] | exact Or.inl (by decide +kernel) | exact Or.inl (by dsimp only; decide +kernel) | (refine Or.inr ⟨?_, ?_⟩ <;> simp; done) | (refine Or.inr ⟨?_, ?_⟩ <;> simp <;> omega) | (refine Or.inr ⟨?_, ?_⟩ <;> simp [VEff.wr] <;> omega))
 simp only [vz, tyf, e57, e58, e59, e60, e61, e62, e63, e64, nm, seval]
 refine zea (fun tm => tm 1 = .ptr 0 0 ∧ tm 2 = .ptr 1 0 ∧ tm 3 = .ptr 2 0 ∧ tm 4 = .lit (.int .i64 2) ∧ tm 5 = .lit (.int .i64 x0_s.Old.a2) ∧ tm 6 = .ptr 77 0 ∧ tm 8 = .agg (cGi x0_s.Old) ∧ tm 9 = .lit (.int .i64 2) ∧ True) (by refine ⟨e57, e58, e59, ?_, ?_, ?_, e60, ?_, trivial⟩ <;> first | (simp only [ua, e57, e58, e59, e60, e61, e62, e63, e64, nm, seval] <;> rfl) | rfl) ?_
 rintro tm ⟨e65, e66, e67, e68, e69, e70, e71, e72, _⟩
 obtain ⟨r73, o74, h⟩ := optI h kN
 try simp only [hs] at h
 simp only [vz, tyf, e65, e66, e67, e68, e69, e70, e71, e72, nm, seval]
 refine dktA (zed _ _ _ _ o74) ?_
 refine zaf (fun tm => tm 1 = .ptr 0 0 ∧ tm 2 = .ptr 1 0 ∧ tm 3 = .ptr 2 0 ∧ tm 5 = .lit (.int .i64 x0_s.Old.a2) ∧ tm 6 = .ptr 77 0 ∧ tm 8 = .agg (cGi x0_s.Old) ∧ tm 9 = .lit (.int .i64 2) ∧ tm 17 = .lit (.int .i64 2) ∧ tm 24 = .lit (.int .i64 r73) ∧ True) (by refine ⟨e65, e66, e67, e69, e70, e71, e72, ?_, ?_, trivial⟩ <;> first | (simp only [ua, e65, e66, e67, e68, e69, e70, e71, e72, nm, seval] <;> rfl) | rfl) ?_
 rintro tm ⟨e75, e76, e77, e78, e79, e80, e81, e82, e83, _⟩
 obtain ⟨r84, o85, h⟩ := optI h kN
 try simp only [hs] at h
 simp only [vz, tyf, e75, e76, e77, e78, e79, e80, e81, e82, e83, nm, seval]
 refine dktA (zed _ _ _ _ o85) ?_
 refine zaf (fun tm => tm 1 = .ptr 0 0 ∧ tm 2 = .ptr 1 0 ∧ tm 3 = .ptr 2 0 ∧ tm 8 = .agg (cGi x0_s.Old) ∧ tm 9 = .lit (.int .i64 2) ∧ tm 17 = .lit (.int .i64 2) ∧ tm 24 = .lit (.int .i64 r73) ∧ tm 31 = .lit (.int .i64 r84) ∧ True) (by refine ⟨e75, e76, e77, e80, e81, e82, e83, ?_, trivial⟩ <;> first | (simp only [ua, e75, e76, e77, e78, e79, e80, e81, e82, e83, nm, seval] <;> rfl) | rfl) ?_
 rintro tm ⟨e86, e87, e88, e89, e90, e91, e92, e93, _⟩
 simp only [vz, tyf, e86, e87, e88, e89, e90, e91, e92, e93, nm, seval]
 refine zcr ⟨?_, ?_⟩
 ·simp only [zbl, zbv, zam, zdy, and_true, true_and]
  repeat' (first | exact trivial | refine And.intro ?_ ?_ | rw [zam] | rw [zcs] | exact Or.inl (by decide +kernel) | exact Or.inl (by dsimp only; decide +kernel) | (refine Or.inr ⟨?_, ?_⟩ <;> simp; done) | (refine Or.inr ⟨?_, ?_⟩ <;> simp <;> omega) | (refine Or.inr ⟨?_, ?_⟩ <;> simp [VEff.wr] <;> omega))
 try simp only [vz, tyf, e86, e87, e88, e89, e90, e91, e92, e93, nm, seval]
 refine zap (x := (.agg ([.lit (.int .i64 r15)] ++ [.lit (.int .i64 r26)] ++ [.lit (.int .i64 r44)] ++ [.lit (.int .i64 r55)] ++ [.lit (.int .i64 r73)] ++ [.lit (.int .i64 r84)]))) (by first | (simp only [Tryz.results61, resV, resL, resV1, zat, zbq, uw, cr, tyf, e86, e87, e88, e89, e90, e91, e92, e93, nm, seval] <;> rfl) | rfl) ?_
 obtain rfl := kF _ h
 refine zas ?_ ?_
 ·simp only [tre, tytre, Bool.and_self]
 ·first | (simp only [outV, uw, zah, cr, tyf, nrm, tynrm, e86, e87, e88, e89, e90, e91, e92, e93, nm, seval] <;> rfl) | rfl

def zde (x0_x : Gm) : Option (Int) := Option.bind (zpo x0_x.mix) (fun r1 => some r1)
theorem zeh (x0_x : Gm) (R : Int) (h : zde x0_x = some R) : VPure Tryz.prog G0 128 [.agg (cGm x0_x)] (.tree (.lit (.int .i64 R))) := by
 refine VPure.runR mixed Tryz.call128 Tryz.func128 rfl (by simp [Tryz.ntmps128]; kernel_rfl) ?_
 obtain ⟨KF, h, kF, kN⟩ := zan h
 simp only [zde] at h
 obtain ⟨r2, o3, h⟩ := optI h kN
 try simp only [hs] at h
 simp only [vz, tyf, nm, seval]
 refine ktA (zoe _ _ o3) ?_
 refine zaf (fun tm => tm 5 = .lit (.int .i64 r2) ∧ True) (by refine ⟨?_, trivial⟩ <;> first | (simp only [ua, nm, seval] <;> rfl) | rfl) ?_
 rintro tm ⟨e4, _⟩
 try simp only [vz, tyf, e4, nm, seval]
 refine zap (x := (.lit (.int .i64 r2))) (by first | (simp only [Tryz.results128, resV, resL, resV1, zat, zbq, uw, cr, tyf, nm, seval] <;> rfl) | rfl) ?_
 obtain rfl := kF _ h
 refine zas ?_ ?_
 ·simp only [tre, tytre, Bool.and_self]
 ·first | (simp only [outV, uw, zah, cr, tyf, nrm, tynrm, e4, nm, seval] <;> rfl) | rfl
def zdc (x0_n : Int) (x1_low : Int) (x2_high : Int) : Option (Bool) := cond (decide (x0_n ≥ x1_low)) (some (decide (x0_n ≤ x2_high))) (some false)
theorem zcf (x0_n : Int) (x1_low : Int) (x2_high : Int) (R : Bool) (h : zdc x0_n x1_low x2_high = some R) : VPure Tryz.prog G0 65 [.lit (.int .i64 x0_n), .lit (.int .i64 x1_low), .lit (.int .i64 x2_high)] (.tree (.lit (.bool R))) := by
 refine VPure.runR mixed Tryz.call65 Tryz.func65 rfl (by simp [Tryz.ntmps65]; kernel_rfl) ?_
 obtain ⟨KF, h, kF, kN⟩ := zan h
 simp only [zdc] at h
 cases d1 : (decide (x0_n ≥ x1_low))
 ·simp only [d1, hs] at h
  try simp only [vz, tyf, d1, nm, seval]
  obtain rfl := kF _ h
  exact zaj Tryz.results65 rfl
 simp only [d1, hs] at h
 try simp only [vz, tyf, d1, nm, seval]
 obtain rfl := kF _ h
 exact zaj Tryz.results65 rfl
def zch (x0_s : GSpan) (x1_most : Int) : Option (Bool) := Option.bind (zdc x0_s.Low 0 x1_most) (fun r1 => cond (r1) (Option.bind (zdc x0_s.High x0_s.Low x1_most) (fun r2 => some r2)) (some false))
theorem zcv (x0_s : GSpan) (x1_most : Int) (R : Bool) (h : zch x0_s x1_most = some R) : VPure Tryz.prog G0 64 [.agg (cGSpan x0_s), .lit (.int .i64 x1_most)] (.tree (.lit (.bool R))) := by
 refine VPure.runR mixed Tryz.call64 Tryz.func64 rfl (by simp [Tryz.ntmps64]; kernel_rfl) ?_
 obtain ⟨KF, h, kF, kN⟩ := zan h
 simp only [zch] at h
 obtain ⟨r3, o4, h⟩ := optI h kN
 try simp only [hs] at h
 simp only [vz, tyf, nm, seval]
 refine ktA (zcf _ _ _ _ o4) ?_
 refine zaf (fun tm => tm 1 = .lit (.int .i64 x1_most) ∧ tm 2 = .ptr 0 0 ∧ tm 8 = .lit (.bool r3) ∧ True) (by refine ⟨?_, ?_, ?_, trivial⟩ <;> first | (simp only [ua, nm, seval] <;> rfl) | rfl) ?_
 rintro tm ⟨e5, e6, e7, _⟩
 cases d8 : (r3)
 ·simp only [d8, hs] at h
  try simp only [vz, tyf, e5, e6, e7, d8, nm, seval]
  obtain rfl := kF _ h
  exact zaj Tryz.results64 rfl
 simp only [d8, hs] at h
 obtain ⟨r9, o10, h⟩ := optI h kN
 try simp only [hs] at h
 simp only [vz, tyf, e5, e6, e7, d8, nm, seval]
 refine ktA (zcf _ _ _ _ o10) ?_
 refine zaf (fun tm => tm 9 = .lit (.bool true) ∧ tm 15 = .lit (.bool r9) ∧ True) (by refine ⟨?_, ?_, trivial⟩ <;> first | (simp only [ua, e5, e6, e7, d8, nm, seval] <;> rfl) | rfl) ?_
 rintro tm ⟨e11, e12, _⟩
 try simp only [vz, tyf, d8, e11, e12, nm, seval]
 obtain rfl := kF _ h
 exact zaj Tryz.results64 rfl
def zin (x0_n : Int) : Option (Bool) := Option.bind (zdc x0_n 1 20) (fun r1 => some r1)
theorem zqg (x0_n : Int) (R : Bool) (h : zin x0_n = some R) : VPure Tryz.prog G0 52 [.lit (.int .i64 x0_n)] (.tree (.lit (.bool R))) := by
 refine VPure.runR mixed Tryz.call52 Tryz.func52 rfl (by simp [Tryz.ntmps52]; kernel_rfl) ?_
 obtain ⟨KF, h, kF, kN⟩ := zan h
 simp only [zin] at h
 obtain ⟨r2, o3, h⟩ := optI h kN
 try simp only [hs] at h
 simp only [vz, tyf, nm, seval]
 refine ktA (zcf _ _ _ _ o3) ?_
 refine zaf (fun tm => tm 4 = .lit (.bool r2) ∧ True) (by refine ⟨?_, trivial⟩ <;> first | (simp only [ua, nm, seval] <;> rfl) | rfl) ?_
 rintro tm ⟨e4, _⟩
 try simp only [vz, tyf, e4, nm, seval]
 obtain rfl := kF _ h
 exact zaj Tryz.results52 rfl
end Go.V
end
