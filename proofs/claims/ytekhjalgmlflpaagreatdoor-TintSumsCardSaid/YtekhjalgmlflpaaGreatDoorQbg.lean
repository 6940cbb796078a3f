/- Part of a proof: a logic of values by content, lifted functions, what follows. -/
import Derived.Test.YtekhjalgmlflpaaGreatDoorQay
import Derived.Test.YtekhjalgmlflpaaGreatDoorQba
import Derived.Test.YtekhjalgmlflpaaGreatDoorQbf
import Derived.Test.YtekhjalgmlflpaaGreatDoorQbe
set_option linter.all false
set_option maxRecDepth 4000
set_option maxHeartbeats 40000000
section
set_option linter.unusedVariables false
namespace Go.V
open Go
def Dec (P : Program) (n : Nat) (t : TypeId) {α : Type} (enc : α → List VV) (R : α → Prop) : Prop := ∀ xs, ShapeT P n t xs → ∃ x : α, R x ∧ normL xs = enc x
theorem zaii {P : Program} {n : Nat} {t : TypeId} (hu : P.underlying t = some (.int .i64)) : Dec P (n + 1) t eI (fun _ => True) := by
 intro xs h
 simp only [ShapeT, hu] at h
 obtain ⟨i, _, rfl⟩ := h
 exact ⟨i, trivial, by simp only [zgm, zhv, zyy, eI]⟩
theorem zace {P : Program} {n : Nat} {t : TypeId} {α : Type} {enc : α → List VV} {R : α → Prop} (h : Dec P n t enc R) : ∀ yss : List (List VV), (∀ ys ∈ yss, ShapeT P n t ys) → ∃ l : List α, l.length = yss.length ∧ (∀ x ∈ l, R x) ∧ normL yss.flatten = cellsL enc l
 | [], _ => ⟨[], rfl, fun _ hx => (by cases hx), rfl⟩
 | ys :: yss, hs => by
  obtain ⟨x, hx, e⟩ := h ys (hs ys (List.mem_cons_self ..))
  obtain ⟨l, h1, h2, h3⟩ := zace h yss (fun y hy => hs y (List.mem_cons_of_mem _ hy))
  refine ⟨x :: l, by simp [h1], fun y hy => ?_, by rw [List.flatten_cons, zcn, e, h3, zfz]⟩
  rcases List.mem_cons.1 hy with rfl | hy
  ·exact hx
  ·exact h2 y hy
theorem zln {P : Program} {n : Nat} {t e : TypeId} {α : Type} {enc : α → List VV} {R : α → Prop} (hu : P.underlying t = some (.slice e)) (h : Dec P n e enc R) : Dec P (n + 1) t (fun l : List α => [.sl (cellsL enc l) l.length false]) (fun l => lenOk l = true ∧ ∀ x ∈ l, R x) := by
 intro xs hs
 simp only [ShapeT, hu] at hs
 rcases hs with rfl | ⟨yss, hl, hall, rfl⟩
 ·exact ⟨[], ⟨rfl, fun _ hx => (by cases hx)⟩, by simp only [zgm, zhv, zxi]; rfl⟩
 ·obtain ⟨l, h1, h2, h3⟩ := zace h yss hall
  refine ⟨l, ⟨?_, h2⟩, by simp only [zgm, zhv, zadm, h3, h1]⟩
  have : maxLen = 9223372036854775807 := by decide
  unfold lenOk
  exact decide_eq_true (by omega)
theorem zadx {P : Program} {n : Nat} {t : TypeId} {fs : Array Field} {xs : List VV} (hu : P.underlying t = some (.struct fs)) (h : ShapeT P (n + 1) t xs) : ∃ yss, FieldsS (ShapeT P n) fs.toList yss ∧ xs = yss.flatten := by
 simp only [ShapeT, hu] at h
 exact h
def TypesS (S : TypeId → List VV → Prop) : List TypeId → List (List VV) → Prop
 | [], [] => True
 | t :: ts, ys :: yss => S t ys ∧ TypesS S ts yss
 | _, _ => False
theorem zadq {S : TypeId → List VV → Prop} : ∀ (fs : List Field) (yss : List (List VV)), FieldsS S fs yss → TypesS S (fs.map Field.type) yss
 | [], [], _ => trivial
 | f :: fs, ys :: yss, ⟨h1, h2⟩ => ⟨h1, zadq fs yss h2⟩
 | [], _ :: _, h => h
 | _ :: _, [], h => h
theorem zhi {P : Program} {n : Nat} {t : TypeId} {fs : Array Field} {ts : List TypeId} {xs : List VV} (hu : P.underlying t = some (.struct fs)) (ht : fs.toList.map Field.type = ts) (h : ShapeT P (n + 1) t xs) : ∃ yss, TypesS (ShapeT P n) ts yss ∧ xs = yss.flatten := by
 obtain ⟨yss, h1, h2⟩ := zadx hu h
 exact ⟨yss, ht ▸ zadq _ _ h1, h2⟩
theorem zyo {S : TypeId → List VV → Prop} {e : TypeId} : ∀ (yss : List (List VV)), (∀ ys ∈ yss, S e ys) → TypesS S (List.replicate yss.length e) yss
 | [], _ => trivial
 | ys :: yss, h => ⟨h ys (List.mem_cons_self ..), zyo yss fun z hz => h z (List.mem_cons_of_mem _ hz)⟩
theorem zni {P : Program} {n : Nat} {t e : TypeId} {m : Nat} {ts : List TypeId} {xs : List VV} (hu : P.underlying t = some (.array m e)) (ht : List.replicate m e = ts) (h : ShapeT P (n + 1) t xs) : ∃ yss, TypesS (ShapeT P n) ts yss ∧ xs = yss.flatten := by
 simp only [ShapeT, hu] at h
 obtain ⟨yss, h1, h2, h3⟩ := h
 refine ⟨yss, ?_, h3⟩
 rw [← ht, ← h1]
 exact zyo yss h2
theorem zka {P : Program} {n : Nat} {t : TypeId} {ts : List TypeId} {xs : List VV} (h : ArgsS P n (t :: ts) xs) : ∃ x xs', xs = x :: xs' ∧ ArgS P n t x ∧ ArgsS P n ts xs' := by
 match xs, h with
 | x :: xs', h => exact ⟨x, xs', rfl, h.1, h.2⟩
theorem zyg {P : Program} {n : Nat} {xs : List VV} (h : ArgsS P n [] xs) : xs = [] := by
 match xs, h with
 | [], _ => rfl
theorem zoi {P : Program} {n : Nat} {t : TypeId} {fs : Array Field} {x : VV} {α : Type} {enc : α → List VV} {R : α → Prop} (hu : P.underlying t = some (.struct fs)) (hd : Dec P n t enc R) (h : ArgS P n t x) : ∃ s, R s ∧ normV x = .agg (enc s) := by
 obtain ⟨ys, h1, h2⟩ := h
 rw [hu] at h2
 obtain rfl : x = .agg ys := h2
 obtain ⟨s, hs, e⟩ := hd ys h1
 exact ⟨s, hs, by rw [zxd, e]⟩
theorem zadr {P : Program} {n : Nat} {t : TypeId} {d : TypeDesc} {x : VV} {α : Type} {enc : α → List VV} {R : α → Prop} (hu : P.underlying t = some d) (hn : (∀ fs, d ≠ .struct fs) ∧ ∀ m e, d ≠ .array m e) (hd : Dec P n t enc R) (h : ArgS P n t x) : ∃ s, R s ∧ [normV x] = enc s := by
 obtain ⟨ys, h1, h2⟩ := h
 rw [hu] at h2
 have h3 : ys = [x] := by
  cases d <;> first | exact h2 | exact absurd rfl (hn.1 _) | exact absurd rfl (hn.2 _ _)
 subst h3
 obtain ⟨s, hs, e⟩ := hd _ h1
 exact ⟨s, hs, by rw [← e, zgm, zhv]⟩
end Go.V
end
section
set_option linter.unusedVariables false
set_option linter.unusedSimpArgs false
namespace Go.V
open Go
def goB (b : Bool) : Option (LOut Bool Unit) := cond b (some (.go ())) (some (.ret false))
theorem zjr (a b : Bool) : goB (a && b) = cond a (goB b) (some (.ret false)) := by cases a <;> rfl
theorem cnot {α : Type} (a : Bool) (x y : α) : cond (!a) x y = cond a y x := by cases a <;> rfl
theorem csome (a b : Bool) : cond a (some b) (some false) = some (a && b) := by cases a <;> rfl
theorem zjc {X : Type} (b : Bool) (kr : Bool → Option X) (kg : Unit → Option X) (kb : Nat → Unit → Option X) : lbind (goB b) kr kg kb = cond b (kg ()) (kr false) := by cases b <;> rfl
def inB (a b n : Int) : Bool := decide (a ≤ n) && decide (n ≤ b)
theorem zkq {a b n : Int} : inB a b n = true ↔ a ≤ n ∧ n ≤ b := by simp [inB]
theorem zek {n : Int} (h1 : -9223372036854775808 ≤ n) (h2 : n < 9223372036854775808) : IntKind.i64.wrap n = n := IntWalk.i64_in _ (by omega)
theorem zhg {α : Type} {xs : List α} (h : xs.length < 9223372036854775808) : lenOk xs = true := by simpa [lenOk] using h
theorem mulR {a b A B : Int} (h1 : 0 ≤ a) (h2 : a ≤ A) (h3 : 0 ≤ b) (h4 : b ≤ B) : 0 ≤ a * b ∧ a * b ≤ A * B :=
 ⟨Int.mul_nonneg h1 h3, Int.mul_le_mul h2 h4 h3 (Int.le_trans h1 h2)⟩
end Go.V
end
section
namespace Go.V
def ea : Option Bool → Bool | none => true | some b => b
def eo : Option Bool → Bool | none => false | some b => b
end Go.V
end
section
namespace Go.V
open Go Go.Proofs
def zas (x0_least : Int) (x1_n : Int) (x2_most : Int) : Option (Bool) := cond (decide (x0_least ≤ x1_n)) (some (decide (x1_n ≤ x2_most))) (some false)
theorem zcl (x0_least : Int) (x1_n : Int) (x2_most : Int) (R : Bool) (h : zas x0_least x1_n x2_most = some R) : VPure Tryz.prog G0 92 [.lit (.int .i64 x0_least), .lit (.int .i64 x1_n), .lit (.int .i64 x2_most)] (.tree (.lit (.bool R))) := by
 refine VPure.runR mixed Tryz.call92 Tryz.func92 rfl (by simp [Tryz.ntmps92]; kernel_rfl) ?_
 obtain ⟨KF, h, kF, kN⟩ := zak h
 simp only [zas] at h
 cases d1 : (decide (x0_least ≤ x1_n))
 ·simp only [d1, hs] at h
  try simp only [vz, tyf, d1, nm, seval]
  obtain rfl := kF _ h
  exact zab Tryz.results92 rfl
 simp only [d1, hs] at h
 try simp only [vz, tyf, d1, nm, seval]
 obtain rfl := kF _ h
 exact zab Tryz.results92 rfl
end Go.V
end
section
namespace Go.V
open Go Go.Proofs
def zde (x0_least : Int) (x2_most : Int) : List Int → Int → Option (LOut (Bool) (Unit))
 | [], c0_11 => some (.go ())
 | e0 :: p0, c0_11 => Option.bind (zas x0_least e0 x2_most) (fun r1 => cond (r1) (zde x0_least x2_most p0 (c0_11 + 1)) (some (.ret false)))
def zcz (x0_least : Int) (x1_numbers : List Int) (x2_most : Int) : Option (Bool) := cond (lenOk x1_numbers) (lbind (zde x0_least x2_most x1_numbers 0) (fun r3 => some r3) (fun c2 => some true) (fun _ _ => none)) none
theorem zhs (x0_least : Int) (x1_numbers : List Int) (x2_most : Int) (R : Bool) (h : zcz x0_least x1_numbers x2_most = some R) : VPure Tryz.prog G0 89 [.lit (.int .i64 x0_least), .sl (cellsL eI x1_numbers) (List.length x1_numbers) false, .lit (.int .i64 x2_most)] (.tree (.lit (.bool R))) := by
 refine VPure.runR mixed Tryz.call89 Tryz.func89 rfl (by simp [Tryz.ntmps89]; kernel_rfl) ?_
 obtain ⟨KF, h, kF, kN⟩ := zak h
 simp only [zcz] at h
 cases g5 : (lenOk x1_numbers)
 ·simp only [g5, hs] at h
  exact absurd h kN
 simp only [g5, hs] at h
 simp only [vz, tyf, g5, nm, seval]
 obtain ⟨K4, h, kR4, kG4, kB4, kN4⟩ := zbc h kN
 obtain ⟨f4, hf4, h⟩ := call2 h
 obtain ⟨I4, hI4⟩ : ∃ I : Nat → St → Prop, I = (fun m st => ∃ (p4 : List Int) (c4_11 : Int), m = List.length p4 ∧ 0 ≤ c4_11 ∧ List.drop (Int.toNat c4_11) x1_numbers = p4 ∧ st.df = [] ∧ 4 ≤ st.nx ∧ st.tm 0 = .lit (.int .i64 x0_least) ∧ st.tm 2 = .lit (.int .i64 x2_most) ∧ st.tm 9 = .sl (cellsL eI x1_numbers) (List.length x1_numbers) false ∧ st.tm 10 = .lit (.int .i64 (List.length x1_numbers : Int)) ∧ st.tm 11 = .lit (.int .i64 c4_11) ∧ K4 (f4 p4 c4_11)) := ⟨_, rfl⟩
 refine loopK mixed (by kernel_rfl) I4 (List.length x1_numbers) (by rw [hI4]; refine ⟨x1_numbers, 0, rfl, Int.le_refl _, rfl, rfl, (show 4 ≤ 4 by omega), ?_, ?_, ?_, ?_, ?_, h⟩ <;> first | (simp only [ua, nm, seval] <;> rfl) | rfl) ?_
 rintro m ⟨tm, H, nx4, df⟩ hinv
 rw [hI4] at hinv
 obtain ⟨p4, c4_11, rfl, hi4, hp4, hdf, hn4, e6, e7, e8, e9, e10, h⟩ := hinv
 simp only at hdf hn4 e6 e7 e8 e9 e10
 have n11 := zda (m := 4) (b := nx4) (by omega)
 subst hdf hf4
 cases p4 with
 | nil =>
  have d12 : (decide (c4_11 < (List.length x1_numbers : Int))) = false := zam hi4 hp4
  simp only [zde, hs, reduceCtorEq] at h
  replace h := kG4 _ h
  try dsimp only at h
  try simp only [hs] at h
  try simp only [vz, tyf, g5, n11, e6, e7, e8, e9, e10, d12, nm, seval]
  obtain rfl := kF _ h
  exact zab Tryz.results89 rfl
 | cons e4 p4 =>
  have d13 : (decide (c4_11 < (List.length x1_numbers : Int))) = true := zbp hi4 hp4
  have o15 := zaj hi4 hp4
  have w14 := zcm hi4 hp4 g5
  simp only [zde, hs, reduceCtorEq] at h
  rcases o17 : (zas x0_least e4 x2_most) with _ | r16
  ·simp only [o17, hs] at h
   exact absurd h kN4
  simp only [o17, hs] at h
  simp only [vz, tyf, g5, n11, e6, e7, e8, e9, e10, d13, (ix29 o15), w14, nm, seval]
  refine ktree (args0 := [.lit (.int .i64 x0_least), .lit (.int .i64 e4), .lit (.int .i64 x2_most)]) (by first | (simp only [nrm, tynrm] <;> rfl) | rfl) (by simp only [tre, tytre, Bool.and_self]) (zcl _ _ _ _ o17) ?_
  refine zac (fun tm => tm 0 = .lit (.int .i64 x0_least) ∧ tm 2 = .lit (.int .i64 x2_most) ∧ tm 9 = .sl (cellsL eI x1_numbers) (List.length x1_numbers) false ∧ tm 10 = .lit (.int .i64 (List.length x1_numbers : Int)) ∧ tm 11 = .lit (.int .i64 c4_11) ∧ tm 18 = .lit (.bool r16) ∧ True) (by refine ⟨e6, e7, e8, e9, e10, ?_, trivial⟩ <;> first | (simp only [ua, n11, e6, e7, e8, e9, e10, d13, w14, nm, seval] <;> rfl) | rfl) ?_
  rintro tm ⟨e18, e19, e20, e21, e22, e23, _⟩
  cases d24 : (r16)
  ·simp only [d24, hs] at h
   try simp only [vz, tyf, g5, n11, d13, (ix29 o15), w14, e18, e19, e20, e21, e22, e23, d24, nm, seval]
   replace h := kR4 _ h
   try dsimp only at h
   obtain rfl := kF _ h
   exact zab Tryz.results89 rfl
  simp only [d24, hs] at h
  simp only [vz, tyf, g5, n11, d13, (ix29 o15), w14, e18, e19, e20, e21, e22, e23, d24, nm, seval]
  exact ⟨List.length p4, Nat.lt_succ_self _, by rw [hI4]; refine ⟨p4, c4_11 + 1, rfl, Int.le_trans hi4 (Int.le_add_one (Int.le_refl _)), zay hi4 hp4, rfl, (show 4 ≤ nx4 + 11 by omega), e18, e19, e20, e21, ?_, h⟩ <;> first | (simp only [ua, n11, d13, w14, e18, e19, e20, e21, e22, e23, d24, nm, seval] <;> rfl) | rfl⟩
end Go.V
end
section
namespace Go.V
open Go Go.Proofs
def zdj (x0_least : Int) (x1_x : GSpan) (x2_most : Int) : Option (Bool) := cond (decide (x0_least ≤ x1_x.Low)) (cond (decide (x1_x.Low ≤ x1_x.High)) (some (decide (x1_x.High ≤ x2_most))) (some false)) (some false)
theorem zig (x0_least : Int) (x1_x : GSpan) (x2_most : Int) (R : Bool) (h : zdj x0_least x1_x x2_most = some R) : VPure Tryz.prog G0 91 [.lit (.int .i64 x0_least), .agg (cGSpan x1_x), .lit (.int .i64 x2_most)] (.tree (.lit (.bool R))) := by
 refine VPure.runR mixed Tryz.call91 Tryz.func91 rfl (by simp [Tryz.ntmps91]; kernel_rfl) ?_
 obtain ⟨KF, h, kF, kN⟩ := zak h
 simp only [zdj] at h
 cases d1 : (decide (x0_least ≤ x1_x.Low))
 ·simp only [d1, hs] at h
  try simp only [vz, tyf, d1, nm, seval]
  obtain rfl := kF _ h
  exact zab Tryz.results91 rfl
 simp only [d1, hs] at h
 cases d2 : (decide (x1_x.Low ≤ x1_x.High))
 ·simp only [d2, hs] at h
  try simp only [vz, tyf, d1, d2, nm, seval]
  obtain rfl := kF _ h
  exact zab Tryz.results91 rfl
 simp only [d2, hs] at h
 try simp only [vz, tyf, d1, d2, nm, seval]
 obtain rfl := kF _ h
 exact zab Tryz.results91 rfl
end Go.V
end
section
namespace Go.V
open Go Go.Proofs
def zcw (x0_least : Int) (x2_most : Int) : List GSpan → Int → Option (LOut (Bool) (Unit))
 | [], c0_11 => some (.go ())
 | e0 :: p0, c0_11 => Option.bind (zdj x0_least e0 x2_most) (fun r1 => cond (r1) (zcw x0_least x2_most p0 (c0_11 + 1)) (some (.ret false)))
def zch (x0_least : Int) (x1_spans : List GSpan) (x2_most : Int) : Option (Bool) := cond (lenOk x1_spans) (lbind (zcw x0_least x2_most x1_spans 0) (fun r3 => some r3) (fun c2 => some true) (fun _ _ => none)) none
theorem zhp (x0_least : Int) (x1_spans : List GSpan) (x2_most : Int) (R : Bool) (h : zch x0_least x1_spans x2_most = some R) : VPure Tryz.prog G0 90 [.lit (.int .i64 x0_least), .sl (cellsL cGSpan x1_spans) (List.length x1_spans) false, .lit (.int .i64 x2_most)] (.tree (.lit (.bool R))) := by
 refine VPure.runR mixed Tryz.call90 Tryz.func90 rfl (by simp [Tryz.ntmps90]; kernel_rfl) ?_
 obtain ⟨KF, h, kF, kN⟩ := zak h
 simp only [zch] at h
 cases g5 : (lenOk x1_spans)
 ·simp only [g5, hs] at h
  exact absurd h kN
 simp only [g5, hs] at h
 simp only [vz, tyf, g5, nm, seval]
 obtain ⟨K4, h, kR4, kG4, kB4, kN4⟩ := zbc h kN
 obtain ⟨f4, hf4, h⟩ := call2 h
 obtain ⟨I4, hI4⟩ : ∃ I : Nat → St → Prop, I = (fun m st => ∃ (p4 : List GSpan) (c4_11 : Int), m = List.length p4 ∧ 0 ≤ c4_11 ∧ List.drop (Int.toNat c4_11) x1_spans = p4 ∧ st.df = [] ∧ 4 ≤ st.nx ∧ st.tm 0 = .lit (.int .i64 x0_least) ∧ st.tm 2 = .lit (.int .i64 x2_most) ∧ st.tm 9 = .sl (cellsL cGSpan x1_spans) (List.length x1_spans) false ∧ st.tm 10 = .lit (.int .i64 (List.length x1_spans : Int)) ∧ st.tm 11 = .lit (.int .i64 c4_11) ∧ K4 (f4 p4 c4_11)) := ⟨_, rfl⟩
 refine loopK mixed (by kernel_rfl) I4 (List.length x1_spans) (by rw [hI4]; refine ⟨x1_spans, 0, rfl, Int.le_refl _, rfl, rfl, (show 4 ≤ 4 by omega), ?_, ?_, ?_, ?_, ?_, h⟩ <;> first | (simp only [ua, nm, seval] <;> rfl) | rfl) ?_
 rintro m ⟨tm, H, nx4, df⟩ hinv
 rw [hI4] at hinv
 obtain ⟨p4, c4_11, rfl, hi4, hp4, hdf, hn4, e6, e7, e8, e9, e10, h⟩ := hinv
 simp only at hdf hn4 e6 e7 e8 e9 e10
 have n11 := zda (m := 4) (b := nx4) (by omega)
 subst hdf hf4
 cases p4 with
 | nil =>
  have d12 : (decide (c4_11 < (List.length x1_spans : Int))) = false := zam hi4 hp4
  simp only [zcw, hs, reduceCtorEq] at h
  replace h := kG4 _ h
  try dsimp only at h
  try simp only [hs] at h
  try simp only [vz, tyf, g5, n11, e6, e7, e8, e9, e10, d12, nm, seval]
  obtain rfl := kF _ h
  exact zab Tryz.results90 rfl
 | cons e4 p4 =>
  have d13 : (decide (c4_11 < (List.length x1_spans : Int))) = true := zbp hi4 hp4
  have o15 := zaj hi4 hp4
  have w14 := zcm hi4 hp4 g5
  simp only [zcw, hs, reduceCtorEq] at h
  rcases o17 : (zdj x0_least e4 x2_most) with _ | r16
  ·simp only [o17, hs] at h
   exact absurd h kN4
  simp only [o17, hs] at h
  simp only [vz, tyf, g5, n11, e6, e7, e8, e9, e10, d13, (ix121 o15), w14, nm, seval]
  refine ktree (args0 := [.lit (.int .i64 x0_least), .agg (cGSpan e4), .lit (.int .i64 x2_most)]) (by first | (simp only [nrm, tynrm] <;> rfl) | rfl) (by simp only [tre, tytre, Bool.and_self]) (zig _ _ _ _ o17) ?_
  refine zac (fun tm => tm 0 = .lit (.int .i64 x0_least) ∧ tm 2 = .lit (.int .i64 x2_most) ∧ tm 9 = .sl (cellsL cGSpan x1_spans) (List.length x1_spans) false ∧ tm 10 = .lit (.int .i64 (List.length x1_spans : Int)) ∧ tm 11 = .lit (.int .i64 c4_11) ∧ tm 18 = .lit (.bool r16) ∧ True) (by refine ⟨e6, e7, e8, e9, e10, ?_, trivial⟩ <;> first | (simp only [ua, n11, e6, e7, e8, e9, e10, d13, w14, nm, seval] <;> rfl) | rfl) ?_
  rintro tm ⟨e18, e19, e20, e21, e22, e23, _⟩
  cases d24 : (r16)
  ·simp only [d24, hs] at h
   try simp only [vz, tyf, g5, n11, d13, (ix121 o15), w14, e18, e19, e20, e21, e22, e23, d24, nm, seval]
   replace h := kR4 _ h
   try dsimp only at h
   obtain rfl := kF _ h
   exact zab Tryz.results90 rfl
  simp only [d24, hs] at h
  simp only [vz, tyf, g5, n11, d13, (ix121 o15), w14, e18, e19, e20, e21, e22, e23, d24, nm, seval]
  exact ⟨List.length p4, Nat.lt_succ_self _, by rw [hI4]; refine ⟨p4, c4_11 + 1, rfl, Int.le_trans hi4 (Int.le_add_one (Int.le_refl _)), zay hi4 hp4, rfl, (show 4 ≤ nx4 + 12 by omega), e18, e19, e20, e21, ?_, h⟩ <;> first | (simp only [ua, n11, d13, w14, e18, e19, e20, e21, e22, e23, d24, nm, seval] <;> rfl) | rfl⟩
end Go.V
end
section
namespace Go.V
open Go Go.Proofs
def zdr  : List GTintTin → Int → Option (LOut (Bool) (Unit))
 | [], c0_11 => some (.go ())
 | e0 :: p0, c0_11 => Option.bind (zch 0 ([e0.Pigments.a0, e0.Pigments.a1, e0.Pigments.a2]) 99) (fun r2 => cond (r2) (zdr p0 (c0_11 + 1)) (some (.ret false)))
def zfw (x0_tins : List GTintTin) : Option (Bool) := Option.bind (zas 1 (List.length x0_tins : Int) 4) (fun r1 => cond (r1) (cond (lenOk x0_tins) (lbind (zdr x0_tins 0) (fun r4 => some r4) (fun c3 => some true) (fun _ _ => none)) none) (some false))
theorem zmx (x0_tins : List GTintTin) (R : Bool) (h : zfw x0_tins = some R) : VPure Tryz.prog G0 93 [.sl (cellsL cGTintTin x0_tins) (List.length x0_tins) false] (.tree (.lit (.bool R))) := by
 refine VPure.runR mixed Tryz.call93 Tryz.func93 rfl (by simp [Tryz.ntmps93]; kernel_rfl) ?_
 obtain ⟨KF, h, kF, kN⟩ := zak h
 simp only [zfw] at h
 rcases o6 : (zas 1 (List.length x0_tins : Int) 4) with _ | r5
 ·simp only [o6, hs] at h
  exact absurd h kN
 simp only [o6, hs] at h
 simp only [vz, tyf, nm, seval]
 refine ktree (args0 := [.lit (.int .i64 1), .lit (.int .i64 (List.length x0_tins : Int)), .lit (.int .i64 4)]) (by first | (simp only [nrm, tynrm] <;> rfl) | rfl) (by simp only [tre, tytre, Bool.and_self]) (zcl _ _ _ _ o6) ?_
 refine zac (fun tm => tm 0 = .sl (cellsL cGTintTin x0_tins) (List.length x0_tins) false ∧ tm 7 = .lit (.bool r5) ∧ True) (by refine ⟨?_, ?_, trivial⟩ <;> first | (simp only [ua, nm, seval] <;> rfl) | rfl) ?_
 rintro tm ⟨e7, e8, _⟩
 cases d9 : (r5)
 ·simp only [d9, hs] at h
  try simp only [vz, tyf, e7, e8, d9, nm, seval]
  obtain rfl := kF _ h
  exact zab Tryz.results93 rfl
 simp only [d9, hs] at h
 cases g11 : (lenOk x0_tins)
 ·simp only [g11, hs] at h
  exact absurd h kN
 simp only [g11, hs] at h
 simp only [vz, tyf, e7, e8, d9, g11, nm, seval]
 obtain ⟨K10, h, kR10, kG10, kB10, kN10⟩ := zbc h kN
 obtain ⟨f10, hf10, h⟩ := call2 h
 obtain ⟨I10, hI10⟩ : ∃ I : Nat → St → Prop, I = (fun m st => ∃ (p10 : List GTintTin) (c10_11 : Int), m = List.length p10 ∧ 0 ≤ c10_11 ∧ List.drop (Int.toNat c10_11) x0_tins = p10 ∧ st.df = [] ∧ 8 ≤ st.nx ∧ st.tm 9 = .sl (cellsL cGTintTin x0_tins) (List.length x0_tins) false ∧ st.tm 10 = .lit (.int .i64 (List.length x0_tins : Int)) ∧ st.tm 11 = .lit (.int .i64 c10_11) ∧ K10 (f10 p10 c10_11)) := ⟨_, rfl⟩
 refine loopK mixed (by kernel_rfl) I10 (List.length x0_tins) (by rw [hI10]; refine ⟨x0_tins, 0, rfl, Int.le_refl _, rfl, rfl, (show 8 ≤ 8 by omega), ?_, ?_, ?_, h⟩ <;> first | (simp only [ua, e7, e8, d9, nm, seval] <;> rfl) | rfl) ?_
 rintro m ⟨tm, H, nx10, df⟩ hinv
 rw [hI10] at hinv
 obtain ⟨p10, c10_11, rfl, hi10, hp10, hdf, hn10, e12, e13, e14, h⟩ := hinv
 simp only at hdf hn10 e12 e13 e14
 have n15 := zda (m := 8) (b := nx10) (by omega)
 subst hdf hf10
 cases p10 with
 | nil =>
  have d16 : (decide (c10_11 < (List.length x0_tins : Int))) = false := zam hi10 hp10
  simp only [zdr, hs, reduceCtorEq] at h
  replace h := kG10 _ h
  try dsimp only at h
  try simp only [hs] at h
  try simp only [vz, tyf, d9, g11, n15, e12, e13, e14, d16, nm, seval]
  obtain rfl := kF _ h
  exact zab Tryz.results93 rfl
 | cons e10 p10 =>
  have d17 : (decide (c10_11 < (List.length x0_tins : Int))) = true := zbp hi10 hp10
  have o19 := zaj hi10 hp10
  have w18 := zcm hi10 hp10 g11
  simp only [zdr, hs, reduceCtorEq] at h
  try simp only [vz, tyf, d9, g11, n15, e12, e13, e14, d17, (ix26 o19), w18, nm, seval]
  refine k_slA (n := 3) (w := 2) (off := 0) (cs := cGTintTin e10) (el := some 94) Tryz.underlying25 (by kernel_rfl) (by first | (simp only [znt, zjl, zahl, zfj, d9, g11, n15, e12, e13, e14, d17, (ix26 o19), w18, nm, seval] <;> rfl) | rfl) (by first | rfl | assumption | (simp only [zaa, zao, n15, nm, seval] <;> rfl)) (by decide) (Nat.le_of_ble_eq_true rfl) ?_
  rcases o21 : (zch 0 ([e10.Pigments.a0, e10.Pigments.a1, e10.Pigments.a2]) 99) with _ | r20
  ·simp only [o21, hs] at h
   exact absurd h kN10
  simp only [o21, hs] at h
  simp only [vz, tyf, d9, g11, n15, e12, e13, e14, d17, (ix26 o19), w18, nm, seval]
  refine kseen (args0 := [.lit (.int .i64 0), .sl (cellsL cGSpan ([e10.Pigments.a0, e10.Pigments.a1, e10.Pigments.a2])) (List.length ([e10.Pigments.a0, e10.Pigments.a1, e10.Pigments.a2])) false, .lit (.int .i64 99)]) (by simp only [List.map_cons, List.map_nil, List.drop_succ_cons, List.drop_zero, List.take_succ_cons, List.take_zero, List.length_cons, List.length_nil, zae, zaa, zao, cr, tyf, nrm, tynrm, d9, g11, n15, e12, e13, e14, d17, (ix26 o19), w18, nm, seval] <;> rfl) (by simp only [List.map_cons, List.map_nil, List.drop_succ_cons, List.drop_zero, List.take_succ_cons, List.take_zero, List.length_cons, List.length_nil, zae, zaa, zao, cr, tyf, nrm, tynrm, d9, g11, n15, e12, e13, e14, d17, (ix26 o19), w18, nm, seval]; simp only [tre, tytre, Bool.and_self]) (zhp _ _ _ _ o21) (by first | rfl | simp only [VV.flat, flatL, Bool.and_self]) ?_
  refine zac (fun tm => tm 9 = .sl (cellsL cGTintTin x0_tins) (List.length x0_tins) false ∧ tm 10 = .lit (.int .i64 (List.length x0_tins : Int)) ∧ tm 11 = .lit (.int .i64 c10_11) ∧ tm 17 = .lit (.bool r20) ∧ True) (by refine ⟨e12, e13, e14, ?_, trivial⟩ <;> first | (simp only [ua, d9, n15, e12, e13, e14, d17, w18, nm, seval] <;> rfl) | rfl) ?_
  rintro tm ⟨e22, e23, e24, e25, _⟩
  cases d26 : (r20)
  ·simp only [d26, hs] at h
   try simp only [vz, tyf, d9, g11, n15, d17, (ix26 o19), w18, e22, e23, e24, e25, d26, nm, seval]
   replace h := kR10 _ h
   try dsimp only at h
   obtain rfl := kF _ h
   exact zab Tryz.results93 rfl
  simp only [d26, hs] at h
  simp only [vz, tyf, d9, g11, n15, d17, (ix26 o19), w18, e22, e23, e24, e25, d26, nm, seval]
  exact ⟨List.length p10, Nat.lt_succ_self _, by rw [hI10]; refine ⟨p10, c10_11 + 1, rfl, Int.le_trans hi10 (Int.le_add_one (Int.le_refl _)), zay hi10 hp10, rfl, (show 8 ≤ nx10 + 11 by omega), e22, e23, ?_, h⟩ <;> first | (simp only [ua, d9, n15, d17, w18, e22, e23, e24, e25, d26, nm, seval] <;> rfl) | rfl⟩
end Go.V
end
section
namespace Go.V
open Go Go.Proofs
def zap (x0_s : GTintSheet) : Option (Bool) := Option.bind (zcz 0 ([x0_s.Old.a0, x0_s.Old.a1, x0_s.Old.a2]) 99) (fun r1 => cond (r1) (Option.bind (zch 0 ([x0_s.Fade.a0, x0_s.Fade.a1, x0_s.Fade.a2]) 9) (fun r2 => cond (r2) (Option.bind (zdj 0 x0_s.Years 20) (fun r3 => cond (r3) (Option.bind (zas 1 x0_s.Off 20) (fun r4 => cond (r4) (Option.bind (zfw x0_s.Tins) (fun r5 => some r5)) (some false))) (some false))) (some false))) (some false))
theorem zcg (x0_s : GTintSheet) (R : Bool) (h : zap x0_s = some R) : VPure Tryz.prog G0 60 [.agg (cGTintSheet x0_s)] (.tree (.lit (.bool R))) := by
 refine VPure.runR mixed Tryz.call60 Tryz.func60 rfl (by simp [Tryz.ntmps60]; kernel_rfl) ?_
 obtain ⟨KF, h, kF, kN⟩ := zak h
 simp only [zap] at h
 try simp only [vz, tyf, nm, seval]
 refine k_slA (n := 3) (w := 1) (off := 0) (cs := cGTintSheet x0_s) (el := some 28) Tryz.underlying22 (by kernel_rfl) (by first | (simp only [znt, zjl, zahl, zfj, nm, seval] <;> rfl) | rfl) (by first | rfl | assumption | (simp only [zaa, zao, nm, seval] <;> rfl)) (by decide) (Nat.le_of_ble_eq_true rfl) ?_
 rcases o7 : (zcz 0 ([x0_s.Old.a0, x0_s.Old.a1, x0_s.Old.a2]) 99) with _ | r6
 ·simp only [o7, hs] at h
  exact absurd h kN
 simp only [o7, hs] at h
 simp only [vz, tyf, nm, seval]
 refine kseen (args0 := [.lit (.int .i64 0), .sl (cellsL eI ([x0_s.Old.a0, x0_s.Old.a1, x0_s.Old.a2])) (List.length ([x0_s.Old.a0, x0_s.Old.a1, x0_s.Old.a2])) false, .lit (.int .i64 99)]) (by simp only [List.map_cons, List.map_nil, List.drop_succ_cons, List.drop_zero, List.take_succ_cons, List.take_zero, List.length_cons, List.length_nil, zae, zaa, zao, cr, tyf, nrm, tynrm, nm, seval] <;> rfl) (by simp only [List.map_cons, List.map_nil, List.drop_succ_cons, List.drop_zero, List.take_succ_cons, List.take_zero, List.length_cons, List.length_nil, zae, zaa, zao, cr, tyf, nrm, tynrm, nm, seval]; simp only [tre, tytre, Bool.and_self]) (zhs _ _ _ _ o7) (by first | rfl | simp only [VV.flat, flatL, Bool.and_self]) ?_
 refine zac (fun tm => tm 1 = .ptr 0 0 ∧ tm 5 = .lit (.bool r6) ∧ True) (by refine ⟨?_, ?_, trivial⟩ <;> first | (simp only [ua, nm, seval] <;> rfl) | rfl) ?_
 rintro tm ⟨e8, e9, _⟩
 cases d10 : (r6)
 ·simp only [d10, hs] at h
  try simp only [vz, tyf, e8, e9, d10, nm, seval]
  obtain rfl := kF _ h
  exact zab Tryz.results60 rfl
 simp only [d10, hs] at h
 try simp only [vz, tyf, e8, e9, d10, nm, seval]
 refine k_slA (n := 3) (w := 2) (off := 3) (cs := cGTintSheet x0_s) (el := some 28) Tryz.underlying25 (by kernel_rfl) (by first | (simp only [znt, zjl, zahl, zfj, e8, e9, d10, nm, seval] <;> rfl) | rfl) (by first | rfl | assumption | (simp only [zaa, zao, nm, seval] <;> rfl)) (by decide) (Nat.le_of_ble_eq_true rfl) ?_
 rcases o12 : (zch 0 ([x0_s.Fade.a0, x0_s.Fade.a1, x0_s.Fade.a2]) 9) with _ | r11
 ·simp only [o12, hs] at h
  exact absurd h kN
 simp only [o12, hs] at h
 simp only [vz, tyf, e8, e9, d10, nm, seval]
 refine kseen (args0 := [.lit (.int .i64 0), .sl (cellsL cGSpan ([x0_s.Fade.a0, x0_s.Fade.a1, x0_s.Fade.a2])) (List.length ([x0_s.Fade.a0, x0_s.Fade.a1, x0_s.Fade.a2])) false, .lit (.int .i64 9)]) (by simp only [List.map_cons, List.map_nil, List.drop_succ_cons, List.drop_zero, List.take_succ_cons, List.take_zero, List.length_cons, List.length_nil, zae, zaa, zao, cr, tyf, nrm, tynrm, e8, e9, d10, nm, seval] <;> rfl) (by simp only [List.map_cons, List.map_nil, List.drop_succ_cons, List.drop_zero, List.take_succ_cons, List.take_zero, List.length_cons, List.length_nil, zae, zaa, zao, cr, tyf, nrm, tynrm, e8, e9, d10, nm, seval]; simp only [tre, tytre, Bool.and_self]) (zhp _ _ _ _ o12) (by first | rfl | simp only [VV.flat, flatL, Bool.and_self]) ?_
 refine zac (fun tm => tm 1 = .ptr 0 0 ∧ tm 6 = .lit (.bool true) ∧ tm 9 = .lit (.bool r11) ∧ True) (by refine ⟨e8, ?_, ?_, trivial⟩ <;> first | (simp only [ua, e8, e9, d10, nm, seval] <;> rfl) | rfl) ?_
 rintro tm ⟨e13, e14, e15, _⟩
 cases d16 : (r11)
 ·simp only [d16, hs] at h
  try simp only [vz, tyf, d10, e13, e14, e15, d16, nm, seval]
  obtain rfl := kF _ h
  exact zab Tryz.results60 rfl
 simp only [d16, hs] at h
 rcases o18 : (zdj 0 x0_s.Years 20) with _ | r17
 ·simp only [o18, hs] at h
  exact absurd h kN
 simp only [o18, hs] at h
 simp only [vz, tyf, d10, e13, e14, e15, d16, nm, seval]
 refine ktree (args0 := [.lit (.int .i64 0), .agg (cGSpan x0_s.Years), .lit (.int .i64 20)]) (by first | (simp only [nrm, tynrm] <;> rfl) | rfl) (by simp only [tre, tytre, Bool.and_self]) (zig _ _ _ _ o18) ?_
 refine zac (fun tm => tm 1 = .ptr 0 0 ∧ tm 11 = .lit (.bool true) ∧ tm 14 = .lit (.bool r17) ∧ True) (by refine ⟨e13, ?_, ?_, trivial⟩ <;> first | (simp only [ua, d10, e13, e14, e15, d16, nm, seval] <;> rfl) | rfl) ?_
 rintro tm ⟨e19, e20, e21, _⟩
 cases d22 : (r17)
 ·simp only [d22, hs] at h
  try simp only [vz, tyf, d10, d16, e19, e20, e21, d22, nm, seval]
  obtain rfl := kF _ h
  exact zab Tryz.results60 rfl
 simp only [d22, hs] at h
 rcases o24 : (zas 1 x0_s.Off 20) with _ | r23
 ·simp only [o24, hs] at h
  exact absurd h kN
 simp only [o24, hs] at h
 simp only [vz, tyf, d10, d16, e19, e20, e21, d22, nm, seval]
 refine ktree (args0 := [.lit (.int .i64 1), .lit (.int .i64 x0_s.Off), .lit (.int .i64 20)]) (by first | (simp only [nrm, tynrm] <;> rfl) | rfl) (by simp only [tre, tytre, Bool.and_self]) (zcl _ _ _ _ o24) ?_
 refine zac (fun tm => tm 1 = .ptr 0 0 ∧ tm 16 = .lit (.bool true) ∧ tm 19 = .lit (.bool r23) ∧ True) (by refine ⟨e19, ?_, ?_, trivial⟩ <;> first | (simp only [ua, d10, d16, e19, e20, e21, d22, nm, seval] <;> rfl) | rfl) ?_
 rintro tm ⟨e25, e26, e27, _⟩
 cases d28 : (r23)
 ·simp only [d28, hs] at h
  try simp only [vz, tyf, d10, d16, d22, e25, e26, e27, d28, nm, seval]
  obtain rfl := kF _ h
  exact zab Tryz.results60 rfl
 simp only [d28, hs] at h
 rcases o30 : (zfw x0_s.Tins) with _ | r29
 ·simp only [o30, hs] at h
  exact absurd h kN
 simp only [o30, hs] at h
 simp only [vz, tyf, d10, d16, d22, e25, e26, e27, d28, nm, seval]
 refine ktree (args0 := [.sl (cellsL cGTintTin x0_s.Tins) (List.length x0_s.Tins) false]) (by first | (simp only [nrm, tynrm] <;> rfl) | rfl) (by simp only [tre, tytre, Bool.and_self]) (zmx _ _ o30) ?_
 refine zac (fun tm => tm 21 = .lit (.bool true) ∧ tm 24 = .lit (.bool r29) ∧ True) (by refine ⟨?_, ?_, trivial⟩ <;> first | (simp only [ua, d10, d16, d22, e25, e26, e27, d28, nm, seval] <;> rfl) | rfl) ?_
 rintro tm ⟨e31, e32, _⟩
 try simp only [vz, tyf, d10, d16, d22, d28, e31, e32, nm, seval]
 obtain rfl := kF _ h
 exact zab Tryz.results60 rfl
end Go.V
end
section
namespace Go.V
open Go Go.Proofs
def zgf  : List Int → Int → Int → Option (LOut (Int) (Int))
 | [], c0_8, c0_3 => some (.go c0_3)
 | e0 :: p0, c0_8, c0_3 => zgf p0 (c0_8 + 1) (IntKind.i64.wrap (c0_3 + e0))
def zhy (x0_numbers : List Int) : Option (Int) := cond (lenOk x0_numbers) (lbind (zgf x0_numbers 0 0) (fun r2 => some r2) (fun c1 => some c1) (fun _ _ => none)) none
theorem zmh (x0_numbers : List Int) (R : Int) (h : zhy x0_numbers = some R) : VPure Tryz.prog G0 95 [.sl (cellsL eI x0_numbers) (List.length x0_numbers) false] (.tree (.lit (.int .i64 R))) := by
 refine VPure.runR mixed Tryz.call95 Tryz.func95 rfl (by simp [Tryz.ntmps95]; kernel_rfl) ?_
 obtain ⟨KF, h, kF, kN⟩ := zak h
 simp only [zhy] at h
 cases g4 : (lenOk x0_numbers)
 ·simp only [g4, hs] at h
  exact absurd h kN
 simp only [g4, hs] at h
 simp only [vz, tyf, g4, nm, seval]
 obtain ⟨K3, h, kR3, kG3, kB3, kN3⟩ := zbc h kN
 obtain ⟨f3, hf3, h⟩ := call3 h
 obtain ⟨I3, hI3⟩ : ∃ I : Nat → St → Prop, I = (fun m st => ∃ (p3 : List Int) (c3_8 : Int) (c3_3 : Int), m = List.length p3 ∧ 0 ≤ c3_8 ∧ List.drop (Int.toNat c3_8) x0_numbers = p3 ∧ st.df = [] ∧ 5 ≤ st.nx ∧ st.tm 6 = .sl (cellsL eI x0_numbers) (List.length x0_numbers) false ∧ st.tm 7 = .lit (.int .i64 (List.length x0_numbers : Int)) ∧ st.tm 3 = .lit (.int .i64 c3_3) ∧ st.tm 8 = .lit (.int .i64 c3_8) ∧ K3 (f3 p3 c3_8 c3_3)) := ⟨_, rfl⟩
 refine loopK mixed (by kernel_rfl) I3 (List.length x0_numbers) (by rw [hI3]; refine ⟨x0_numbers, 0, 0, rfl, Int.le_refl _, rfl, rfl, (show 5 ≤ 5 by omega), ?_, ?_, ?_, ?_, h⟩ <;> first | (simp only [ua, nm, seval] <;> rfl) | rfl) ?_
 rintro m ⟨tm, H, nx3, df⟩ hinv
 rw [hI3] at hinv
 obtain ⟨p3, c3_8, c3_3, rfl, hi3, hp3, hdf, hn3, e5, e6, e7, e8, h⟩ := hinv
 simp only at hdf hn3 e5 e6 e7 e8
 have n9 := zda (m := 5) (b := nx3) (by omega)
 subst hdf hf3
 cases p3 with
 | nil =>
  have d10 : (decide (c3_8 < (List.length x0_numbers : Int))) = false := zam hi3 hp3
  simp only [zgf, hs, reduceCtorEq] at h
  replace h := kG3 _ h
  try dsimp only at h
  try simp only [hs] at h
  try simp only [vz, tyf, g4, n9, e5, e6, e7, e8, d10, nm, seval]
  refine zaq (x := (.lit (.int .i64 c3_3))) (by first | (simp only [Tryz.results95, resV, resL, resV1, zat, zbs, uw, cr, tyf, g4, n9, d10, nm, seval] <;> rfl) | rfl) ?_
  obtain rfl := kF _ h
  refine zau ?_ ?_
  ·simp only [tre, tytre, Bool.and_self]
  ·first | (simp only [outV, uw, zae, cr, tyf, nrm, tynrm, g4, n9, e5, e6, e7, e8, d10, nm, seval] <;> rfl) | rfl
 | cons e3 p3 =>
  have d11 : (decide (c3_8 < (List.length x0_numbers : Int))) = true := zbp hi3 hp3
  have o13 := zaj hi3 hp3
  have w12 := zcm hi3 hp3 g4
  simp only [zgf, hs, reduceCtorEq] at h
  simp only [vz, tyf, g4, n9, e5, e6, e7, e8, d11, (ix29 o13), w12, nm, seval]
  exact ⟨List.length p3, Nat.lt_succ_self _, by rw [hI3]; refine ⟨p3, c3_8 + 1, IntKind.i64.wrap (c3_3 + e3), rfl, Int.le_trans hi3 (Int.le_add_one (Int.le_refl _)), zay hi3 hp3, rfl, (show 5 ≤ nx3 + 10 by omega), e5, e6, ?_, ?_, h⟩ <;> first | (simp only [ua, n9, e5, e6, e7, e8, d11, w12, nm, seval] <;> rfl) | rfl⟩
end Go.V
end
section
namespace Go.V
open Go Go.Proofs
def zck (x0_s : GTintSheet) (x1_mix : List Int) : Option (Bool) := cond ((List.length x1_mix : Int) == (List.length x0_s.Tins : Int)) (Option.bind (zcz 0 x1_mix 8) (fun r1 => cond (r1) (Option.bind (zhy x1_mix) (fun r2 => Option.bind (zas 1 r2 8) (fun r3 => some r3))) (some false))) (some false)
theorem zgu (x0_s : GTintSheet) (x1_mix : List Int) (R : Bool) (h : zck x0_s x1_mix = some R) : VPure Tryz.prog G0 62 [.agg (cGTintSheet x0_s), .sl (cellsL eI x1_mix) (List.length x1_mix) false] (.tree (.lit (.bool R))) := by
 refine VPure.runR mixed Tryz.call62 Tryz.func62 rfl (by simp [Tryz.ntmps62]; kernel_rfl) ?_
 obtain ⟨KF, h, kF, kN⟩ := zak h
 simp only [zck] at h
 cases d4 : ((List.length x1_mix : Int) == (List.length x0_s.Tins : Int))
 ·simp only [d4, hs] at h
  try simp only [vz, tyf, d4, nm, seval]
  obtain rfl := kF _ h
  exact zab Tryz.results62 rfl
 simp only [d4, hs] at h
 rcases o6 : (zcz 0 x1_mix 8) with _ | r5
 ·simp only [o6, hs] at h
  exact absurd h kN
 simp only [o6, hs] at h
 simp only [vz, tyf, d4, nm, seval]
 refine ktree (args0 := [.lit (.int .i64 0), .sl (cellsL eI x1_mix) (List.length x1_mix) false, .lit (.int .i64 8)]) (by first | (simp only [nrm, tynrm] <;> rfl) | rfl) (by simp only [tre, tytre, Bool.and_self]) (zhs _ _ _ _ o6) ?_
 refine zac (fun tm => tm 1 = .sl (cellsL eI x1_mix) (List.length x1_mix) false ∧ tm 11 = .lit (.bool true) ∧ tm 13 = .lit (.bool r5) ∧ True) (by refine ⟨?_, ?_, ?_, trivial⟩ <;> first | (simp only [ua, d4, nm, seval] <;> rfl) | rfl) ?_
 rintro tm ⟨e7, e8, e9, _⟩
 cases d10 : (r5)
 ·simp only [d10, hs] at h
  try simp only [vz, tyf, d4, e7, e8, e9, d10, nm, seval]
  obtain rfl := kF _ h
  exact zab Tryz.results62 rfl
 simp only [d10, hs] at h
 rcases o12 : (zhy x1_mix) with _ | r11
 ·simp only [o12, hs] at h
  exact absurd h kN
 simp only [o12, hs] at h
 simp only [vz, tyf, d4, e7, e8, e9, d10, nm, seval]
 refine ktree (args0 := [.sl (cellsL eI x1_mix) (List.length x1_mix) false]) (by first | (simp only [nrm, tynrm] <;> rfl) | rfl) (by simp only [tre, tytre, Bool.and_self]) (zmh _ _ o12) ?_
 refine zac (fun tm => tm 15 = .lit (.bool true) ∧ tm 17 = .lit (.int .i64 r11) ∧ True) (by refine ⟨?_, ?_, trivial⟩ <;> first | (simp only [ua, d4, e7, e8, e9, d10, nm, seval] <;> rfl) | rfl) ?_
 rintro tm ⟨e13, e14, _⟩
 rcases o16 : (zas 1 r11 8) with _ | r15
 ·simp only [o16, hs] at h
  exact absurd h kN
 simp only [o16, hs] at h
 simp only [vz, tyf, d4, d10, e13, e14, nm, seval]
 refine ktree (args0 := [.lit (.int .i64 1), .lit (.int .i64 r11), .lit (.int .i64 8)]) (by first | (simp only [nrm, tynrm] <;> rfl) | rfl) (by simp only [tre, tytre, Bool.and_self]) (zcl _ _ _ _ o16) ?_
 refine zac (fun tm => tm 15 = .lit (.bool true) ∧ tm 18 = .lit (.bool r15) ∧ True) (by refine ⟨e13, ?_, trivial⟩ <;> first | (simp only [ua, d4, d10, e13, e14, nm, seval] <;> rfl) | rfl) ?_
 rintro tm ⟨e17, e18, _⟩
 try simp only [vz, tyf, d4, d10, e17, e18, nm, seval]
 obtain rfl := kF _ h
 exact zab Tryz.results62 rfl
end Go.V
end
section
namespace Go.V
open Go Go.Proofs
def zdb (x0_spans : GA3GSpan) (x1_numbers : GA3Int) : Option (Bool) := Option.bind (zas x0_spans.a0.Low x1_numbers.a0 x0_spans.a0.High) (fun r1 => cond (r1) (Option.bind (zas x0_spans.a1.Low x1_numbers.a1 x0_spans.a1.High) (fun r2 => cond (r2) (Option.bind (zas x0_spans.a2.Low x1_numbers.a2 x0_spans.a2.High) (fun r3 => cond (r3) (some true) (some false))) (some false))) (some false))
theorem zht (x0_spans : GA3GSpan) (x1_numbers : GA3Int) (R : Bool) (h : zdb x0_spans x1_numbers = some R) : VPure Tryz.prog G0 98 [.agg (cGA3GSpan x0_spans), .agg (cGA3Int x1_numbers)] (.tree (.lit (.bool R))) := by
 refine VPure.runR mixed Tryz.call98 Tryz.func98 rfl (by simp [Tryz.ntmps98]; kernel_rfl) ?_
 obtain ⟨KF, h, kF, kN⟩ := zak h
 simp only [zdb] at h
 simp only [vz, tyf, nm, seval]
 refine zgo mixed (by kernel_rfl) 4 ?_
 simp only [vz, tyf, nm, seval]
 refine zcq (fun tm => tm 2 = .ptr 0 0 ∧ tm 5 = .lit (.int .i64 0) ∧ tm 6 = .lit (.int .i64 x1_numbers.a0) ∧ tm 7 = .agg (cGA3Int x1_numbers) ∧ tm 8 = .lit (.int .i64 0) ∧ True) (by refine ⟨?_, ?_, ?_, ?_, ?_, trivial⟩ <;> first | (simp only [ua, nm, seval] <;> rfl) | rfl) ?_
 rintro tm ⟨e4, e5, e6, e7, e8, _⟩
 rcases o10 : (zas x0_spans.a0.Low x1_numbers.a0 x0_spans.a0.High) with _ | r9
 ·simp only [o10, hs] at h
  exact absurd h kN
 simp only [o10, hs] at h
 simp only [vz, tyf, e4, e5, e6, e7, e8, nm, seval]
 refine dktree (args0 := [.lit (.int .i64 x0_spans.a0.Low), .lit (.int .i64 x1_numbers.a0), .lit (.int .i64 x0_spans.a0.High)]) (by first | (simp only [nrm, tynrm] <;> rfl) | rfl) (by simp only [tre, tytre, Bool.and_self]) (zcl _ _ _ _ o10) ?_
 refine zac (fun tm => tm 2 = .ptr 0 0 ∧ tm 7 = .agg (cGA3Int x1_numbers) ∧ tm 8 = .lit (.int .i64 0) ∧ tm 21 = .lit (.bool r9) ∧ True) (by refine ⟨e4, e7, e8, ?_, trivial⟩ <;> first | (simp only [ua, e4, e5, e6, e7, e8, nm, seval] <;> rfl) | rfl) ?_
 rintro tm ⟨e11, e12, e13, e14, _⟩
 cases d15 : (r9)
 ·simp only [d15, hs] at h
  try simp only [vz, tyf, e11, e12, e13, e14, d15, nm, seval]
  obtain rfl := kF _ h
  exact zab Tryz.results98 rfl
 simp only [d15, hs] at h
 simp only [vz, tyf, e11, e12, e13, e14, d15, nm, seval]
 refine zcq (fun tm => tm 2 = .ptr 0 0 ∧ tm 5 = .lit (.int .i64 1) ∧ tm 6 = .lit (.int .i64 x1_numbers.a1) ∧ tm 7 = .agg (cGA3Int x1_numbers) ∧ tm 8 = .lit (.int .i64 1) ∧ True) (by refine ⟨e11, ?_, ?_, e12, ?_, trivial⟩ <;> first | (simp only [ua, e11, e12, e13, e14, d15, nm, seval] <;> rfl) | rfl) ?_
 rintro tm ⟨e16, e17, e18, e19, e20, _⟩
 rcases o22 : (zas x0_spans.a1.Low x1_numbers.a1 x0_spans.a1.High) with _ | r21
 ·simp only [o22, hs] at h
  exact absurd h kN
 simp only [o22, hs] at h
 simp only [vz, tyf, d15, e16, e17, e18, e19, e20, nm, seval]
 refine dktree (args0 := [.lit (.int .i64 x0_spans.a1.Low), .lit (.int .i64 x1_numbers.a1), .lit (.int .i64 x0_spans.a1.High)]) (by first | (simp only [nrm, tynrm] <;> rfl) | rfl) (by simp only [tre, tytre, Bool.and_self]) (zcl _ _ _ _ o22) ?_
 refine zac (fun tm => tm 2 = .ptr 0 0 ∧ tm 7 = .agg (cGA3Int x1_numbers) ∧ tm 8 = .lit (.int .i64 1) ∧ tm 21 = .lit (.bool r21) ∧ True) (by refine ⟨e16, e19, e20, ?_, trivial⟩ <;> first | (simp only [ua, d15, e16, e17, e18, e19, e20, nm, seval] <;> rfl) | rfl) ?_
 rintro tm ⟨e23, e24, e25, e26, _⟩
 cases d27 : (r21)
 ·simp only [d27, hs] at h
  try simp only [vz, tyf, d15, e23, e24, e25, e26, d27, nm, seval]
  obtain rfl := kF _ h
  exact zab Tryz.results98 rfl
 simp only [d27, hs] at h
 simp only [vz, tyf, d15, e23, e24, e25, e26, d27, nm, seval]
 refine zcq (fun tm => tm 2 = .ptr 0 0 ∧ tm 5 = .lit (.int .i64 2) ∧ tm 6 = .lit (.int .i64 x1_numbers.a2) ∧ tm 7 = .agg (cGA3Int x1_numbers) ∧ tm 8 = .lit (.int .i64 2) ∧ True) (by refine ⟨e23, ?_, ?_, e24, ?_, trivial⟩ <;> first | (simp only [ua, d15, e23, e24, e25, e26, d27, nm, seval] <;> rfl) | rfl) ?_
 rintro tm ⟨e28, e29, e30, e31, e32, _⟩
 rcases o34 : (zas x0_spans.a2.Low x1_numbers.a2 x0_spans.a2.High) with _ | r33
 ·simp only [o34, hs] at h
  exact absurd h kN
 simp only [o34, hs] at h
 simp only [vz, tyf, d15, d27, e28, e29, e30, e31, e32, nm, seval]
 refine dktree (args0 := [.lit (.int .i64 x0_spans.a2.Low), .lit (.int .i64 x1_numbers.a2), .lit (.int .i64 x0_spans.a2.High)]) (by first | (simp only [nrm, tynrm] <;> rfl) | rfl) (by simp only [tre, tytre, Bool.and_self]) (zcl _ _ _ _ o34) ?_
 refine zac (fun tm => tm 2 = .ptr 0 0 ∧ tm 7 = .agg (cGA3Int x1_numbers) ∧ tm 8 = .lit (.int .i64 2) ∧ tm 21 = .lit (.bool r33) ∧ True) (by refine ⟨e28, e31, e32, ?_, trivial⟩ <;> first | (simp only [ua, d15, d27, e28, e29, e30, e31, e32, nm, seval] <;> rfl) | rfl) ?_
 rintro tm ⟨e35, e36, e37, e38, _⟩
 cases d39 : (r33)
 ·simp only [d39, hs] at h
  try simp only [vz, tyf, d15, d27, e35, e36, e37, e38, d39, nm, seval]
  obtain rfl := kF _ h
  exact zab Tryz.results98 rfl
 simp only [d39, hs] at h
 try simp only [vz, tyf, d15, d27, e35, e36, e37, e38, d39, nm, seval]
 obtain rfl := kF _ h
 exact zab Tryz.results98 rfl
end Go.V
end
section
namespace Go.V
open Go Go.Proofs
def zdd (x0_s : GTintSheet) : List GA3Int → Int → Option (LOut (Bool) (Unit))
 | [], c0_37 => some (.go ())
 | e0 :: p0, c0_37 => Option.bind (getI x0_s.Tins c0_37) (fun x3 => Option.bind (zdb x3.Pigments e0) (fun r4 => cond (r4) (zdd x0_s p0 (c0_37 + 1)) (some (.ret false))))
def zec (x0_s : GTintSheet) (x1_t : GTintTruth) : Option (Bool) := cond ((List.length x1_t.Tins : Int) != (List.length x0_s.Tins : Int)) (some false) (Option.bind (zas x0_s.Years.Low x1_t.Years x0_s.Years.High) (fun r1 => cond (r1) (Option.bind (zdb x0_s.Fade x1_t.Fade) (fun r2 => cond (r2) (cond (lenOk x1_t.Tins) (lbind (zdd x0_s x1_t.Tins 0) (fun r6 => some r6) (fun c5 => some true) (fun _ _ => none)) none) (some false))) (some false)))
theorem zll (x0_s : GTintSheet) (x1_t : GTintTruth) (R : Bool) (h : zec x0_s x1_t = some R) : VPure Tryz.prog G0 66 [.agg (cGTintSheet x0_s), .agg (cGTintTruth x1_t)] (.tree (.lit (.bool R))) := by
 refine VPure.runR mixed Tryz.call66 Tryz.func66 rfl (by simp [Tryz.ntmps66]; kernel_rfl) ?_
 obtain ⟨KF, h, kF, kN⟩ := zak h
 simp only [zec] at h
 cases d7 : ((List.length x1_t.Tins : Int) != (List.length x0_s.Tins : Int))
 ·simp only [d7, hs] at h
  rcases o9 : (zas x0_s.Years.Low x1_t.Years x0_s.Years.High) with _ | r8
  ·simp only [o9, hs] at h
   exact absurd h kN
  simp only [o9, hs] at h
  simp only [vz, tyf, d7, nm, seval]
  refine ktree (args0 := [.lit (.int .i64 x0_s.Years.Low), .lit (.int .i64 x1_t.Years), .lit (.int .i64 x0_s.Years.High)]) (by first | (simp only [nrm, tynrm] <;> rfl) | rfl) (by simp only [tre, tytre, Bool.and_self]) (zcl _ _ _ _ o9) ?_
  refine zac (fun tm => tm 2 = .ptr 0 0 ∧ tm 3 = .ptr 1 0 ∧ tm 14 = .lit (.bool false) ∧ tm 23 = .lit (.bool r8) ∧ True) (by refine ⟨?_, ?_, ?_, ?_, trivial⟩ <;> first | (simp only [ua, d7, nm, seval] <;> rfl) | rfl) ?_
  rintro tm ⟨e10, e11, e12, e13, _⟩
  cases d14 : (r8)
  ·simp only [d14, hs] at h
   try simp only [vz, tyf, d7, e10, e11, e12, e13, d14, nm, seval]
   obtain rfl := kF _ h
   exact zab Tryz.results66 rfl
  simp only [d14, hs] at h
  rcases o16 : (zdb x0_s.Fade x1_t.Fade) with _ | r15
  ·simp only [o16, hs] at h
   exact absurd h kN
  simp only [o16, hs] at h
  simp only [vz, tyf, d7, e10, e11, e12, e13, d14, nm, seval]
  refine ktree (args0 := [.agg (cGA3GSpan x0_s.Fade), .agg (cGA3Int x1_t.Fade)]) (by first | (simp only [nrm, tynrm] <;> rfl) | rfl) (by simp only [tre, tytre, Bool.and_self]) (zht _ _ _ o16) ?_
  refine zac (fun tm => tm 2 = .ptr 0 0 ∧ tm 3 = .ptr 1 0 ∧ tm 26 = .lit (.bool false) ∧ tm 31 = .lit (.bool r15) ∧ True) (by refine ⟨e10, e11, ?_, ?_, trivial⟩ <;> first | (simp only [ua, d7, e10, e11, e12, e13, d14, nm, seval] <;> rfl) | rfl) ?_
  rintro tm ⟨e17, e18, e19, e20, _⟩
  cases d21 : (r15)
  ·simp only [d21, hs] at h
   try simp only [vz, tyf, d7, d14, e17, e18, e19, e20, d21, nm, seval]
   obtain rfl := kF _ h
   exact zab Tryz.results66 rfl
  simp only [d21, hs] at h
  cases g23 : (lenOk x1_t.Tins)
  ·simp only [g23, hs] at h
   exact absurd h kN
  simp only [g23, hs] at h
  simp only [vz, tyf, d7, d14, e17, e18, e19, e20, d21, g23, nm, seval]
  obtain ⟨K22, h, kR22, kG22, kB22, kN22⟩ := zbc h kN
  obtain ⟨f22, hf22, h⟩ := call2 h
  obtain ⟨I22, hI22⟩ : ∃ I : Nat → St → Prop, I = (fun m st => ∃ (p22 : List GA3Int) (c22_37 : Int), m = List.length p22 ∧ 0 ≤ c22_37 ∧ List.drop (Int.toNat c22_37) x1_t.Tins = p22 ∧ st.df = [] ∧ 34 ≤ st.nx ∧ st.H 0 = some (.cells (some 28) (cGTintSheet x0_s)) ∧ st.tm 2 = .ptr 0 0 ∧ st.tm 35 = .sl (cellsL cGA3Int x1_t.Tins) (List.length x1_t.Tins) false ∧ st.tm 36 = .lit (.int .i64 (List.length x1_t.Tins : Int)) ∧ st.tm 37 = .lit (.int .i64 c22_37) ∧ K22 (f22 p22 c22_37)) := ⟨_, rfl⟩
  refine loopK mixed (by kernel_rfl) I22 (List.length x1_t.Tins) (by rw [hI22]; refine ⟨x1_t.Tins, 0, rfl, Int.le_refl _, rfl, rfl, (show 34 ≤ 34 by omega), ?_, e17, ?_, ?_, ?_, h⟩ <;> first | (simp only [ua, d7, d14, e17, e18, e19, e20, d21, nm, seval] <;> rfl) | rfl) ?_
  rintro m ⟨tm, H, nx22, df⟩ hinv
  rw [hI22] at hinv
  obtain ⟨p22, c22_37, rfl, hi22, hp22, hdf, hn22, H24, e25, e26, e27, e28, h⟩ := hinv
  simp only at hdf hn22 H24 e25 e26 e27 e28
  have n29 := zda (m := 34) (b := nx22) (by omega)
  subst hdf hf22
  cases p22 with
  | nil =>
   have d30 : (decide (c22_37 < (List.length x1_t.Tins : Int))) = false := zam hi22 hp22
   simp only [zdd, hs, reduceCtorEq] at h
   replace h := kG22 _ h
   try dsimp only at h
   try simp only [hs] at h
   try simp only [vz, tyf, d7, d14, d21, g23, n29, e25, e26, e27, e28, H24, d30, nm, seval]
   obtain rfl := kF _ h
   exact zab Tryz.results66 rfl
  | cons e22 p22 =>
   have d31 : (decide (c22_37 < (List.length x1_t.Tins : Int))) = true := zbp hi22 hp22
   have o33 := zaj hi22 hp22
   have w32 := zcm hi22 hp22 g23
   simp only [zdd, hs, reduceCtorEq] at h
   simp only [vz, tyf, d7, d14, d21, g23, n29, e25, e26, e27, e28, H24, d31, (ix40 o33), w32, nm, seval]
   refine zcq (fun tm => tm 2 = .ptr 0 0 ∧ tm 5 = .lit (.int .i64 c22_37) ∧ tm 6 = .ptr (nx22 + 4) 0 ∧ tm 35 = .sl (cellsL cGA3Int x1_t.Tins) (List.length x1_t.Tins) false ∧ tm 36 = .lit (.int .i64 (List.length x1_t.Tins : Int)) ∧ tm 37 = .lit (.int .i64 c22_37) ∧ True) (by refine ⟨e25, ?_, ?_, e26, e27, e28, trivial⟩ <;> first | (simp only [ua, d7, d14, d21, n29, e25, e26, e27, e28, H24, d31, w32, nm, seval] <;> rfl) | rfl) ?_
   rintro tm ⟨e34, e35, e36, e37, e38, e39, _⟩
   have b40 := And.intro d7 (And.intro d14 (And.intro d21 (And.intro g23 (And.intro n29 (And.intro H24 (And.intro d31 w32))))))
   rcases o42 : (getI x0_s.Tins c22_37) with _ | x41
   ·simp only [o42, hs] at h
    exact absurd h kN22
   simp only [o42, hs] at h
   rcases o44 : (zdb x41.Pigments e22) with _ | r43
   ·simp only [o44, hs] at h
    exact absurd h kN22
   simp only [o44, hs] at h
   simp only [vz, tyf, b40, (ix40 o33), e34, e35, e36, e37, e38, e39, (ix26 o42), nm, seval]
   refine dktree (args0 := [.agg (cGA3GSpan x41.Pigments), .agg (cGA3Int e22)]) (by first | (simp only [nrm, tynrm] <;> rfl) | rfl) (by simp only [tre, tytre, Bool.and_self]) (zht _ _ _ o44) ?_
   refine zac (fun tm => tm 2 = .ptr 0 0 ∧ tm 35 = .sl (cellsL cGA3Int x1_t.Tins) (List.length x1_t.Tins) false ∧ tm 36 = .lit (.int .i64 (List.length x1_t.Tins : Int)) ∧ tm 37 = .lit (.int .i64 c22_37) ∧ tm 49 = .lit (.bool r43) ∧ True) (by refine ⟨e34, e37, e38, e39, ?_, trivial⟩ <;> first | (simp only [ua, b40, e34, e35, e36, e37, e38, e39, nm, seval] <;> rfl) | rfl) ?_
   rintro tm ⟨e45, e46, e47, e48, e49, _⟩
   cases d50 : (r43)
   ·simp only [d50, hs] at h
    try simp only [vz, tyf, b40, (ix40 o33), (ix26 o42), e45, e46, e47, e48, e49, d50, nm, seval]
    replace h := kR22 _ h
    try dsimp only at h
    obtain rfl := kF _ h
    exact zab Tryz.results66 rfl
   simp only [d50, hs] at h
   simp only [vz, tyf, b40, (ix40 o33), (ix26 o42), e45, e46, e47, e48, e49, d50, nm, seval]
   exact ⟨List.length p22, Nat.lt_succ_self _, by rw [hI22]; refine ⟨p22, c22_37 + 1, rfl, Int.le_trans hi22 (Int.le_add_one (Int.le_refl _)), zay hi22 hp22, rfl, (show 34 ≤ nx22 + 18 by omega), ?_, e45, e46, e47, ?_, h⟩ <;> first | (simp only [ua, b40, e45, e46, e47, e48, e49, d50, nm, seval] <;> rfl) | rfl⟩
 simp only [d7, hs] at h
 try simp only [vz, tyf, d7, nm, seval]
 obtain rfl := kF _ h
 exact zab Tryz.results66 rfl
end Go.V
end
section
namespace Go.V
open Go Go.Proofs
def zbh (x0_x : Gtintmixed) (x1_pigment : Int) : List Int → Int → Int → Option (LOut (Int) (Int))
 | [], c0_11, c0_5 => some (.go c0_5)
 | e0 :: p0, c0_11, c0_5 => Option.bind (getI x0_x.TintSheet.Tins c0_11) (fun x1 => cond (x1_pigment == 0) (zbh x0_x x1_pigment p0 (c0_11 + 1) (IntKind.i64.wrap (c0_5 + (IntKind.i64.wrap (e0 * x1.Pigments.a0.Low))))) (cond (x1_pigment == 1) (zbh x0_x x1_pigment p0 (c0_11 + 1) (IntKind.i64.wrap (c0_5 + (IntKind.i64.wrap (e0 * x1.Pigments.a1.Low))))) (cond (x1_pigment == 2) (zbh x0_x x1_pigment p0 (c0_11 + 1) (IntKind.i64.wrap (c0_5 + (IntKind.i64.wrap (e0 * x1.Pigments.a2.Low))))) (none))))
def zbl (x0_x : Gtintmixed) (x1_pigment : Int) : Option (Int) := cond (lenOk x0_x.mix) (lbind (zbh x0_x x1_pigment x0_x.mix 0 0) (fun r3 => some r3) (fun c2 => some c2) (fun _ _ => none)) none
theorem zfd (x0_x : Gtintmixed) (x1_pigment : Int) (R : Int) (h : zbl x0_x x1_pigment = some R) : VPure Tryz.prog G0 96 [.agg (cGtintmixed x0_x), .lit (.int .i64 x1_pigment)] (.tree (.lit (.int .i64 R))) := by
 refine VPure.runR mixed Tryz.call96 Tryz.func96 rfl (by simp [Tryz.ntmps96]; kernel_rfl) ?_
 obtain ⟨KF, h, kF, kN⟩ := zak h
 simp only [zbl] at h
 cases g5 : (lenOk x0_x.mix)
 ·simp only [g5, hs] at h
  exact absurd h kN
 simp only [g5, hs] at h
 simp only [vz, tyf, g5, nm, seval]
 obtain ⟨K4, h, kR4, kG4, kB4, kN4⟩ := zbc h kN
 obtain ⟨f4, hf4, h⟩ := call3 h
 obtain ⟨I4, hI4⟩ : ∃ I : Nat → St → Prop, I = (fun m st => ∃ (p4 : List Int) (c4_11 : Int) (c4_5 : Int), m = List.length p4 ∧ 0 ≤ c4_11 ∧ List.drop (Int.toNat c4_11) x0_x.mix = p4 ∧ st.df = [] ∧ 7 ≤ st.nx ∧ st.H 0 = some (.cells (some 89) (cGtintmixed x0_x)) ∧ st.tm 1 = .lit (.int .i64 x1_pigment) ∧ st.tm 2 = .ptr 0 0 ∧ st.tm 9 = .sl (cellsL eI x0_x.mix) (List.length x0_x.mix) false ∧ st.tm 10 = .lit (.int .i64 (List.length x0_x.mix : Int)) ∧ st.tm 5 = .lit (.int .i64 c4_5) ∧ st.tm 11 = .lit (.int .i64 c4_11) ∧ K4 (f4 p4 c4_11 c4_5)) := ⟨_, rfl⟩
 refine loopK mixed (by kernel_rfl) I4 (List.length x0_x.mix) (by rw [hI4]; refine ⟨x0_x.mix, 0, 0, rfl, Int.le_refl _, rfl, rfl, (show 7 ≤ 7 by omega), ?_, ?_, ?_, ?_, ?_, ?_, ?_, h⟩ <;> first | (simp only [ua, nm, seval] <;> rfl) | rfl) ?_
 rintro m ⟨tm, H, nx4, df⟩ hinv
 rw [hI4] at hinv
 obtain ⟨p4, c4_11, c4_5, rfl, hi4, hp4, hdf, hn4, H6, e7, e8, e9, e10, e11, e12, h⟩ := hinv
 simp only at hdf hn4 H6 e7 e8 e9 e10 e11 e12
 have n13 := zda (m := 7) (b := nx4) (by omega)
 subst hdf hf4
 cases p4 with
 | nil =>
  have d14 : (decide (c4_11 < (List.length x0_x.mix : Int))) = false := zam hi4 hp4
  simp only [zbh, hs, reduceCtorEq] at h
  replace h := kG4 _ h
  try dsimp only at h
  try simp only [hs] at h
  try simp only [vz, tyf, g5, n13, e7, e8, e9, e10, e11, e12, H6, d14, nm, seval]
  refine zaq (x := (.lit (.int .i64 c4_5))) (by first | (simp only [Tryz.results96, resV, resL, resV1, zat, zbs, uw, cr, tyf, g5, n13, H6, d14, nm, seval] <;> rfl) | rfl) ?_
  obtain rfl := kF _ h
  refine zau ?_ ?_
  ·simp only [tre, tytre, Bool.and_self]
  ·first | (simp only [outV, uw, zae, cr, tyf, nrm, tynrm, g5, n13, e7, e8, e9, e10, e11, e12, H6, d14, nm, seval] <;> rfl) | rfl
 | cons e4 p4 =>
  have d15 : (decide (c4_11 < (List.length x0_x.mix : Int))) = true := zbp hi4 hp4
  have o17 := zaj hi4 hp4
  have w16 := zcm hi4 hp4 g5
  simp only [zbh, hs, reduceCtorEq] at h
  rcases o19 : (getI x0_x.TintSheet.Tins c4_11) with _ | x18
  ·simp only [o19, hs] at h
   exact absurd h kN4
  simp only [o19, hs] at h
  cases d20 : (x1_pigment == 0)
  ·simp only [d20, hs] at h
   cases d21 : (x1_pigment == 1)
   ·simp only [d21, hs] at h
    have b22 := And.intro g5 (And.intro n13 (And.intro H6 (And.intro d15 (And.intro w16 (And.intro d20 d21)))))
    cases d23 : (x1_pigment == 2)
    ·simp only [d23, hs] at h
     exact absurd h kN4
    simp only [d23, hs] at h
    simp only [vz, tyf, b22, e7, e8, e9, e10, e11, e12, (ix29 o17), (ix26 o19), d23, (zmy d23), nm, seval]
    exact ⟨List.length p4, Nat.lt_succ_self _, by rw [hI4]; refine ⟨p4, c4_11 + 1, IntKind.i64.wrap (c4_5 + (IntKind.i64.wrap (e4 * x18.Pigments.a2.Low))), rfl, Int.le_trans hi4 (Int.le_add_one (Int.le_refl _)), zay hi4 hp4, rfl, (show 7 ≤ nx4 + 23 by omega), ?_, e7, e8, e9, e10, ?_, ?_, h⟩ <;> first | (simp only [ua, b22, e7, e8, e9, e10, e11, e12, d23, nm, seval] <;> rfl) | rfl⟩
   simp only [d21, hs] at h
   have b24 := And.intro g5 (And.intro n13 (And.intro H6 (And.intro d15 (And.intro w16 (And.intro d20 d21)))))
   simp only [vz, tyf, b24, e7, e8, e9, e10, e11, e12, (ix29 o17), (ix26 o19), (zmz d21), nm, seval]
   exact ⟨List.length p4, Nat.lt_succ_self _, by rw [hI4]; refine ⟨p4, c4_11 + 1, IntKind.i64.wrap (c4_5 + (IntKind.i64.wrap (e4 * x18.Pigments.a1.Low))), rfl, Int.le_trans hi4 (Int.le_add_one (Int.le_refl _)), zay hi4 hp4, rfl, (show 7 ≤ nx4 + 23 by omega), ?_, e7, e8, e9, e10, ?_, ?_, h⟩ <;> first | (simp only [ua, b24, e7, e8, e9, e10, e11, e12, nm, seval] <;> rfl) | rfl⟩
  simp only [d20, hs] at h
  simp only [vz, tyf, g5, n13, e7, e8, e9, e10, e11, e12, H6, d15, (ix29 o17), w16, (ix26 o19), d20, (znc d20), nm, seval]
  exact ⟨List.length p4, Nat.lt_succ_self _, by rw [hI4]; refine ⟨p4, c4_11 + 1, IntKind.i64.wrap (c4_5 + (IntKind.i64.wrap (e4 * x18.Pigments.a0.Low))), rfl, Int.le_trans hi4 (Int.le_add_one (Int.le_refl _)), zay hi4 hp4, rfl, (show 7 ≤ nx4 + 23 by omega), ?_, e7, e8, e9, e10, ?_, ?_, h⟩ <;> first | (simp only [ua, n13, e7, e8, e9, e10, e11, e12, H6, d15, w16, d20, nm, seval] <;> rfl) | rfl⟩
end Go.V
end
