/- Part of a proof. -/
import Derived.Test.YtmhlghgbfmcdaaaGreatDoorD1bh
set_option linter.all false
set_option maxRecDepth 4000
set_option maxHeartbeats 40000000
section
namespace Go.V
open Go Go.Proofs IntKind
def Dec (P : Program) (n : Nat) (t : TypeId) {α : Type} (enc : α → List VV) (R : α → Prop) : Prop := ∀ xs, ShapeT P n t xs → ∃ x : α, R x ∧ normL xs = enc x
theorem Aj {P : Program} {n : Nat} {t : TypeId} (hu : P.underlying t = some (.int .i64)) : Dec P (n + 1) t eI (fun _ => True) := by
 intro xs h
 simp only [ShapeT, hu] at h
 obtain ⟨i, _, rfl⟩ := h
 exact ⟨i, trivial, by simp only [ml, mm, FZ, eI]⟩
theorem Ak {P : Program} {n : Nat} {t : TypeId} (hu : P.underlying t = some .bool) : Dec P (n + 1) t eB (fun _ => True) := by
 intro xs h
 simp only [ShapeT, hu] at h
 obtain ⟨b, rfl⟩ := h
 exact ⟨b, trivial, by simp only [ml, mm, Al, eB]⟩
theorem Ga {P : Program} {n : Nat} {t : TypeId} {α : Type} {enc : α → List VV} {R : α → Prop} (h : Dec P n t enc R) : ∀ yss : List (List VV), (∀ ys ∈ yss, ShapeT P n t ys) → ∃ l : List α, l.length = yss.length ∧ (∀ x ∈ l, R x) ∧ normL yss.flatten = aa enc l
 | [], _ => ⟨[], rfl, fun _ hx => (by cases hx), rfl⟩
 | ys :: yss, hs => by
  obtain ⟨x, hx, e⟩ := h ys (hs ys (List.mem_cons_self ..))
  obtain ⟨l, h1, h2, h3⟩ := Ga h yss (fun y hy => hs y (List.mem_cons_of_mem _ hy))
  refine ⟨x :: l, by simp [h1], fun y hy => ?_, by rw [List.flatten_cons, nM, e, h3, eJ]⟩
  rcases List.mem_cons.1 hy with rfl | hy
  ·exact hx
  ·exact h2 y hy
theorem Gb {P : Program} {n : Nat} {t e : TypeId} {α : Type} {enc : α → List VV} {R : α → Prop} (hu : P.underlying t = some (.slice e)) (h : Dec P n e enc R) : Dec P (n + 1) t (fun l : List α => [.sl (aa enc l) l.length false]) (fun l => aI l = true ∧ ∀ x ∈ l, R x) := by
 intro xs hs
 simp only [ShapeT, hu] at hs
 rcases hs with rfl | ⟨yss, hl, hall, rfl⟩
 ·exact ⟨[], ⟨rfl, fun _ hx => (by cases hx)⟩, by simp only [ml, mm, Gc]; rfl⟩
 ·obtain ⟨l, h1, h2, h3⟩ := Ga h yss hall
  refine ⟨l, ⟨?_, h2⟩, by simp only [ml, mm, qs, h3, h1]⟩
  have : maxLen = 9223372036854775807 := by decide
  unfold aI
  exact decide_eq_true (by omega)
theorem Am {P : Program} {n : Nat} {t : TypeId} {fs : Array Field} {xs : List VV} (hu : P.underlying t = some (.struct fs)) (h : ShapeT P (n + 1) t xs) : ∃ yss, FieldsS (ShapeT P n) fs.toList yss ∧ xs = yss.flatten := by
 simp only [ShapeT, hu] at h
 exact h
def TypesS (S : TypeId → List VV → Prop) : List TypeId → List (List VV) → Prop
 | [], [] => True
 | t :: ts, ys :: yss => S t ys ∧ TypesS S ts yss
 | _, _ => False
theorem qt {S : TypeId → List VV → Prop} : ∀ (fs : List Field) (yss : List (List VV)), FieldsS S fs yss → TypesS S (fs.map Field.type) yss
 | [], [], _ => trivial
 | f :: fs, ys :: yss, ⟨h1, h2⟩ => ⟨h1, qt fs yss h2⟩
 | [], _ :: _, h => h
 | _ :: _, [], h => h
theorem An {P : Program} {n : Nat} {t : TypeId} {fs : Array Field} {ts : List TypeId} {xs : List VV} (hu : P.underlying t = some (.struct fs)) (ht : fs.toList.map Field.type = ts) (h : ShapeT P (n + 1) t xs) : ∃ yss, TypesS (ShapeT P n) ts yss ∧ xs = yss.flatten := by
 obtain ⟨yss, h1, h2⟩ := Am hu h
 exact ⟨yss, ht ▸ qt _ _ h1, h2⟩
theorem sR {P : Program} {n : Nat} {t : TypeId} {ts : List TypeId} {xs : List VV} (h : ArgsS P n (t :: ts) xs) : ∃ x xs', xs = x :: xs' ∧ ArgS P n t x ∧ ArgsS P n ts xs' := by
 match xs, h with
 | x :: xs', h => exact ⟨x, xs', rfl, h.1, h.2⟩
theorem Ao {P : Program} {n : Nat} {xs : List VV} (h : ArgsS P n [] xs) : xs = [] := by
 match xs, h with
 | [], _ => rfl
theorem Ap {P : Program} {n : Nat} {t : TypeId} {fs : Array Field} {x : VV} {α : Type} {enc : α → List VV} {R : α → Prop} (hu : P.underlying t = some (.struct fs)) (hd : Dec P n t enc R) (h : ArgS P n t x) : ∃ s, R s ∧ normV x = .agg (enc s) := by
 obtain ⟨ys, h1, h2⟩ := h
 rw [hu] at h2
 obtain rfl : x = .agg ys := h2
 obtain ⟨s, hs, e⟩ := hd ys h1
 exact ⟨s, hs, by rw [Gd, e]⟩
theorem Aq {P : Program} {n : Nat} {t : TypeId} {d : TypeDesc} {x : VV} {α : Type} {enc : α → List VV} {R : α → Prop} (hu : P.underlying t = some d) (hn : (∀ fs, d ≠ .struct fs) ∧ ∀ m e, d ≠ .array m e) (hd : Dec P n t enc R) (h : ArgS P n t x) : ∃ s, R s ∧ [normV x] = enc s := by
 obtain ⟨ys, h1, h2⟩ := h
 rw [hu] at h2
 have h3 : ys = [x] := by
  cases d <;> first | exact h2 | exact absurd rfl (hn.1 _) | exact absurd rfl (hn.2 _ _)
 subst h3
 obtain ⟨s, hs, e⟩ := hd _ h1
 exact ⟨s, hs, by rw [← e, ml, mm]⟩
end Go.V
end
section
set_option maxRecDepth 100000
namespace Go.V
open Go Go.Proofs IntKind
def Ar (x : GBs) : Prop := aI x.Needs = true
def Ge (x : GBk) : Prop := aI x.Boards = true ∧ aI x.Strokes = true ∧ ∀ y ∈ x.Strokes, Ar y
section
variable {P : Program} (fU : P.underlying 3 = some (.int .i64)) (di : P.underlying 22 = some (.slice 3)) (hX : P.underlying 4 = some (.bool)) {Gf : Array Field} (dj : P.underlying 35 = some (.struct Gf)) (dk : Gf.toList.map Field.type = [3, 3]) {Gg : Array Field} (dm : P.underlying 49 = some (.struct Gg)) (dp : Gg.toList.map Field.type = [3, 4, 35, 22]) (dq : P.underlying 23 = some (.slice 49)) {Gh : Array Field} (dr : P.underlying 25 = some (.struct Gh)) (dt : Gh.toList.map Field.type = [3, 22, 23])
include fU di hX dj dk dm dp dq dr dt
theorem gd_3 {n : Nat} : Dec P (n + 1) 3 eI (fun _ => True) := Aj fU
theorem gd_22 {n : Nat} : Dec P (n + 2) 22 (eSl eI) (fun l => aI l = true ∧ ∀ x ∈ l, True) := Gb di (gd_3 fU di hX dj dk dm dp dq dr dt (n := n))
theorem gd_4 {n : Nat} : Dec P (n + 1) 4 eB (fun _ => True) := Ak hX
theorem gd_35 {n : Nat} : Dec P (n + 2) 35 aP (fun _ => True) := by
 intro xs h
 obtain ⟨yss, hf, rfl⟩ := An (n := n + 1) (ts := [3, 3]) dj dk h
 match yss, hf with
 | [y0, y1], ⟨h0, h1, _⟩ =>
  obtain ⟨x0, r0, e0⟩ := gd_3 fU di hX dj dk dm dp dq dr dt (n := n + 0) _ h0
  obtain ⟨x1, r1, e1⟩ := gd_3 fU di hX dj dk dm dp dq dr dt (n := n + 0) _ h1
  exact ⟨⟨x0, x1⟩, trivial, by simp only [List.flatten_cons, List.flatten_nil, List.append_nil, nM, e0, e1, eI, kW, eB, eS, eSl, lT, List.cons_append, List.nil_append]⟩
theorem gd_49 {n : Nat} : Dec P (n + 3) 49 cGBs (Ar) := by
 intro xs h
 obtain ⟨yss, hf, rfl⟩ := An (n := n + 2) (ts := [3, 4, 35, 22]) dm dp h
 match yss, hf with
 | [y0, y1, y2, y3], ⟨h0, h1, h2, h3, _⟩ =>
  obtain ⟨x0, r0, e0⟩ := gd_3 fU di hX dj dk dm dp dq dr dt (n := n + 1) _ h0
  obtain ⟨x1, r1, e1⟩ := gd_4 fU di hX dj dk dm dp dq dr dt (n := n + 1) _ h1
  obtain ⟨x2, r2, e2⟩ := gd_35 fU di hX dj dk dm dp dq dr dt (n := n + 0) _ h2
  obtain ⟨x3, r3, e3⟩ := gd_22 fU di hX dj dk dm dp dq dr dt (n := n + 0) _ h3
  exact ⟨⟨x0, x1, x2, x3⟩, r3.1, by simp only [List.flatten_cons, List.flatten_nil, List.append_nil, nM, e0, e1, e2, e3, eI, kW, eB, eS, eSl, pz, lT, List.cons_append, List.nil_append]⟩
theorem gd_23 {n : Nat} : Dec P (n + 4) 23 (eSl cGBs) (fun l => aI l = true ∧ ∀ x ∈ l, Ar x) := Gb dq (gd_49 fU di hX dj dk dm dp dq dr dt (n := n))
theorem gd_25 {n : Nat} : Dec P (n + 5) 25 cGBk (Ge) := by
 intro xs h
 obtain ⟨yss, hf, rfl⟩ := An (n := n + 4) (ts := [3, 22, 23]) dr dt h
 match yss, hf with
 | [y0, y1, y2], ⟨h0, h1, h2, _⟩ =>
  obtain ⟨x0, r0, e0⟩ := gd_3 fU di hX dj dk dm dp dq dr dt (n := n + 3) _ h0
  obtain ⟨x1, r1, e1⟩ := gd_22 fU di hX dj dk dm dp dq dr dt (n := n + 2) _ h1
  obtain ⟨x2, r2, e2⟩ := gd_23 fU di hX dj dk dm dp dq dr dt (n := n + 0) _ h2
  exact ⟨⟨x0, x1, x2⟩, ⟨r1.1, r2.1, r2.2⟩, by simp only [List.flatten_cons, List.flatten_nil, List.append_nil, nM, e0, e1, e2, eI, kW, eB, eS, eSl, p7, List.cons_append, List.nil_append]⟩
end
theorem dec_3 {n : Nat} : Dec Tryz.prog (n + 1) 3 eI (fun _ => True) := gd_3 Tryz.underlying3 Tryz.underlying22 Tryz.underlying4 Tryz.underlying35 (by kernel_rfl) Tryz.underlying49 (by kernel_rfl) Tryz.underlying23 Tryz.underlying25 (by kernel_rfl)
theorem As {n : Nat} : Dec Tryz.prog (n + 2) 22 (eSl eI) (fun l => aI l = true ∧ ∀ x ∈ l, True) := gd_22 Tryz.underlying3 Tryz.underlying22 Tryz.underlying4 Tryz.underlying35 (by kernel_rfl) Tryz.underlying49 (by kernel_rfl) Tryz.underlying23 Tryz.underlying25 (by kernel_rfl)
theorem At {n : Nat} : Dec Tryz.prog (n + 5) 25 cGBk (Ge) := gd_25 Tryz.underlying3 Tryz.underlying22 Tryz.underlying4 Tryz.underlying35 (by kernel_rfl) Tryz.underlying49 (by kernel_rfl) Tryz.underlying23 Tryz.underlying25 (by kernel_rfl)
end Go.V
end
section
namespace Go.V
open Go Go.Proofs IntKind
def goB (b : Bool) : Option (LOut Bool Unit) := cond b (some (.go ())) (some (.ret false))
theorem mn (a b : Bool) : goB (a && b) = cond a (goB b) (some (.ret false)) := by cases a <;> rfl
theorem csome (a b : Bool) : cond a (some b) (some false) = some (a && b) := by cases a <;> rfl
theorem kX {X : Type} (b : Bool) (kr : Bool → Option X) (kg : Unit → Option X) (kb : Nat → Unit → Option X) : lbind (goB b) kr kg kb = cond b (kg ()) (kr false) := by cases b <;> rfl
def inB (a b n : Int) : Bool := decide (a ≤ n) && decide (n ≤ b)
theorem sS {a b n : Int} : inB a b n = true ↔ a ≤ n ∧ n ≤ b := by simp [inB]
theorem gu {n : Int} (h1 : -9223372036854775808 ≤ n) (h2 : n < 9223372036854775808) : i64.wrap n = n := IntWalk.i64_in _ (by omega)
theorem tP {α : Type} {xs : List α} (h : aI xs = true) : xs.length < 9223372036854775808 := by simpa [aI] using h
theorem gp {α : Type} {xs : List α} (h : xs.length < 9223372036854775808) : aI xs = true := by simpa [aI] using h
theorem Au {α : Type} {xs : List α} {i : Int} {x : α} (h : getI xs i = some x) : x ∈ xs := by
 unfold getI at h
 split at h
 ·exact List.mem_of_getElem? h
 ·cases h
theorem sT {α : Type} {xs : List α} {i : Int} {x : α} (h : getI xs i = some x) : 0 ≤ i ∧ i < xs.length := ⟨(qi h).1, (qi h).2.1⟩
end Go.V
end
section
namespace Go.V
def mxL (l : List Int) : Int := l.foldl max 0
theorem Gi : ∀ (l : List Int) (a b : Int), l.foldl max a ≤ b ↔ a ≤ b ∧ ∀ x ∈ l, x ≤ b
 | [], a, b => by simp
 | x :: l, a, b => by
  simp only [List.foldl_cons, Gi l, List.mem_cons, forall_eq_or_imp]
  constructor
  ·rintro ⟨h1, h2⟩; exact ⟨by omega, by omega, h2⟩
  ·rintro ⟨h1, h2, h3⟩; exact ⟨by omega, h3⟩
theorem qu {l : List Int} {b : Int} : mxL l ≤ b ↔ 0 ≤ b ∧ ∀ x ∈ l, x ≤ b := Gi l 0 b
theorem mo (l : List Int) : 0 ≤ mxL l := (qu.1 (Int.le_refl _)).1
theorem qv {l : List Int} {x : Int} (h : x ∈ l) : x ≤ mxL l := (qu.1 (Int.le_refl _)).2 x h
def frF (hd : Nat → Int) (e : Nat → Int) (h : Int) : Nat → Int
 | 0 => 0
 | k + 1 => if hd k = h then e k else frF hd e h k
theorem Gj {hd : Nat → Int} {e e' : Nat → Int} {h : Int} : ∀ {n : Nat}, (∀ k, k < n → e k = e' k) → frF hd e h n = frF hd e' h n
 | 0, _ => rfl
 | n + 1, hk => by
  unfold frF
  rw [hk n (Nat.lt_succ_self _), Gj (fun k h => hk k (Nat.lt_succ_of_lt h))]
theorem qw {hd : Nat → Int} {e : Nat → Int} {h b : Int} (hb : 0 ≤ b) : ∀ {n : Nat}, (∀ k, k < n → hd k = h → e k ≤ b) → frF hd e h n ≤ b
 | 0, _ => hb
 | n + 1, hk => by
  unfold frF
  split
  ·rename_i hh; exact hk n (Nat.lt_succ_self _) hh
  ·exact qw hb (fun k h1 h2 => hk k (Nat.lt_succ_of_lt h1) h2)
theorem qx {hd : Nat → Int} {e e' : Nat → Int} {h : Int} : ∀ {n : Nat}, (∀ k, k < n → e k ≤ e' k) → frF hd e h n ≤ frF hd e' h n
 | 0, _ => Int.le_refl _
 | n + 1, hk => by
  unfold frF
  split
  ·exact hk n (Nat.lt_succ_self _)
  ·exact qx (fun k h => hk k (Nat.lt_succ_of_lt h))
theorem lH {hd : Nat → Int} {e : Nat → Int} {h : Int} (he : ∀ k, 0 ≤ e k) : ∀ (n : Nat), 0 ≤ frF hd e h n
 | 0 => Int.le_refl _
 | n + 1 => by
  unfold frF
  split
  ·exact he n
  ·exact lH he n
def bgF (hd : Nat → Int) (nd : Nat → List Int) (e : Nat → Int) (s : Nat) : Int := max (max 0 (frF hd e (hd s) s)) (mxL ((nd s).map fun k => e k.toNat))
def En (hd : Nat → Int) (nd : Nat → List Int) (d : Nat → Int) : Nat → Nat → Int
 | 0, _ => 0
 | f + 1, s => bgF hd nd (En hd nd d f) s + d s
def NdOk (nd : Nat → List Int) : Prop := ∀ s, ∀ k ∈ nd s, 0 ≤ k ∧ k.toNat < s
theorem Gk {hd : Nat → Int} {nd : Nat → List Int} {e e' : Nat → Int} {s : Nat} (hn : NdOk nd) (h : ∀ k, k < s → e k = e' k) : bgF hd nd e s = bgF hd nd e' s := by
 unfold bgF
 rw [Gj h]
 congr 2
 exact List.map_congr_left fun k hk => h _ (hn s k hk).2
theorem qy {hd : Nat → Int} {nd : Nat → List Int} {d : Nat → Int} (hn : NdOk nd) : ∀ (f g s : Nat), s < f → s < g → En hd nd d f s = En hd nd d g s
 | 0, _, _, h, _ => absurd h (Nat.not_lt_zero _)
 | _ + 1, 0, _, _, h => absurd h (Nat.not_lt_zero _)
 | f + 1, g + 1, s, h1, h2 => by
  unfold En
  rw [Gk hn (e' := En hd nd d g) (fun k hk => qy hn f g k (by omega) (by omega))]
def Ed (hd : Nat → Int) (nd : Nat → List Int) (d : Nat → Int) (s : Nat) : Int := En hd nd d (s + 1) s
def Bg (hd : Nat → Int) (nd : Nat → List Int) (d : Nat → Int) (s : Nat) : Int := bgF hd nd (Ed hd nd d) s
theorem Ed_eq {hd : Nat → Int} {nd : Nat → List Int} {d : Nat → Int} (hn : NdOk nd) (s : Nat) : Ed hd nd d s = Bg hd nd d s + d s := by
 show bgF hd nd (En hd nd d s) s + d s = _
 rw [Gk hn (e' := Ed hd nd d) (fun k hk => qy hn s (k + 1) k hk (Nat.lt_succ_self _))]
 rfl
theorem Av (hd : Nat → Int) (nd : Nat → List Int) (e : Nat → Int) (s : Nat) : 0 ≤ bgF hd nd e s := by
 have := mo ((nd s).map fun k => e k.toNat)
 unfold bgF
 omega
section
variable {hd : Nat → Int} {nd : Nat → List Int} {d d' : Nat → Int}
theorem Bg_nn (s : Nat) : 0 ≤ Bg hd nd d s := Av _ _ _ _
theorem Ed_nn (hn : NdOk nd) (h : ∀ k, 0 ≤ d k) (s : Nat) : 0 ≤ Ed hd nd d s := by
 rw [Ed_eq hn]
 have := Bg_nn (hd := hd) (nd := nd) (d := d) s
 have := h s
 omega
theorem Aw {e e' : Nat → Int} {s : Nat} (hn : NdOk nd) (h : ∀ k, k < s → e k ≤ e' k) : bgF hd nd e s ≤ bgF hd nd e' s := by
 have h1 := qx (hd := hd) (h := hd s) (n := s) h
 have h2 : mxL ((nd s).map fun k => e k.toNat) ≤ mxL ((nd s).map fun k => e' k.toNat) := by
  refine qu.2 ⟨mo _, ?_⟩
  intro x hx
  obtain ⟨k, hk, rfl⟩ := List.mem_map.1 hx
  exact Int.le_trans (h _ (hn s k hk).2) (qv (List.mem_map_of_mem (f := fun k : Int => e' k.toNat) hk))
 unfold bgF
 omega
theorem qz (hn : NdOk nd) : ∀ (f s : Nat), s < f → (∀ k, k ≤ s → d k ≤ d' k) → Ed hd nd d s ≤ Ed hd nd d' s
 | 0, _, h, _ => absurd h (Nat.not_lt_zero _)
 | f + 1, s, h, hd' => by
  rw [Ed_eq hn, Ed_eq hn]
  have h1 : Bg hd nd d s ≤ Bg hd nd d' s := Aw hn fun k hk => qz hn f k (by omega) (fun j hj => hd' j (by omega))
  have := hd' s (Nat.le_refl _)
  omega
theorem Ed_le (hn : NdOk nd) (h : ∀ k, d k ≤ d' k) (s : Nat) : Ed hd nd d s ≤ Ed hd nd d' s := qz hn (s + 1) s (Nat.lt_succ_self _) (fun k _ => h k)
theorem oI (s : Nat) : frF hd (Ed hd nd d) (hd s) s ≤ Bg hd nd d s := by
 unfold Bg bgF
 omega
theorem Ax (hn : NdOk nd) {s : Nat} {b : Int} (hb : 0 ≤ b) (h1 : ∀ k, k < s → hd k = hd s → Ed hd nd d k ≤ b) (h2 : ∀ k ∈ nd s, Ed hd nd d k.toNat ≤ b) : Bg hd nd d s ≤ b := by
 have h3 := qw (hd := hd) (e := Ed hd nd d) (h := hd s) (n := s) hb h1
 have h4 : mxL ((nd s).map fun k => Ed hd nd d k.toNat) ≤ b := by
  refine qu.2 ⟨hb, ?_⟩
  intro x hx
  obtain ⟨k, hk, rfl⟩ := List.mem_map.1 hx
  exact h2 k hk
 unfold Bg bgF
 omega
theorem Ed_bd (hn : NdOk nd) {m : Int} (h0 : ∀ k, 0 ≤ d k ∧ d k ≤ m) : ∀ (f s : Nat), s < f → Ed hd nd d s ≤ m * (s + 1)
 | 0, _, h => absurd h (Nat.not_lt_zero _)
 | f + 1, s, h => by
  have hm : 0 ≤ m := Int.le_trans (h0 0).1 (h0 0).2
  have key : ∀ k, k < s → Ed hd nd d k ≤ m * s := fun k hk => by
   refine Int.le_trans (Ed_bd hn h0 f k (by omega)) ?_
   exact Int.mul_le_mul_of_nonneg_left (by omega) hm
  have h1 : Bg hd nd d s ≤ m * s := Ax hn (Int.mul_nonneg hm (by omega)) (fun k hk _ => key k hk) (fun k hk => key _ (hn s k hk).2)
  rw [Ed_eq hn, Int.mul_add]
  have := h0 s
  omega
theorem Ez (hn : NdOk nd) {m : Int} (h0 : ∀ k, 0 ≤ d k ∧ d k ≤ m) (s : Nat) : Ed hd nd d s ≤ m * (s + 1) := Ed_bd hn h0 (s + 1) s (Nat.lt_succ_self _)
end
end Go.V
end
section
namespace Go.V
open Go Go.Proofs IntKind
def kY (aF : Int) (b7 : Int) (aT : Int) : Option (Bool) := cond (decide (aF ≤ b7)) (some (decide (b7 ≤ aT))) (some false)
theorem q9 (aF : Int) (b7 : Int) (aT : Int) (R : Bool) (h : kY aF b7 aT = some R) : ai Tryz.prog G0 95 [.lit (.int .i64 aF), .lit (.int .i64 b7), .lit (.int .i64 aT)] (.tree (.lit (.bool R))) := by
 refine ai.runR mixed Tryz.call95 Tryz.func95 rfl (by simp [Tryz.ntmps95]; kernel_rfl) ?_
 obtain ⟨KF, h, kF, kN⟩ := cy h
 simp only [kY] at h
 cases d1 : (decide (aF ≤ b7))
 ·simp only [d1, hs] at h
  try simp only [vz, tyf, d1, nm, seval]
  obtain rfl := kF _ h
  exact bh Tryz.results95 rfl
 simp only [d1, hs] at h
 try simp only [vz, tyf, d1, nm, seval]
 obtain rfl := kF _ h
 exact bh Tryz.results95 rfl
def nN (aF : Int) (aT : Int) : List Int → Int → Option (LOut (Bool) (Unit))
 | [], kZ => some (.go ())
 | e0 :: p0, kZ => Option.bind (kY aF e0 aT) (fun r1 => cond (r1) (nN aF aT p0 (kZ + 1)) (some (.ret false)))
def mr (aF : Int) (aj : List Int) (aT : Int) : Option (Bool) := cond (aI aj) (lbind (nN aF aT aj 0) (fun r3 => some r3) (fun c2 => some true) (fun _ _ => none)) none
theorem Ay (aF : Int) (aj : List Int) (aT : Int) (R : Bool) (h : mr aF aj aT = some R) : ai Tryz.prog G0 103 [.lit (.int .i64 aF), .sl (aa eI aj) (List.length aj) false, .lit (.int .i64 aT)] (.tree (.lit (.bool R))) := by
 refine ai.runR mixed Tryz.call103 Tryz.func103 rfl (by simp [Tryz.ntmps103]; kernel_rfl) ?_
 obtain ⟨KF, h, kF, kN⟩ := cy h
 simp only [mr] at h
 cases g5 : (aI aj)
 ·simp only [g5, hs] at h
  exact absurd h kN
 simp only [g5, hs] at h
 simp only [vz, tyf, g5, nm, seval]
 obtain ⟨K4, h, Eu, rZ, HN, sa⟩ := fO h kN
 obtain ⟨f4, tH, h⟩ := call2 h
 obtain ⟨I4, j0⟩ : ∃ I : Nat → St → Prop, I = (fun m st => ∃ (p4 : List Int) (cS : Int), m = List.length p4 ∧ 0 ≤ cS ∧ List.drop (Int.toNat cS) aj = p4 ∧ st.df = [] ∧ 4 ≤ st.nx ∧ st.tm 0 = .lit (.int .i64 aF) ∧ st.tm 2 = .lit (.int .i64 aT) ∧ st.tm 9 = .sl (aa eI aj) (List.length aj) false ∧ st.tm 10 = .lit (.int .i64 (List.length aj : Int)) ∧ st.tm 11 = .lit (.int .i64 cS) ∧ K4 (f4 p4 cS)) := ⟨_, rfl⟩
 refine loopK mixed (by kernel_rfl) I4 (List.length aj) (by rw [j0]; refine ⟨aj, 0, rfl, Int.le_refl _, rfl, rfl, (show 4 ≤ 4 by omega), ?_, ?_, ?_, ?_, ?_, h⟩ <;> first | (simp only [ua, nm, seval] <;> rfl) | rfl) ?_
 rintro m ⟨tm, H, gW, df⟩ hinv
 rw [j0] at hinv
 obtain ⟨p4, cS, rfl, dX, fF, hdf, tI, e6, e7, e8, e9, aW, h⟩ := hinv
 simp only at hdf tI e6 e7 e8 e9 aW
 have nO := gM (m := 4) (b := gW) (by omega)
 subst hdf tH
 cases p4 with
 | nil =>
  have aU : (decide (cS < (List.length aj : Int))) = false := eM dX fF
  simp only [nN, hs, reduceCtorEq] at h
  replace h := rZ _ h
  try dsimp only at h
  try simp only [hs] at h
  try simp only [vz, tyf, g5, nO, e6, e7, e8, e9, aW, aU, nm, seval]
  obtain rfl := kF _ h
  exact bh Tryz.results103 rfl
 | cons e4 p4 =>
  have fx : (decide (cS < (List.length aj : Int))) = true := eO dX fF
  have mu := cO dX fF
  have qA := eP dX fF g5
  simp only [nN, hs, reduceCtorEq] at h
  obtain ⟨qB, Az, h⟩ := optI h sa
  try simp only [hs] at h
  simp only [vz, tyf, g5, nO, e6, e7, e8, e9, aW, fx, (aE mu), qA, nm, seval]
  refine ktA (q9 _ _ _ _ Az) ?_
  refine bF (fun tm => tm 0 = .lit (.int .i64 aF) ∧ tm 2 = .lit (.int .i64 aT) ∧ tm 9 = .sl (aa eI aj) (List.length aj) false ∧ tm 10 = .lit (.int .i64 (List.length aj : Int)) ∧ tm 11 = .lit (.int .i64 cS) ∧ tm 18 = .lit (.bool qB) ∧ True) (by refine ⟨e6, e7, e8, e9, aW, ?_, trivial⟩ <;> first | (simp only [ua, nO, e6, e7, e8, e9, aW, fx, qA, nm, seval] <;> rfl) | rfl) ?_
  rintro tm ⟨bl, bG, cu, f8, cH, cN, _⟩
  cases iW : (qB)
  ·simp only [iW, hs] at h
   try simp only [vz, tyf, g5, nO, fx, (aE mu), qA, bl, bG, cu, f8, cH, cN, iW, nm, seval]
   replace h := Eu _ h
   try dsimp only at h
   obtain rfl := kF _ h
   exact bh Tryz.results103 rfl
  simp only [iW, hs] at h
  simp only [vz, tyf, g5, nO, fx, (aE mu), qA, bl, bG, cu, f8, cH, cN, iW, nm, seval]
  exact ⟨List.length p4, Nat.lt_succ_self _, by rw [j0]; refine ⟨p4, cS + 1, rfl, Int.le_trans dX (Int.le_add_one (Int.le_refl _)), cA dX fF, rfl, (show 4 ≤ gW + 11 by omega), bl, bG, cu, f8, ?_, (by first | exact h | (simp only [fx, iW]; exact h))⟩ <;> first | (simp only [ua, nO, fx, qA, bl, bG, cu, f8, cH, cN, iW, nm, seval] <;> rfl) | rfl⟩
def sU (bt : List Int) : Option (Bool) := Option.bind (kY 1 (List.length bt : Int) 3) (fun r1 => cond (r1) (Option.bind (mr 0 bt 60) (fun r2 => some r2)) (some false))
theorem KL (bt : List Int) (R : Bool) (h : sU bt = some R) : ai Tryz.prog G0 101 [.sl (aa eI bt) (List.length bt) false] (.tree (.lit (.bool R))) := by
 refine ai.runR mixed Tryz.call101 Tryz.func101 rfl (by simp [Tryz.ntmps101]; kernel_rfl) ?_
 obtain ⟨KF, h, kF, kN⟩ := cy h
 simp only [sU] at h
 obtain ⟨r3, o4, h⟩ := optI h kN
 try simp only [hs] at h
 simp only [vz, tyf, nm, seval]
 refine ktA (q9 _ _ _ _ o4) ?_
 refine bF (fun tm => tm 0 = .sl (aa eI bt) (List.length bt) false ∧ tm 5 = .lit (.bool r3) ∧ True) (by refine ⟨?_, ?_, trivial⟩ <;> first | (simp only [ua, nm, seval] <;> rfl) | rfl) ?_
 rintro tm ⟨e5, e6, _⟩
 cases d7 : (r3)
 ·simp only [d7, hs] at h
  try simp only [vz, tyf, e5, e6, d7, nm, seval]
  obtain rfl := kF _ h
  exact bh Tryz.results101 rfl
 simp only [d7, hs] at h
 obtain ⟨r8, o9, h⟩ := optI h kN
 try simp only [hs] at h
 simp only [vz, tyf, e5, e6, d7, nm, seval]
 refine ktA (Ay _ _ _ _ o9) ?_
 refine bF (fun tm => tm 6 = .lit (.bool true) ∧ tm 8 = .lit (.bool r8) ∧ True) (by refine ⟨?_, ?_, trivial⟩ <;> first | (simp only [ua, e5, e6, d7, nm, seval] <;> rfl) | rfl) ?_
 rintro tm ⟨aW, aY, _⟩
 try simp only [vz, tyf, d7, aW, aY, nm, seval]
 obtain rfl := kF _ h
 exact bh Tryz.results101 rfl
def lJ (ah : GBk) (aQ : Int) : Option (Bool) := Option.bind (kY 0 aQ (i64.wrap ((List.length ah.Boards : Int) - 1))) (fun r1 => some r1)
theorem E8 (ah : GBk) (aQ : Int) (R : Bool) (h : lJ ah aQ = some R) : ai Tryz.prog G0 71 [.agg (cGBk ah), .lit (.int .i64 aQ)] (.tree (.lit (.bool R))) := by
 refine ai.runR mixed Tryz.call71 Tryz.func71 rfl (by simp [Tryz.ntmps71]; kernel_rfl) ?_
 obtain ⟨KF, h, kF, kN⟩ := cy h
 simp only [lJ] at h
 obtain ⟨r2, o3, h⟩ := optI h kN
 try simp only [hs] at h
 simp only [vz, tyf, nm, seval]
 refine ktA (q9 _ _ _ _ o3) ?_
 refine bF (fun tm => tm 10 = .lit (.bool r2) ∧ True) (by refine ⟨?_, trivial⟩ <;> first | (simp only [ua, nm, seval] <;> rfl) | rfl) ?_
 rintro tm ⟨e4, _⟩
 try simp only [vz, tyf, e4, nm, seval]
 obtain rfl := kF _ h
 exact bh Tryz.results71 rfl
def qC (aF : Int) (eZ : GSpan) (aT : Int) : Option (Bool) := cond (decide (aF ≤ eZ.Low)) (cond (decide (eZ.Low ≤ eZ.High)) (some (decide (eZ.High ≤ aT))) (some false)) (some false)
theorem KM (aF : Int) (eZ : GSpan) (aT : Int) (R : Bool) (h : qC aF eZ aT = some R) : ai Tryz.prog G0 133 [.lit (.int .i64 aF), .agg (aP eZ), .lit (.int .i64 aT)] (.tree (.lit (.bool R))) := by
 refine ai.runR mixed Tryz.call133 Tryz.func133 rfl (by simp [Tryz.ntmps133]; kernel_rfl) ?_
 obtain ⟨KF, h, kF, kN⟩ := cy h
 simp only [qC] at h
 cases d1 : (decide (aF ≤ eZ.Low))
 ·simp only [d1, hs] at h
  try simp only [vz, tyf, d1, nm, seval]
  obtain rfl := kF _ h
  exact bh Tryz.results133 rfl
 simp only [d1, hs] at h
 cases d2 : (decide (eZ.Low ≤ eZ.High))
 ·simp only [d2, hs] at h
  try simp only [vz, tyf, d1, d2, nm, seval]
  obtain rfl := kF _ h
  exact bh Tryz.results133 rfl
 simp only [d2, hs] at h
 try simp only [vz, tyf, d1, d2, nm, seval]
 obtain rfl := kF _ h
 exact bh Tryz.results133 rfl
def nP (aj : List Int) : List Int → Int → Option (LOut (Bool) (Unit))
 | [], bx => some (.go ())
 | e0 :: p0, bx => Option.bind (getI aj (i64.wrap (bx - 1))) (fun x1 => cond (decide (e0 ≤ x1)) (some (.ret false)) (nP aj p0 (bx + 1)))
def qD (aF : Int) (aj : List Int) (aT : Int) : Option (Bool) := cond (aI aj) (cond (leB 0 1) (lbind (nP aj (List.drop (Int.toNat 1) aj) 1) (fun r4 => some r4) (fun c2 => Option.bind (mr aF aj aT) (fun r3 => some r3)) (fun _ _ => none)) none) none
theorem KN (aF : Int) (aj : List Int) (aT : Int) (R : Bool) (h : qD aF aj aT = some R) : ai Tryz.prog G0 134 [.lit (.int .i64 aF), .sl (aa eI aj) (List.length aj) false, .lit (.int .i64 aT)] (.tree (.lit (.bool R))) := by
 refine ai.runR mixed Tryz.call134 Tryz.func134 rfl (by simp [Tryz.ntmps134]; kernel_rfl) ?_
 obtain ⟨KF, h, kF, kN⟩ := cy h
 simp only [qD] at h
 cases g6 : (aI aj)
 ·simp only [g6, hs] at h
  exact absurd h kN
 simp only [g6, hs] at h
 cases g7 : (leB 0 1)
 ·simp only [g7, hs] at h
  exact absurd h kN
 simp only [g7, hs] at h
 simp only [vz, tyf, g6, g7, nm, seval]
 obtain ⟨K5, h, Gl, sV, KO, nQ⟩ := fO h kN
 obtain ⟨f5, AA, h⟩ := call2 h
 obtain ⟨I5, la⟩ : ∃ I : Nat → St → Prop, I = (fun m st => ∃ (p5 : List Int) (bD : Int), m = List.length p5 ∧ 0 ≤ bD ∧ List.drop (Int.toNat bD) aj = p5 ∧ st.df = [] ∧ 2 ≤ st.nx ∧ st.tm 0 = .lit (.int .i64 aF) ∧ st.tm 1 = .sl (aa eI aj) (List.length aj) false ∧ st.tm 2 = .lit (.int .i64 aT) ∧ st.tm 7 = .lit (.int .i64 bD) ∧ K5 (f5 p5 bD)) := ⟨_, rfl⟩
 refine loopK mixed (by kernel_rfl) I5 (List.length (List.drop (Int.toNat 1) aj)) (by rw [la]; refine ⟨List.drop (Int.toNat 1) aj, 1, rfl, of_decide_eq_true g7, rfl, rfl, (show 2 ≤ 2 by omega), ?_, ?_, ?_, ?_, h⟩ <;> first | (simp only [ua, nm, seval] <;> rfl) | rfl) ?_
 rintro m ⟨tm, H, iX, df⟩ hinv
 rw [la] at hinv
 obtain ⟨p5, bD, rfl, f9, gh, hdf, AB, e8, e9, aW, aY, h⟩ := hinv
 simp only at hdf AB e8 e9 aW aY
 have gi := gM (m := 2) (b := iX) (by omega)
 subst hdf AA
 cases p5 with
 | nil =>
  have fx : (decide (bD < (List.length aj : Int))) = false := eM f9 gh
  simp only [nP, hs, reduceCtorEq] at h
  replace h := sV _ h
  try dsimp only at h
  try simp only [hs] at h
  obtain ⟨nR, mu, h⟩ := optI h kN
  try simp only [hs] at h
  simp only [vz, tyf, g6, g7, gi, e8, e9, aW, aY, fx, nm, seval]
  refine ktA (Ay _ _ _ _ mu) ?_
  refine bF (fun tm => tm 27 = .lit (.bool nR) ∧ True) (by refine ⟨?_, trivial⟩ <;> first | (simp only [ua, gi, e8, e9, aW, aY, fx, nm, seval] <;> rfl) | rfl) ?_
  rintro tm ⟨bI, _⟩
  try simp only [vz, tyf, g6, g7, gi, fx, bI, nm, seval]
  obtain rfl := kF _ h
  exact bh Tryz.results134 rfl
 | cons e5 p5 =>
  have nS : (decide (bD < (List.length aj : Int))) = true := eO f9 gh
  have AD := cO f9 gh
  have qE := eP f9 gh g6
  simp only [nP, hs, reduceCtorEq] at h
  simp only [vz, tyf, g6, g7, gi, e8, e9, aW, aY, nS, (aE AD), qE, nm, seval]
  refine nI (fun tm => tm 0 = .lit (.int .i64 aF) ∧ tm 1 = .sl (aa eI aj) (List.length aj) false ∧ tm 2 = .lit (.int .i64 aT) ∧ tm 7 = .lit (.int .i64 bD) ∧ True) (by refine ⟨e8, e9, aW, aY, trivial⟩ <;> first | (simp only [ua, gi, e8, e9, aW, aY, nS, qE, nm, seval] <;> rfl) | rfl) ?_
  rintro tm ⟨cu, f8, cH, cN, _⟩
  obtain ⟨KP, j4, h⟩ := optI h nQ
  try simp only [hs] at h
  cases dE : (decide (e5 ≤ KP))
  ·simp only [dE, hs] at h
   simp only [vz, tyf, g6, g7, gi, nS, (aE AD), qE, cu, f8, cH, cN, (aE j4), dE, nm, seval]
   exact ⟨List.length p5, Nat.lt_succ_self _, by rw [la]; refine ⟨p5, bD + 1, rfl, Int.le_trans f9 (Int.le_add_one (Int.le_refl _)), cA f9 gh, rfl, (show 2 ≤ iX + 17 by omega), cu, f8, cH, ?_, (by first | exact h | (simp only [nS, dE]; exact h))⟩ <;> first | (simp only [ua, gi, nS, qE, cu, f8, cH, cN, dE, nm, seval] <;> rfl) | rfl⟩
  simp only [dE, hs] at h
  try simp only [vz, tyf, g6, g7, gi, nS, (aE AD), qE, cu, f8, cH, cN, (aE j4), dE, nm, seval]
  replace h := Gl _ h
  try dsimp only at h
  obtain rfl := kF _ h
  exact bh Tryz.results134 rfl
def nT (ah : GBk) : List GBs → Int → Option (LOut (Bool) (Unit))
 | [], iY => some (.go ())
 | e0 :: p0, iY => Option.bind (lJ ah e0.Board) (fun r2 => cond (r2) (Option.bind (qC 1 e0.Hours 6) (fun r3 => cond (r3) (Option.bind (qD 0 e0.Needs (i64.wrap (iY - 1))) (fun r4 => cond (r4) (nT ah p0 (iY + 1)) (some (.ret false)))) (some (.ret false)))) (some (.ret false)))
def sW (ah : GBk) : Option (Bool) := Option.bind (kY 1 (List.length ah.Strokes : Int) 6) (fun r1 => cond (r1) (cond (aI ah.Strokes) (lbind (nT ah ah.Strokes 0) (fun r6 => some r6) (fun c5 => some true) (fun _ _ => none)) none) (some false))
theorem KQ (ah : GBk) (R : Bool) (h : sW ah = some R) : ai Tryz.prog G0 102 [.agg (cGBk ah)] (.tree (.lit (.bool R))) := by
 refine ai.runR mixed Tryz.call102 Tryz.func102 rfl (by simp [Tryz.ntmps102]; kernel_rfl) ?_
 obtain ⟨KF, h, kF, kN⟩ := cy h
 simp only [sW] at h
 obtain ⟨r7, o8, h⟩ := optI h kN
 try simp only [hs] at h
 simp only [vz, tyf, nm, seval]
 refine ktA (q9 _ _ _ _ o8) ?_
 refine bF (fun tm => tm 1 = .ptr 0 0 ∧ tm 8 = .lit (.bool r7) ∧ True) (by refine ⟨?_, ?_, trivial⟩ <;> first | (simp only [ua, nm, seval] <;> rfl) | rfl) ?_
 rintro tm ⟨e9, aW, _⟩
 cases fA : (r7)
 ·simp only [fA, hs] at h
  try simp only [vz, tyf, e9, aW, fA, nm, seval]
  obtain rfl := kF _ h
  exact bh Tryz.results102 rfl
 simp only [fA, hs] at h
 cases lb : (aI ah.Strokes)
 ·simp only [lb, hs] at h
  exact absurd h kN
 simp only [lb, hs] at h
 simp only [vz, tyf, e9, aW, fA, lb, nm, seval]
 obtain ⟨KR, h, mw, AE, KS, my⟩ := fO h kN
 obtain ⟨KT, AF, h⟩ := call2 h
 obtain ⟨KU, mz⟩ : ∃ I : Nat → St → Prop, I = (fun m st => ∃ (ld : List GBs) (b8 : Int), m = List.length ld ∧ 0 ≤ b8 ∧ List.drop (Int.toNat b8) ah.Strokes = ld ∧ st.df = [] ∧ 11 ≤ st.nx ∧ st.H 0 = some (.cells (some 25) (cGBk ah)) ∧ st.tm 1 = .ptr 0 0 ∧ st.tm 11 = .sl (aa cGBs ah.Strokes) (List.length ah.Strokes) false ∧ st.tm 12 = .lit (.int .i64 (List.length ah.Strokes : Int)) ∧ st.tm 13 = .lit (.int .i64 b8) ∧ KR (KT ld b8)) := ⟨_, rfl⟩
 refine loopK mixed (by kernel_rfl) KU (List.length ah.Strokes) (by rw [mz]; refine ⟨ah.Strokes, 0, rfl, Int.le_refl _, rfl, rfl, (show 11 ≤ 11 by omega), ?_, e9, ?_, ?_, ?_, h⟩ <;> first | (simp only [ua, e9, aW, fA, nm, seval] <;> rfl) | rfl) ?_
 rintro m ⟨tm, H, kc, df⟩ hinv
 rw [mz] at hinv
 obtain ⟨ld, b8, rfl, hY, iZ, hdf, AG, nU, b3, bI, b2, bl, h⟩ := hinv
 simp only at hdf AG nU b3 bI b2 bl
 have qF := gM (m := 11) (b := kc) (by omega)
 subst hdf AF
 cases ld with
 | nil =>
  have fB : (decide (b8 < (List.length ah.Strokes : Int))) = false := eM hY iZ
  simp only [nT, hs, reduceCtorEq] at h
  replace h := AE _ h
  try dsimp only at h
  try simp only [hs] at h
  try simp only [vz, tyf, fA, lb, qF, b3, bI, b2, bl, nU, fB, nm, seval]
  obtain rfl := kF _ h
  exact bh Tryz.results102 rfl
 | cons bu ld =>
  have da : (decide (b8 < (List.length ah.Strokes : Int))) = true := eO hY iZ
  have gN := cO hY iZ
  have sX := eP hY iZ lb
  simp only [nT, hs, reduceCtorEq] at h
  obtain ⟨iy, j4, h⟩ := optI h my
  try simp only [hs] at h
  simp only [vz, tyf, fA, lb, qF, b3, bI, b2, bl, nU, da, (aM gN), sX, nm, seval]
  refine ktA (E8 _ _ _ j4) ?_
  refine bF (fun tm => tm 1 = .ptr 0 0 ∧ tm 3 = .lit (.int .i64 b8) ∧ tm 4 = .ptr (kc + 4) 0 ∧ tm 11 = .sl (aa cGBs ah.Strokes) (List.length ah.Strokes) false ∧ tm 12 = .lit (.int .i64 (List.length ah.Strokes : Int)) ∧ tm 13 = .lit (.int .i64 b8) ∧ tm 21 = .lit (.bool iy) ∧ True) (by refine ⟨b3, ?_, ?_, bI, b2, bl, ?_, trivial⟩ <;> first | (simp only [ua, fA, qF, b3, bI, b2, bl, nU, da, sX, nm, seval] <;> rfl) | rfl) ?_
  rintro tm ⟨bw, aX, ck, bX, db, dc, kd, _⟩
  cases cM : (iy)
  ·simp only [cM, hs] at h
   have dR := And.intro fA (And.intro lb (And.intro qF (And.intro nU (And.intro da (And.intro sX cM)))))
   try simp only [vz, tyf, dR, (aM gN), bw, aX, ck, bX, db, dc, kd, nm, seval]
   replace h := mw _ h
   try dsimp only at h
   obtain rfl := kF _ h
   exact bh Tryz.results102 rfl
  simp only [cM, hs] at h
  have ke := And.intro fA (And.intro lb (And.intro qF (And.intro nU (And.intro da (And.intro sX cM)))))
  obtain ⟨Gm, KV, h⟩ := optI h my
  try simp only [hs] at h
  simp only [vz, tyf, ke, (aM gN), bw, aX, ck, bX, db, dc, kd, nm, seval]
  refine ktA (KM _ _ _ _ KV) ?_
  refine bF (fun tm => tm 1 = .ptr 0 0 ∧ tm 3 = .lit (.int .i64 b8) ∧ tm 4 = .ptr (kc + 4) 0 ∧ tm 11 = .sl (aa cGBs ah.Strokes) (List.length ah.Strokes) false ∧ tm 12 = .lit (.int .i64 (List.length ah.Strokes : Int)) ∧ tm 13 = .lit (.int .i64 b8) ∧ tm 23 = .lit (.bool false) ∧ tm 26 = .lit (.bool Gm) ∧ True) (by refine ⟨bw, aX, ck, bX, db, dc, ?_, ?_, trivial⟩ <;> first | (simp only [ua, ke, bw, aX, ck, bX, db, dc, kd, nm, seval] <;> rfl) | rfl) ?_
  rintro tm ⟨gj, cB, cC, eK, cD, cE, ez, fC, _⟩
  cases eQ : (Gm)
  ·simp only [eQ, hs] at h
   try simp only [vz, tyf, ke, (aM gN), gj, cB, cC, eK, cD, cE, ez, fC, eQ, nm, seval]
   replace h := mw _ h
   try dsimp only at h
   obtain rfl := kF _ h
   exact bh Tryz.results102 rfl
  simp only [eQ, hs] at h
  obtain ⟨Gn, KW, h⟩ := optI h my
  try simp only [hs] at h
  simp only [vz, tyf, ke, (aM gN), gj, cB, cC, eK, cD, cE, ez, fC, eQ, nm, seval]
  refine ktA (KN _ _ _ _ KW) ?_
  refine bF (fun tm => tm 1 = .ptr 0 0 ∧ tm 11 = .sl (aa cGBs ah.Strokes) (List.length ah.Strokes) false ∧ tm 12 = .lit (.int .i64 (List.length ah.Strokes : Int)) ∧ tm 13 = .lit (.int .i64 b8) ∧ tm 29 = .lit (.bool false) ∧ tm 34 = .lit (.bool Gn) ∧ True) (by refine ⟨gj, eK, cD, cE, ?_, ?_, trivial⟩ <;> first | (simp only [ua, ke, gj, cB, cC, eK, cD, cE, ez, fC, eQ, nm, seval] <;> rfl) | rfl) ?_
  rintro tm ⟨dG, ja, jb, eR, eT, fG, _⟩
  cases nV : (Gn)
  ·simp only [nV, hs] at h
   try simp only [vz, tyf, ke, (aM gN), eQ, dG, ja, jb, eR, eT, fG, nV, nm, seval]
   replace h := mw _ h
   try dsimp only at h
   obtain rfl := kF _ h
   exact bh Tryz.results102 rfl
  simp only [nV, hs] at h
  simp only [vz, tyf, ke, (aM gN), eQ, dG, ja, jb, eR, eT, fG, nV, nm, seval]
  exact ⟨List.length ld, Nat.lt_succ_self _, by rw [mz]; refine ⟨ld, b8 + 1, rfl, Int.le_trans hY (Int.le_add_one (Int.le_refl _)), cA hY iZ, rfl, (show 11 ≤ kc + 28 by omega), ?_, dG, ja, jb, ?_, (by first | exact h | (simp only [ke, eQ, nV]; exact h))⟩ <;> first | (simp only [ua, ke, eQ, dG, ja, jb, eR, eT, fG, nV, nm, seval] <;> rfl) | rfl⟩
def kK (ah : GBk) : Option (Bool) := Option.bind (kY 0 ah.Apprentices 3) (fun r1 => cond (r1) (Option.bind (sU ah.Boards) (fun r2 => cond (r2) (Option.bind (sW ah) (fun r3 => some r3)) (some false))) (some false))
theorem sj (ah : GBk) (R : Bool) (h : kK ah = some R) : ai Tryz.prog G0 67 [.agg (cGBk ah)] (.tree (.lit (.bool R))) := by
 refine ai.runR mixed Tryz.call67 Tryz.func67 rfl (by simp [Tryz.ntmps67]; kernel_rfl) ?_
 obtain ⟨KF, h, kF, kN⟩ := cy h
 simp only [kK] at h
 obtain ⟨r4, o5, h⟩ := optI h kN
 try simp only [hs] at h
 simp only [vz, tyf, nm, seval]
 refine ktA (q9 _ _ _ _ o5) ?_
 refine bF (fun tm => tm 1 = .ptr 0 0 ∧ tm 5 = .lit (.bool r4) ∧ True) (by refine ⟨?_, ?_, trivial⟩ <;> first | (simp only [ua, nm, seval] <;> rfl) | rfl) ?_
 rintro tm ⟨e6, e7, _⟩
 cases d8 : (r4)
 ·simp only [d8, hs] at h
  try simp only [vz, tyf, e6, e7, d8, nm, seval]
  obtain rfl := kF _ h
  exact bh Tryz.results67 rfl
 simp only [d8, hs] at h
 obtain ⟨r9, fM, h⟩ := optI h kN
 try simp only [hs] at h
 simp only [vz, tyf, e6, e7, d8, nm, seval]
 refine ktA (KL _ _ fM) ?_
 refine bF (fun tm => tm 1 = .ptr 0 0 ∧ tm 6 = .lit (.bool true) ∧ tm 9 = .lit (.bool r9) ∧ True) (by refine ⟨e6, ?_, ?_, trivial⟩ <;> first | (simp only [ua, e6, e7, d8, nm, seval] <;> rfl) | rfl) ?_
 rintro tm ⟨aY, bu, br, _⟩
 cases bQ : (r9)
 ·simp only [bQ, hs] at h
  try simp only [vz, tyf, d8, aY, bu, br, bQ, nm, seval]
  obtain rfl := kF _ h
  exact bh Tryz.results67 rfl
 simp only [bQ, hs] at h
 obtain ⟨nW, fW, h⟩ := optI h kN
 try simp only [hs] at h
 simp only [vz, tyf, d8, aY, bu, br, bQ, nm, seval]
 refine ktA (KQ _ _ fW) ?_
 refine bF (fun tm => tm 11 = .lit (.bool true) ∧ tm 13 = .lit (.bool nW) ∧ True) (by refine ⟨?_, ?_, trivial⟩ <;> first | (simp only [ua, d8, aY, bu, br, bQ, nm, seval] <;> rfl) | rfl) ?_
 rintro tm ⟨b2, bl, _⟩
 try simp only [vz, tyf, d8, bQ, b2, bl, nm, seval]
 obtain rfl := kF _ h
 exact bh Tryz.results67 rfl
def qG (ah : GBk) (xs : Int) (cT : Int) : Option (Bool) := cond (cT == 0) (some true) (Option.bind (getI ah.Strokes xs) (fun x1 => some (!x1.Round)))
theorem KX (ah : GBk) (xs : Int) (cT : Int) (R : Bool) (h : qG ah xs cT = some R) : ai Tryz.prog G0 104 [.agg (cGBk ah), .lit (.int .i64 xs), .lit (.int .i64 cT)] (.tree (.lit (.bool R))) := by
 refine ai.runR mixed Tryz.call104 Tryz.func104 rfl (by simp [Tryz.ntmps104]; kernel_rfl) ?_
 obtain ⟨KF, h, kF, kN⟩ := cy h
 simp only [qG] at h
 cases d2 : (cT == 0)
 ·simp only [d2, hs] at h
  obtain ⟨x3, o4, h⟩ := optI h kN
  try simp only [hs] at h
  try simp only [vz, tyf, d2, (aM o4), nm, seval]
  obtain rfl := kF _ h
  exact bh Tryz.results104 rfl
 simp only [d2, hs] at h
 try simp only [vz, tyf, d2, nm, seval]
 obtain rfl := kF _ h
 exact bh Tryz.results104 rfl
def nX (ah : GBk) : List Int → Int → Option (LOut (Bool) (Unit))
 | [], jc => some (.go ())
 | e0 :: p0, jc => Option.bind (qG ah jc e0) (fun r2 => cond (r2) (nX ah p0 (jc + 1)) (some (.ret false)))
def kL (ah : GBk) (ae : List Int) : Option (Bool) := cond ((List.length ae : Int) != (List.length ah.Strokes : Int)) (some false) (Option.bind (mr 0 ae ah.Apprentices) (fun r1 => cond (r1) (cond (aI ae) (lbind (nX ah ae 0) (fun r4 => some r4) (fun c3 => some true) (fun _ _ => none)) none) (some false)))
theorem sk (ah : GBk) (ae : List Int) (R : Bool) (h : kL ah ae = some R) : ai Tryz.prog G0 68 [.agg (cGBk ah), .sl (aa eI ae) (List.length ae) false] (.tree (.lit (.bool R))) := by
 refine ai.runR mixed Tryz.call68 Tryz.func68 rfl (by simp [Tryz.ntmps68]; kernel_rfl) ?_
 obtain ⟨KF, h, kF, kN⟩ := cy h
 simp only [kL] at h
 cases d5 : ((List.length ae : Int) != (List.length ah.Strokes : Int))
 ·simp only [d5, hs] at h
  obtain ⟨r6, o7, h⟩ := optI h kN
  try simp only [hs] at h
  simp only [vz, tyf, d5, nm, seval]
  refine ktA (Ay _ _ _ _ o7) ?_
  refine bF (fun tm => tm 1 = .sl (aa eI ae) (List.length ae) false ∧ tm 2 = .ptr 0 0 ∧ tm 13 = .lit (.bool false) ∧ tm 17 = .lit (.bool r6) ∧ True) (by refine ⟨?_, ?_, ?_, ?_, trivial⟩ <;> first | (simp only [ua, d5, nm, seval] <;> rfl) | rfl) ?_
  rintro tm ⟨e8, e9, aW, aY, _⟩
  cases aU : (r6)
  ·simp only [aU, hs] at h
   try simp only [vz, tyf, d5, e8, e9, aW, aY, aU, nm, seval]
   obtain rfl := kF _ h
   exact bh Tryz.results68 rfl
  simp only [aU, hs] at h
  cases m0 : (aI ae)
  ·simp only [m0, hs] at h
   exact absurd h kN
  simp only [m0, hs] at h
  simp only [vz, tyf, d5, e8, e9, aW, aY, aU, m0, nm, seval]
  obtain ⟨KY, h, AH, AI, KZ, AJ⟩ := fO h kN
  obtain ⟨La, AK, h⟩ := call2 h
  obtain ⟨Lb, m2⟩ : ∃ I : Nat → St → Prop, I = (fun m st => ∃ (lf : List Int) (bZ : Int), m = List.length lf ∧ 0 ≤ bZ ∧ List.drop (Int.toNat bZ) ae = lf ∧ st.df = [] ∧ 18 ≤ st.nx ∧ st.H 0 = some (.cells (some 25) (cGBk ah)) ∧ st.tm 2 = .ptr 0 0 ∧ st.tm 20 = .sl (aa eI ae) (List.length ae) false ∧ st.tm 21 = .lit (.int .i64 (List.length ae : Int)) ∧ st.tm 22 = .lit (.int .i64 bZ) ∧ KY (La lf bZ)) := ⟨_, rfl⟩
  refine loopK mixed (by kernel_rfl) Lb (List.length ae) (by rw [m2]; refine ⟨ae, 0, rfl, Int.le_refl _, rfl, rfl, (show 18 ≤ 18 by omega), ?_, e9, ?_, ?_, ?_, h⟩ <;> first | (simp only [ua, d5, e8, e9, aW, aY, aU, nm, seval] <;> rfl) | rfl) ?_
  rintro m ⟨tm, H, qH, df⟩ hinv
  rw [m2] at hinv
  obtain ⟨lf, bZ, rfl, hZ, jd, hdf, AL, qI, bI, b2, bl, bG, h⟩ := hinv
  simp only at hdf AL qI bI b2 bl bG
  have sY := gM (m := 18) (b := qH) (by omega)
  subst hdf AK
  cases lf with
  | nil =>
   have da : (decide (bZ < (List.length ae : Int))) = false := eM hZ jd
   simp only [nX, hs, reduceCtorEq] at h
   replace h := AI _ h
   try dsimp only at h
   try simp only [hs] at h
   try simp only [vz, tyf, d5, aU, m0, sY, bI, b2, bl, bG, qI, da, nm, seval]
   obtain rfl := kF _ h
   exact bh Tryz.results68 rfl
  | cons br lf =>
   have m3 : (decide (bZ < (List.length ae : Int))) = true := eO hZ jd
   have kf := cO hZ jd
   have m4 := eP hZ jd m0
   simp only [nX, hs, reduceCtorEq] at h
   obtain ⟨fX, m5, h⟩ := optI h AJ
   try simp only [hs] at h
   simp only [vz, tyf, d5, aU, m0, sY, bI, b2, bl, bG, qI, m3, (aE kf), m4, nm, seval]
   refine ktA (KX _ _ _ _ m5) ?_
   refine bF (fun tm => tm 2 = .ptr 0 0 ∧ tm 20 = .sl (aa eI ae) (List.length ae) false ∧ tm 21 = .lit (.int .i64 (List.length ae : Int)) ∧ tm 22 = .lit (.int .i64 bZ) ∧ tm 30 = .lit (.bool fX) ∧ True) (by refine ⟨bI, b2, bl, bG, ?_, trivial⟩ <;> first | (simp only [ua, d5, aU, sY, bI, b2, bl, bG, qI, m3, m4, nm, seval] <;> rfl) | rfl) ?_
   rintro tm ⟨aX, ck, bX, db, dc, _⟩
   have sZ := And.intro d5 (And.intro aU (And.intro m0 (And.intro sY (And.intro qI (And.intro m3 m4)))))
   cases cM : (fX)
   ·simp only [cM, hs] at h
    try simp only [vz, tyf, sZ, (aE kf), aX, ck, bX, db, dc, cM, nm, seval]
    replace h := AH _ h
    try dsimp only at h
    obtain rfl := kF _ h
    exact bh Tryz.results68 rfl
   simp only [cM, hs] at h
   simp only [vz, tyf, sZ, (aE kf), aX, ck, bX, db, dc, cM, nm, seval]
   exact ⟨List.length lf, Nat.lt_succ_self _, by rw [m2]; refine ⟨lf, bZ + 1, rfl, Int.le_trans hZ (Int.le_add_one (Int.le_refl _)), cA hZ jd, rfl, (show 18 ≤ qH + 13 by omega), ?_, aX, ck, bX, ?_, (by first | exact h | (simp only [sZ, cM]; exact h))⟩ <;> first | (simp only [ua, sZ, aX, ck, bX, db, dc, cM, nm, seval] <;> rfl) | rfl⟩
 simp only [d5, hs] at h
 try simp only [vz, tyf, d5, nm, seval]
 obtain rfl := kF _ h
 exact bh Tryz.results68 rfl

def lF  : List GBs → Int → Option (LOut (Bool) (Unit))
 | [], eA => some (.go ())
 | e0 :: p0, eA => cond (decide (eA < 9)) (cond (decide ((List.length e0.Needs : Int) > 8)) (some (.ret false)) (lF p0 (eA + 1))) (some (.go ()))
def se (ah : GBk) : Option (Bool) := cond (aI ah.Strokes) (lbind (lF ah.Strokes 0) (fun r2 => some r2) (fun c1 => cond (decide ((List.length ah.Boards : Int) ≤ 5)) (some (decide ((List.length ah.Strokes : Int) ≤ 8))) (some false)) (fun _ _ => none)) none
theorem Lc (ah : GBk) (R : Bool) (h : se ah = some R) : ai Tryz.prog G0 18 [.agg (cGBk ah)] (.tree (.lit (.bool R))) := by
 refine ai.runR mixed Tryz.call18 Tryz.func18 rfl (by simp [Tryz.ntmps18]; kernel_rfl) ?_
 obtain ⟨KF, h, kF, kN⟩ := cy h
 simp only [se] at h
 cases g4 : (aI ah.Strokes)
 ·simp only [g4, hs] at h
  exact absurd h kN
 simp only [g4, hs] at h
 simp only [vz, tyf, g4, nm, seval]
 obtain ⟨K3, h, Gp, ta, Ld, Le⟩ := fO h kN
 obtain ⟨f3, AM, h⟩ := call2 h
 obtain ⟨I3, m6⟩ : ∃ I : Nat → St → Prop, I = (fun m st => ∃ (p3 : List GBs) (c9 : Int), m = List.length p3 ∧ 0 ≤ c9 ∧ List.drop (Int.toNat c9) ah.Strokes = p3 ∧ st.df = [] ∧ 3 ≤ st.nx ∧ st.H 0 = some (.cells (some 25) (cGBk ah)) ∧ st.tm 1 = .ptr 0 0 ∧ st.tm 3 = .lit (.int .i64 c9) ∧ K3 (f3 p3 c9)) := ⟨_, rfl⟩
 refine loopK mixed (by kernel_rfl) I3 (List.length ah.Strokes) (by rw [m6]; refine ⟨ah.Strokes, 0, rfl, Int.le_refl _, rfl, rfl, (show 3 ≤ 3 by omega), ?_, ?_, ?_, h⟩ <;> first | (simp only [ua, nm, seval] <;> rfl) | rfl) ?_
 rintro m ⟨tm, H, qJ, df⟩ hinv
 rw [m6] at hinv
 obtain ⟨p3, c9, rfl, ia, je, hdf, AN, H5, e6, e7, h⟩ := hinv
 simp only at hdf AN H5 e6 e7
 have n8 := gM (m := 3) (b := qJ) (by omega)
 subst hdf AM
 cases p3 with
 | nil =>
  have d9 : (decide (c9 < (List.length ah.Strokes : Int))) = false := eM ia je
  simp only [lF, hs, reduceCtorEq] at h
  replace h := ta _ h
  try dsimp only at h
  try simp only [hs] at h
  cases lg : (decide ((List.length ah.Boards : Int) ≤ 5))
  ·simp only [lg, hs] at h
   try simp only [vz, tyf, g4, n8, e6, e7, H5, d9, lg, nm, seval]
   obtain rfl := kF _ h
   exact bh Tryz.results18 rfl
  simp only [lg, hs] at h
  try simp only [vz, tyf, g4, n8, e6, e7, H5, d9, lg, nm, seval]
  obtain rfl := kF _ h
  exact bh Tryz.results18 rfl
 | cons e3 p3 =>
  have fA : (decide (c9 < (List.length ah.Strokes : Int))) = true := eO ia je
  have nY := cO ia je
  have m7 := eP ia je g4
  simp only [lF, hs, reduceCtorEq] at h
  cases bQ : (decide (c9 < 9))
  ·simp only [bQ, hs] at h
   replace h := ta _ h
   try dsimp only at h
   try simp only [hs] at h
   cases ib : (decide ((List.length ah.Boards : Int) ≤ 5))
   ·simp only [ib, hs] at h
    have Lf := And.intro g4 (And.intro n8 (And.intro H5 (And.intro fA (And.intro m7 (And.intro bQ ib)))))
    try simp only [vz, tyf, Lf, e6, e7, (aM nY), nm, seval]
    obtain rfl := kF _ h
    exact bh Tryz.results18 rfl
   simp only [ib, hs] at h
   have Lg := And.intro g4 (And.intro n8 (And.intro H5 (And.intro fA (And.intro m7 (And.intro bQ ib)))))
   try simp only [vz, tyf, Lg, e6, e7, (aM nY), nm, seval]
   obtain rfl := kF _ h
   exact bh Tryz.results18 rfl
  simp only [bQ, hs] at h
  cases tc : (decide ((List.length e3.Needs : Int) > 8))
  ·simp only [tc, hs] at h
   have AO := And.intro g4 (And.intro n8 (And.intro H5 (And.intro fA (And.intro m7 (And.intro bQ tc)))))
   simp only [vz, tyf, AO, e6, e7, (aM nY), nm, seval]
   exact ⟨List.length p3, Nat.lt_succ_self _, by rw [m6]; refine ⟨p3, c9 + 1, rfl, Int.le_trans ia (Int.le_add_one (Int.le_refl _)), cA ia je, rfl, (show 3 ≤ qJ + 20 by omega), ?_, e6, ?_, (by first | exact h | (simp only [AO]; exact h))⟩ <;> first | (simp only [ua, AO, e6, e7, nm, seval] <;> rfl) | rfl⟩
  simp only [tc, hs] at h
  have Lh := And.intro g4 (And.intro n8 (And.intro H5 (And.intro fA (And.intro m7 (And.intro bQ tc)))))
  try simp only [vz, tyf, Lh, e6, e7, (aM nY), nm, seval]
  replace h := Gp _ h
  try dsimp only at h
  obtain rfl := kF _ h
  exact bh Tryz.results18 rfl
def ic (ie : Int) (eC : Int) (dV : Int) : Option (Bool) := cond (decide (ie ≥ eC)) (some (decide (ie ≤ dV))) (some false)
theorem jA (ie : Int) (eC : Int) (dV : Int) (R : Bool) (h : ic ie eC dV = some R) : ai Tryz.prog G0 73 [.lit (.int .i64 ie), .lit (.int .i64 eC), .lit (.int .i64 dV)] (.tree (.lit (.bool R))) := by
 refine ai.runR mixed Tryz.call73 Tryz.func73 rfl (by simp [Tryz.ntmps73]; kernel_rfl) ?_
 obtain ⟨KF, h, kF, kN⟩ := cy h
 simp only [ic] at h
 cases d1 : (decide (ie ≥ eC))
 ·simp only [d1, hs] at h
  try simp only [vz, tyf, d1, nm, seval]
  obtain rfl := kF _ h
  exact bh Tryz.results73 rfl
 simp only [d1, hs] at h
 try simp only [vz, tyf, d1, nm, seval]
 obtain rfl := kF _ h
 exact bh Tryz.results73 rfl
def m8 (b7 : Int) (x1 : GBs) : List Int → Int → Option (LOut (Bool) (Unit))
 | [], jf => some (.go ())
 | e0 :: p0, jf => Option.bind (ic e0 0 (i64.wrap (b7 - 1))) (fun r5 => cond (r5) (cond (decide (jf > 0)) (Option.bind (getI x1.Needs (i64.wrap (jf - 1))) (fun x6 => cond (decide (e0 ≤ x6)) (some (.ret false)) (m8 b7 x1 p0 (jf + 1)))) (m8 b7 x1 p0 (jf + 1))) (some (.ret false)))
def qK (ah : GBk) (b7 : Int) : Option (Bool) := Option.bind (getI ah.Strokes b7) (fun x1 => Option.bind (ic x1.Board 0 (i64.wrap ((List.length ah.Boards : Int) - 1))) (fun r2 => cond (r2) (Option.bind (ic x1.Hours.Low 1 6) (fun r3 => cond (r3) (Option.bind (ic x1.Hours.High x1.Hours.Low 6) (fun r4 => cond (r4) (cond (aI x1.Needs) (lbind (m8 b7 x1 x1.Needs 0) (fun r8 => some r8) (fun c7 => some true) (fun _ _ => none)) none) (some false))) (some false))) (some false)))
theorem Li (ah : GBk) (b7 : Int) (R : Bool) (h : qK ah b7 = some R) : ai Tryz.prog G0 74 [.agg (cGBk ah), .lit (.int .i64 b7)] (.tree (.lit (.bool R))) := by
 refine ai.runR mixed Tryz.call74 Tryz.func74 rfl (by simp [Tryz.ntmps74]; kernel_rfl) ?_
 obtain ⟨KF, h, kF, kN⟩ := cy h
 simp only [qK] at h
 obtain ⟨x9, fM, h⟩ := optI h kN
 try simp only [hs] at h
 obtain ⟨Gq, Lj, h⟩ := optI h kN
 try simp only [hs] at h
 simp only [vz, tyf, (aM fM), nm, seval]
 refine ktA (jA _ _ _ _ Lj) ?_
 refine bF (fun tm => tm 1 = .lit (.int .i64 b7) ∧ tm 5 = .ptr 7 0 ∧ tm 18 = .lit (.bool Gq) ∧ True) (by refine ⟨?_, ?_, ?_, trivial⟩ <;> first | (simp only [ua, nm, seval] <;> rfl) | rfl) ?_
 rintro tm ⟨br, bL, b3, _⟩
 cases g9 : (Gq)
 ·simp only [g9, hs] at h
  try simp only [vz, tyf, (aM fM), br, bL, b3, g9, nm, seval]
  obtain rfl := kF _ h
  exact bh Tryz.results74 rfl
 simp only [g9, hs] at h
 obtain ⟨kh, AP, h⟩ := optI h kN
 try simp only [hs] at h
 simp only [vz, tyf, (aM fM), br, bL, b3, g9, nm, seval]
 refine ktA (jA _ _ _ _ AP) ?_
 refine bF (fun tm => tm 1 = .lit (.int .i64 b7) ∧ tm 5 = .ptr 7 0 ∧ tm 20 = .lit (.bool false) ∧ tm 24 = .lit (.bool kh) ∧ True) (by refine ⟨br, bL, ?_, ?_, trivial⟩ <;> first | (simp only [ua, br, bL, b3, g9, nm, seval] <;> rfl) | rfl) ?_
 rintro tm ⟨bG, cu, f8, cH, _⟩
 cases bE : (kh)
 ·simp only [bE, hs] at h
  try simp only [vz, tyf, (aM fM), g9, bG, cu, f8, cH, bE, nm, seval]
  obtain rfl := kF _ h
  exact bh Tryz.results74 rfl
 simp only [bE, hs] at h
 obtain ⟨iy, j4, h⟩ := optI h kN
 try simp only [hs] at h
 simp only [vz, tyf, (aM fM), g9, bG, cu, f8, cH, bE, nm, seval]
 refine ktA (jA _ _ _ _ j4) ?_
 refine bF (fun tm => tm 1 = .lit (.int .i64 b7) ∧ tm 5 = .ptr 7 0 ∧ tm 27 = .lit (.bool false) ∧ tm 34 = .lit (.bool iy) ∧ True) (by refine ⟨bG, cu, ?_, ?_, trivial⟩ <;> first | (simp only [ua, g9, bG, cu, f8, cH, bE, nm, seval] <;> rfl) | rfl) ?_
 rintro tm ⟨bw, aX, ck, bX, _⟩
 cases eh : (iy)
 ·simp only [eh, hs] at h
  try simp only [vz, tyf, (aM fM), g9, bE, bw, aX, ck, bX, eh, nm, seval]
  obtain rfl := kF _ h
  exact bh Tryz.results74 rfl
 simp only [eh, hs] at h
 cases m9 : (aI x9.Needs)
 ·simp only [m9, hs] at h
  exact absurd h kN
 simp only [m9, hs] at h
 simp only [vz, tyf, (aM fM), g9, bE, bw, aX, ck, bX, eh, m9, nm, seval]
 obtain ⟨Lk, h, qL, AQ, Ll, qM⟩ := fO h kN
 obtain ⟨Lm, AR, h⟩ := call2 h
 obtain ⟨Ln, ki⟩ : ∃ I : Nat → St → Prop, I = (fun m st => ∃ (jB : List Int) (cg : Int), m = List.length jB ∧ 0 ≤ cg ∧ List.drop (Int.toNat cg) x9.Needs = jB ∧ st.df = [] ∧ 35 ≤ st.nx ∧ st.H 7 = some (.cells (some 49) (cGBs x9)) ∧ st.tm 1 = .lit (.int .i64 b7) ∧ st.tm 5 = .ptr 7 0 ∧ st.tm 6 = .lit (.int .i64 cg) ∧ Lk (Lm jB cg)) := ⟨_, rfl⟩
 refine loopK mixed (by kernel_rfl) Ln (List.length x9.Needs) (by rw [ki]; refine ⟨x9.Needs, 0, rfl, Int.le_refl _, rfl, rfl, (show 35 ≤ 35 by omega), ?_, bw, aX, ?_, h⟩ <;> first | (simp only [ua, g9, bE, bw, aX, ck, bX, eh, nm, seval] <;> rfl) | rfl) ?_
 rintro m ⟨tm, H, mA, df⟩ hinv
 rw [ki] at hinv
 obtain ⟨jB, cg, rfl, fY, ig, hdf, AS, qN, j5, jg, jh, h⟩ := hinv
 simp only at hdf AS qN j5 jg jh
 have td := gM (m := 35) (b := mA) (by omega)
 subst hdf AR
 cases jB with
 | nil =>
  have Lo : (decide (cg < (List.length x9.Needs : Int))) = false := eM fY ig
  simp only [m8, hs, reduceCtorEq] at h
  replace h := AQ _ h
  try dsimp only at h
  try simp only [hs] at h
  try simp only [vz, tyf, (aM fM), g9, bE, eh, m9, td, j5, jg, jh, qN, Lo, nm, seval]
  obtain rfl := kF _ h
  exact bh Tryz.results74 rfl
 | cons dc jB =>
  have AT : (decide (cg < (List.length x9.Needs : Int))) = true := eO fY ig
  have lh := cO fY ig
  have AU := eP fY ig m9
  simp only [m8, hs, reduceCtorEq] at h
  simp only [vz, tyf, (aM fM), g9, bE, eh, m9, td, j5, jg, jh, qN, AT, (aE lh), AU, nm, seval]
  refine nI (fun tm => tm 1 = .lit (.int .i64 b7) ∧ tm 5 = .ptr 7 0 ∧ tm 6 = .lit (.int .i64 cg) ∧ True) (by refine ⟨j5, jg, jh, trivial⟩ <;> first | (simp only [ua, g9, bE, eh, td, j5, jg, jh, qN, AT, AU, nm, seval] <;> rfl) | rfl) ?_
  rintro tm ⟨cD, cE, ez, _⟩
  have jC := And.intro g9 (And.intro bE (And.intro eh (And.intro m9 (And.intro td (And.intro qN (And.intro AT AU))))))
  obtain ⟨Gr, Lp, h⟩ := optI h qM
  try simp only [hs] at h
  simp only [vz, tyf, jC, (aM fM), (aE lh), cD, cE, ez, nm, seval]
  refine dktA (jA _ _ _ _ Lp) ?_
  refine bF (fun tm => tm 1 = .lit (.int .i64 b7) ∧ tm 5 = .ptr 7 0 ∧ tm 6 = .lit (.int .i64 cg) ∧ tm 51 = .lit (.bool Gr) ∧ True) (by refine ⟨cD, cE, ez, ?_, trivial⟩ <;> first | (simp only [ua, jC, cD, cE, ez, nm, seval] <;> rfl) | rfl) ?_
  rintro tm ⟨dH, dG, ja, jb, _⟩
  cases cU : (Gr)
  ·simp only [cU, hs] at h
   try simp only [vz, tyf, jC, (aM fM), (aE lh), dH, dG, ja, jb, cU, nm, seval]
   replace h := qL _ h
   try dsimp only at h
   obtain rfl := kF _ h
   exact bh Tryz.results74 rfl
  simp only [cU, hs] at h
  cases kj : (decide (cg > 0))
  ·simp only [kj, hs] at h
   simp only [vz, tyf, jC, (aM fM), (aE lh), dH, dG, ja, jb, cU, kj, nm, seval]
   exact ⟨List.length jB, Nat.lt_succ_self _, by rw [ki]; refine ⟨jB, cg + 1, rfl, Int.le_trans fY (Int.le_add_one (Int.le_refl _)), cA fY ig, rfl, (show 35 ≤ mA + 35 by omega), ?_, dH, dG, ?_, (by first | exact h | (simp only [jC, cU, kj]; exact h))⟩ <;> first | (simp only [ua, jC, dH, dG, ja, jb, cU, kj, nm, seval] <;> rfl) | rfl⟩
  simp only [kj, hs] at h
  obtain ⟨Lq, Gs, h⟩ := optI h qM
  try simp only [hs] at h
  cases nZ : (decide (dc ≤ Lq))
  ·simp only [nZ, hs] at h
   simp only [vz, tyf, jC, (aM fM), (aE lh), dH, dG, ja, jb, cU, kj, (aE Gs), nZ, nm, seval]
   exact ⟨List.length jB, Nat.lt_succ_self _, by rw [ki]; refine ⟨jB, cg + 1, rfl, Int.le_trans fY (Int.le_add_one (Int.le_refl _)), cA fY ig, rfl, (show 35 ≤ mA + 35 by omega), ?_, dH, dG, ?_, (by first | exact h | (simp only [jC, cU, kj, nZ]; exact h))⟩ <;> first | (simp only [ua, jC, dH, dG, ja, jb, cU, kj, nZ, nm, seval] <;> rfl) | rfl⟩
  simp only [nZ, hs] at h
  try simp only [vz, tyf, jC, (aM fM), (aE lh), dH, dG, ja, jb, cU, kj, (aE Gs), nZ, nm, seval]
  replace h := qL _ h
  try dsimp only at h
  obtain rfl := kF _ h
  exact bh Tryz.results74 rfl
def oa (ah : GBk) : List GBs → Int → Option (LOut (Bool) (Unit))
 | [], mB => some (.go ())
 | e1 :: p1, mB => Option.bind (qK ah mB) (fun r6 => cond (r6) (oa ah p1 (mB + 1)) (some (.ret false)))
def oc  : List Int → Int → Option (LOut (Bool) (Unit))
 | [], eA => some (.go ())
 | e0 :: p0, eA => Option.bind (ic e0 0 60) (fun r4 => cond (r4) (oc p0 (eA + 1)) (some (.ret false)))
def qO (ah : GBk) : Option (Bool) := Option.bind (ic ah.Apprentices 0 3) (fun r1 => cond (r1) (Option.bind (ic (List.length ah.Boards : Int) 1 3) (fun r2 => cond (r2) (Option.bind (ic (List.length ah.Strokes : Int) 1 6) (fun r3 => cond (r3) (cond (aI ah.Boards) (lbind (oc ah.Boards 0) (fun r9 => some r9) (fun c5 => cond (aI ah.Strokes) (lbind (oa ah ah.Strokes 0) (fun r8 => some r8) (fun c7 => some true) (fun _ _ => none)) none) (fun _ _ => none)) none) (some false))) (some false))) (some false))
theorem Lr (ah : GBk) (R : Bool) (h : qO ah = some R) : ai Tryz.prog G0 24 [.agg (cGBk ah)] (.tree (.lit (.bool R))) := by
 refine ai.runR mixed Tryz.call24 Tryz.func24 rfl (by simp [Tryz.ntmps24]; kernel_rfl) ?_
 obtain ⟨KF, h, kF, kN⟩ := cy h
 simp only [qO] at h
 obtain ⟨nu, iD, h⟩ := optI h kN
 try simp only [hs] at h
 simp only [vz, tyf, nm, seval]
 refine ktA (jA _ _ _ _ iD) ?_
 refine bF (fun tm => tm 1 = .ptr 0 0 ∧ tm 7 = .lit (.bool nu) ∧ True) (by refine ⟨?_, ?_, trivial⟩ <;> first | (simp only [ua, nm, seval] <;> rfl) | rfl) ?_
 rintro tm ⟨bu, br, _⟩
 cases bQ : (nu)
 ·simp only [bQ, hs] at h
  try simp only [vz, tyf, bu, br, bQ, nm, seval]
  obtain rfl := kF _ h
  exact bh Tryz.results24 rfl
 simp only [bQ, hs] at h
 obtain ⟨nW, fW, h⟩ := optI h kN
 try simp only [hs] at h
 simp only [vz, tyf, bu, br, bQ, nm, seval]
 refine ktA (jA _ _ _ _ fW) ?_
 refine bF (fun tm => tm 1 = .ptr 0 0 ∧ tm 9 = .lit (.bool false) ∧ tm 13 = .lit (.bool nW) ∧ True) (by refine ⟨bu, ?_, ?_, trivial⟩ <;> first | (simp only [ua, bu, br, bQ, nm, seval] <;> rfl) | rfl) ?_
 rintro tm ⟨b2, bl, bG, _⟩
 cases fB : (nW)
 ·simp only [fB, hs] at h
  try simp only [vz, tyf, bQ, b2, bl, bG, fB, nm, seval]
  obtain rfl := kF _ h
  exact bh Tryz.results24 rfl
 simp only [fB, hs] at h
 obtain ⟨qP, AV, h⟩ := optI h kN
 try simp only [hs] at h
 simp only [vz, tyf, bQ, b2, bl, bG, fB, nm, seval]
 refine ktA (jA _ _ _ _ AV) ?_
 refine bF (fun tm => tm 1 = .ptr 0 0 ∧ tm 16 = .lit (.bool false) ∧ tm 20 = .lit (.bool qP) ∧ True) (by refine ⟨b2, ?_, ?_, trivial⟩ <;> first | (simp only [ua, bQ, b2, bl, bG, fB, nm, seval] <;> rfl) | rfl) ?_
 rintro tm ⟨cN, bp, bz, _⟩
 cases dE : (qP)
 ·simp only [dE, hs] at h
  try simp only [vz, tyf, bQ, fB, cN, bp, bz, dE, nm, seval]
  obtain rfl := kF _ h
  exact bh Tryz.results24 rfl
 simp only [dE, hs] at h
 cases jD : (aI ah.Boards)
 ·simp only [jD, hs] at h
  exact absurd h kN
 simp only [jD, hs] at h
 simp only [vz, tyf, bQ, fB, cN, bp, bz, dE, jD, nm, seval]
 obtain ⟨Ls, h, AW, AX, Lt, AY⟩ := fO h kN
 obtain ⟨Lu, AZ, h⟩ := call2 h
 obtain ⟨Lv, mC⟩ : ∃ I : Nat → St → Prop, I = (fun m st => ∃ (lj : List Int) (cV : Int), m = List.length lj ∧ 0 ≤ cV ∧ List.drop (Int.toNat cV) ah.Boards = lj ∧ st.df = [] ∧ 21 ≤ st.nx ∧ st.H 0 = some (.cells (some 25) (cGBk ah)) ∧ st.tm 1 = .ptr 0 0 ∧ st.tm 3 = .lit (.int .i64 cV) ∧ Ls (Lu lj cV)) := ⟨_, rfl⟩
 refine loopK mixed (by kernel_rfl) Lv (List.length ah.Boards) (by rw [mC]; refine ⟨ah.Boards, 0, rfl, Int.le_refl _, rfl, rfl, (show 21 ≤ 21 by omega), ?_, cN, ?_, h⟩ <;> first | (simp only [ua, bQ, fB, cN, bp, bz, dE, nm, seval] <;> rfl) | rfl) ?_
 rintro m ⟨tm, H, gA, df⟩ hinv
 rw [mC] at hinv
 obtain ⟨lj, cV, rfl, ij, ji, hdf, Ba, cz, db, dc, h⟩ := hinv
 simp only at hdf Ba cz db dc
 have kl := gM (m := 21) (b := gA) (by omega)
 subst hdf AZ
 cases lj with
 | nil =>
  have cM : (decide (cV < (List.length ah.Boards : Int))) = false := eM ij ji
  simp only [oc, hs, reduceCtorEq] at h
  replace h := AX _ h
  try dsimp only at h
  try simp only [hs] at h
  cases ed : (aI ah.Strokes)
  ·simp only [ed, hs] at h
   exact absurd h kN
  simp only [ed, hs] at h
  simp only [vz, tyf, bQ, fB, dE, jD, kl, db, dc, cz, cM, ed, nm, seval]
  obtain ⟨Lw, h, Bb, Bc, Lx, Bd⟩ := fO h kN
  obtain ⟨Ly, Be, h⟩ := call2 h
  obtain ⟨Lz, mD⟩ : ∃ I : Nat → St → Prop, I = (fun m st => ∃ (lk : List GBs) (cW : Int), m = List.length lk ∧ 0 ≤ cW ∧ List.drop (Int.toNat cW) ah.Strokes = lk ∧ st.df = [] ∧ gA + 6 ≤ st.nx ∧ st.H 0 = some (.cells (some 25) (cGBk ah)) ∧ st.tm 1 = .ptr 0 0 ∧ st.tm 4 = .lit (.int .i64 cW) ∧ Lw (Ly lk cW)) := ⟨_, rfl⟩
  refine loopK mixed (by kernel_rfl) Lz (List.length ah.Strokes) (by rw [mD]; refine ⟨ah.Strokes, 0, rfl, Int.le_refl _, rfl, rfl, (show gA + 6 ≤ gA + 6 by omega), ?_, db, ?_, h⟩ <;> first | (simp only [ua, bQ, fB, dE, kl, db, dc, cz, cM, nm, seval] <;> rfl) | rfl) ?_
  rintro m ⟨tm, H, mF, df⟩ hinv
  rw [mD] at hinv
  obtain ⟨lk, cW, rfl, ik, jj, hdf, Bf, qQ, jk, gj, h⟩ := hinv
  simp only at hdf Bf qQ jk gj
  have te := gM (m := 21) (b := mF) (by omega)
  have tf := sb (a := gA) (m := 6) (b := mF) (by omega)
  subst hdf Be
  cases lk with
  | nil =>
   have dW : (decide (cW < (List.length ah.Strokes : Int))) = false := eM ik jj
   simp only [oa, hs, reduceCtorEq] at h
   replace h := Bc _ h
   try dsimp only at h
   try simp only [hs] at h
   try simp only [vz, tyf, bQ, fB, dE, jD, kl, cM, ed, te, tf, jk, gj, qQ, dW, nm, seval]
   obtain rfl := kF _ h
   exact bh Tryz.results24 rfl
  | cons j5 lk =>
   have np : (decide (cW < (List.length ah.Strokes : Int))) = true := eO ik jj
   have kI := cO ik jj
   have nq := eP ik jj ed
   simp only [oa, hs, reduceCtorEq] at h
   obtain ⟨Gt, L0, h⟩ := optI h Bd
   try simp only [hs] at h
   simp only [vz, tyf, bQ, fB, dE, jD, kl, cM, ed, te, tf, jk, gj, qQ, np, (aM kI), nq, nm, seval]
   refine ktA (Li _ _ _ L0) ?_
   refine bF (fun tm => tm 1 = .ptr 0 0 ∧ tm 4 = .lit (.int .i64 cW) ∧ tm 46 = .lit (.bool Gt) ∧ True) (by refine ⟨jk, gj, ?_, trivial⟩ <;> first | (simp only [ua, bQ, fB, dE, kl, cM, te, tf, jk, gj, qQ, np, nq, nm, seval] <;> rfl) | rfl) ?_
   rintro tm ⟨fD, dH, dG, _⟩
   have tg := And.intro bQ (And.intro fB (And.intro dE (And.intro jD (And.intro kl (And.intro cM (And.intro ed (And.intro te (And.intro tf (And.intro qQ (And.intro np nq))))))))))
   cases eD : (Gt)
   ·simp only [eD, hs] at h
    try simp only [vz, tyf, tg, (aM kI), fD, dH, dG, eD, nm, seval]
    replace h := Bb _ h
    try dsimp only at h
    obtain rfl := kF _ h
    exact bh Tryz.results24 rfl
   simp only [eD, hs] at h
   simp only [vz, tyf, tg, (aM kI), fD, dH, dG, eD, nm, seval]
   exact ⟨List.length lk, Nat.lt_succ_self _, by rw [mD]; refine ⟨lk, cW + 1, rfl, Int.le_trans ik (Int.le_add_one (Int.le_refl _)), cA ik jj, rfl, (show gA + 6 ≤ mF + 12 by omega), ?_, fD, ?_, (by first | exact h | (simp only [tg, eD]; exact h))⟩ <;> first | (simp only [ua, tg, fD, dH, dG, eD, nm, seval] <;> rfl) | rfl⟩
 | cons aX lj =>
  have cU : (decide (cV < (List.length ah.Boards : Int))) = true := eO ij ji
  have qR := cO ij ji
  have Bh := eP ij ji jD
  simp only [oc, hs, reduceCtorEq] at h
  obtain ⟨Gu, L1, h⟩ := optI h AY
  try simp only [hs] at h
  simp only [vz, tyf, bQ, fB, dE, jD, kl, db, dc, cz, cU, (aE qR), Bh, nm, seval]
  refine ktA (jA _ _ _ _ L1) ?_
  refine bF (fun tm => tm 1 = .ptr 0 0 ∧ tm 3 = .lit (.int .i64 cV) ∧ tm 35 = .lit (.bool Gu) ∧ True) (by refine ⟨db, dc, ?_, trivial⟩ <;> first | (simp only [ua, bQ, fB, dE, kl, db, dc, cz, cU, Bh, nm, seval] <;> rfl) | rfl) ?_
  rintro tm ⟨ll, mG, od, _⟩
  have th := And.intro bQ (And.intro fB (And.intro dE (And.intro jD (And.intro kl (And.intro cz (And.intro cU Bh))))))
  cases oe : (Gu)
  ·simp only [oe, hs] at h
   try simp only [vz, tyf, th, (aE qR), ll, mG, od, oe, nm, seval]
   replace h := AW _ h
   try dsimp only at h
   obtain rfl := kF _ h
   exact bh Tryz.results24 rfl
  simp only [oe, hs] at h
  simp only [vz, tyf, th, (aE qR), ll, mG, od, oe, nm, seval]
  exact ⟨List.length lj, Nat.lt_succ_self _, by rw [mC]; refine ⟨lj, cV + 1, rfl, Int.le_trans ij (Int.le_add_one (Int.le_refl _)), cA ij ji, rfl, (show 21 ≤ gA + 15 by omega), ?_, ll, ?_, (by first | exact h | (simp only [th, oe]; exact h))⟩ <;> first | (simp only [ua, th, ll, mG, od, oe, nm, seval] <;> rfl) | rfl⟩
def n2 (ah : GBk) : Option (Bool) := Option.bind (se ah) (fun r1 => cond (r1) (Option.bind (qO ah) (fun r2 => some r2)) (some false))
theorem L2 (ah : GBk) (R : Bool) (h : n2 ah = some R) : ai Tryz.prog G0 30 [.agg (cGBk ah)] (.tree (.lit (.bool R))) := by
 refine ai.runR mixed Tryz.call30 Tryz.func30 rfl (by simp [Tryz.ntmps30]; kernel_rfl) ?_
 obtain ⟨KF, h, kF, kN⟩ := cy h
 simp only [n2] at h
 obtain ⟨r3, o4, h⟩ := optI h kN
 try simp only [hs] at h
 simp only [vz, tyf, nm, seval]
 refine ktA (Lc _ _ o4) ?_
 refine bF (fun tm => tm 1 = .ptr 0 0 ∧ tm 4 = .lit (.bool r3) ∧ True) (by refine ⟨?_, ?_, trivial⟩ <;> first | (simp only [ua, nm, seval] <;> rfl) | rfl) ?_
 rintro tm ⟨e5, e6, _⟩
 cases d7 : (r3)
 ·simp only [d7, hs] at h
  try simp only [vz, tyf, e5, e6, d7, nm, seval]
  obtain rfl := kF _ h
  exact bh Tryz.results30 rfl
 simp only [d7, hs] at h
 obtain ⟨r8, o9, h⟩ := optI h kN
 try simp only [hs] at h
 simp only [vz, tyf, e5, e6, d7, nm, seval]
 refine ktA (Lr _ _ o9) ?_
 refine bF (fun tm => tm 5 = .lit (.bool true) ∧ tm 7 = .lit (.bool r8) ∧ True) (by refine ⟨?_, ?_, trivial⟩ <;> first | (simp only [ua, e5, e6, d7, nm, seval] <;> rfl) | rfl) ?_
 rintro tm ⟨aW, aY, _⟩
 try simp only [vz, tyf, d7, aW, aY, nm, seval]
 obtain rfl := kF _ h
 exact bh Tryz.results30 rfl
def tk (jl : List Int) : Option (Bool) := some (decide ((List.length jl : Int) ≤ 9))
theorem L3 (jl : List Int) (R : Bool) (h : tk jl = some R) : ai Tryz.prog G0 19 [.sl (aa eI jl) (List.length jl) false] (.tree (.lit (.bool R))) := by
 refine ai.runR mixed Tryz.call19 Tryz.func19 rfl (by simp [Tryz.ntmps19]; kernel_rfl) ?_
 obtain ⟨KF, h, kF, kN⟩ := cy h
 simp only [tk] at h
 try simp only [vz, tyf, nm, seval]
 obtain rfl := kF _ h
 exact bh Tryz.results19 rfl
def mH (ah : GBk) : List Int → Int → Option (LOut (Bool) (Unit))
 | [], eL => some (.go ())
 | e0 :: p0, eL => Option.bind (ic e0 0 ah.Apprentices) (fun r1 => cond (r1) (Option.bind (getI ah.Strokes eL) (fun x2 => cond (x2.Round) (cond (e0 != 0) (some (.ret false)) (mH ah p0 (eL + 1))) (mH ah p0 (eL + 1)))) (some (.ret false)))
def qS (ah : GBk) (bR : List Int) : Option (Bool) := cond ((List.length bR : Int) != (List.length ah.Strokes : Int)) (some false) (cond (aI bR) (lbind (mH ah bR 0) (fun r4 => some r4) (fun c3 => some true) (fun _ _ => none)) none)
theorem L4 (ah : GBk) (bR : List Int) (R : Bool) (h : qS ah bR = some R) : ai Tryz.prog G0 25 [.agg (cGBk ah), .sl (aa eI bR) (List.length bR) false] (.tree (.lit (.bool R))) := by
 refine ai.runR mixed Tryz.call25 Tryz.func25 rfl (by simp [Tryz.ntmps25]; kernel_rfl) ?_
 obtain ⟨KF, h, kF, kN⟩ := cy h
 simp only [qS] at h
 cases d5 : ((List.length bR : Int) != (List.length ah.Strokes : Int))
 ·simp only [d5, hs] at h
  cases g7 : (aI bR)
  ·simp only [g7, hs] at h
   exact absurd h kN
  simp only [g7, hs] at h
  simp only [vz, tyf, d5, g7, nm, seval]
  obtain ⟨K6, h, tl, Bi, L5, mI⟩ := fO h kN
  obtain ⟨f6, Bj, h⟩ := call2 h
  obtain ⟨I6, ln⟩ : ∃ I : Nat → St → Prop, I = (fun m st => ∃ (p6 : List Int) (eE : Int), m = List.length p6 ∧ 0 ≤ eE ∧ List.drop (Int.toNat eE) bR = p6 ∧ st.df = [] ∧ 9 ≤ st.nx ∧ st.H 0 = some (.cells (some 25) (cGBk ah)) ∧ st.tm 1 = .sl (aa eI bR) (List.length bR) false ∧ st.tm 2 = .ptr 0 0 ∧ st.tm 5 = .lit (.int .i64 eE) ∧ K6 (f6 p6 eE)) := ⟨_, rfl⟩
  refine loopK mixed (by kernel_rfl) I6 (List.length bR) (by rw [ln]; refine ⟨bR, 0, rfl, Int.le_refl _, rfl, rfl, (show 9 ≤ 9 by omega), ?_, ?_, ?_, ?_, h⟩ <;> first | (simp only [ua, d5, nm, seval] <;> rfl) | rfl) ?_
  rintro m ⟨tm, H, mJ, df⟩ hinv
  rw [ln] at hinv
  obtain ⟨p6, eE, rfl, lp, og, hdf, Bk, H8, e9, aW, aY, h⟩ := hinv
  simp only at hdf Bk H8 e9 aW aY
  have gi := gM (m := 9) (b := mJ) (by omega)
  subst hdf Bj
  cases p6 with
  | nil =>
   have fx : (decide (eE < (List.length bR : Int))) = false := eM lp og
   simp only [mH, hs, reduceCtorEq] at h
   replace h := Bi _ h
   try dsimp only at h
   try simp only [hs] at h
   try simp only [vz, tyf, d5, g7, gi, e9, aW, aY, H8, fx, nm, seval]
   obtain rfl := kF _ h
   exact bh Tryz.results25 rfl
  | cons e6 p6 =>
   have bQ : (decide (eE < (List.length bR : Int))) = true := eO lp og
   have fW := cO lp og
   have oh := eP lp og g7
   simp only [mH, hs, reduceCtorEq] at h
   simp only [vz, tyf, d5, g7, gi, e9, aW, aY, H8, bQ, (aE fW), oh, nm, seval]
   refine nI (fun tm => tm 1 = .sl (aa eI bR) (List.length bR) false ∧ tm 2 = .ptr 0 0 ∧ tm 5 = .lit (.int .i64 eE) ∧ True) (by refine ⟨e9, aW, aY, trivial⟩ <;> first | (simp only [ua, d5, gi, e9, aW, aY, H8, bQ, oh, nm, seval] <;> rfl) | rfl) ?_
   rintro tm ⟨b2, bl, bG, _⟩
   obtain ⟨km, lq, h⟩ := optI h mI
   try simp only [hs] at h
   simp only [vz, tyf, d5, g7, gi, H8, bQ, (aE fW), oh, b2, bl, bG, nm, seval]
   refine dktA (jA _ _ _ _ lq) ?_
   refine bF (fun tm => tm 1 = .sl (aa eI bR) (List.length bR) false ∧ tm 2 = .ptr 0 0 ∧ tm 5 = .lit (.int .i64 eE) ∧ tm 24 = .lit (.bool km) ∧ True) (by refine ⟨b2, bl, bG, ?_, trivial⟩ <;> first | (simp only [ua, d5, gi, H8, bQ, oh, b2, bl, bG, nm, seval] <;> rfl) | rfl) ?_
   rintro tm ⟨cH, cN, bp, bz, _⟩
   cases dE : (km)
   ·simp only [dE, hs] at h
    have L6 := And.intro d5 (And.intro g7 (And.intro gi (And.intro H8 (And.intro bQ (And.intro oh dE)))))
    try simp only [vz, tyf, L6, (aE fW), cH, cN, bp, bz, nm, seval]
    replace h := tl _ h
    try dsimp only at h
    obtain rfl := kF _ h
    exact bh Tryz.results25 rfl
   simp only [dE, hs] at h
   have gX := And.intro d5 (And.intro g7 (And.intro gi (And.intro H8 (And.intro bQ (And.intro oh dE)))))
   obtain ⟨L7, Bl, h⟩ := optI h mI
   try simp only [hs] at h
   cases jm : (L7.Round)
   ·simp only [jm, hs] at h
    simp only [vz, tyf, gX, (aE fW), cH, cN, bp, bz, (aM Bl), jm, nm, seval]
    exact ⟨List.length p6, Nat.lt_succ_self _, by rw [ln]; refine ⟨p6, eE + 1, rfl, Int.le_trans lp (Int.le_add_one (Int.le_refl _)), cA lp og, rfl, (show 9 ≤ mJ + 30 by omega), ?_, cH, cN, ?_, (by first | exact h | (simp only [gX, jm]; exact h))⟩ <;> first | (simp only [ua, gX, cH, cN, bp, bz, jm, nm, seval] <;> rfl) | rfl | (simp only [ua, tyf, gX, cH, cN, bp, bz, jm, nm, seval] <;> rfl)⟩
   simp only [jm, hs] at h
   cases bW : (e6 != 0)
   ·simp only [bW, hs] at h
    simp only [vz, tyf, gX, (aE fW), cH, cN, bp, bz, (aM Bl), jm, bW, nm, seval]
    exact ⟨List.length p6, Nat.lt_succ_self _, by rw [ln]; refine ⟨p6, eE + 1, rfl, Int.le_trans lp (Int.le_add_one (Int.le_refl _)), cA lp og, rfl, (show 9 ≤ mJ + 30 by omega), ?_, cH, cN, ?_, (by first | exact h | (simp only [gX, jm, bW]; exact h))⟩ <;> first | (simp only [ua, gX, cH, cN, bp, bz, jm, bW, nm, seval] <;> rfl) | rfl | (simp only [ua, tyf, gX, cH, cN, bp, bz, jm, bW, nm, seval] <;> rfl)⟩
   simp only [bW, hs] at h
   try simp only [vz, tyf, gX, (aE fW), cH, cN, bp, bz, (aM Bl), jm, bW, nm, seval]
   replace h := tl _ h
   try dsimp only at h
   obtain rfl := kF _ h
   exact bh Tryz.results25 rfl
 simp only [d5, hs] at h
 try simp only [vz, tyf, d5, nm, seval]
 obtain rfl := kF _ h
 exact bh Tryz.results25 rfl
end Go.V
end
