/- Part of a proof. -/
import Derived.Test.YtclkbhbhohdgbaaGreatDoorE2az
set_option linter.all false
section
namespace Go.V
open Go IntKind
inductive LOut (R C : Type) where
 | ret (r : R)
 | go (c : C)
 | brk (k : Nat) (c : C)
def lbind {R C X : Type} (o : Option (LOut R C)) (kr : R → Option X) (kg : C → Option X) (kb : Nat → C → Option X) : Option X :=
 match o with
 | none => none
 | some (.ret r) => kr r
 | some (.go c) => kg c
 | some (.brk k c) => kb k c
section
variable {R C X : Type} {kr : R → Option X} {kg : C → Option X} {kb : Nat → C → Option X}
theorem Eu : lbind (none : Option (LOut R C)) kr kg kb = none := rfl
theorem Es {r : R} : lbind (some (.ret r)) kr kg kb = kr r := rfl
theorem my {c : C} : lbind (some (.go c)) kr kg kb = kg c := rfl
theorem Et {k : Nat} {c : C} : lbind (some (.brk k c)) kr kg kb = kb k c := rfl
end
def getI {α : Type} (xs : List α) (i : Int) : Option α := if 0 ≤ i then xs[i.toNat]? else none
def lenOk {α : Type} (xs : List α) : Bool := decide (xs.length < 9223372036854775808)
def boundOk (n : Int) : Bool := decide (n.toNat < 4611686018427387904)
def loOk (n : Int) : Bool := decide ((-n).toNat < 4611686018427387904)
def leB (a b : Int) : Bool := decide (a ≤ b)
variable {α : Type} {i : Int}
theorem ta {xs : List α} {x : α} (h : getI xs i = some x) : 0 ≤ i ∧ i < xs.length ∧ xs.drop i.toNat = x :: xs.drop (i.toNat + 1) := by
 unfold getI at h
 split at h
 ·rename_i hi
  obtain ⟨hl, hx⟩ := List.getElem?_eq_some_iff.1 h
  refine ⟨hi, by omega, ?_⟩
  rw [← hx, List.drop_eq_getElem_cons hl]
 ·cases h
theorem fA {xs post : List α} {x : α} (hi : 0 ≤ i) (h : xs.drop i.toNat = x :: post) : getI xs i = some x := by
 unfold getI
 rw [if_pos hi]
 have : (xs.drop i.toNat)[0]? = some x := by rw [h]; rfl
 simpa using this
theorem dm {xs post : List α} {x : α} (hi : 0 ≤ i) (h : xs.drop i.toNat = x :: post) : xs.drop (i + 1).toNat = post := by
 have : (i + 1).toNat = i.toNat + 1 := by omega
 rw [this, ← List.drop_drop, h]
 rfl
theorem gZ {xs post : List α} {x : α} (hi : 0 ≤ i) (h : xs.drop i.toNat = x :: post) : decide (i < (xs.length : Int)) = true := by
 have := (ta (fA hi h)).2.1
 simpa using this
theorem ic {xs : List α} (hi : 0 ≤ i) (h : xs.drop i.toNat = []) : decide (i < (xs.length : Int)) = false := by
 have := List.drop_eq_nil_iff.1 h
 simp
 omega
theorem hC {xs post : List α} {x : α} (hi : 0 ≤ i) (h : xs.drop i.toNat = x :: post) (hl : lenOk xs = true) : IntKind.i64.wrap (i + 1) = i + 1 := by
 have h1 := (ta (fA hi h)).2.1
 have h2 : xs.length < 9223372036854775808 := by simpa [lenOk] using hl
 rw [IntWalk.i64_in _ (by omega)]
section
variable {P : Program} {H : Nat → Option Vo} {t e w : Nat} {α : Type} {enc : α → List VV} {xs : List α} {x : α} {k : IntKind} {i : Int}
theorem ixG {f : Bool} (hu : P.underlying t = some (.slice e)) (hs : szT P e = some w) (hw : 0 < w) (he : ∀ x, (enc x).length = w) (h : getI xs i = some x) :
  aJ P H t (.sl (ad enc xs) xs.length f) (.lit (.int k i)) = some (.tp (enc x ++ ad enc (xs.drop (i.toNat + 1)))) := by
 obtain ⟨h0, h1, h2⟩ := ta h
 have hne : ad enc xs ≠ [] := by
  intro h0
  have := gg he xs
  rw [h0] at this
  have hp : 0 < xs.length * w := Nat.mul_pos (by omega) hw
  rw [← this] at hp
  exact absurd hp (by simp)
 have hd : (ad enc xs).drop (i.toNat * w) = enc x ++ ad enc (xs.drop (i.toNat + 1)) := by
  have h3 : xs = xs.take i.toNat ++ xs.drop i.toNat := (List.take_append_drop ..).symm
  have h4 := Tf he h3
  rw [List.length_take, Nat.min_eq_left (by omega), h2] at h4
  exact h4
 have kK : (i < (xs.length : Int)) := h1
 simp [aJ, hu, hs, h0, kK, hne, hd]
end
end Go.V
namespace Go.V
theorem fg {R : Type} {o : Option R} {r0 : R} (h : o = some r0) : ∃ K : Option R → Prop, K o ∧ (∀ r, K (some r) → r = r0) ∧ ¬ K none :=
 ⟨fun o => o = some r0, h, fun _ h => Option.some.inj h, fun h => by cases h⟩
theorem iy {R C X : Type} {o : Option (LOut R C)} {kr : R → Option X} {kg : C → Option X} {kb : Nat → C → Option X} {K0 : Option X → Prop} (h : K0 (lbind o kr kg kb)) (hn : ¬ K0 none) :
  ∃ K : Option (LOut R C) → Prop, K o ∧ (∀ r, K (some (.ret r)) → K0 (kr r)) ∧ (∀ c, K (some (.go c)) → K0 (kg c)) ∧ (∀ k c, K (some (.brk k c)) → K0 (kb k c)) ∧ ¬ K none :=
 ⟨fun o => K0 (lbind o kr kg kb), h, fun _ h => h, fun _ h => h, fun _ _ h => h, hn⟩
section
variable {A B C D E F I J X : Type}
theorem call2 {f : A → B → X} {a : A} {b : B} {K : X → Prop} (h : K (f a b)) : ∃ f', f' = f ∧ K (f' a b) := ⟨f, rfl, h⟩
theorem call3 {f : A → B → C → X} {a : A} {b : B} {c : C} {K : X → Prop} (h : K (f a b c)) : ∃ f', f' = f ∧ K (f' a b c) := ⟨f, rfl, h⟩
theorem call4 {f : A → B → C → D → X} {a : A} {b : B} {c : C} {d : D} {K : X → Prop} (h : K (f a b c d)) : ∃ f', f' = f ∧ K (f' a b c d) := ⟨f, rfl, h⟩
end
end Go.V
namespace Go.V
end Go.V
namespace Go.V
open Go IntKind
def drwQ (P : Program) (G : Gb) (ops : Array Oper) (aa : Nat) (Q : Vx → St → Prop) : Nat → List Oper → St → Prop
 | _, [], st => Q .normal st
 | i, o :: l, st => dstepK P G ops (aa + i) o st fun _ wr st' => wr = [] ∧ drwQ P G ops aa Q (i + 1) l st'
variable {ops : Array Oper} {o : Oper} {K : List Nat → List Nat → St → Prop}
theorem Tg {P : Program} {G : Gb} {γ : Nat} {st : St} {K' : List Nat → List Nat → St → Prop} (hk : ∀ a b s, K a b s → K' a b s) (h : dstepK P G ops γ o st K) : dstepK P G ops γ o st K' := by
 unfold dstepK at h ⊢
 split at h
 ·exact h.elim
 ·refine ⟨fun hb => ?_, fun hb => hk _ _ _ (h.2 hb)⟩
  have h1 := h.1 hb
  split at h1
  ·split at h1
   ·rcases h1 with ⟨ht, r, hp, hr⟩ | ⟨a, x, hs, hp, hx, hr⟩ | ⟨β, es', x, hu, hr⟩ | ⟨cs, ht, hn, hr⟩
    ·refine .inl ⟨ht, r, hp, ?_⟩
     cases r with
     | tree x => exact hk _ _ _ hr
     | own cs len es => exact hk _ _ _ hr
     | panic x => exact hr
    ·exact .inr (.inl ⟨a, x, hs, hp, hx, hk _ _ _ hr⟩)
    ·exact .inr (.inr (.inl ⟨β, es', x, hu, hk _ _ _ hr⟩))
    ·exact .inr (.inr (.inr ⟨cs, ht, hn, hk _ _ _ hr⟩))
   ·exact h1
  ·split at h1
   ·rcases h1 with ⟨ht, r, hp, hr⟩ | ⟨a, x, hs, hp, hx, hr⟩ | ⟨β, es', x, hu, hr⟩ | ⟨cs, ht, hn, hr⟩
    ·refine .inl ⟨ht, r, hp, ?_⟩
     cases r with
     | tree x => exact hk _ _ _ hr
     | own cs len es => exact hk _ _ _ hr
     | panic x => exact hr
    ·exact .inr (.inl ⟨a, x, hs, hp, hx, hk _ _ _ hr⟩)
    ·exact .inr (.inr (.inl ⟨β, es', x, hu, hk _ _ _ hr⟩))
    ·exact .inr (.inr (.inr ⟨cs, ht, hn, hk _ _ _ hr⟩))
   ·exact h1
  ·split at h1
   ·exact hk _ _ _ h1
   ·exact h1
theorem Th {P : Program} {G : Gb} {ops : Array Oper} {aa : Nat} {Q : Vx → St → Prop} : ∀ (l : List Oper) (i : Nat) (tr : Tr) (st : St), (∀ p ∈ tr, p.2.2 = []) → drwQ P G ops aa Q i l st → drawK P G ops aa Q i l tr st
 | [], _, tr, st, ht, h => ⟨J4 fun p hp => ht p (List.mem_reverse.1 hp), h⟩
 | o :: l, i, tr, st, ht, h => Tg (fun rd wr s hs => Th l (i + 1) ((i, rd, wr) :: tr) s (fun p hp => by
   rcases List.mem_cons.1 hp with rfl | hp
   ·exact hs.1
   ·exact ht p hp) hs.2) h
variable {aa i : Nat}
section
variable {P : Program} {G : Gb} {n : Nat} {tm : Nat → VV} {H : Nat → Option Vo} {nx : Nat} {df : List VDef} {Q : Vx → St → Prop} {l : List Oper}
theorem J5 {id : Nat} (h : drwQ P G ⟨l⟩ nx Q 0 l ⟨tm, H, nx + l.length, df⟩) : CWp P G n (.region id ⟨l⟩ true) Q ⟨tm, H, nx, df⟩ := .inl (Th l 0 [] _ (fun _ h => (by cases h)) h)
theorem J6 {id : Nat} (h : drawK P G ⟨l⟩ nx Q 0 l [] ⟨tm, H, nx + l.length, df⟩) : CWp P G n (.region id ⟨l⟩ true) Q ⟨tm, H, nx, df⟩ := .inl h
theorem J7 {st : St} : drwQ P G ops aa Q i [] st = Q .normal st := rfl
theorem J8 : drwQ P G ops aa Q i (o :: l) ⟨tm, H, nx, df⟩ = dstepK P G ops (aa + i) o ⟨tm, H, nx, df⟩ fun _ wr st' => wr = [] ∧ drwQ P G ops aa Q (i + 1) l st' := rfl
theorem J9 {γ : Nat} {d : Option Tmp} {ty : TypeId} {pos : String} {af : Array Edge} {op : Op} : dstepK P G ⟨l⟩ γ ⟨d, op, ty, pos, af, none⟩ ⟨tm, H, nx, df⟩ K = aR P G γ ⟨d, op, ty, pos, af, none⟩ ⟨tm, H, nx, df⟩ K := JA
theorem JB {tr : Tr} : drawK P G ops aa Q i (o :: l) tr ⟨tm, H, nx, df⟩ = dstepK P G ops (aa + i) o ⟨tm, H, nx, df⟩ fun rd wr st' => drawK P G ops aa Q (i + 1) l ((i, rd, wr) :: tr) st' := rfl
@[congr] theorem X4 {st st' : St} (h : st = st') : drwQ P G ops aa Q i l st = drwQ P G ops aa Q i l st' := by rw [h]
end
end Go.V
namespace Go.V
open Go IntKind
section
variable {P : Program} {G : Gb} {n γ : Nat} {tm : Nat → VV} {H : Nat → Option Vo} {nx : Nat} {df : List VDef} {K : St → Prop} {Q : Vx → St → Prop} {l : List Oper} {d : Tmp} {x : VV} {e : Ve}
theorem bQ (F : (Nat → VV) → Prop) (hF : F (upd tm d x)) (h : ∀ tm', F tm' → K ⟨tm', H, nx, df⟩) : fin (some d) γ tm H nx df K x .none := h _ hF
theorem tZ {id : Nat} (F : (Nat → VV) → Prop) (hF : F tm) (h : ∀ tm', F tm' → drwQ P G ⟨l⟩ nx Q 0 l ⟨tm', H, nx + l.length, df⟩) : CWp P G n (.region id ⟨l⟩ true) Q ⟨tm, H, nx, df⟩ := J5 (h _ hF)
theorem qZ {id : Nat} (F : (Nat → VV) → Prop) (hF : F tm) (h : ∀ tm', F tm' → drawK P G ⟨l⟩ nx Q 0 l [] ⟨tm', H, nx + l.length, df⟩) : CWp P G n (.region id ⟨l⟩ true) Q ⟨tm, H, nx, df⟩ := J6 (h _ hF)
end
end Go.V
namespace Go.V
open Go IntKind
def leafL : List VV → Bool
 | [] => true
 | x :: xs => x.leaf && leafL xs
theorem xm : ∀ xs : List VV, xs.all VV.leaf = leafL xs
 | [] => rfl
 | x :: xs => by simp [leafL, xm xs]
def appOk (P : Program) (t : TypeId) : Option (TypeId × Nat × Nat) := match P.underlying t with
 | some (.slice e) => match P.info? e with
  | some inf => match inf.zero with
   | some z => if 0 < inf.size ∧ 0 < inf.bytes ∧ z.cells.size = inf.size then some (e, inf.size, inf.bytes) else none
   | none => none
  | none => none
 | _ => none
def ar (b n : Nat) : Bool := decide (n * b ≤ 140737488355328)
theorem Ah {P : Program} {t e s b : Nat} (h : appOk P t = some (e, s, b)) : P.underlying t = some (.slice e) ∧ ∃ inf z, P.info? e = some inf ∧ inf.zero = some z ∧ inf.size = s ∧ inf.bytes = b ∧ 0 < s ∧ 0 < b ∧ z.cells.size = s := by
 unfold appOk at h
 split at h
 ·rename_i e' hu
  split at h
  ·rename_i inf hi
   split at h
   ·rename_i z hz
    split at h
    ·rename_i hc
     simp only [Option.some.injEq, Prod.mk.injEq] at h
     obtain ⟨rfl, rfl, rfl⟩ := h
     exact ⟨hu, inf, z, hi, hz, rfl, rfl, hc.1, hc.2.1, hc.2.2⟩
    ·cases h
   ·cases h
  ·cases h
 ·cases h
section
variable {P : Program} {H : Nat → Option Vo} {γ β δ t t2 e e2 w b n cx : Nat} {el fx : Option TypeId} {α : Type} {enc : α → List VV} {xs ys : List α} {k : VV → Ve → Prop}
theorem Ti : ∀ {xs ys : List VV}, leafL (xs ++ ys) = (leafL xs && leafL ys)
 | [], _ => rfl
 | x :: xs, ys => by simp [leafL, Ti (xs := xs), Bool.and_assoc]
theorem Ai (hl : ∀ x, leafL (enc x) = true) : ∀ xs : List α, leafL (ad enc xs) = true
 | [] => rfl
 | x :: xs => by simp [ad, Ti, hl, Ai hl xs]
theorem k_app (he : ∀ x, (enc x).length = w) (hl : ∀ x, leafL (enc x) = true) (ha : appOk P t = some (e, w, b)) (iC : P.underlying t2 = some (.slice e2)) (hb : H β = some (.cells el (ad enc xs))) (hd : H δ = some (.cells fx (ad enc ys)))
  (hm : 0 < ys.length) (hr : ar b (xs ++ ys).length = true) (h : k (.ref γ 0 (xs ++ ys).length w (xs ++ ys).length) (.mv β (sameEl el e) (ad enc (xs ++ ys)))) :
  oeK (vappend P H γ t t2 (.ref β 0 xs.length w xs.length) (.ref δ 0 ys.length w cx)) k := by
 obtain ⟨hu, inf, z, hi, hz, rfl, rfl, rI, rJ, hzs⟩ := Ah ha
 have hr' : (xs.length + ys.length) * inf.bytes ≤ 140737488355328 := by simpa [ar] using hr
 have h4 : (ad enc ys).all VV.leaf = true := by rw [xm]; exact Ai hl ys
 have h2 := gg he ys
 have h1 := gg he xs
 have h5 : (ad enc ys).take (ys.length * inf.size) = ad enc ys := List.take_of_length_le (by omega)
 have h6 : ¬ (xs.length + ys.length ≤ xs.length) := by omega
 have key : vappend P H γ t t2 (.ref β 0 xs.length inf.size xs.length) (.ref δ 0 ys.length inf.size cx) = some (.ref γ 0 (xs ++ ys).length inf.size (xs ++ ys).length, .mv β (sameEl el e) (ad enc (xs ++ ys))) := by
  simp only [vappend, nilS, vappend1, hu, iC, hi, hz, srcV, sls, hd, Nat.zero_le, if_true, List.drop_zero, h5, h4, rI, rJ, hzs, hb]
  simp [h2, h6, h1, hr', tc]
 rw [key]
 exact h
theorem ni (he : ∀ x, (enc x).length = w) (hl : ∀ x, leafL (enc x) = true) (ha : appOk P t = some (e, w, b)) (iC : P.underlying t2 = some (.slice e2)) (hd : H δ = some (.cells fx (ad enc ys)))
  (hm : 0 < ys.length) (hr : ar b ([] ++ ys).length = true) (h : k (.ref γ 0 ([] ++ ys).length w ([] ++ ys).length) (.new (.cells (some e) (ad enc ([] ++ ys))))) :
  oeK (vappend P H γ t t2 (.lit (.slice none 0 0)) (.ref δ 0 ys.length w cx)) k := by
 obtain ⟨hu, inf, z, hi, hz, rfl, rfl, rI, rJ, hzs⟩ := Ah ha
 have hr' : ys.length * inf.bytes ≤ 140737488355328 := by simpa [ar] using hr
 have h4 : (ad enc ys).all VV.leaf = true := by rw [xm]; exact Ai hl ys
 have h2 := gg he ys
 have h5 : (ad enc ys).take (ys.length * inf.size) = ad enc ys := List.take_of_length_le (by omega)
 have h6 : ys ≠ [] := by intro h; rw [h] at hm; exact absurd hm (by simp)
 have key : vappend P H γ t t2 (.lit (.slice none 0 0)) (.ref δ 0 ys.length inf.size cx) = some (.ref γ 0 ([] ++ ys).length inf.size ([] ++ ys).length, .new (.cells (some e) (ad enc ([] ++ ys)))) := by
  simp only [vappend, nilS, vappend1, hu, iC, hi, hz, srcV, sls, hd, Nat.zero_le, if_true, List.drop_zero, h5, h4, rI, rJ, hzs]
  simp [h2, h6, hr']
 rw [key]
 exact h
theorem td (he : ∀ x, (enc x).length = w) : (ad enc xs).take (xs.length * w) = ad enc xs := List.take_of_length_le (by rw [gg he]; exact qZg _)
theorem lenR {off c : Nat} (hu : P.underlying t = some (.slice e)) : vlen P H t (.ref β off n w c) = (match H β with | some (.cells _ cs) => if off ≤ cs.length then some (.lit (.int .i64 n)) else none | _ => none) := by
 simp only [vlen, hu, sls]
 cases H β with
 | none => rfl
 | some o => cases o with
  | cells el cs => by_cases hc : off ≤ cs.length <;> simp [hc]
  | _ => rfl
theorem ixO {x : α} {i : Int} (hu : P.underlying t = some (.slice e)) (hs : szT P e = some w) (he : ∀ x, (enc x).length = w) (h : getI xs i = some x) :
  (∀ (H : Nat → Option Vo) (β c : Nat) (k : IntKind), aJ P H t (.ref β 0 xs.length w c) (.lit (.int k i)) = if (H β).isSome = true then some (.ptr β (i.toNat * w)) else none) ∧
  (ad enc xs).drop (i.toNat * w) = enc x ++ ad enc (xs.drop (i.toNat + 1)) ∧ (i.toNat * w ≤ (ad enc xs).length) = True := by
 obtain ⟨h0, h1, h2⟩ := ta h
 have hd : (ad enc xs).drop (i.toNat * w) = enc x ++ ad enc (xs.drop (i.toNat + 1)) := by
  have h3 : xs = xs.take i.toNat ++ xs.drop i.toNat := (List.take_append_drop ..).symm
  have h4 := Tf he h3
  rw [List.length_take, Nat.min_eq_left (by omega), h2] at h4
  exact h4
 refine ⟨fun H β c k => ?_, hd, ?_⟩
 ·simp [aJ, hu, hs, h0, h1]
 ·rw [gg he]
  refine eq_true ?_
  exact Nat.mul_le_mul_right _ (by omega)
end
end Go.V
namespace Go.V
open Go IntKind
section
variable {E i : Int} {k : Nat}
theorem JC (h : Int.toNat (E - i) = 0) : decide (i < E) = false := by simp; omega
theorem JD (h : Int.toNat (E - i) = k + 1) : decide (i < E) = true := by simp; omega
theorem JE (h : Int.toNat (E - i) = k + 1) : Int.toNat (E - (i + 1)) = k := by omega
theorem JF (h : loOk i = true) : loOk (i + 1) = true := by
 simp only [loOk, decide_eq_true_eq] at h ⊢
 omega
theorem JG (gR : loOk i = true) (h : Int.toNat (E - i) = k + 1) (hE : boundOk E = true) : i64.wrap (i + 1) = i + 1 := by
 have h1 : E.toNat < 4611686018427387904 := by simpa only [boundOk, decide_eq_true_eq] using hE
 have h2 : (-i).toNat < 4611686018427387904 := by simpa only [loOk, decide_eq_true_eq] using gR
 rw [IntWalk.i64_in _ (by omega)]
end
end Go.V
namespace Go.V
open Go IntKind
section
variable {P : Program} {G : Gb} {f : FuncId} {args : List VV}
end
end Go.V
namespace Go.V
open Go IntKind
structure EncT {α : Type} (enc : α → List VV) : Prop where
 tree : ∀ x, tl (enc x) = true
 norm : ∀ x, normL (enc x) = enc x
theorem JH {α : Type} {enc : α → List VV} (he : EncT enc) {xs : List α} : normL [.sl (ad enc xs) xs.length false] = [.sl (ad enc xs) xs.length false] := by
 simp [normL, normV, JI he.norm]
theorem rk {H : Nat → Option Vo} : ∀ (cs : List VV) (k : Nat), tl cs = true → cs.length < k → aW H k cs = some cs
 | [], k + 1, _, _ => by simp [aW]
 | x :: xs, k + 1, ht, hk => by
  simp only [tl, Bool.and_eq_true] at ht
  have h1 : sealV H k x = some x := by
   cases k with
   | zero => simp at hk
   | succ k => simp [sealV, ht.1]
  simp [aW, h1, rk xs k ht.2 (by simpa using hk)]
theorem Aj {H : Nat → Option Vo} : ∀ (cs : List VV) (k : Nat), tl cs = true → nmL H k cs = []
 | _, 0, _ => by simp [nmL]
 | [], k + 1, _ => by simp [nmL]
 | x :: xs, k + 1, ht => by
  simp only [tl, Bool.and_eq_true] at ht
  have h1 : nmV H k x = [] := by
   cases k with
   | zero => simp [nmV]
   | succ k => simp [nmV, ht.1]
  simp [nmL, h1, Aj xs k ht.2]
section
variable {P : Program} {G : Gb} {f : FuncId} {β γ w c nx : Nat} {tm : Nat → VV} {H : Nat → Option Vo} {df : List VDef} {d : Option Tmp} {K : List Nat → List Nat → St → Prop} {el : Option TypeId} {α : Type} {enc : α → List VV} {xs : List α} {x : VV}
theorem dkseen1 (he : EncT enc) (hw : ∀ x, (enc x).length = w) (hl : xs.length * w ≤ 1000) (hH : H β = some (.cells el (ad enc xs))) (hp : ah P G f [.sl (ad enc xs) xs.length false] (.tree x)) (hf : x.flat = true) (h : fin d γ tm H nx df (K [β] []) x .none) :
  dcallK P G f [.ref β 0 xs.length w c] tm H nx df d γ K := by
 have ht : tl (ad enc xs) = true := JJ he.tree xs
 have bn := gg hw xs
 have e0 : (VV.ref β 0 xs.length w c).tree = false := rfl
 have e1 : (ad enc xs).take (xs.length * w) = ad enc xs := List.take_of_length_le (by omega)
 refine dkseen (args1 := [.sl (ad enc xs) xs.length false]) (x := x) ?_ (JH he) hp hf ?_
 ·show aW H (99999 + 1) _ = _
  have h2 : sealV H (99998 + 1) (.ref β 0 xs.length w c) = some (.sl (ad enc xs) xs.length false) := by
   simp only [sealV, e0, hH, Nat.zero_le, if_true, List.drop_zero, e1]
   rw [rk _ 99998 ht (by omega)]
   rfl
  simp only [aW]
  rw [show (99999 : Nat) = 99998 + 1 from rfl, h2]
 ·have h3 : nmL H fuelS [.ref β 0 xs.length w c] = [β] := by
   show nmL H (99999 + 1) _ = _
   have h4 : nmV H (99998 + 1) (.ref β 0 xs.length w c) = [β] := by
    simp only [nmV, e0, hH, List.drop_zero, e1]
    rw [Aj _ _ ht]
    rfl
   simp only [nmL]
   rw [show (99999 : Nat) = 99998 + 1 from rfl, h4]
   simp [nmL]
  rw [h3]
  exact h
end
end Go.V
end
