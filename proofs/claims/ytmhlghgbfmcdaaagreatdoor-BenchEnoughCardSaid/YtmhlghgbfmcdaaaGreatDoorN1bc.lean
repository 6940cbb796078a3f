/- Part of a proof. -/
import Derived.Test.YtmhlghgbfmcdaaaGreatDoorN1ai
set_option linter.all false
section
namespace Go.V
open Go
def aa {α : Type} (enc : α → List VV) : List α → List VV
 | [] => []
 | x :: xs => enc x ++ aa enc xs
theorem B9 {α : Type} {enc : α → List VV} : aa enc [] = [] := rfl
theorem rD {α : Type} {enc : α → List VV} {x : α} {xs : List α} : aa enc (x :: xs) = enc x ++ aa enc xs := rfl
theorem qN {α : Type} {enc : α → List VV} : ∀ {xs ys : List α}, aa enc (xs ++ ys) = aa enc xs ++ aa enc ys
 | [], _ => rfl
 | x :: xs, ys => by simp [aa, qN (xs := xs)]
theorem fm {α : Type} {enc : α → List VV} {w : Nat} (h : ∀ x, (enc x).length = w) : ∀ xs : List α, (aa enc xs).length = xs.length * w
 | [] => by simp [aa]
 | x :: xs => by simp [aa, h, fm h xs, Nat.add_mul, Nat.add_comm]
theorem JF {α : Type} {enc : α → List VV} {w : Nat} (h : ∀ x, (enc x).length = w) {xs pre post : List α} (e : xs = pre ++ post) : (aa enc xs).drop (pre.length * w) = aa enc post := by
 subst e
 rw [qN, ← fm h pre, List.drop_left]
theorem Gb : ∀ {xs ys : List VV}, treeL (xs ++ ys) = (treeL xs && treeL ys)
 | [], _ => rfl
 | x :: xs, ys => by simp [treeL, Gb (xs := xs), Bool.and_assoc]
theorem wx {α : Type} {enc : α → List VV} (h : ∀ x, treeL (enc x) = true) : ∀ xs : List α, treeL (aa enc xs) = true
 | [] => rfl
 | x :: xs => by simp [aa, Gb, h, wx h xs]
theorem mn : ∀ {xs ys : List VV}, normL (xs ++ ys) = normL xs ++ normL ys
 | [], _ => rfl
 | x :: xs, ys => by simp [normL, mn (xs := xs)]
theorem wv {α : Type} {enc : α → List VV} (h : ∀ x, normL (enc x) = enc x) : ∀ xs : List α, normL (aa enc xs) = aa enc xs
 | [] => rfl
 | x :: xs => by simp [aa, mn, h, wv h xs]
theorem F4 {α : Type} {enc : α → List VV} {g : VV → VV} (h : ∀ x, (enc x).map g = enc x) : ∀ xs : List α, (aa enc xs).map g = aa enc xs
 | [] => rfl
 | x :: xs => by simp [aa, h, F4 h xs]
theorem bO {H : Nat → Option VObj} {cs : List VV} : tgt H (.tp cs) = some cs := rfl
theorem bN {H : Nat → Option VObj} {β off : Nat} : tgt H (.ptr β off) = (match H β with | some (.cells _ cs) => if off ≤ cs.length then some (cs.drop off) else none | _ => none) := rfl
end Go.V
end
section
namespace Go.V
open Go
mutual
theorem Aq : ∀ (x : VV), (normV x).tree = true → x.tree = true
 | .sl cs n _, h => by simpa [normV, VV.tree] using rS cs (by simpa [normV, VV.tree] using h)
 | .agg cs, h => by simpa [normV, VV.tree] using rS cs (by simpa [normV, VV.tree] using h)
 | .tup cs, h => by simpa [normV, VV.tree] using rS cs (by simpa [normV, VV.tree] using h)
 | .lit _, _ => rfl
 | .any, h => h
 | .tp _, h => h
 | .ref .., h => h
 | .ptr .., h => h
 | .mp _, h => h
 | .mt .., h => h
 | .it _, h => h
 | .yl _, h => h
 | .fn .., h => h
 | .ifc .., h => h
theorem rS : ∀ (xs : List VV), treeL (normL xs) = true → treeL xs = true
 | [], _ => rfl
 | x :: xs, h => by
  simp only [normL, treeL, Bool.and_eq_true] at h ⊢
  exact ⟨Aq x h.1, rS xs h.2⟩
end
def outV (H : Nat → Option VObj) (x : VV) : VV := normV (showV H 5 x)
section
variable {P : Program} {tm : Nat → VV} {H : Nat → Option VObj} {nx : Nat}
end
end Go.V
end
