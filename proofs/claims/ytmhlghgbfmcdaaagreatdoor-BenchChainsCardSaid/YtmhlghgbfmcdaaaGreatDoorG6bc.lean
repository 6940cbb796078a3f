/- Part of a proof. -/
import Derived.Test.YtmhlghgbfmcdaaaGreatDoorG6ai
set_option linter.all false
section
namespace Go.V
open Go
def ae {α : Type} (enc : α → List VV) : List α → List VV
 | [] => []
 | x :: xs => enc x ++ ae enc xs
theorem gi {α : Type} {enc : α → List VV} : ae enc [] = [] := rfl
theorem ga {α : Type} {enc : α → List VV} {x : α} {xs : List α} : ae enc (x :: xs) = enc x ++ ae enc xs := rfl
theorem lD {α : Type} {enc : α → List VV} : ∀ {xs ys : List α}, ae enc (xs ++ ys) = ae enc xs ++ ae enc ys
 | [], _ => rfl
 | x :: xs, ys => by simp [ae, lD (xs := xs)]
theorem ej {α : Type} {enc : α → List VV} {w : Nat} (h : ∀ x, (enc x).length = w) : ∀ xs : List α, (ae enc xs).length = xs.length * w
 | [] => by simp [ae]
 | x :: xs => by simp [ae, h, ej h xs, Nat.add_mul, Nat.add_comm]
theorem zL {α : Type} {enc : α → List VV} {w : Nat} (h : ∀ x, (enc x).length = w) {xs pre post : List α} (e : xs = pre ++ post) : (ae enc xs).drop (pre.length * w) = ae enc post := by
 subst e
 rw [lD, ← ej h pre, List.drop_left]
theorem N3 : ∀ {xs ys : List VV}, treeL (xs ++ ys) = (treeL xs && treeL ys)
 | [], _ => rfl
 | x :: xs, ys => by simp [treeL, N3 (xs := xs), Bool.and_assoc]
theorem zX {α : Type} {enc : α → List VV} (h : ∀ x, treeL (enc x) = true) : ∀ xs : List α, treeL (ae enc xs) = true
 | [] => rfl
 | x :: xs => by simp [ae, N3, h, zX h xs]
theorem rV : ∀ {xs ys : List VV}, normL (xs ++ ys) = normL xs ++ normL ys
 | [], _ => rfl
 | x :: xs, ys => by simp [normL, rV (xs := xs)]
theorem zW {α : Type} {enc : α → List VV} (h : ∀ x, normL (enc x) = enc x) : ∀ xs : List α, normL (ae enc xs) = ae enc xs
 | [] => rfl
 | x :: xs => by simp [ae, rV, h, zW h xs]
theorem Ni {α : Type} {enc : α → List VV} {g : VV → VV} (h : ∀ x, (enc x).map g = enc x) : ∀ xs : List α, (ae enc xs).map g = ae enc xs
 | [] => rfl
 | x :: xs => by simp [ae, h, Ni h xs]
theorem bY {H : Nat → Option VObj} {cs : List VV} : tgt H (.tp cs) = some cs := rfl
theorem bX {H : Nat → Option VObj} {β off : Nat} : tgt H (.ptr β off) = (match H β with | some (.cells _ cs) => if off ≤ cs.length then some (cs.drop off) else none | _ => none) := rfl
end Go.V
end
section
namespace Go.V
open Go
mutual
theorem B8 : ∀ (x : VV), (normV x).tree = true → x.tree = true
 | .sl cs n _, h => by simpa [normV, VV.tree] using yC cs (by simpa [normV, VV.tree] using h)
 | .agg cs, h => by simpa [normV, VV.tree] using yC cs (by simpa [normV, VV.tree] using h)
 | .tup cs, h => by simpa [normV, VV.tree] using yC cs (by simpa [normV, VV.tree] using h)
 | .lit _, _ => rfl
 | .any, h => h
 | .tp _, h => h
 | .ref .., h => h
 | .ptr .., h => h
 | .mp _, h => h
 | .mt .., h => h
 | .it _, h => h
 | .yl _, h => h
 | .fn .., h => h
 | .ifc .., h => h
theorem yC : ∀ (xs : List VV), treeL (normL xs) = true → treeL xs = true
 | [], _ => rfl
 | x :: xs, h => by
  simp only [normL, treeL, Bool.and_eq_true] at h ⊢
  exact ⟨B8 x h.1, yC xs h.2⟩
end
def outV (H : Nat → Option VObj) (x : VV) : VV := normV (showV H 5 x)
section
variable {P : Program} {tm : Nat → VV} {H : Nat → Option VObj} {nx : Nat}
end
end Go.V
end
