/- Part of a proof. -/
import Derived.Test.YtmhlghgbfmcdaaaGreatDoorG7ai
set_option linter.all false
section
namespace Go.V
open Go
def ae {α : Type} (enc : α → List VV) : List α → List VV
 | [] => []
 | x :: xs => enc x ++ ae enc xs
theorem jm {α : Type} {enc : α → List VV} : ae enc [] = [] := rfl
theorem iX {α : Type} {enc : α → List VV} {x : α} {xs : List α} : ae enc (x :: xs) = enc x ++ ae enc xs := rfl
theorem qG {α : Type} {enc : α → List VV} : ∀ {xs ys : List α}, ae enc (xs ++ ys) = ae enc xs ++ ae enc ys
 | [], _ => rfl
 | x :: xs, ys => by simp [ae, qG (xs := xs)]
theorem dH {α : Type} {enc : α → List VV} {w : Nat} (h : ∀ x, (enc x).length = w) : ∀ xs : List α, (ae enc xs).length = xs.length * w
 | [] => by simp [ae]
 | x :: xs => by simp [ae, h, dH h xs, Nat.add_mul, Nat.add_comm]
theorem JG {α : Type} {enc : α → List VV} {w : Nat} (h : ∀ x, (enc x).length = w) {xs pre post : List α} (e : xs = pre ++ post) : (ae enc xs).drop (pre.length * w) = ae enc post := by
 subst e
 rw [qG, ← dH h pre, List.drop_left]
theorem KR : ∀ {xs ys : List VV}, treeL (xs ++ ys) = (treeL xs && treeL ys)
 | [], _ => rfl
 | x :: xs, ys => by simp [treeL, KR (xs := xs), Bool.and_assoc]
theorem AP {α : Type} {enc : α → List VV} (h : ∀ x, treeL (enc x) = true) : ∀ xs : List α, treeL (ae enc xs) = true
 | [] => rfl
 | x :: xs => by simp [ae, KR, h, AP h xs]
theorem rA : ∀ {xs ys : List VV}, normL (xs ++ ys) = normL xs ++ normL ys
 | [], _ => rfl
 | x :: xs, ys => by simp [normL, rA (xs := xs)]
theorem AO {α : Type} {enc : α → List VV} (h : ∀ x, normL (enc x) = enc x) : ∀ xs : List α, normL (ae enc xs) = ae enc xs
 | [] => rfl
 | x :: xs => by simp [ae, rA, h, AO h xs]
theorem KJ {α : Type} {enc : α → List VV} {g : VV → VV} (h : ∀ x, (enc x).map g = enc x) : ∀ xs : List α, (ae enc xs).map g = ae enc xs
 | [] => rfl
 | x :: xs => by simp [ae, h, KJ h xs]
theorem di {H : Nat → Option VObj} {cs : List VV} : tgt H (.tp cs) = some cs := rfl
theorem dh {H : Nat → Option VObj} {β off : Nat} : tgt H (.ptr β off) = (match H β with | some (.cells _ cs) => if off ≤ cs.length then some (cs.drop off) else none | _ => none) := rfl
end Go.V
end
section
namespace Go.V
open Go
mutual
theorem xN : ∀ (x : VV), (normV x).tree = true → x.tree = true
 | .sl cs n _, h => by simpa [normV, VV.tree] using xb cs (by simpa [normV, VV.tree] using h)
 | .agg cs, h => by simpa [normV, VV.tree] using xb cs (by simpa [normV, VV.tree] using h)
 | .tup cs, h => by simpa [normV, VV.tree] using xb cs (by simpa [normV, VV.tree] using h)
 | .lit _, _ => rfl
 | .any, h => h
 | .tp _, h => h
 | .ref .., h => h
 | .ptr .., h => h
 | .mp _, h => h
 | .mt .., h => h
 | .it _, h => h
 | .yl _, h => h
 | .fn .., h => h
 | .ifc .., h => h
theorem xb : ∀ (xs : List VV), treeL (normL xs) = true → treeL xs = true
 | [], _ => rfl
 | x :: xs, h => by
  simp only [normL, treeL, Bool.and_eq_true] at h ⊢
  exact ⟨xN x h.1, xb xs h.2⟩
end
def outV (H : Nat → Option VObj) (x : VV) : VV := normV (showV H 5 x)
section
variable {P : Program} {tm : Nat → VV} {H : Nat → Option VObj} {nx : Nat}
end
end Go.V
end
