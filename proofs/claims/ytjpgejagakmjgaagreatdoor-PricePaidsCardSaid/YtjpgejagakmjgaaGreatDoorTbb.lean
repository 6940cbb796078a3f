/- Part of a proof. -/
import Derived.Test.YtjpgejagakmjgaaGreatDoorTai
set_option linter.all false
section
namespace Go.V
open Go
def cellsL {α : Type} (enc : α → List VV) : List α → List VV
 | [] => []
 | x :: xs => enc x ++ cellsL enc xs
theorem zad {α : Type} {enc : α → List VV} : cellsL enc [] = [] := rfl
theorem zac {α : Type} {enc : α → List VV} {x : α} {xs : List α} : cellsL enc (x :: xs) = enc x ++ cellsL enc xs := rfl
theorem zgl {α : Type} {enc : α → List VV} : ∀ {xs ys : List α}, cellsL enc (xs ++ ys) = cellsL enc xs ++ cellsL enc ys
 | [], _ => rfl
 | x :: xs, ys => by simp [cellsL, zgl (xs := xs)]
theorem zca {α : Type} {enc : α → List VV} {w : Nat} (h : ∀ x, (enc x).length = w) : ∀ xs : List α, (cellsL enc xs).length = xs.length * w
 | [] => by simp [cellsL]
 | x :: xs => by simp [cellsL, h, zca h xs, Nat.add_mul, Nat.add_comm]
theorem zoc {α : Type} {enc : α → List VV} {w : Nat} (h : ∀ x, (enc x).length = w) {xs pre post : List α} (e : xs = pre ++ post) : (cellsL enc xs).drop (pre.length * w) = cellsL enc post := by
 subst e
 rw [zgl, ← zca h pre, List.drop_left]
theorem zmj : ∀ {xs ys : List VV}, treeL (xs ++ ys) = (treeL xs && treeL ys)
 | [], _ => rfl
 | x :: xs, ys => by simp [treeL, zmj (xs := xs), Bool.and_assoc]
theorem znh {α : Type} {enc : α → List VV} (h : ∀ x, treeL (enc x) = true) : ∀ xs : List α, treeL (cellsL enc xs) = true
 | [] => rfl
 | x :: xs => by simp [cellsL, zmj, h, znh h xs]
theorem zem : ∀ {xs ys : List VV}, normL (xs ++ ys) = normL xs ++ normL ys
 | [], _ => rfl
 | x :: xs, ys => by simp [normL, zem (xs := xs)]
theorem zmk {α : Type} {enc : α → List VV} (h : ∀ x, normL (enc x) = enc x) : ∀ xs : List α, normL (cellsL enc xs) = cellsL enc xs
 | [] => rfl
 | x :: xs => by simp [cellsL, zem, h, zmk h xs]
theorem zqw {α : Type} {enc : α → List VV} {g : VV → VV} (h : ∀ x, (enc x).map g = enc x) : ∀ xs : List α, (cellsL enc xs).map g = cellsL enc xs
 | [] => rfl
 | x :: xs => by simp [cellsL, h, zqw h xs]
theorem zbu {H : Nat → Option VObj} {cs : List VV} : tgt H (.tp cs) = some cs := rfl
theorem zat {H : Nat → Option VObj} {β off : Nat} : tgt H (.ptr β off) = (match H β with | some (.cells _ cs) => if off ≤ cs.length then some (cs.drop off) else none | _ => none) := rfl
end Go.V
end
section
namespace Go.V
open Go
mutual
theorem zpj : ∀ (x : VV), (normV x).tree = true → x.tree = true
 | .sl cs n _, h => by simpa [normV, VV.tree] using zjp cs (by simpa [normV, VV.tree] using h)
 | .agg cs, h => by simpa [normV, VV.tree] using zjp cs (by simpa [normV, VV.tree] using h)
 | .tup cs, h => by simpa [normV, VV.tree] using zjp cs (by simpa [normV, VV.tree] using h)
 | .lit _, _ => rfl
 | .any, h => h
 | .tp _, h => h
 | .ref .., h => h
 | .ptr .., h => h
 | .mp _, h => h
 | .mt .., h => h
 | .it _, h => h
 | .yl _, h => h
 | .fn .., h => h
 | .ifc .., h => h
theorem zjp : ∀ (xs : List VV), treeL (normL xs) = true → treeL xs = true
 | [], _ => rfl
 | x :: xs, h => by
  simp only [normL, treeL, Bool.and_eq_true] at h ⊢
  exact ⟨zpj x h.1, zjp xs h.2⟩
end
def outV (H : Nat → Option VObj) (x : VV) : VV := normV (showV H 5 x)
section
variable {P : Program} {tm : Nat → VV} {H : Nat → Option VObj} {nx : Nat}
end
end Go.V
end
