/- Part of a proof. -/
import Derived.Test.YtmhlghgbfmcdaaaGreatDoorL1ai
set_option linter.all false
section
namespace Go.V
open Go
def aa {α : Type} (enc : α → List VV) : List α → List VV
 | [] => []
 | x :: xs => enc x ++ aa enc xs
theorem db {α : Type} {enc : α → List VV} : aa enc [] = [] := rfl
theorem cP {α : Type} {enc : α → List VV} {x : α} {xs : List α} : aa enc (x :: xs) = enc x ++ aa enc xs := rfl
theorem rT {α : Type} {enc : α → List VV} : ∀ {xs ys : List α}, aa enc (xs ++ ys) = aa enc xs ++ aa enc ys
 | [], _ => rfl
 | x :: xs, ys => by simp [aa, rT (xs := xs)]
theorem gV {α : Type} {enc : α → List VV} {w : Nat} (h : ∀ x, (enc x).length = w) : ∀ xs : List α, (aa enc xs).length = xs.length * w
 | [] => by simp [aa]
 | x :: xs => by simp [aa, h, gV h xs, Nat.add_mul, Nat.add_comm]
theorem y7 {α : Type} {enc : α → List VV} {w : Nat} (h : ∀ x, (enc x).length = w) {xs pre post : List α} (e : xs = pre ++ post) : (aa enc xs).drop (pre.length * w) = aa enc post := by
 subst e
 rw [rT, ← gV h pre, List.drop_left]
theorem JB : ∀ {xs ys : List VV}, treeL (xs ++ ys) = (treeL xs && treeL ys)
 | [], _ => rfl
 | x :: xs, ys => by simp [treeL, JB (xs := xs), Bool.and_assoc]
theorem yJ {α : Type} {enc : α → List VV} (h : ∀ x, treeL (enc x) = true) : ∀ xs : List α, treeL (aa enc xs) = true
 | [] => rfl
 | x :: xs => by simp [aa, JB, h, yJ h xs]
theorem rW : ∀ {xs ys : List VV}, normL (xs ++ ys) = normL xs ++ normL ys
 | [], _ => rfl
 | x :: xs, ys => by simp [normL, rW (xs := xs)]
theorem yI {α : Type} {enc : α → List VV} (h : ∀ x, normL (enc x) = enc x) : ∀ xs : List α, normL (aa enc xs) = aa enc xs
 | [] => rfl
 | x :: xs => by simp [aa, rW, h, yI h xs]
theorem JC {α : Type} {enc : α → List VV} {g : VV → VV} (h : ∀ x, (enc x).map g = enc x) : ∀ xs : List α, (aa enc xs).map g = aa enc xs
 | [] => rfl
 | x :: xs => by simp [aa, h, JC h xs]
theorem cE {H : Nat → Option VObj} {cs : List VV} : tgt H (.tp cs) = some cs := rfl
theorem cF {H : Nat → Option VObj} {β off : Nat} : tgt H (.ptr β off) = (match H β with | some (.cells _ cs) => if off ≤ cs.length then some (cs.drop off) else none | _ => none) := rfl
end Go.V
end
section
namespace Go.V
open Go
mutual
theorem yP : ∀ (x : VV), (normV x).tree = true → x.tree = true
 | .sl cs n _, h => by simpa [normV, VV.tree] using wR cs (by simpa [normV, VV.tree] using h)
 | .agg cs, h => by simpa [normV, VV.tree] using wR cs (by simpa [normV, VV.tree] using h)
 | .tup cs, h => by simpa [normV, VV.tree] using wR cs (by simpa [normV, VV.tree] using h)
 | .lit _, _ => rfl
 | .any, h => h
 | .tp _, h => h
 | .ref .., h => h
 | .ptr .., h => h
 | .mp _, h => h
 | .mt .., h => h
 | .it _, h => h
 | .yl _, h => h
 | .fn .., h => h
 | .ifc .., h => h
theorem wR : ∀ (xs : List VV), treeL (normL xs) = true → treeL xs = true
 | [], _ => rfl
 | x :: xs, h => by
  simp only [normL, treeL, Bool.and_eq_true] at h ⊢
  exact ⟨yP x h.1, wR xs h.2⟩
end
def outV (H : Nat → Option VObj) (x : VV) : VV := normV (showV H 5 x)
section
variable {P : Program} {tm : Nat → VV} {H : Nat → Option VObj} {nx : Nat}
end
end Go.V
end
