/- Part of a proof. -/
import Derived.Test.YtmhlghgbfmcdaaaGreatDoorD1ai
set_option linter.all false
section
namespace Go.V
open Go
def aa {α : Type} (enc : α → List VV) : List α → List VV
 | [] => []
 | x :: xs => enc x ++ aa enc xs
theorem eN {α : Type} {enc : α → List VV} : aa enc [] = [] := rfl
theorem eJ {α : Type} {enc : α → List VV} {x : α} {xs : List α} : aa enc (x :: xs) = enc x ++ aa enc xs := rfl
theorem zW {α : Type} {enc : α → List VV} : ∀ {xs ys : List α}, aa enc (xs ++ ys) = aa enc xs ++ aa enc ys
 | [], _ => rfl
 | x :: xs, ys => by simp [aa, zW (xs := xs)]
theorem iz {α : Type} {enc : α → List VV} {w : Nat} (h : ∀ x, (enc x).length = w) : ∀ xs : List α, (aa enc xs).length = xs.length * w
 | [] => by simp [aa]
 | x :: xs => by simp [aa, h, iz h xs, Nat.add_mul, Nat.add_comm]
theorem KC {α : Type} {enc : α → List VV} {w : Nat} (h : ∀ x, (enc x).length = w) {xs pre post : List α} (e : xs = pre ++ post) : (aa enc xs).drop (pre.length * w) = aa enc post := by
 subst e
 rw [zW, ← iz h pre, List.drop_left]
theorem HM : ∀ {xs ys : List VV}, treeL (xs ++ ys) = (treeL xs && treeL ys)
 | [], _ => rfl
 | x :: xs, ys => by simp [treeL, HM (xs := xs), Bool.and_assoc]
theorem zZ {α : Type} {enc : α → List VV} (h : ∀ x, treeL (enc x) = true) : ∀ xs : List α, treeL (aa enc xs) = true
 | [] => rfl
 | x :: xs => by simp [aa, HM, h, zZ h xs]
theorem nM : ∀ {xs ys : List VV}, normL (xs ++ ys) = normL xs ++ normL ys
 | [], _ => rfl
 | x :: xs, ys => by simp [normL, nM (xs := xs)]
theorem zY {α : Type} {enc : α → List VV} (h : ∀ x, normL (enc x) = enc x) : ∀ xs : List α, normL (aa enc xs) = aa enc xs
 | [] => rfl
 | x :: xs => by simp [aa, nM, h, zY h xs]
theorem Hw {α : Type} {enc : α → List VV} {g : VV → VV} (h : ∀ x, (enc x).map g = enc x) : ∀ xs : List α, (aa enc xs).map g = aa enc xs
 | [] => rfl
 | x :: xs => by simp [aa, h, Hw h xs]
theorem bV {H : Nat → Option VObj} {cs : List VV} : tgt H (.tp cs) = some cs := rfl
theorem bU {H : Nat → Option VObj} {β off : Nat} : tgt H (.ptr β off) = (match H β with | some (.cells _ cs) => if off ≤ cs.length then some (cs.drop off) else none | _ => none) := rfl
end Go.V
end
section
namespace Go.V
open Go
mutual
theorem yP : ∀ (x : VV), (normV x).tree = true → x.tree = true
 | .sl cs n _, h => by simpa [normV, VV.tree] using tG cs (by simpa [normV, VV.tree] using h)
 | .agg cs, h => by simpa [normV, VV.tree] using tG cs (by simpa [normV, VV.tree] using h)
 | .tup cs, h => by simpa [normV, VV.tree] using tG cs (by simpa [normV, VV.tree] using h)
 | .lit _, _ => rfl
 | .any, h => h
 | .tp _, h => h
 | .ref .., h => h
 | .ptr .., h => h
 | .mp _, h => h
 | .mt .., h => h
 | .it _, h => h
 | .yl _, h => h
 | .fn .., h => h
 | .ifc .., h => h
theorem tG : ∀ (xs : List VV), treeL (normL xs) = true → treeL xs = true
 | [], _ => rfl
 | x :: xs, h => by
  simp only [normL, treeL, Bool.and_eq_true] at h ⊢
  exact ⟨yP x h.1, tG xs h.2⟩
end
def outV (H : Nat → Option VObj) (x : VV) : VV := normV (showV H 5 x)
section
variable {P : Program} {tm : Nat → VV} {H : Nat → Option VObj} {nx : Nat}
end
end Go.V
end
