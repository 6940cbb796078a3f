/- Part of a proof. -/
import Derived.Test.YtlkognggeadanaaGreatDoorWai
set_option linter.all false
section
namespace Go.V
open Go
def ad {α : Type} (enc : α → List VV) : List α → List VV
 | [] => []
 | x :: xs => enc x ++ ad enc xs
theorem gw {α : Type} {enc : α → List VV} : ad enc [] = [] := rfl
theorem gb {α : Type} {enc : α → List VV} {x : α} {xs : List α} : ad enc (x :: xs) = enc x ++ ad enc xs := rfl
theorem wa {α : Type} {enc : α → List VV} : ∀ {xs ys : List α}, ad enc (xs ++ ys) = ad enc xs ++ ad enc ys
 | [], _ => rfl
 | x :: xs, ys => by simp [ad, wa (xs := xs)]
theorem nV {α : Type} {enc : α → List VV} {w : Nat} (h : ∀ x, (enc x).length = w) : ∀ xs : List α, (ad enc xs).length = xs.length * w
 | [] => by simp [ad]
 | x :: xs => by simp [ad, h, nV h xs, Nat.add_mul, Nat.add_comm]
theorem Jr {α : Type} {enc : α → List VV} {w : Nat} (h : ∀ x, (enc x).length = w) {xs pre post : List α} (e : xs = pre ++ post) : (ad enc xs).drop (pre.length * w) = ad enc post := by
 subst e
 rw [wa, ← nV h pre, List.drop_left]
theorem Vs : ∀ {xs ys : List VV}, treeL (xs ++ ys) = (treeL xs && treeL ys)
 | [], _ => rfl
 | x :: xs, ys => by simp [treeL, Vs (xs := xs), Bool.and_assoc]
theorem Kb {α : Type} {enc : α → List VV} (h : ∀ x, treeL (enc x) = true) : ∀ xs : List α, treeL (ad enc xs) = true
 | [] => rfl
 | x :: xs => by simp [ad, Vs, h, Kb h xs]
theorem tJ : ∀ {xs ys : List VV}, normL (xs ++ ys) = normL xs ++ normL ys
 | [], _ => rfl
 | x :: xs, ys => by simp [normL, tJ (xs := xs)]
theorem Ka {α : Type} {enc : α → List VV} (h : ∀ x, normL (enc x) = enc x) : ∀ xs : List α, normL (ad enc xs) = ad enc xs
 | [] => rfl
 | x :: xs => by simp [ad, tJ, h, Ka h xs]
theorem Vt {α : Type} {enc : α → List VV} {g : VV → VV} (h : ∀ x, (enc x).map g = enc x) : ∀ xs : List α, (ad enc xs).map g = ad enc xs
 | [] => rfl
 | x :: xs => by simp [ad, h, Vt h xs]
theorem dQ {H : Nat → Option VObj} {cs : List VV} : tgt H (.tp cs) = some cs := rfl
theorem dP {H : Nat → Option VObj} {β off : Nat} : tgt H (.ptr β off) = (match H β with | some (.cells _ cs) => if off ≤ cs.length then some (cs.drop off) else none | _ => none) := rfl
end Go.V
end
section
namespace Go.V
open Go
mutual
theorem HR : ∀ (x : VV), (normV x).tree = true → x.tree = true
 | .sl cs n _, h => by simpa [normV, VV.tree] using FJ cs (by simpa [normV, VV.tree] using h)
 | .agg cs, h => by simpa [normV, VV.tree] using FJ cs (by simpa [normV, VV.tree] using h)
 | .tup cs, h => by simpa [normV, VV.tree] using FJ cs (by simpa [normV, VV.tree] using h)
 | .lit _, _ => rfl
 | .any, h => h
 | .tp _, h => h
 | .ref .., h => h
 | .ptr .., h => h
 | .mp _, h => h
 | .mt .., h => h
 | .it _, h => h
 | .yl _, h => h
 | .fn .., h => h
 | .ifc .., h => h
theorem FJ : ∀ (xs : List VV), treeL (normL xs) = true → treeL xs = true
 | [], _ => rfl
 | x :: xs, h => by
  simp only [normL, treeL, Bool.and_eq_true] at h ⊢
  exact ⟨HR x h.1, FJ xs h.2⟩
end
def outV (H : Nat → Option VObj) (x : VV) : VV := normV (showV H 5 x)
section
variable {P : Program} {tm : Nat → VV} {H : Nat → Option VObj} {nx : Nat}
end
end Go.V
end
