/- Part of a proof. -/
import Derived.Test.YtclkbhbhohdgbaaGreatDoorE3af
set_option linter.all false
section
namespace Go.V
open Go
def ad {α : Type} (enc : α → List VV) : List α → List VV
 | [] => []
 | x :: xs => enc x ++ ad enc xs
variable {α : Type}
theorem eU {enc : α → List VV} : ad enc [] = [] := rfl
theorem fg {enc : α → List VV} {x : α} {xs : List α} : ad enc (x :: xs) = enc x ++ ad enc xs := rfl
theorem xY {α : Type} {enc : α → List VV} : ∀ {xs ys : List α}, ad enc (xs ++ ys) = ad enc xs ++ ad enc ys
 | [], _ => rfl
 | x :: xs, ys => by simp [ad, xY (xs := xs)]
theorem hU {α : Type} {enc : α → List VV} {w : Nat} (h : ∀ x, (enc x).length = w) : ∀ xs : List α, (ad enc xs).length = xs.length * w
 | [] => by simp [ad]
 | x :: xs => by simp [ad, h, hU h xs, Nat.add_mul, Nat.add_comm]
theorem NQ {enc : α → List VV} {w : Nat} (h : ∀ x, (enc x).length = w) {xs pre post : List α} (e : xs = pre ++ post) : (ad enc xs).drop (pre.length * w) = ad enc post := by
 subst e
 rw [xY, ← hU h pre, List.drop_left]
theorem Vj : ∀ {xs ys : List VV}, tl (xs ++ ys) = (tl xs && tl ys)
 | [], _ => rfl
 | x :: xs, ys => by simp [tl, Vj (xs := xs), Bool.and_assoc]
theorem NR {α : Type} {enc : α → List VV} (h : ∀ x, tl (enc x) = true) : ∀ xs : List α, tl (ad enc xs) = true
 | [] => rfl
 | x :: xs => by simp [ad, Vj, h, NR h xs]
theorem wo : ∀ {xs ys : List VV}, normL (xs ++ ys) = normL xs ++ normL ys
 | [], _ => rfl
 | x :: xs, ys => by simp [normL, wo (xs := xs)]
theorem NT {α : Type} {enc : α → List VV} (h : ∀ x, normL (enc x) = enc x) : ∀ xs : List α, normL (ad enc xs) = ad enc xs
 | [] => rfl
 | x :: xs => by simp [ad, wo, h, NT h xs]
theorem Vk {α : Type} {enc : α → List VV} {g : VV → VV} (h : ∀ x, (enc x).map g = enc x) : ∀ xs : List α, (ad enc xs).map g = ad enc xs
 | [] => rfl
 | x :: xs => by simp [ad, h, Vk h xs]
variable {H : Nat → Option Vo}
theorem cN {cs : List VV} : tgt H (.tp cs) = some cs := rfl
theorem cM {β off : Nat} : tgt H (.ptr β off) = (match H β with | some (.cells _ cs) => if off ≤ cs.length then some (cs.drop off) else none | _ => none) := rfl
end Go.V
end
section
namespace Go.V
open Go
mutual
theorem Lf : ∀ (x : VV), (normV x).tree = true → x.tree = true
 | .sl cs n _, h => by simpa [normV, VV.tree] using Er cs (by simpa [normV, VV.tree] using h)
 | .agg cs, h => by simpa [normV, VV.tree] using Er cs (by simpa [normV, VV.tree] using h)
 | .tup cs, h => by simpa [normV, VV.tree] using Er cs (by simpa [normV, VV.tree] using h)
 | .lit _, _ => rfl
 | .any, h => h
 | .tp _, h => h
 | .ref .., h => h
 | .ptr .., h => h
 | .mp _, h => h
 | .mt .., h => h
 | .it _, h => h
 | .yl _, h => h
 | .fn .., h => h
 | .ifc .., h => h
theorem Er : ∀ (xs : List VV), tl (normL xs) = true → tl xs = true
 | [], _ => rfl
 | x :: xs, h => by
  simp only [normL, tl, Bool.and_eq_true] at h ⊢
  exact ⟨Lf x h.1, Er xs h.2⟩
end
def outV (H : Nat → Option Vo) (x : VV) : VV := normV (showV H 5 x)
section
variable {P : Program} {tm : Nat → VV} {H : Nat → Option Vo} {nx : Nat}
end
end Go.V
end
