/- Part of a proof. -/
import Derived.Test.YtmhlghgbfmcdaaaGreatDoorG4bf
set_option linter.all false
section
set_option linter.defProp false
namespace Go.V
open Go
theorem HX {α : Type} (a b : α) : cond true a b = a := rfl
theorem HY {α : Type} (a b : α) : cond false a b = b := rfl
theorem ob_s {α β : Type} (a : α) (f : α → Option β) : Option.bind (some a) f = f a := rfl
theorem ob_n {α β : Type} (f : α → Option β) : Option.bind none f = none := rfl
def hs := (And.intro (And.intro (And.intro @HX @HY) (And.intro @HZ (And.intro @Ia @Ib))) (And.intro (And.intro @Ic (And.intro @ob_s @ob_n)) (And.intro (And.intro Bool.not_true Bool.not_false) (And.intro @Fj @Fk))))
def vz := (And.intro (And.intro vs Rt) (And.intro (And.intro @EF (And.intro @EG @EH)) (And.intro (And.intro @EI @vg) cr)))
def uw := And.intro @jj (And.intro @aF @ba)
def ua := And.intro uw (And.intro @fF @fG)
theorem Ie {α : Prop} : (α → True) = True := propext ⟨fun _ => trivial, fun _ _ => trivial⟩
theorem Ig {α : Type} : (α → True) = True := propext ⟨fun _ => trivial, fun _ _ => trivial⟩
theorem Ih {α : Type} {l : List α} {i : Nat} {a : α} : (l.set i a).length = l.length := List.length_set
def nm := And.intro nmB (And.intro @Ie (And.intro @Ig @Ih))
theorem bx {P : Program} {G : Glob} {fn : Func} {t : Tmp} {b : Bool} {tm : Nat → VV} {H : Nat → Option VObj} {nx : Nat} {Rp : VV → (Nat → Option VObj) → Nat → Prop} (hr : fn.results = #[.tmp t]) (hx : tm t = .lit (.bool b)) :
  OpenPostD P G fn (RR (.tree (.lit (.bool b)))) Rp .ret ⟨tm, H, nx, []⟩ := by
 refine c9 (x := .lit (.bool b)) (by simp [hr, resV, resL, resV1, hx]) (gY rfl ?_)
 have : showV H 5 (VV.lit (Value.bool b)) = VV.lit (Value.bool b) := by simp [showV]
 unfold outV
 rw [this]
 exact Ex
end Go.V
end
