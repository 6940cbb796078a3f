/- Part of a proof. -/
import Derived.Test.YtmhlghgbfmcdaaaGreatDoorB1bf
set_option linter.all false
section
set_option linter.defProp false
namespace Go.V
open Go
theorem wI {α : Type} (a b : α) : cond true a b = a := rfl
theorem wJ {α : Type} (a b : α) : cond false a b = b := rfl
theorem ob_s {α β : Type} (a : α) (f : α → Option β) : Option.bind (some a) f = f a := rfl
theorem ob_n {α β : Type} (f : α → Option β) : Option.bind none f = none := rfl
def hs := (And.intro (And.intro (And.intro @wI @wJ) (And.intro @wK (And.intro @wL @wM))) (And.intro (And.intro @wN (And.intro @ob_s @ob_n)) (And.intro (And.intro Bool.not_true Bool.not_false) (And.intro @wO @wP))))
def vz := (And.intro (And.intro vs Lx) (And.intro (And.intro @wQ (And.intro @wR @wS)) (And.intro (And.intro @wT @HG) cr)))
def uw := And.intro @vd (And.intro @bf @bg)
def ua := And.intro uw (And.intro @fj @fk)
theorem wU {α : Prop} : (α → True) = True := propext ⟨fun _ => trivial, fun _ _ => trivial⟩
theorem wV {α : Type} : (α → True) = True := propext ⟨fun _ => trivial, fun _ _ => trivial⟩
theorem wW {α : Type} {l : List α} {i : Nat} {a : α} : (l.set i a).length = l.length := List.length_set
def nm := And.intro nmB (And.intro @wU (And.intro @wV @wW))
theorem aU {P : Program} {G : Glob} {fn : Func} {t : Tmp} {b : Bool} {tm : Nat → VV} {H : Nat → Option VObj} {nx : Nat} {Rp : VV → (Nat → Option VObj) → Nat → Prop} (hr : fn.results = #[.tmp t]) (hx : tm t = .lit (.bool b)) :
  OpenPostD P G fn (RR (.tree (.lit (.bool b)))) Rp .ret ⟨tm, H, nx, []⟩ := by
 refine dU (x := .lit (.bool b)) (by simp [hr, resV, resL, resV1, hx]) (jk rfl ?_)
 have : showV H 5 (VV.lit (Value.bool b)) = VV.lit (Value.bool b) := by simp [showV]
 unfold outV
 rw [this]
 exact wX
end Go.V
end
