/- Part of a proof. -/
import Derived.Test.YtlkognggeadanaaGreatDoorWbe
set_option linter.all false
section
set_option linter.defProp false
namespace Go.V
open Go
theorem Hj {α : Type} (a b : α) : cond true a b = a := rfl
theorem Hk {α : Type} (a b : α) : cond false a b = b := rfl
theorem ob_s {α β : Type} (a : α) (f : α → Option β) : Option.bind (some a) f = f a := rfl
theorem ob_n {α β : Type} (f : α → Option β) : Option.bind none f = none := rfl
def hs := (And.intro (And.intro (And.intro @Hj @Hk) (And.intro @qu (And.intro @Hl @Hm))) (And.intro (And.intro @Ho (And.intro @ob_s @ob_n)) (And.intro (And.intro Bool.not_true Bool.not_false) (And.intro @Hp @Hq))))
def vz := (And.intro (And.intro vs XJ) (And.intro (And.intro @Hr (And.intro @Hs @Ht)) (And.intro (And.intro @Hu @Ai) cr)))
def uw := And.intro @yC (And.intro @cq @ct)
def ua := And.intro uw (And.intro @fV @fW)
theorem Hv {α : Prop} : (α → True) = True := propext ⟨fun _ => trivial, fun _ _ => trivial⟩
theorem Hw {α : Type} : (α → True) = True := propext ⟨fun _ => trivial, fun _ _ => trivial⟩
theorem Hx {α : Type} {l : List α} {i : Nat} {a : α} : (l.set i a).length = l.length := List.length_set
def nm := And.intro nmB (And.intro @Hv (And.intro @Hw @Hx))
theorem bd {P : Program} {G : Glob} {fn : Func} {t : Tmp} {b : Bool} {tm : Nat → VV} {H : Nat → Option VObj} {nx : Nat} {Rp : VV → (Nat → Option VObj) → Nat → Prop} (hr : fn.results = #[.tmp t]) (hx : tm t = .lit (.bool b)) :
  OpenPostD P G fn (RR (.tree (.lit (.bool b)))) Rp .ret ⟨tm, H, nx, []⟩ := by
 refine dX (x := .lit (.bool b)) (by simp [hr, resV, resL, aV, hx]) (dV rfl ?_)
 have : showV H 5 (VV.lit (Value.bool b)) = VV.lit (Value.bool b) := by simp [showV]
 unfold outV
 rw [this]
 exact Hy
end Go.V
end
