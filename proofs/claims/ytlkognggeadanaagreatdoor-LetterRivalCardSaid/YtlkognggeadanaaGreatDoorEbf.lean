/- Part of a proof. -/
import Derived.Test.YtlkognggeadanaaGreatDoorEbe
set_option linter.all false
section
set_option linter.defProp false
namespace Go.V
open Go
theorem P0 {α : Type} (a b : α) : cond true a b = a := rfl
theorem P1 {α : Type} (a b : α) : cond false a b = b := rfl
theorem ob_s {α β : Type} (a : α) (f : α → Option β) : Option.bind (some a) f = f a := rfl
theorem ob_n {α β : Type} (f : α → Option β) : Option.bind none f = none := rfl
def hs := (And.intro (And.intro (And.intro @P0 (And.intro @P1 @pn)) (And.intro @Ol (And.intro @Om @Ok))) (And.intro (And.intro @ob_s (And.intro @ob_n Bool.not_true)) (And.intro Bool.not_false (And.intro @Gy @Gz))))
def vz := (And.intro (And.intro (And.intro vs UP) (And.intro @FI @FJ)) (And.intro (And.intro @FK @FM) (And.intro @yH cr)))
def uw := (And.intro @xk (And.intro @br @bW))
def ua := (And.intro uw (And.intro @fT @fU))
theorem P2 {α : Prop} : (α → True) = True := propext ⟨fun _ => trivial, fun _ _ => trivial⟩
theorem P3 {α : Type} : (α → True) = True := propext ⟨fun _ => trivial, fun _ _ => trivial⟩
theorem P4 {α : Type} {l : List α} {i : Nat} {a : α} : (l.set i a).length = l.length := List.length_set
def nm := (And.intro (And.intro nmB @P2) (And.intro @P3 @P4))
theorem bc {P : Program} {G : Glob} {fn : Func} {t : Tmp} {b : Bool} {tm : Nat → VV} {H : Nat → Option VObj} {nx : Nat} {Rp : VV → (Nat → Option VObj) → Nat → Prop} (hr : fn.results = #[.tmp t]) (hx : tm t = .lit (.bool b)) :
  OpenPostD P G fn (RR (.tree (.lit (.bool b)))) Rp .ret ⟨tm, H, nx, []⟩ := by
 refine d4 (x := .lit (.bool b)) (by simp [hr, resV, resL, aJ, hx]) (dW rfl ?_)
 have : showV H 5 (VV.lit (Value.bool b)) = VV.lit (Value.bool b) := by simp [showV]
 unfold outV
 rw [this]
 exact IU
end Go.V
end
