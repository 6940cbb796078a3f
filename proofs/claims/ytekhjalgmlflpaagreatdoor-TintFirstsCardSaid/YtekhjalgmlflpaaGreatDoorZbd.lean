/- Part of a proof. -/
import Derived.Test.YtekhjalgmlflpaaGreatDoorZbc
set_option linter.all false
section
set_option linter.defProp false
namespace Go.V
open Go
theorem Qx {α : Type} (a b : α) : cond true a b = a := rfl
theorem Qy {α : Type} (a b : α) : cond false a b = b := rfl
theorem ob_s {α β : Type} (a : α) (f : α → Option β) : Option.bind (some a) f = f a := rfl
theorem ob_n {α β : Type} (f : α → Option β) : Option.bind none f = none := rfl
def hs := (And.intro (And.intro (And.intro @Qx @Qy) (And.intro @ob_s @ob_n)) (And.intro (And.intro Bool.not_true Bool.not_false) (And.intro @MS @MT)))
def vz := (And.intro (And.intro (And.intro vs XX) (And.intro @My @Mz)) (And.intro (And.intro @M0 @M1) (And.intro @AY cr)))
def uw := (And.intro @nh (And.intro @bp @cO))
def ua := (And.intro uw (And.intro @rl @rn))
theorem Qz {α : Prop} : (α → True) = True := propext ⟨fun _ => trivial, fun _ _ => trivial⟩
theorem Q0 {α : Type} : (α → True) = True := propext ⟨fun _ => trivial, fun _ _ => trivial⟩
theorem Q1 {α : Type} {l : List α} {i : Nat} {a : α} : (l.set i a).length = l.length := List.length_set
def nm := (And.intro (And.intro nmB @Qz) (And.intro @Q0 @Q1))
theorem bB {P : Program} {G : Glob} {fn : Func} {t : Tmp} {b : Bool} {tm : Nat → VV} {H : Nat → Option VObj} {nx : Nat} {Rp : VV → (Nat → Option VObj) → Nat → Prop} (hr : fn.results = #[.tmp t]) (hx : tm t = .lit (.bool b)) :
  OpenPostD P G fn (RR (.tree (.lit (.bool b)))) Rp .ret ⟨tm, H, nx, []⟩ := by
 refine bG (x := .lit (.bool b)) (by simp [hr, resV, resL, av, hx]) (bO rfl ?_)
 have : showV H 5 (VV.lit (Value.bool b)) = VV.lit (Value.bool b) := by simp [showV]
 unfold outV
 rw [this]
 exact RT
end Go.V
end
