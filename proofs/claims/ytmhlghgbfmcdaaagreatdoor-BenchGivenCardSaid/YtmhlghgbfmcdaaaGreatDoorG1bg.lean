/- Part of a proof. -/
import Derived.Test.YtmhlghgbfmcdaaaGreatDoorG1bf
set_option linter.all false
section
set_option linter.defProp false
namespace Go.V
open Go
theorem EN {α : Type} (a b : α) : cond true a b = a := rfl
theorem EO {α : Type} (a b : α) : cond false a b = b := rfl
theorem ob_s {α β : Type} (a : α) (f : α → Option β) : Option.bind (some a) f = f a := rfl
theorem ob_n {α β : Type} (f : α → Option β) : Option.bind none f = none := rfl
def hs := (And.intro (And.intro (And.intro @EN @EO) (And.intro @DA (And.intro @D9 @DB))) (And.intro (And.intro @OY (And.intro @ob_s @ob_n)) (And.intro (And.intro Bool.not_true Bool.not_false) (And.intro @Av @Aw))))
def vz := (And.intro (And.intro vs Nn) (And.intro (And.intro @zU (And.intro @zV @zW)) (And.intro (And.intro @zX @rF) cr)))
def uw := And.intro @pj (And.intro @aX @b2)
def ua := And.intro uw (And.intro @gJ @gL)
theorem EP {α : Prop} : (α → True) = True := propext ⟨fun _ => trivial, fun _ _ => trivial⟩
theorem ES {α : Type} : (α → True) = True := propext ⟨fun _ => trivial, fun _ _ => trivial⟩
theorem ET {α : Type} {l : List α} {i : Nat} {a : α} : (l.set i a).length = l.length := List.length_set
def nm := And.intro nmB (And.intro @EP (And.intro @ES @ET))
theorem bn {P : Program} {G : Glob} {fn : Func} {t : Tmp} {b : Bool} {tm : Nat → VV} {H : Nat → Option VObj} {nx : Nat} {Rp : VV → (Nat → Option VObj) → Nat → Prop} (hr : fn.results = #[.tmp t]) (hx : tm t = .lit (.bool b)) :
  OpenPostD P G fn (RR (.tree (.lit (.bool b)))) Rp .ret ⟨tm, H, nx, []⟩ := by
 refine bS (x := .lit (.bool b)) (by simp [hr, resV, resL, resV1, hx]) (eT rfl ?_)
 have : showV H 5 (VV.lit (Value.bool b)) = VV.lit (Value.bool b) := by simp [showV]
 unfold outV
 rw [this]
 exact yF
end Go.V
end
