/- Part of a proof. -/
import Derived.Test.YtmhlghgbfmcdaaaGreatDoorL1bf
set_option linter.all false
section
set_option linter.defProp false
namespace Go.V
open Go
theorem yQ {α : Type} (a b : α) : cond true a b = a := rfl
theorem yR {α : Type} (a b : α) : cond false a b = b := rfl
theorem ob_s {α β : Type} (a : α) (f : α → Option β) : Option.bind (some a) f = f a := rfl
theorem ob_n {α β : Type} (f : α → Option β) : Option.bind none f = none := rfl
def hs := (And.intro (And.intro (And.intro @yQ @yR) (And.intro @yz (And.intro @yy @y6))) (And.intro (And.intro @yx (And.intro @ob_s @ob_n)) (And.intro (And.intro Bool.not_true Bool.not_false) (And.intro @yS @yT))))
def vz := (And.intro (And.intro vs MX) (And.intro (And.intro @yU (And.intro @yV @yW)) (And.intro (And.intro @yX @te) cr)))
def uw := And.intro @oc (And.intro @aS @aT)
def ua := And.intro uw (And.intro @cY @cZ)
theorem yY {α : Prop} : (α → True) = True := propext ⟨fun _ => trivial, fun _ _ => trivial⟩
theorem yZ {α : Type} : (α → True) = True := propext ⟨fun _ => trivial, fun _ _ => trivial⟩
theorem za {α : Type} {l : List α} {i : Nat} {a : α} : (l.set i a).length = l.length := List.length_set
def nm := And.intro nmB (And.intro @yY (And.intro @yZ @za))
theorem bw {P : Program} {G : Glob} {fn : Func} {t : Tmp} {b : Bool} {tm : Nat → VV} {H : Nat → Option VObj} {nx : Nat} {Rp : VV → (Nat → Option VObj) → Nat → Prop} (hr : fn.results = #[.tmp t]) (hx : tm t = .lit (.bool b)) :
  OpenPostD P G fn (RR (.tree (.lit (.bool b)))) Rp .ret ⟨tm, H, nx, []⟩ := by
 refine cL (x := .lit (.bool b)) (by simp [hr, resV, resL, resV1, hx]) (gw rfl ?_)
 have : showV H 5 (VV.lit (Value.bool b)) = VV.lit (Value.bool b) := by simp [showV]
 unfold outV
 rw [this]
 exact zb
end Go.V
end
