/- Part of a proof. -/
import Derived.Test.YtmhlghgbfmcdaaaGreatDoorN1bf
set_option linter.all false
section
set_option linter.defProp false
namespace Go.V
open Go
theorem D4 {α : Type} (a b : α) : cond true a b = a := rfl
theorem D5 {α : Type} (a b : α) : cond false a b = b := rfl
theorem ob_s {α β : Type} (a : α) (f : α → Option β) : Option.bind (some a) f = f a := rfl
theorem ob_n {α β : Type} (f : α → Option β) : Option.bind none f = none := rfl
def hs := (And.intro (And.intro (And.intro @D4 @D5) (And.intro @wc (And.intro @wb @we))) (And.intro (And.intro @JE (And.intro @ob_s @ob_n)) (And.intro (And.intro Bool.not_true Bool.not_false) (And.intro @AK @AL))))
def vz := (And.intro (And.intro vs LI) (And.intro (And.intro @Ak (And.intro @Al @Am)) (And.intro (And.intro @An @F8) cr)))
def uw := And.intro @jI (And.intro @aP @b9)
def ua := And.intro uw (And.intro @p9 @pA)
theorem D6 {α : Prop} : (α → True) = True := propext ⟨fun _ => trivial, fun _ _ => trivial⟩
theorem D7 {α : Type} : (α → True) = True := propext ⟨fun _ => trivial, fun _ _ => trivial⟩
theorem D8 {α : Type} {l : List α} {i : Nat} {a : α} : (l.set i a).length = l.length := List.length_set
def nm := And.intro nmB (And.intro @D6 (And.intro @D7 @D8))
theorem aS {P : Program} {G : Glob} {fn : Func} {t : Tmp} {b : Bool} {tm : Nat → VV} {H : Nat → Option VObj} {nx : Nat} {Rp : VV → (Nat → Option VObj) → Nat → Prop} (hr : fn.results = #[.tmp t]) (hx : tm t = .lit (.bool b)) :
  OpenPostD P G fn (RR (.tree (.lit (.bool b)))) Rp .ret ⟨tm, H, nx, []⟩ := by
 refine bG (x := .lit (.bool b)) (by simp [hr, resV, resL, resV1, hx]) (dM rfl ?_)
 have : showV H 5 (VV.lit (Value.bool b)) = VV.lit (Value.bool b) := by simp [showV]
 unfold outV
 rw [this]
 exact yq
end Go.V
end
