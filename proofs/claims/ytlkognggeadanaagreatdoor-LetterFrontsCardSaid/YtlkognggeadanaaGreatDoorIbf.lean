/- Part of a proof. -/
import Derived.Test.YtlkognggeadanaaGreatDoorIbe
set_option linter.all false
section
set_option linter.defProp false
namespace Go.V
open Go
theorem JC {α : Type} (a b : α) : cond true a b = a := rfl
theorem JD {α : Type} (a b : α) : cond false a b = b := rfl
theorem ob_s {α β : Type} (a : α) (f : α → Option β) : Option.bind (some a) f = f a := rfl
theorem ob_n {α β : Type} (f : α → Option β) : Option.bind none f = none := rfl
def hs := (And.intro (And.intro (And.intro @JC (And.intro @JD @og)) (And.intro @HP (And.intro @HQ @HO))) (And.intro (And.intro @ob_s (And.intro @ob_n Bool.not_true)) (And.intro Bool.not_false (And.intro @JE @JF))))
def vz := (And.intro (And.intro (And.intro vs UC) (And.intro @JG @JH)) (And.intro (And.intro @JI @JJ) (And.intro @yU cr)))
def uw := (And.intro @sK (And.intro @bl @bI))
def ua := (And.intro uw (And.intro @eW @eX))
theorem JK {α : Prop} : (α → True) = True := propext ⟨fun _ => trivial, fun _ _ => trivial⟩
theorem JL {α : Type} : (α → True) = True := propext ⟨fun _ => trivial, fun _ _ => trivial⟩
theorem JM {α : Type} {l : List α} {i : Nat} {a : α} : (l.set i a).length = l.length := List.length_set
def nm := (And.intro (And.intro nmB @JK) (And.intro @JL @JM))
theorem bz {P : Program} {G : Glob} {fn : Func} {t : Tmp} {b : Bool} {tm : Nat → VV} {H : Nat → Option VObj} {nx : Nat} {Rp : VV → (Nat → Option VObj) → Nat → Prop} (hr : fn.results = #[.tmp t]) (hx : tm t = .lit (.bool b)) :
  OpenPostD P G fn (RR (.tree (.lit (.bool b)))) Rp .ret ⟨tm, H, nx, []⟩ := by
 refine cG (x := .lit (.bool b)) (by simp [hr, resV, resL, aD, hx]) (cY rfl ?_)
 have : showV H 5 (VV.lit (Value.bool b)) = VV.lit (Value.bool b) := by simp [showV]
 unfold outV
 rw [this]
 exact EF
end Go.V
end
