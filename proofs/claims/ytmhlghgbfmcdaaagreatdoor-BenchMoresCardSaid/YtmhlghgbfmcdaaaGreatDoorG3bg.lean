/- Part of a proof. -/
import Derived.Test.YtmhlghgbfmcdaaaGreatDoorG3bf
set_option linter.all false
section
set_option linter.defProp false
namespace Go.V
open Go
theorem Cj {α : Type} (a b : α) : cond true a b = a := rfl
theorem Ck {α : Type} (a b : α) : cond false a b = b := rfl
theorem ob_s {α β : Type} (a : α) (f : α → Option β) : Option.bind (some a) f = f a := rfl
theorem ob_n {α β : Type} (f : α → Option β) : Option.bind none f = none := rfl
def hs := (And.intro (And.intro (And.intro @Cj @Ck) (And.intro @Cl (And.intro @Cm @Cn))) (And.intro (And.intro @NZ (And.intro @ob_s @ob_n)) (And.intro (And.intro Bool.not_true Bool.not_false) (And.intro @Co @Cp))))
def vz := (And.intro (And.intro vs Oa) (And.intro (And.intro @Cq (And.intro @Cr @Cs)) (And.intro (And.intro @Ct @tH) cr)))
def uw := And.intro @jM (And.intro @aK @bk)
def ua := And.intro uw (And.intro @fE @fF)
theorem Cu {α : Prop} : (α → True) = True := propext ⟨fun _ => trivial, fun _ _ => trivial⟩
theorem Cv {α : Type} : (α → True) = True := propext ⟨fun _ => trivial, fun _ _ => trivial⟩
theorem Cw {α : Type} {l : List α} {i : Nat} {a : α} : (l.set i a).length = l.length := List.length_set
def nm := And.intro nmB (And.intro @Cu (And.intro @Cv @Cw))
theorem br {P : Program} {G : Glob} {fn : Func} {t : Tmp} {b : Bool} {tm : Nat → VV} {H : Nat → Option VObj} {nx : Nat} {Rp : VV → (Nat → Option VObj) → Nat → Prop} (hr : fn.results = #[.tmp t]) (hx : tm t = .lit (.bool b)) :
  OpenPostD P G fn (RR (.tree (.lit (.bool b)))) Rp .ret ⟨tm, H, nx, []⟩ := by
 refine cn (x := .lit (.bool b)) (by simp [hr, resV, resL, aR, hx]) (eJ rfl ?_)
 have : showV H 5 (VV.lit (Value.bool b)) = VV.lit (Value.bool b) := by simp [showV]
 unfold outV
 rw [this]
 exact Af
end Go.V
end
