/- Part of a proof. -/
import Derived.Test.YtmhlghgbfmcdaaaGreatDoorG7bf
set_option linter.all false
section
set_option linter.defProp false
namespace Go.V
open Go
theorem Eo {α : Type} (a b : α) : cond true a b = a := rfl
theorem Ep {α : Type} (a b : α) : cond false a b = b := rfl
theorem ob_s {α β : Type} (a : α) (f : α → Option β) : Option.bind (some a) f = f a := rfl
theorem ob_n {α β : Type} (f : α → Option β) : Option.bind none f = none := rfl
def hs := (And.intro (And.intro (And.intro @Eo (And.intro @Ep @AF)) (And.intro @AE (And.intro @AG @NJ))) (And.intro (And.intro @ob_s (And.intro @ob_n Bool.not_true)) (And.intro Bool.not_false (And.intro @yh @yi))))
def vz := (And.intro (And.intro (And.intro vs MB) (And.intro @xH @xI)) (And.intro (And.intro @xJ @xK) (And.intro @rL cr)))
def uw := (And.intro @qO (And.intro @aU @bg))
def ua := (And.intro uw (And.intro @iu @iv))
theorem Er {α : Prop} : (α → True) = True := propext ⟨fun _ => trivial, fun _ _ => trivial⟩
theorem Es {α : Type} : (α → True) = True := propext ⟨fun _ => trivial, fun _ _ => trivial⟩
theorem Et {α : Type} {l : List α} {i : Nat} {a : α} : (l.set i a).length = l.length := List.length_set
def nm := (And.intro (And.intro nmB @Er) (And.intro @Es @Et))
theorem bd {P : Program} {G : Glob} {fn : Func} {t : Tmp} {b : Bool} {tm : Nat → VV} {H : Nat → Option VObj} {nx : Nat} {Rp : VV → (Nat → Option VObj) → Nat → Prop} (hr : fn.results = #[.tmp t]) (hx : tm t = .lit (.bool b)) :
  OpenPostD P G fn (RR (.tree (.lit (.bool b)))) Rp .ret ⟨tm, H, nx, []⟩ := by
 refine cH (x := .lit (.bool b)) (by simp [hr, resV, resL, resV1, hx]) (ka rfl ?_)
 have : showV H 5 (VV.lit (Value.bool b)) = VV.lit (Value.bool b) := by simp [showV]
 unfold outV
 rw [this]
 exact CS
end Go.V
end
