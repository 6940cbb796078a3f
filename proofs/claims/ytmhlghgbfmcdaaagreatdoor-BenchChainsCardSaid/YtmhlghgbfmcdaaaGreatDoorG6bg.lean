/- Part of a proof. -/
import Derived.Test.YtmhlghgbfmcdaaaGreatDoorG6bf
set_option linter.all false
section
set_option linter.defProp false
namespace Go.V
open Go
theorem EM {α : Type} (a b : α) : cond true a b = a := rfl
theorem EN {α : Type} (a b : α) : cond false a b = b := rfl
theorem ob_s {α β : Type} (a : α) (f : α → Option β) : Option.bind (some a) f = f a := rfl
theorem ob_n {α β : Type} (f : α → Option β) : Option.bind none f = none := rfl
def hs := (And.intro (And.intro (And.intro @EM (And.intro @EN @zJ)) (And.intro @zI (And.intro @zK @zH))) (And.intro (And.intro @ob_s (And.intro @ob_n Bool.not_true)) (And.intro Bool.not_false (And.intro @BY @BZ))))
def vz := (And.intro (And.intro (And.intro vs Pc) (And.intro @By @Bz)) (And.intro (And.intro @B1 @B2) (And.intro @t6 cr)))
def uw := (And.intro @nk (And.intro @ba @bj))
def ua := (And.intro uw (And.intro @gx @gy))
theorem EO {α : Prop} : (α → True) = True := propext ⟨fun _ => trivial, fun _ _ => trivial⟩
theorem EP {α : Type} : (α → True) = True := propext ⟨fun _ => trivial, fun _ _ => trivial⟩
theorem ES {α : Type} {l : List α} {i : Nat} {a : α} : (l.set i a).length = l.length := List.length_set
def nm := (And.intro (And.intro nmB @EO) (And.intro @EP @ES))
theorem bw {P : Program} {G : Glob} {fn : Func} {t : Tmp} {b : Bool} {tm : Nat → VV} {H : Nat → Option VObj} {nx : Nat} {Rp : VV → (Nat → Option VObj) → Nat → Prop} (hr : fn.results = #[.tmp t]) (hx : tm t = .lit (.bool b)) :
  OpenPostD P G fn (RR (.tree (.lit (.bool b)))) Rp .ret ⟨tm, H, nx, []⟩ := by
 refine ct (x := .lit (.bool b)) (by simp [hr, resV, resL, aO, hx]) (fB rfl ?_)
 have : showV H 5 (VV.lit (Value.bool b)) = VV.lit (Value.bool b) := by simp [showV]
 unfold outV
 rw [this]
 exact ET
end Go.V
end
