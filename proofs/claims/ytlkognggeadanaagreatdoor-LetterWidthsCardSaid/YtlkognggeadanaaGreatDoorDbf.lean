/- Part of a proof. -/
import Derived.Test.YtlkognggeadanaaGreatDoorDbe
set_option linter.all false
section
set_option linter.defProp false
namespace Go.V
open Go
theorem Ql {α : Type} (a b : α) : cond true a b = a := rfl
theorem Qm {α : Type} (a b : α) : cond false a b = b := rfl
theorem ob_s {α β : Type} (a : α) (f : α → Option β) : Option.bind (some a) f = f a := rfl
theorem ob_n {α β : Type} (f : α → Option β) : Option.bind none f = none := rfl
def hs := (And.intro (And.intro (And.intro @Ql (And.intro @Qm @mY)) (And.intro @Qn (And.intro @Qo @Qq))) (And.intro (And.intro @ob_s (And.intro @ob_n Bool.not_true)) (And.intro Bool.not_false (And.intro @P2 @P3))))
def vz := (And.intro (And.intro (And.intro vs Zo) (And.intro @OZ @Pa)) (And.intro (And.intro @Pb @Pc) (And.intro @Ek cr)))
def uw := (And.intro @yX (And.intro @bw @bx))
def ua := (And.intro uw (And.intro @dp @dq))
theorem Qr {α : Prop} : (α → True) = True := propext ⟨fun _ => trivial, fun _ _ => trivial⟩
theorem Qs {α : Type} : (α → True) = True := propext ⟨fun _ => trivial, fun _ _ => trivial⟩
theorem Qt {α : Type} {l : List α} {i : Nat} {a : α} : (l.set i a).length = l.length := List.length_set
def nm := (And.intro (And.intro nmB @Qr) (And.intro @Qs @Qt))
theorem bz {P : Program} {G : Glob} {fn : Func} {t : Tmp} {b : Bool} {tm : Nat → VV} {H : Nat → Option VObj} {nx : Nat} {Rp : VV → (Nat → Option VObj) → Nat → Prop} (hr : fn.results = #[.tmp t]) (hx : tm t = .lit (.bool b)) :
  OpenPostD P G fn (RR (.tree (.lit (.bool b)))) Rp .ret ⟨tm, H, nx, []⟩ := by
 refine eh (x := .lit (.bool b)) (by simp [hr, resV, resL, aR, hx]) (eD rfl ?_)
 have : showV H 5 (VV.lit (Value.bool b)) = VV.lit (Value.bool b) := by simp [showV]
 unfold outV
 rw [this]
 exact IW
end Go.V
end
