/- Part of a proof. -/
import Derived.Test.YtmhlghgbfmcdaaaGreatDoorS1bf
set_option linter.all false
section
set_option linter.defProp false
namespace Go.V
open Go
theorem zK {α : Type} (a b : α) : cond true a b = a := rfl
theorem zL {α : Type} (a b : α) : cond false a b = b := rfl
theorem ob_s {α β : Type} (a : α) (f : α → Option β) : Option.bind (some a) f = f a := rfl
theorem ob_n {α β : Type} (f : α → Option β) : Option.bind none f = none := rfl
def hs := (And.intro (And.intro (And.intro @zK @zL) (And.intro @zM (And.intro @zN @zO))) (And.intro (And.intro @zP (And.intro @ob_s @ob_n)) (And.intro (And.intro Bool.not_true Bool.not_false) (And.intro @wm @wo))))
def vz := (And.intro (And.intro vs Kw) (And.intro (And.intro @vM (And.intro @vN @vO)) (And.intro (And.intro @vP @oN) cr)))
def uw := And.intro @sC (And.intro @aX @aY)
def ua := And.intro uw (And.intro @fq @fu)
theorem zQ {α : Prop} : (α → True) = True := propext ⟨fun _ => trivial, fun _ _ => trivial⟩
theorem zR {α : Type} : (α → True) = True := propext ⟨fun _ => trivial, fun _ _ => trivial⟩
theorem zS {α : Type} {l : List α} {i : Nat} {a : α} : (l.set i a).length = l.length := List.length_set
def nm := And.intro nmB (And.intro @zQ (And.intro @zR @zS))
theorem aZ {P : Program} {G : Glob} {fn : Func} {t : Tmp} {b : Bool} {tm : Nat → VV} {H : Nat → Option VObj} {nx : Nat} {Rp : VV → (Nat → Option VObj) → Nat → Prop} (hr : fn.results = #[.tmp t]) (hx : tm t = .lit (.bool b)) :
  OpenPostD P G fn (RR (.tree (.lit (.bool b)))) Rp .ret ⟨tm, H, nx, []⟩ := by
 refine bR (x := .lit (.bool b)) (by simp [hr, resV, resL, resV1, hx]) (eR rfl ?_)
 have : showV H 5 (VV.lit (Value.bool b)) = VV.lit (Value.bool b) := by simp [showV]
 unfold outV
 rw [this]
 exact y8
end Go.V
end
