/- Part of a proof. -/
import Derived.Test.YtclkbhbhohdgbaaGreatDoorE3bc
set_option linter.all false
section
set_option linter.defProp false
namespace Go.V
open Go
theorem QD {α : Type} (a b : α) : cond true a b = a := rfl
theorem QE {α : Type} (a b : α) : cond false a b = b := rfl
theorem ob_s {α β : Type} (a : α) (f : α → Option β) : Option.bind (some a) f = f a := rfl
theorem ob_n {α β : Type} (f : α → Option β) : Option.bind none f = none := rfl
def hs := (qZk (qZk (qZk @QD (qZk @QE @lR)) (qZk @Jl (qZk @QF @QG))) (qZk (qZk @ob_s (qZk @ob_n Bool.not_true)) (qZk Bool.not_false (qZk @L7 @L8))))
def vz := (qZk (qZk (qZk vs Zy) (qZk @KV @KW)) (qZk (qZk @KX @KY) (qZk @Bo cr)))
def uw := (qZk @kM (qZk @bk @bF))
def ua := (qZk uw (qZk @eW @eX))
theorem QH {α : Prop} : (α → True) = True := propext ⟨fun _ => trivial, fun _ _ => trivial⟩
theorem QI {α : Type} : (α → True) = True := propext ⟨fun _ => trivial, fun _ _ => trivial⟩
theorem QJ {α : Type} {l : List α} {i : Nat} {a : α} : (l.set i a).length = l.length := List.length_set
def nm := (qZk (qZk nmB @QH) (qZk @QI @QJ))
theorem bR {P : Program} {G : Gb} {fn : Func} {t : Tmp} {b : Bool} {tm : Nat → VV} {H : Nat → Option Vo} {nx : Nat} {Rp : VV → (Nat → Option Vo) → Nat → Prop} (hr : fn.results = #[.tmp t]) (hx : tm t = .lit (.bool b)) :
  OpenPostD P G fn (RR (.tree (.lit (.bool b)))) Rp .ret ⟨tm, H, nx, []⟩ := by
 refine cB (x := .lit (.bool b)) (by simp [hr, resV, resL, aE, hx]) (cO rfl ?_)
 have : showV H 5 (VV.lit (Value.bool b)) = VV.lit (Value.bool b) := by simp [showV]
 unfold outV
 rw [this]
 exact Q3
end Go.V
end
