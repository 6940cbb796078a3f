/- Part of a proof. -/
import Derived.Test.YtmhlghgbfmcdaaaGreatDoorD1bf
set_option linter.all false
section
set_option linter.defProp false
namespace Go.V
open Go
theorem Cg {α : Type} (a b : α) : cond true a b = a := rfl
theorem Ch {α : Type} (a b : α) : cond false a b = b := rfl
theorem ob_s {α β : Type} (a : α) (f : α → Option β) : Option.bind (some a) f = f a := rfl
theorem ob_n {α β : Type} (f : α → Option β) : Option.bind none f = none := rfl
def hs := (And.intro (And.intro (And.intro @Cg @Ch) (And.intro @zN (And.intro @zM @zO))) (And.intro (And.intro @KB (And.intro @ob_s @ob_n)) (And.intro (And.intro Bool.not_true Bool.not_false) (And.intro @zd @ze))))
def vz := (And.intro (And.intro vs KA) (And.intro (And.intro @yK (And.intro @yL @yM)) (And.intro (And.intro @yN @F5) cr)))
def uw := And.intro @sq (And.intro @bc @bf)
def ua := And.intro uw (And.intro @dY @dZ)
theorem Ci {α : Prop} : (α → True) = True := propext ⟨fun _ => trivial, fun _ _ => trivial⟩
theorem Cj {α : Type} : (α → True) = True := propext ⟨fun _ => trivial, fun _ _ => trivial⟩
theorem Ck {α : Type} {l : List α} {i : Nat} {a : α} : (l.set i a).length = l.length := List.length_set
def nm := And.intro nmB (And.intro @Ci (And.intro @Cj @Ck))
theorem bh {P : Program} {G : Glob} {fn : Func} {t : Tmp} {b : Bool} {tm : Nat → VV} {H : Nat → Option VObj} {nx : Nat} {Rp : VV → (Nat → Option VObj) → Nat → Prop} (hr : fn.results = #[.tmp t]) (hx : tm t = .lit (.bool b)) :
  OpenPostD P G fn (RR (.tree (.lit (.bool b)))) Rp .ret ⟨tm, H, nx, []⟩ := by
 refine bT (x := .lit (.bool b)) (by simp [hr, resV, resL, resV1, hx]) (fh rfl ?_)
 have : showV H 5 (VV.lit (Value.bool b)) = VV.lit (Value.bool b) := by simp [showV]
 unfold outV
 rw [this]
 exact Al
end Go.V
end
