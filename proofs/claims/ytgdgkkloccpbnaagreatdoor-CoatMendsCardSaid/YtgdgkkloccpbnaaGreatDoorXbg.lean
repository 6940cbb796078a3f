/- Part of a proof: a logic of values by content, lifted functions, what follows. -/
import Derived.Test.YtgdgkkloccpbnaaGreatDoorXbe
set_option linter.all false
section
set_option linter.unusedVariables false
set_option linter.defProp false
namespace Go.V
open Go
theorem zasr {α : Type} (a b : α) : cond true a b = a := rfl
theorem zatj {α : Type} (a b : α) : cond false a b = b := rfl
theorem ob_s {α β : Type} (a : α) (f : α → Option β) : Option.bind (some a) f = f a := rfl
theorem ob_n {α β : Type} (f : α → Option β) : Option.bind none f = none := rfl
def hs := (And.intro (And.intro (And.intro @zasr @zatj) (And.intro @zalv (And.intro @zafs @zaht))) (And.intro (And.intro @zace (And.intro @ob_s @ob_n)) (And.intro (And.intro Bool.not_true Bool.not_false) (And.intro @zasy @zass))))
def vz := (And.intro (And.intro vs vs2) (And.intro (And.intro @zahn (And.intro @zafd @zari)) (And.intro (And.intro @zane @zabl) cr)))
def uw := And.intro @zco (And.intro @zab @zaa)
def ua := And.intro uw (And.intro @zdd @zbk)
theorem zamo {α : Prop} : (α → True) = True := propext ⟨fun _ => trivial, fun _ _ => trivial⟩
theorem zalb {α : Type} : (α → True) = True := propext ⟨fun _ => trivial, fun _ _ => trivial⟩
theorem zapk {α : Type} {l : List α} {i : Nat} {a : α} : (l.set i a).length = l.length := List.length_set
def nm := And.intro nmB (And.intro @zamo (And.intro @zalb @zapk))
theorem zae {P : Program} {G : Glob} {fn : Func} {t : Tmp} {b : Bool} {tm : Nat → VV} {H : Nat → Option VObj} {nx : Nat} {Rp : VV → (Nat → Option VObj) → Nat → Prop} (hr : fn.results = #[.tmp t]) (hx : tm t = .lit (.bool b)) :
  OpenPostD P G fn (RR (.tree (.lit (.bool b)))) Rp .ret ⟨tm, H, nx, []⟩ := by
 refine zbt (x := .lit (.bool b)) (by simp [hr, resV, resL, resV1, hx]) (zcv rfl ?_)
 have : showV H 5 (VV.lit (Value.bool b)) = VV.lit (Value.bool b) := by simp [showV]
 unfold outV
 rw [this]
 exact zrw
end Go.V
end
