/- Part of a proof. -/
import Derived.Test.YtekhjalgmlflpaaGreatDoorYbc
set_option linter.all false
section
set_option linter.defProp false
namespace Go.V
open Go
theorem zaqd {α : Type} (a b : α) : cond true a b = a := rfl
theorem zaoj {α : Type} (a b : α) : cond false a b = b := rfl
theorem ob_s {α β : Type} (a : α) (f : α → Option β) : Option.bind (some a) f = f a := rfl
theorem ob_n {α β : Type} (f : α → Option β) : Option.bind none f = none := rfl
def hs := (And.intro (And.intro (And.intro @zaqd @zaoj) (And.intro @zaip (And.intro @zacj @zadq))) (And.intro (And.intro @zabf (And.intro @ob_s @ob_n)) (And.intro (And.intro Bool.not_true Bool.not_false) (And.intro @zapu @zaqg))))
def vz := (And.intro (And.intro vs vs2) (And.intro (And.intro @zadj (And.intro @zadt @zaqt)) (And.intro (And.intro @zaju @zym) cr)))
def uw := And.intro @zem (And.intro @zaa @zaq)
def ua := And.intro uw (And.intro @zzv @zsf)
theorem zail {α : Prop} : (α → True) = True := propext ⟨fun _ => trivial, fun _ _ => trivial⟩
theorem zahv {α : Type} : (α → True) = True := propext ⟨fun _ => trivial, fun _ _ => trivial⟩
theorem zalh {α : Type} {l : List α} {i : Nat} {a : α} : (l.set i a).length = l.length := List.length_set
def nm := And.intro nmB (And.intro @zail (And.intro @zahv @zalh))
theorem zaj {P : Program} {G : Glob} {fn : Func} {t : Tmp} {b : Bool} {tm : Nat → VV} {H : Nat → Option VObj} {nx : Nat} {Rp : VV → (Nat → Option VObj) → Nat → Prop} (hr : fn.results = #[.tmp t]) (hx : tm t = .lit (.bool b)) :
  OpenPostD P G fn (RR (.tree (.lit (.bool b)))) Rp .ret ⟨tm, H, nx, []⟩ := by
 refine zap (x := .lit (.bool b)) (by simp [hr, resV, resL, resV1, hx]) (zas rfl ?_)
 have : showV H 5 (VV.lit (Value.bool b)) = VV.lit (Value.bool b) := by simp [showV]
 unfold outV
 rw [this]
 exact zrq
end Go.V
end
