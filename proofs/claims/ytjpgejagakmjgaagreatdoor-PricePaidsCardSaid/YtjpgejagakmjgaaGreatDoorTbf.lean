/- Part of a proof. -/
import Derived.Test.YtjpgejagakmjgaaGreatDoorTbe
set_option linter.all false
section
set_option linter.defProp false
namespace Go.V
open Go
theorem zart {α : Type} (a b : α) : cond true a b = a := rfl
theorem zaut {α : Type} (a b : α) : cond false a b = b := rfl
theorem ob_s {α β : Type} (a : α) (f : α → Option β) : Option.bind (some a) f = f a := rfl
theorem ob_n {α β : Type} (f : α → Option β) : Option.bind none f = none := rfl
def hs := (And.intro (And.intro (And.intro @zart @zaut) (And.intro @zkj (And.intro @zafw @zagq))) (And.intro (And.intro @zabg (And.intro @ob_s @ob_n)) (And.intro (And.intro Bool.not_true Bool.not_false) (And.intro @zarx @zasi))))
def vz := (And.intro (And.intro vs vs2) (And.intro (And.intro @zagd (And.intro @zadq @zatu)) (And.intro (And.intro @zapu @zabk) cr)))
def uw := And.intro @zwp (And.intro @zab @zaa)
def ua := And.intro uw (And.intro @zcn @zbl)
theorem zaik {α : Prop} : (α → True) = True := propext ⟨fun _ => trivial, fun _ _ => trivial⟩
theorem zajq {α : Type} : (α → True) = True := propext ⟨fun _ => trivial, fun _ _ => trivial⟩
theorem zank {α : Type} {l : List α} {i : Nat} {a : α} : (l.set i a).length = l.length := List.length_set
def nm := And.intro nmB (And.intro @zaik (And.intro @zajq @zank))
theorem zai {P : Program} {G : Glob} {fn : Func} {t : Tmp} {b : Bool} {tm : Nat → VV} {H : Nat → Option VObj} {nx : Nat} {Rp : VV → (Nat → Option VObj) → Nat → Prop} (hr : fn.results = #[.tmp t]) (hx : tm t = .lit (.bool b)) :
  OpenPostD P G fn (RR (.tree (.lit (.bool b)))) Rp .ret ⟨tm, H, nx, []⟩ := by
 refine zau (x := .lit (.bool b)) (by simp [hr, resV, resL, resV1, hx]) (zbc rfl ?_)
 have : showV H 5 (VV.lit (Value.bool b)) = VV.lit (Value.bool b) := by simp [showV]
 unfold outV
 rw [this]
 exact zng
end Go.V
end
