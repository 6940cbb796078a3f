/- Part of a proof: a logic of values by content, lifted functions, what follows. -/
import Derived.Test.YtekhjalgmlflpaaGreatDoorQbb
set_option linter.all false
section
set_option linter.unusedVariables false
set_option linter.defProp false
namespace Go.V
open Go
theorem zavc {α : Type} (a b : α) : cond true a b = a := rfl
theorem zauk {α : Type} (a b : α) : cond false a b = b := rfl
theorem ob_s {α β : Type} (a : α) (f : α → Option β) : Option.bind (some a) f = f a := rfl
theorem ob_n {α β : Type} (f : α → Option β) : Option.bind none f = none := rfl
def hs := (And.intro (And.intro (And.intro @zavc @zauk) (And.intro @zakg (And.intro @zaga @zagn))) (And.intro (And.intro @zacz (And.intro @ob_s @ob_n)) (And.intro (And.intro Bool.not_true Bool.not_false) (And.intro @zauf @zasy))))
def vz := (And.intro (And.intro vs vs2) (And.intro (And.intro @zahk (And.intro @zaff @zave)) (And.intro (And.intro @zaqx @zafd) cr)))
def uw := And.intro @zfj (And.intro @zaa @zao)
def ua := And.intro uw (And.intro @zto @zmm)
theorem zalr {α : Prop} : (α → True) = True := propext ⟨fun _ => trivial, fun _ _ => trivial⟩
theorem zajw {α : Type} : (α → True) = True := propext ⟨fun _ => trivial, fun _ _ => trivial⟩
theorem zamx {α : Type} {l : List α} {i : Nat} {a : α} : (l.set i a).length = l.length := List.length_set
def nm := And.intro nmB (And.intro @zalr (And.intro @zajw @zamx))
theorem zab {P : Program} {G : Glob} {fn : Func} {t : Tmp} {b : Bool} {tm : Nat → VV} {H : Nat → Option VObj} {nx : Nat} {Rp : VV → (Nat → Option VObj) → Nat → Prop} (hr : fn.results = #[.tmp t]) (hx : tm t = .lit (.bool b)) :
  OpenPostD P G fn (RR (.tree (.lit (.bool b)))) Rp .ret ⟨tm, H, nx, []⟩ := by
 refine zaq (x := .lit (.bool b)) (by simp [hr, resV, resL, resV1, hx]) (zau rfl ?_)
 have : showV H 5 (VV.lit (Value.bool b)) = VV.lit (Value.bool b) := by simp [showV]
 unfold outV
 rw [this]
 exact zts
end Go.V
end
