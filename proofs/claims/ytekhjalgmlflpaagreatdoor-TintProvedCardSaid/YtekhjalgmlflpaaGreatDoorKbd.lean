/- Part of a proof. -/
import Derived.Test.YtekhjalgmlflpaaGreatDoorKbc
set_option linter.all false
section
set_option linter.defProp false
namespace Go.V
open Go
theorem PK {α : Type} (a b : α) : cond true a b = a := rfl
theorem PL {α : Type} (a b : α) : cond false a b = b := rfl
theorem ob_s {α β : Type} (a : α) (f : α → Option β) : Option.bind (some a) f = f a := rfl
theorem ob_n {α β : Type} (f : α → Option β) : Option.bind none f = none := rfl
def hs := (And.intro (And.intro (And.intro @PK @PL) (And.intro @ob_s @ob_n)) (And.intro (And.intro Bool.not_true Bool.not_false) (And.intro @Jm @Jn)))
def vz := (And.intro (And.intro (And.intro vs YP) (And.intro @IA @IB)) (And.intro (And.intro @IC @ID) (And.intro @Bd cr)))
def uw := (And.intro @mQ (And.intro @bG @fm))
def ua := (And.intro uw (And.intro @py @pz))
theorem PM {α : Prop} : (α → True) = True := propext ⟨fun _ => trivial, fun _ _ => trivial⟩
theorem PN {α : Type} : (α → True) = True := propext ⟨fun _ => trivial, fun _ _ => trivial⟩
theorem PO {α : Type} {l : List α} {i : Nat} {a : α} : (l.set i a).length = l.length := List.length_set
def nm := (And.intro (And.intro nmB @PM) (And.intro @PN @PO))
theorem bl {P : Program} {G : Glob} {fn : Func} {t : Tmp} {b : Bool} {tm : Nat → VV} {H : Nat → Option VObj} {nx : Nat} {Rp : VV → (Nat → Option VObj) → Nat → Prop} (hr : fn.results = #[.tmp t]) (hx : tm t = .lit (.bool b)) :
  OpenPostD P G fn (RR (.tree (.lit (.bool b)))) Rp .ret ⟨tm, H, nx, []⟩ := by
 refine bP (x := .lit (.bool b)) (by simp [hr, resV, resL, ar, hx]) (bZ rfl ?_)
 have : showV H 5 (VV.lit (Value.bool b)) = VV.lit (Value.bool b) := by simp [showV]
 unfold outV
 rw [this]
 exact Vz
end Go.V
end
