/- Part of a proof. -/
import Derived.Test.YtlkognggeadanaaGreatDoorGbe
set_option linter.all false
section
set_option linter.defProp false
namespace Go.V
open Go
theorem NV {α : Type} (a b : α) : cond true a b = a := rfl
theorem NW {α : Type} (a b : α) : cond false a b = b := rfl
theorem ob_s {α β : Type} (a : α) (f : α → Option β) : Option.bind (some a) f = f a := rfl
theorem ob_n {α β : Type} (f : α → Option β) : Option.bind none f = none := rfl
def hs := (And.intro (And.intro (And.intro @NV (And.intro @NW @oH)) (And.intro @Eh (And.intro @Ei @Eg))) (And.intro (And.intro @ob_s (And.intro @ob_n Bool.not_true)) (And.intro Bool.not_false (And.intro @NX @NY))))
def vz := (And.intro (And.intro (And.intro vs WT) (And.intro @NZ @Oa)) (And.intro (And.intro @Ob @Oc) (And.intro @BQ cr)))
def uw := (And.intro @sZ (And.intro @bt @bY))
def ua := (And.intro uw (And.intro @fG @fH))
theorem Od {α : Prop} : (α → True) = True := propext ⟨fun _ => trivial, fun _ _ => trivial⟩
theorem Oe {α : Type} : (α → True) = True := propext ⟨fun _ => trivial, fun _ _ => trivial⟩
theorem Of {α : Type} {l : List α} {i : Nat} {a : α} : (l.set i a).length = l.length := List.length_set
def nm := (And.intro (And.intro nmB @Od) (And.intro @Oe @Of))
theorem bk {P : Program} {G : Glob} {fn : Func} {t : Tmp} {b : Bool} {tm : Nat → VV} {H : Nat → Option VObj} {nx : Nat} {Rp : VV → (Nat → Option VObj) → Nat → Prop} (hr : fn.results = #[.tmp t]) (hx : tm t = .lit (.bool b)) :
  OpenPostD P G fn (RR (.tree (.lit (.bool b)))) Rp .ret ⟨tm, H, nx, []⟩ := by
 refine cX (x := .lit (.bool b)) (by simp [hr, resV, resL, aG, hx]) (dB rfl ?_)
 have : showV H 5 (VV.lit (Value.bool b)) = VV.lit (Value.bool b) := by simp [showV]
 unfold outV
 rw [this]
 exact Ko
end Go.V
end
