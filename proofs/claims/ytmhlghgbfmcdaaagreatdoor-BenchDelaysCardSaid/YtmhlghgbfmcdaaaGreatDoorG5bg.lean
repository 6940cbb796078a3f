/- Part of a proof. -/
import Derived.Test.YtmhlghgbfmcdaaaGreatDoorG5bf
set_option linter.all false
section
set_option linter.defProp false
namespace Go.V
open Go
theorem Lr {α : Type} (a b : α) : cond true a b = a := rfl
theorem Ls {α : Type} (a b : α) : cond false a b = b := rfl
theorem ob_s {α β : Type} (a : α) (f : α → Option β) : Option.bind (some a) f = f a := rfl
theorem ob_n {α β : Type} (f : α → Option β) : Option.bind none f = none := rfl
def hs := (And.intro (And.intro (And.intro @Lr (And.intro @Ls @G3)) (And.intro @G2 (And.intro @G4 @G1))) (And.intro (And.intro @ob_s (And.intro @ob_n Bool.not_true)) (And.intro Bool.not_false (And.intro @Lt @Lu))))
def vz := (And.intro (And.intro (And.intro vs Wi) (And.intro @Lv @Lw)) (And.intro (And.intro @Lx @Ly) (And.intro @Ah cr)))
def uw := (And.intro @qX (And.intro @bc @bm))
def ua := (And.intro uw (And.intro @gd @gf))
theorem Lz {α : Prop} : (α → True) = True := propext ⟨fun _ => trivial, fun _ _ => trivial⟩
theorem L0 {α : Type} : (α → True) = True := propext ⟨fun _ => trivial, fun _ _ => trivial⟩
theorem L1 {α : Type} {l : List α} {i : Nat} {a : α} : (l.set i a).length = l.length := List.length_set
def nm := (And.intro (And.intro nmB @Lz) (And.intro @L0 @L1))
theorem bz {P : Program} {G : Glob} {fn : Func} {t : Tmp} {b : Bool} {tm : Nat → VV} {H : Nat → Option VObj} {nx : Nat} {Rp : VV → (Nat → Option VObj) → Nat → Prop} (hr : fn.results = #[.tmp t]) (hx : tm t = .lit (.bool b)) :
  OpenPostD P G fn (RR (.tree (.lit (.bool b)))) Rp .ret ⟨tm, H, nx, []⟩ := by
 refine cz (x := .lit (.bool b)) (by simp [hr, resV, resL, aO, hx]) (gV rfl ?_)
 have : showV H 5 (VV.lit (Value.bool b)) = VV.lit (Value.bool b) := by simp [showV]
 unfold outV
 rw [this]
 exact IX
end Go.V
end
