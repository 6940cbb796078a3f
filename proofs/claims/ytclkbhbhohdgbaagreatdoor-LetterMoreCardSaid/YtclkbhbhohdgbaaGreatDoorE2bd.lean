/- Part of a proof. -/
import Derived.Test.YtclkbhbhohdgbaaGreatDoorE2bc
set_option linter.all false
section
set_option linter.defProp false
namespace Go.V
open Go
theorem Ep {α : Type} (a b : α) : cond true a b = a := rfl
theorem Er {α : Type} (a b : α) : cond false a b = b := rfl
theorem ob_s {α β : Type} (a : α) (f : α → Option β) : Option.bind (some a) f = f a := rfl
theorem ob_n {α β : Type} (f : α → Option β) : Option.bind none f = none := rfl
def hs := (qZj (qZj (qZj @Ep (qZj @Er @my)) (qZj @Es (qZj @Et @Eu))) (qZj (qZj @ob_s (qZj @ob_n Bool.not_true)) (qZj Bool.not_false (qZj @Ev @Ew))))
def vz := (qZj (qZj (qZj vs Vd) (qZj @Ex @Ey)) (qZj (qZj @Ez @E0) (qZj @yd cr)))
def uw := (qZj @fL (qZj @aQ @bp))
def ua := (qZj uw (qZj @cW @cX))
theorem E1 {α : Prop} : (α → True) = True := propext ⟨fun _ => trivial, fun _ _ => trivial⟩
theorem E2 {α : Type} : (α → True) = True := propext ⟨fun _ => trivial, fun _ _ => trivial⟩
theorem E3 {α : Type} {l : List α} {i : Nat} {a : α} : (l.set i a).length = l.length := List.length_set
def nm := (qZj (qZj nmB @E1) (qZj @E2 @E3))
theorem bB {P : Program} {G : Gb} {fn : Func} {t : Tmp} {b : Bool} {tm : Nat → VV} {H : Nat → Option Vo} {nx : Nat} {Rp : VV → (Nat → Option Vo) → Nat → Prop} (hr : fn.results = #[.tmp t]) (hx : tm t = .lit (.bool b)) :
  OpenPostD P G fn (RR (.tree (.lit (.bool b)))) Rp .ret ⟨tm, H, nx, []⟩ := by
 refine bO (x := .lit (.bool b)) (by simp [hr, resV, resL, aw, hx]) (cm rfl ?_)
 have : showV H 5 (VV.lit (Value.bool b)) = VV.lit (Value.bool b) := by simp [showV]
 unfold outV
 rw [this]
 exact E4
end Go.V
end
