/- Part of a proof: a logic of values by content, lifted functions, what follows. -/
import Derived.Test.YtgdgkkloccpbnaaGreatDoorZbe
set_option linter.all false
section
set_option linter.unusedVariables false
set_option linter.defProp false
namespace Go.V
open Go
theorem cond_t {α : Type} (a b : α) : cond true a b = a := rfl
theorem cond_f {α : Type} (a b : α) : cond false a b = b := rfl
theorem ob_s {α β : Type} (a : α) (f : α → Option β) : Option.bind (some a) f = f a := rfl
theorem ob_n {α β : Type} (f : α → Option β) : Option.bind none f = none := rfl
def hs := (And.intro (And.intro (And.intro @cond_t @cond_f) (And.intro @lbind_go (And.intro @lbind_ret @lbind_brk))) (And.intro (And.intro @lbind_none (And.intro @ob_s @ob_n)) (And.intro (And.intro Bool.not_true Bool.not_false) (And.intro @sumB_l @sumB_r))))
def vz := (And.intro (And.intro vs vs2) (And.intro (And.intro @cwp_label (And.intro @ng_normal @ng_ret)) (And.intro (And.intro @ng_exit @ng_panic) cr)))
def uw := And.intro @upd_apply (And.intro @updH_apply @without_apply)
def ua := And.intro uw (And.intro @mV_app @mV_app0)
theorem imp_true {α : Prop} : (α → True) = True := propext ⟨fun _ => trivial, fun _ _ => trivial⟩
theorem all_true {α : Type} : (α → True) = True := propext ⟨fun _ => trivial, fun _ _ => trivial⟩
theorem len_set {α : Type} {l : List α} {i : Nat} {a : α} : (l.set i a).length = l.length := List.length_set
def nm := And.intro nmB (And.intro @imp_true (And.intro @all_true @len_set))
theorem opd_bool {P : Program} {G : Glob} {fn : Func} {t : Tmp} {b : Bool} {tm : Nat → VV} {H : Nat → Option VObj} {nx : Nat} {Rp : VV → (Nat → Option VObj) → Nat → Prop} (hr : fn.results = #[.tmp t]) (hx : tm t = .lit (.bool b)) :
  OpenPostD P G fn (RR (.tree (.lit (.bool b)))) Rp .ret ⟨tm, H, nx, []⟩ := by
 refine opd_ret (x := .lit (.bool b)) (by simp [hr, resV, resL, resV1, hx]) (rr_tree rfl ?_)
 have : showV H 5 (VV.lit (Value.bool b)) = VV.lit (Value.bool b) := by simp [showV]
 unfold outV
 rw [this]
 exact normV_bool
end Go.V
end
