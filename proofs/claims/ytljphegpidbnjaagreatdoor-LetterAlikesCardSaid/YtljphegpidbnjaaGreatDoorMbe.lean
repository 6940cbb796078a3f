/- Part of the proof of a statement of YtljphegpidbnjaaGreatDoor: a logic of values by content, the lifted functions, and what follows. -/
import Derived.Test.YtljphegpidbnjaaGreatDoorMbd
import Derived.Test.YtljphegpidbnjaaGreatDoorMan
set_option linter.unusedVariables false
set_option linter.unusedSimpArgs false
set_option linter.unusedSectionVars false
set_option linter.constructorNameAsVariable false
section
/- A scope of labels. -/
namespace Go.V
open Go
section
variable {P : Program} {G : Glob} {n : Nat} {Q : VExit → St → Prop} {st : St}
theorem cwp_scope (hm : P.follows .mixedOrders = true) {x : Code} (ho : codeOk n x = true) (h : CWp P G n x (VExit.noGoto Q) st) : CWp P G n (.scope x) Q st := VWp.scope (CWp_sound hm x _ st ho h)
theorem cwp_label {l : Nat} : CWp P G n (.label l) Q st = Q .normal st := rfl
theorem ng_normal : VExit.noGoto Q .normal st = Q .normal st := rfl
theorem ng_ret : VExit.noGoto Q .ret st = Q .ret st := rfl
theorem ng_exit {id : Nat} : VExit.noGoto Q (.exit id) st = Q (.exit id) st := rfl
theorem ng_panic {x : VV} : VExit.noGoto Q (.panic x) st = Q (.panic x) st := rfl
end
end Go.V
end
