/- Part of the proof of a statement of YtgjcaeapffpamaaGreatDoor: a logic of values by content, the lifted functions, and what follows. -/
import Derived.Test.YtgjcaeapffpamaaGreatDoorMbf
set_option linter.unusedVariables false
set_option linter.unusedSimpArgs false
set_option linter.unusedSectionVars false
set_option linter.constructorNameAsVariable false
section
namespace Go.V
open Go Go.Proofs
set_option linter.unusedSimpArgs false
set_option linter.unusedVariables false
set_option maxRecDepth 4000
set_option maxHeartbeats 4000000
def g_limits_AreFrom_l0 (x0_least : Int) (x2_most : Int) : List Int → Int → Option (LOut (Bool) (Unit))
  | [], c0_11 => some (.go ())
  | e0 :: p0, c0_11 => Option.bind (g_limits_IsFrom x0_least e0 x2_most) (fun r1 => cond (r1) (g_limits_AreFrom_l0 x0_least x2_most p0 (c0_11 + 1)) (some (.ret false)))
def g_limits_AreFrom (x0_least : Int) (x1_numbers : List Int) (x2_most : Int) : Option (Bool) := cond (lenOk x1_numbers) (lbind (g_limits_AreFrom_l0 x0_least x2_most x1_numbers 0) (fun r => some r) (fun c2 => some true) (fun _ _ => none)) none
theorem g_limits_AreFrom_ok (x0_least : Int) (x1_numbers : List Int) (x2_most : Int) (R : Bool) (h : g_limits_AreFrom x0_least x1_numbers x2_most = some R) : VPure Tryz.prog G0 144 [.lit (.int .i64 x0_least), .sl (cellsL eI x1_numbers) (List.length x1_numbers) false, .lit (.int .i64 x2_most)] (.tree (.lit (.bool R))) := by
  refine VPure.runT mixed Tryz.call144 Tryz.func144 rfl (by simp [Tryz.ntmps144]; kernel_rfl) ?_
  obtain ⟨KF, h, kF, kN⟩ := fun_intro h
  simp only [g_limits_AreFrom] at h
  cases g4 : (lenOk x1_numbers)
  · simp only [g4, cond_true, cond_false, lbind_go, lbind_ret, lbind_brk, lbind_none, Option.bind_some, Option.bind_none, Bool.not_true, Bool.not_false, reduceCtorEq] at h
    exact absurd h kN
  simp only [g4, cond_true, cond_false, lbind_go, lbind_ret, lbind_brk, lbind_none, Option.bind_some, Option.bind_none, Bool.not_true, Bool.not_false, reduceCtorEq] at h
  simp only [vs, cwp_label, ng_normal, ng_ret, ng_exit, cr, tyf, g4, implies_true, Nat.reduceAdd, Nat.reduceMul, Nat.reduceEqDiff, Nat.reduceLeDiff, reduceIte, reduceCtorEq]
  obtain ⟨K3, h, kR3, kG3, kB3, kN3⟩ := lbind_intro h kN
  obtain ⟨f3, hf3, h⟩ := call2 h
  obtain ⟨I3, hI3⟩ : ∃ I : Nat → St → Prop, I = (fun m st => ∃ (p3 : List Int) (c3_11 : Int), m = List.length p3 ∧ 0 ≤ c3_11 ∧ List.drop (Int.toNat c3_11) x1_numbers = p3 ∧ st.df = [] ∧ st.tm 0 = .lit (.int .i64 x0_least) ∧ st.tm 2 = .lit (.int .i64 x2_most) ∧ st.tm 9 = .sl (cellsL eI x1_numbers) (List.length x1_numbers) false ∧ st.tm 10 = .lit (.int .i64 (List.length x1_numbers : Int)) ∧ st.tm 11 = .lit (.int .i64 c3_11) ∧ K3 (f3 p3 c3_11)) := ⟨_, rfl⟩
  refine loopK mixed (by kernel_rfl) I3 (List.length x1_numbers) (by rw [hI3]; refine ⟨x1_numbers, 0, rfl, Int.le_refl _, rfl, rfl, ?_, ?_, ?_, ?_, ?_, h⟩ <;> first | (simp only [upd_apply, updH_apply, without_apply, implies_true, Nat.reduceAdd, Nat.reduceMul, Nat.reduceEqDiff, Nat.reduceLeDiff, reduceIte, reduceCtorEq]; done) | (simp only [upd_apply, updH_apply, without_apply, implies_true, Nat.reduceAdd, Nat.reduceMul, Nat.reduceEqDiff, Nat.reduceLeDiff, reduceIte, reduceCtorEq]; rfl) | rfl) ?_
  rintro m ⟨tm, H, nx, df⟩ hinv
  rw [hI3] at hinv
  obtain ⟨p3, c3_11, rfl, hi3, hp3, hdf, e5, e6, e7, e8, e9, h⟩ := hinv
  simp only at hdf e5 e6 e7 e8 e9
  subst hdf hf3
  cases p3 with
  | nil =>
    have d10 : (decide (c3_11 < (List.length x1_numbers : Int))) = false := not_lt_of_drop hi3 hp3
    simp only [g_limits_AreFrom_l0, cond_true, cond_false, lbind_go, lbind_ret, lbind_brk, lbind_none, Option.bind_some, Option.bind_none, Bool.not_true, Bool.not_false, reduceCtorEq] at h
    replace h := kG3 _ h
    try dsimp only at h
    try simp only [cond_true, cond_false, lbind_go, lbind_ret, lbind_brk, lbind_none, Option.bind_some, Option.bind_none, Bool.not_true, Bool.not_false] at h
    simp only [vs, cwp_label, ng_normal, ng_ret, ng_exit, cr, tyf, g4, e5, e6, e7, e8, e9, d10, implies_true, Nat.reduceAdd, Nat.reduceMul, Nat.reduceEqDiff, Nat.reduceLeDiff, reduceIte, reduceCtorEq]
    obtain rfl := kF _ h
    refine ret1 Tryz.results144 ?_ ?_
    · first | (simp only [outV, upd_apply, updH_apply, without_apply, showV_ref, cr, tyf, nrm, tynrm, g4, e5, e6, e7, e8, e9, d10, implies_true, Nat.reduceAdd, Nat.reduceMul, Nat.reduceEqDiff, Nat.reduceLeDiff, reduceIte, reduceCtorEq]; done) | (simp only [outV, upd_apply, updH_apply, without_apply, showV_ref, cr, tyf, nrm, tynrm, g4, e5, e6, e7, e8, e9, d10, implies_true, Nat.reduceAdd, Nat.reduceMul, Nat.reduceEqDiff, Nat.reduceLeDiff, reduceIte, reduceCtorEq]; rfl)
    · simp only [tre, tytre, Bool.and_self]
  | cons e3 p3 =>
    have d11 : (decide (c3_11 < (List.length x1_numbers : Int))) = true := lt_of_drop hi3 hp3
    have o13 := getI_of_drop hi3 hp3
    have w12 := wrap_next hi3 hp3 g4
    simp only [g_limits_AreFrom_l0, cond_true, cond_false, lbind_go, lbind_ret, lbind_brk, lbind_none, Option.bind_some, Option.bind_none, Bool.not_true, Bool.not_false, reduceCtorEq] at h
    cases o15 : (g_limits_IsFrom x0_least e3 x2_most) with
    | none =>
      simp only [o15, cond_true, cond_false, lbind_go, lbind_ret, lbind_brk, lbind_none, Option.bind_some, Option.bind_none, Bool.not_true, Bool.not_false, reduceCtorEq] at h
      exact absurd h kN3
    | some r14 =>
      simp only [o15, cond_true, cond_false, lbind_go, lbind_ret, lbind_brk, lbind_none, Option.bind_some, Option.bind_none, Bool.not_true, Bool.not_false, reduceCtorEq] at h
      simp only [vs, cwp_label, ng_normal, ng_ret, ng_exit, cr, tyf, g4, e5, e6, e7, e8, e9, d11, (ix22 o13), w12, implies_true, Nat.reduceAdd, Nat.reduceMul, Nat.reduceEqDiff, Nat.reduceLeDiff, reduceIte, reduceCtorEq]
      refine ktree (args0 := [.lit (.int .i64 x0_least), .lit (.int .i64 e3), .lit (.int .i64 x2_most)]) (by first | (simp only [nrm, tynrm]; done) | (simp only [nrm, tynrm]; rfl) | rfl) (by simp only [tre, tytre, Bool.and_self]) (g_limits_IsFrom_ok _ _ _ _ o15) ?_
      refine fin_cut (fun tm => tm 0 = .lit (.int .i64 x0_least) ∧ tm 2 = .lit (.int .i64 x2_most) ∧ tm 9 = .sl (cellsL eI x1_numbers) (List.length x1_numbers) false ∧ tm 10 = .lit (.int .i64 (List.length x1_numbers : Int)) ∧ tm 11 = .lit (.int .i64 c3_11) ∧ tm 18 = .lit (.bool r14) ∧ True) (by refine ⟨e5, e6, e7, e8, e9, ?_, trivial⟩ <;> first | (simp only [upd_apply, updH_apply, without_apply, e5, e6, e7, e8, e9, d11, w12, implies_true, Nat.reduceAdd, Nat.reduceMul, Nat.reduceEqDiff, Nat.reduceLeDiff, reduceIte, reduceCtorEq]; done) | (simp only [upd_apply, updH_apply, without_apply, e5, e6, e7, e8, e9, d11, w12, implies_true, Nat.reduceAdd, Nat.reduceMul, Nat.reduceEqDiff, Nat.reduceLeDiff, reduceIte, reduceCtorEq]; rfl) | rfl) ?_
      rintro tm ⟨e16, e17, e18, e19, e20, e21, _⟩
      cases d22 : (r14)
      · simp only [d22, cond_true, cond_false, lbind_go, lbind_ret, lbind_brk, lbind_none, Option.bind_some, Option.bind_none, Bool.not_true, Bool.not_false, reduceCtorEq] at h
        simp only [vs, cwp_label, ng_normal, ng_ret, ng_exit, cr, tyf, g4, d11, (ix22 o13), w12, e16, e17, e18, e19, e20, e21, d22, implies_true, Nat.reduceAdd, Nat.reduceMul, Nat.reduceEqDiff, Nat.reduceLeDiff, reduceIte, reduceCtorEq]
        replace h := kR3 _ h
        try dsimp only at h
        obtain rfl := kF _ h
        refine ret1 Tryz.results144 ?_ ?_
        · first | (simp only [outV, upd_apply, updH_apply, without_apply, showV_ref, cr, tyf, nrm, tynrm, g4, d11, (ix22 o13), w12, e16, e17, e18, e19, e20, e21, d22, implies_true, Nat.reduceAdd, Nat.reduceMul, Nat.reduceEqDiff, Nat.reduceLeDiff, reduceIte, reduceCtorEq]; done) | (simp only [outV, upd_apply, updH_apply, without_apply, showV_ref, cr, tyf, nrm, tynrm, g4, d11, (ix22 o13), w12, e16, e17, e18, e19, e20, e21, d22, implies_true, Nat.reduceAdd, Nat.reduceMul, Nat.reduceEqDiff, Nat.reduceLeDiff, reduceIte, reduceCtorEq]; rfl)
        · simp only [tre, tytre, Bool.and_self]
      · simp only [d22, cond_true, cond_false, lbind_go, lbind_ret, lbind_brk, lbind_none, Option.bind_some, Option.bind_none, Bool.not_true, Bool.not_false, reduceCtorEq] at h
        simp only [vs, cwp_label, ng_normal, ng_ret, ng_exit, cr, tyf, g4, d11, (ix22 o13), w12, e16, e17, e18, e19, e20, e21, d22, implies_true, Nat.reduceAdd, Nat.reduceMul, Nat.reduceEqDiff, Nat.reduceLeDiff, reduceIte, reduceCtorEq]
        exact ⟨List.length p3, Nat.lt_succ_self _, by rw [hI3]; refine ⟨p3, c3_11 + 1, rfl, Int.le_trans hi3 (Int.le_add_one (Int.le_refl _)), drop_next hi3 hp3, rfl, e16, e17, e18, e19, ?_, h⟩ <;> first | (simp only [upd_apply, updH_apply, without_apply, d11, w12, e16, e17, e18, e19, e20, e21, d22, implies_true, Nat.reduceAdd, Nat.reduceMul, Nat.reduceEqDiff, Nat.reduceLeDiff, reduceIte, reduceCtorEq]; done) | (simp only [upd_apply, updH_apply, without_apply, d11, w12, e16, e17, e18, e19, e20, e21, d22, implies_true, Nat.reduceAdd, Nat.reduceMul, Nat.reduceEqDiff, Nat.reduceLeDiff, reduceIte, reduceCtorEq]; rfl) | rfl⟩

end Go.V
end
section
namespace Go.V
open Go Go.Proofs
set_option linter.unusedSimpArgs false
set_option linter.unusedVariables false
set_option maxRecDepth 4000
set_option maxHeartbeats 4000000
def g_letter_areWidths (x0_widths : List Int) : Option (Bool) := Option.bind (g_limits_IsFrom 1 (List.length x0_widths : Int) 6) (fun r1 => cond (r1) (Option.bind (g_limits_AreFrom 1 x0_widths 20) (fun r2 => some r2)) (some false))
theorem g_letter_areWidths_ok (x0_widths : List Int) (R : Bool) (h : g_letter_areWidths x0_widths = some R) : VPure Tryz.prog G0 107 [.sl (cellsL eI x0_widths) (List.length x0_widths) false] (.tree (.lit (.bool R))) := by
  refine VPure.runT mixed Tryz.call107 Tryz.func107 rfl (by simp [Tryz.ntmps107]; kernel_rfl) ?_
  obtain ⟨KF, h, kF, kN⟩ := fun_intro h
  simp only [g_letter_areWidths] at h
  cases o4 : (g_limits_IsFrom 1 (List.length x0_widths : Int) 6) with
  | none =>
    simp only [o4, cond_true, cond_false, lbind_go, lbind_ret, lbind_brk, lbind_none, Option.bind_some, Option.bind_none, Bool.not_true, Bool.not_false, reduceCtorEq] at h
    exact absurd h kN
  | some r3 =>
    simp only [o4, cond_true, cond_false, lbind_go, lbind_ret, lbind_brk, lbind_none, Option.bind_some, Option.bind_none, Bool.not_true, Bool.not_false, reduceCtorEq] at h
    simp only [vs, cwp_label, ng_normal, ng_ret, ng_exit, cr, tyf, implies_true, Nat.reduceAdd, Nat.reduceMul, Nat.reduceEqDiff, Nat.reduceLeDiff, reduceIte, reduceCtorEq]
    refine ktree (args0 := [.lit (.int .i64 1), .lit (.int .i64 (List.length x0_widths : Int)), .lit (.int .i64 6)]) (by first | (simp only [nrm, tynrm]; done) | (simp only [nrm, tynrm]; rfl) | rfl) (by simp only [tre, tytre, Bool.and_self]) (g_limits_IsFrom_ok _ _ _ _ o4) ?_
    refine fin_cut (fun tm => tm 0 = .sl (cellsL eI x0_widths) (List.length x0_widths) false ∧ tm 5 = .lit (.bool r3) ∧ True) (by refine ⟨?_, ?_, trivial⟩ <;> first | (simp only [upd_apply, updH_apply, without_apply, implies_true, Nat.reduceAdd, Nat.reduceMul, Nat.reduceEqDiff, Nat.reduceLeDiff, reduceIte, reduceCtorEq]; done) | (simp only [upd_apply, updH_apply, without_apply, implies_true, Nat.reduceAdd, Nat.reduceMul, Nat.reduceEqDiff, Nat.reduceLeDiff, reduceIte, reduceCtorEq]; rfl) | rfl) ?_
    rintro tm ⟨e5, e6, _⟩
    cases d7 : (r3)
    · simp only [d7, cond_true, cond_false, lbind_go, lbind_ret, lbind_brk, lbind_none, Option.bind_some, Option.bind_none, Bool.not_true, Bool.not_false, reduceCtorEq] at h
      simp only [vs, cwp_label, ng_normal, ng_ret, ng_exit, cr, tyf, e5, e6, d7, implies_true, Nat.reduceAdd, Nat.reduceMul, Nat.reduceEqDiff, Nat.reduceLeDiff, reduceIte, reduceCtorEq]
      obtain rfl := kF _ h
      refine ret1 Tryz.results107 ?_ ?_
      · first | (simp only [outV, upd_apply, updH_apply, without_apply, showV_ref, cr, tyf, nrm, tynrm, e5, e6, d7, implies_true, Nat.reduceAdd, Nat.reduceMul, Nat.reduceEqDiff, Nat.reduceLeDiff, reduceIte, reduceCtorEq]; done) | (simp only [outV, upd_apply, updH_apply, without_apply, showV_ref, cr, tyf, nrm, tynrm, e5, e6, d7, implies_true, Nat.reduceAdd, Nat.reduceMul, Nat.reduceEqDiff, Nat.reduceLeDiff, reduceIte, reduceCtorEq]; rfl)
      · simp only [tre, tytre, Bool.and_self]
    · simp only [d7, cond_true, cond_false, lbind_go, lbind_ret, lbind_brk, lbind_none, Option.bind_some, Option.bind_none, Bool.not_true, Bool.not_false, reduceCtorEq] at h
      cases o9 : (g_limits_AreFrom 1 x0_widths 20) with
      | none =>
        simp only [o9, cond_true, cond_false, lbind_go, lbind_ret, lbind_brk, lbind_none, Option.bind_some, Option.bind_none, Bool.not_true, Bool.not_false, reduceCtorEq] at h
        exact absurd h kN
      | some r8 =>
        simp only [o9, cond_true, cond_false, lbind_go, lbind_ret, lbind_brk, lbind_none, Option.bind_some, Option.bind_none, Bool.not_true, Bool.not_false, reduceCtorEq] at h
        simp only [vs, cwp_label, ng_normal, ng_ret, ng_exit, cr, tyf, e5, e6, d7, implies_true, Nat.reduceAdd, Nat.reduceMul, Nat.reduceEqDiff, Nat.reduceLeDiff, reduceIte, reduceCtorEq]
        refine ktree (args0 := [.lit (.int .i64 1), .sl (cellsL eI x0_widths) (List.length x0_widths) false, .lit (.int .i64 20)]) (by first | (simp only [nrm, tynrm]; done) | (simp only [nrm, tynrm]; rfl) | rfl) (by simp only [tre, tytre, Bool.and_self]) (g_limits_AreFrom_ok _ _ _ _ o9) ?_
        refine fin_cut (fun tm => tm 6 = .lit (.bool true) ∧ tm 8 = .lit (.bool r8) ∧ True) (by refine ⟨?_, ?_, trivial⟩ <;> first | (simp only [upd_apply, updH_apply, without_apply, e5, e6, d7, implies_true, Nat.reduceAdd, Nat.reduceMul, Nat.reduceEqDiff, Nat.reduceLeDiff, reduceIte, reduceCtorEq]; done) | (simp only [upd_apply, updH_apply, without_apply, e5, e6, d7, implies_true, Nat.reduceAdd, Nat.reduceMul, Nat.reduceEqDiff, Nat.reduceLeDiff, reduceIte, reduceCtorEq]; rfl) | rfl) ?_
        rintro tm ⟨e10, e11, _⟩
        simp only [vs, cwp_label, ng_normal, ng_ret, ng_exit, cr, tyf, d7, e10, e11, implies_true, Nat.reduceAdd, Nat.reduceMul, Nat.reduceEqDiff, Nat.reduceLeDiff, reduceIte, reduceCtorEq]
        obtain rfl := kF _ h
        refine ret1 Tryz.results107 ?_ ?_
        · first | (simp only [outV, upd_apply, updH_apply, without_apply, showV_ref, cr, tyf, nrm, tynrm, d7, e10, e11, implies_true, Nat.reduceAdd, Nat.reduceMul, Nat.reduceEqDiff, Nat.reduceLeDiff, reduceIte, reduceCtorEq]; done) | (simp only [outV, upd_apply, updH_apply, without_apply, showV_ref, cr, tyf, nrm, tynrm, d7, e10, e11, implies_true, Nat.reduceAdd, Nat.reduceMul, Nat.reduceEqDiff, Nat.reduceLeDiff, reduceIte, reduceCtorEq]; rfl)
        · simp only [tre, tytre, Bool.and_self]

end Go.V
end
section
namespace Go.V
open Go Go.Proofs
set_option linter.unusedSimpArgs false
set_option linter.unusedVariables false
set_option maxRecDepth 4000
set_option maxHeartbeats 4000000
def g_limits_AreIncreasing_l0 (x1_numbers : List Int) : List Int → Int → Option (LOut (Bool) (Unit))
  | [], c0_7 => some (.go ())
  | e0 :: p0, c0_7 => Option.bind (getI x1_numbers (IntKind.i64.wrap (c0_7 - 1))) (fun x1 => cond (decide (e0 ≤ x1)) (some (.ret false)) (g_limits_AreIncreasing_l0 x1_numbers p0 (c0_7 + 1)))
def g_limits_AreIncreasing (x0_least : Int) (x1_numbers : List Int) (x2_most : Int) : Option (Bool) := cond (lenOk x1_numbers) (cond (leB 0 1) (lbind (g_limits_AreIncreasing_l0 x1_numbers (List.drop (Int.toNat 1) x1_numbers) 1) (fun r => some r) (fun c2 => Option.bind (g_limits_AreFrom x0_least x1_numbers x2_most) (fun r3 => some r3)) (fun _ _ => none)) none) none
theorem g_limits_AreIncreasing_ok (x0_least : Int) (x1_numbers : List Int) (x2_most : Int) (R : Bool) (h : g_limits_AreIncreasing x0_least x1_numbers x2_most = some R) : VPure Tryz.prog G0 146 [.lit (.int .i64 x0_least), .sl (cellsL eI x1_numbers) (List.length x1_numbers) false, .lit (.int .i64 x2_most)] (.tree (.lit (.bool R))) := by
  refine VPure.runT mixed Tryz.call146 Tryz.func146 rfl (by simp [Tryz.ntmps146]; kernel_rfl) ?_
  obtain ⟨KF, h, kF, kN⟩ := fun_intro h
  simp only [g_limits_AreIncreasing] at h
  cases g5 : (lenOk x1_numbers)
  · simp only [g5, cond_true, cond_false, lbind_go, lbind_ret, lbind_brk, lbind_none, Option.bind_some, Option.bind_none, Bool.not_true, Bool.not_false, reduceCtorEq] at h
    exact absurd h kN
  simp only [g5, cond_true, cond_false, lbind_go, lbind_ret, lbind_brk, lbind_none, Option.bind_some, Option.bind_none, Bool.not_true, Bool.not_false, reduceCtorEq] at h
  cases g6 : (leB 0 1)
  · simp only [g6, cond_true, cond_false, lbind_go, lbind_ret, lbind_brk, lbind_none, Option.bind_some, Option.bind_none, Bool.not_true, Bool.not_false, reduceCtorEq] at h
    exact absurd h kN
  simp only [g6, cond_true, cond_false, lbind_go, lbind_ret, lbind_brk, lbind_none, Option.bind_some, Option.bind_none, Bool.not_true, Bool.not_false, reduceCtorEq] at h
  simp only [vs, cwp_label, ng_normal, ng_ret, ng_exit, cr, tyf, g5, g6, implies_true, Nat.reduceAdd, Nat.reduceMul, Nat.reduceEqDiff, Nat.reduceLeDiff, reduceIte, reduceCtorEq]
  obtain ⟨K4, h, kR4, kG4, kB4, kN4⟩ := lbind_intro h kN
  obtain ⟨f4, hf4, h⟩ := call2 h
  obtain ⟨I4, hI4⟩ : ∃ I : Nat → St → Prop, I = (fun m st => ∃ (p4 : List Int) (c4_7 : Int), m = List.length p4 ∧ 0 ≤ c4_7 ∧ List.drop (Int.toNat c4_7) x1_numbers = p4 ∧ st.df = [] ∧ st.tm 0 = .lit (.int .i64 x0_least) ∧ st.tm 1 = .sl (cellsL eI x1_numbers) (List.length x1_numbers) false ∧ st.tm 2 = .lit (.int .i64 x2_most) ∧ st.tm 7 = .lit (.int .i64 c4_7) ∧ K4 (f4 p4 c4_7)) := ⟨_, rfl⟩
  refine loopK mixed (by kernel_rfl) I4 (List.length (List.drop (Int.toNat 1) x1_numbers)) (by rw [hI4]; refine ⟨List.drop (Int.toNat 1) x1_numbers, 1, rfl, of_decide_eq_true g6, rfl, rfl, ?_, ?_, ?_, ?_, h⟩ <;> first | (simp only [upd_apply, updH_apply, without_apply, implies_true, Nat.reduceAdd, Nat.reduceMul, Nat.reduceEqDiff, Nat.reduceLeDiff, reduceIte, reduceCtorEq]; done) | (simp only [upd_apply, updH_apply, without_apply, implies_true, Nat.reduceAdd, Nat.reduceMul, Nat.reduceEqDiff, Nat.reduceLeDiff, reduceIte, reduceCtorEq]; rfl) | rfl) ?_
  rintro m ⟨tm, H, nx, df⟩ hinv
  rw [hI4] at hinv
  obtain ⟨p4, c4_7, rfl, hi4, hp4, hdf, e7, e8, e9, e10, h⟩ := hinv
  simp only at hdf e7 e8 e9 e10
  subst hdf hf4
  cases p4 with
  | nil =>
    have d11 : (decide (c4_7 < (List.length x1_numbers : Int))) = false := not_lt_of_drop hi4 hp4
    simp only [g_limits_AreIncreasing_l0, cond_true, cond_false, lbind_go, lbind_ret, lbind_brk, lbind_none, Option.bind_some, Option.bind_none, Bool.not_true, Bool.not_false, reduceCtorEq] at h
    replace h := kG4 _ h
    try dsimp only at h
    try simp only [cond_true, cond_false, lbind_go, lbind_ret, lbind_brk, lbind_none, Option.bind_some, Option.bind_none, Bool.not_true, Bool.not_false] at h
    cases o13 : (g_limits_AreFrom x0_least x1_numbers x2_most) with
    | none =>
      simp only [o13, cond_true, cond_false, lbind_go, lbind_ret, lbind_brk, lbind_none, Option.bind_some, Option.bind_none, Bool.not_true, Bool.not_false, reduceCtorEq] at h
      exact absurd h kN
    | some r12 =>
      simp only [o13, cond_true, cond_false, lbind_go, lbind_ret, lbind_brk, lbind_none, Option.bind_some, Option.bind_none, Bool.not_true, Bool.not_false, reduceCtorEq] at h
      simp only [vs, cwp_label, ng_normal, ng_ret, ng_exit, cr, tyf, g5, g6, e7, e8, e9, e10, d11, implies_true, Nat.reduceAdd, Nat.reduceMul, Nat.reduceEqDiff, Nat.reduceLeDiff, reduceIte, reduceCtorEq]
      refine ktree (args0 := [.lit (.int .i64 x0_least), .sl (cellsL eI x1_numbers) (List.length x1_numbers) false, .lit (.int .i64 x2_most)]) (by first | (simp only [nrm, tynrm]; done) | (simp only [nrm, tynrm]; rfl) | rfl) (by simp only [tre, tytre, Bool.and_self]) (g_limits_AreFrom_ok _ _ _ _ o13) ?_
      refine fin_cut (fun tm => tm 27 = .lit (.bool r12) ∧ True) (by refine ⟨?_, trivial⟩ <;> first | (simp only [upd_apply, updH_apply, without_apply, e7, e8, e9, e10, d11, implies_true, Nat.reduceAdd, Nat.reduceMul, Nat.reduceEqDiff, Nat.reduceLeDiff, reduceIte, reduceCtorEq]; done) | (simp only [upd_apply, updH_apply, without_apply, e7, e8, e9, e10, d11, implies_true, Nat.reduceAdd, Nat.reduceMul, Nat.reduceEqDiff, Nat.reduceLeDiff, reduceIte, reduceCtorEq]; rfl) | rfl) ?_
      rintro tm ⟨e14, _⟩
      simp only [vs, cwp_label, ng_normal, ng_ret, ng_exit, cr, tyf, g5, g6, d11, e14, implies_true, Nat.reduceAdd, Nat.reduceMul, Nat.reduceEqDiff, Nat.reduceLeDiff, reduceIte, reduceCtorEq]
      obtain rfl := kF _ h
      refine ret1 Tryz.results146 ?_ ?_
      · first | (simp only [outV, upd_apply, updH_apply, without_apply, showV_ref, cr, tyf, nrm, tynrm, g5, g6, d11, e14, implies_true, Nat.reduceAdd, Nat.reduceMul, Nat.reduceEqDiff, Nat.reduceLeDiff, reduceIte, reduceCtorEq]; done) | (simp only [outV, upd_apply, updH_apply, without_apply, showV_ref, cr, tyf, nrm, tynrm, g5, g6, d11, e14, implies_true, Nat.reduceAdd, Nat.reduceMul, Nat.reduceEqDiff, Nat.reduceLeDiff, reduceIte, reduceCtorEq]; rfl)
      · simp only [tre, tytre, Bool.and_self]
  | cons e4 p4 =>
    have d15 : (decide (c4_7 < (List.length x1_numbers : Int))) = true := lt_of_drop hi4 hp4
    have o17 := getI_of_drop hi4 hp4
    have w16 := wrap_next hi4 hp4 g5
    simp only [g_limits_AreIncreasing_l0, cond_true, cond_false, lbind_go, lbind_ret, lbind_brk, lbind_none, Option.bind_some, Option.bind_none, Bool.not_true, Bool.not_false, reduceCtorEq] at h
    simp only [vs, cwp_label, ng_normal, ng_ret, ng_exit, cr, tyf, g5, g6, e7, e8, e9, e10, d15, (ix22 o17), w16, implies_true, Nat.reduceAdd, Nat.reduceMul, Nat.reduceEqDiff, Nat.reduceLeDiff, reduceIte, reduceCtorEq]
    refine cwp_drwQF (fun tm => tm 0 = .lit (.int .i64 x0_least) ∧ tm 1 = .sl (cellsL eI x1_numbers) (List.length x1_numbers) false ∧ tm 2 = .lit (.int .i64 x2_most) ∧ tm 7 = .lit (.int .i64 c4_7) ∧ True) (by refine ⟨e7, e8, e9, e10, trivial⟩ <;> first | (simp only [upd_apply, updH_apply, without_apply, e7, e8, e9, e10, d15, w16, implies_true, Nat.reduceAdd, Nat.reduceMul, Nat.reduceEqDiff, Nat.reduceLeDiff, reduceIte, reduceCtorEq]; done) | (simp only [upd_apply, updH_apply, without_apply, e7, e8, e9, e10, d15, w16, implies_true, Nat.reduceAdd, Nat.reduceMul, Nat.reduceEqDiff, Nat.reduceLeDiff, reduceIte, reduceCtorEq]; rfl) | rfl) ?_
    rintro tm ⟨e18, e19, e20, e21, _⟩
    cases o23 : (getI x1_numbers (IntKind.i64.wrap (c4_7 - 1))) with
    | none =>
      simp only [o23, cond_true, cond_false, lbind_go, lbind_ret, lbind_brk, lbind_none, Option.bind_some, Option.bind_none, Bool.not_true, Bool.not_false, reduceCtorEq] at h
      exact absurd h kN4
    | some x22 =>
      simp only [o23, cond_true, cond_false, lbind_go, lbind_ret, lbind_brk, lbind_none, Option.bind_some, Option.bind_none, Bool.not_true, Bool.not_false, reduceCtorEq] at h
      cases d24 : (decide (e4 ≤ x22))
      · simp only [d24, cond_true, cond_false, lbind_go, lbind_ret, lbind_brk, lbind_none, Option.bind_some, Option.bind_none, Bool.not_true, Bool.not_false, reduceCtorEq] at h
        simp only [vs, cwp_label, ng_normal, ng_ret, ng_exit, cr, tyf, g5, g6, d15, (ix22 o17), w16, e18, e19, e20, e21, (ix22 o23), d24, implies_true, Nat.reduceAdd, Nat.reduceMul, Nat.reduceEqDiff, Nat.reduceLeDiff, reduceIte, reduceCtorEq]
        exact ⟨List.length p4, Nat.lt_succ_self _, by rw [hI4]; refine ⟨p4, c4_7 + 1, rfl, Int.le_trans hi4 (Int.le_add_one (Int.le_refl _)), drop_next hi4 hp4, rfl, e18, e19, e20, ?_, h⟩ <;> first | (simp only [upd_apply, updH_apply, without_apply, d15, w16, e18, e19, e20, e21, d24, implies_true, Nat.reduceAdd, Nat.reduceMul, Nat.reduceEqDiff, Nat.reduceLeDiff, reduceIte, reduceCtorEq]; done) | (simp only [upd_apply, updH_apply, without_apply, d15, w16, e18, e19, e20, e21, d24, implies_true, Nat.reduceAdd, Nat.reduceMul, Nat.reduceEqDiff, Nat.reduceLeDiff, reduceIte, reduceCtorEq]; rfl) | rfl⟩
      · simp only [d24, cond_true, cond_false, lbind_go, lbind_ret, lbind_brk, lbind_none, Option.bind_some, Option.bind_none, Bool.not_true, Bool.not_false, reduceCtorEq] at h
        simp only [vs, cwp_label, ng_normal, ng_ret, ng_exit, cr, tyf, g5, g6, d15, (ix22 o17), w16, e18, e19, e20, e21, (ix22 o23), d24, implies_true, Nat.reduceAdd, Nat.reduceMul, Nat.reduceEqDiff, Nat.reduceLeDiff, reduceIte, reduceCtorEq]
        replace h := kR4 _ h
        try dsimp only at h
        obtain rfl := kF _ h
        refine ret1 Tryz.results146 ?_ ?_
        · first | (simp only [outV, upd_apply, updH_apply, without_apply, showV_ref, cr, tyf, nrm, tynrm, g5, g6, d15, (ix22 o17), w16, e18, e19, e20, e21, (ix22 o23), d24, implies_true, Nat.reduceAdd, Nat.reduceMul, Nat.reduceEqDiff, Nat.reduceLeDiff, reduceIte, reduceCtorEq]; done) | (simp only [outV, upd_apply, updH_apply, without_apply, showV_ref, cr, tyf, nrm, tynrm, g5, g6, d15, (ix22 o17), w16, e18, e19, e20, e21, (ix22 o23), d24, implies_true, Nat.reduceAdd, Nat.reduceMul, Nat.reduceEqDiff, Nat.reduceLeDiff, reduceIte, reduceCtorEq]; rfl)
        · simp only [tre, tytre, Bool.and_self]

end Go.V
end
section
namespace Go.V
open Go Go.Proofs
set_option linter.unusedSimpArgs false
set_option linter.unusedVariables false
set_option maxRecDepth 4000
set_option maxHeartbeats 4000000
def g_letter_areWords_l0 (x1_signs : Int) : List GLetterWord → Int → Option (LOut (Bool) (Unit))
  | [], c0_14 => some (.go ())
  | e0 :: p0, c0_14 => Option.bind (g_limits_IsFrom 1 (List.length e0.Signs : Int) 6) (fun r3 => cond (r3) (Option.bind (g_limits_AreFrom 0 e0.Signs (IntKind.i64.wrap (x1_signs - 1))) (fun r4 => cond (r4) (Option.bind (g_limits_AreIncreasing 1 e0.Cuts (IntKind.i64.wrap ((List.length e0.Signs : Int) - 1))) (fun r5 => cond (r5) (g_letter_areWords_l0 x1_signs p0 (c0_14 + 1)) (some (.ret false)))) (some (.ret false)))) (some (.ret false)))
def g_letter_areWords (x0_words : List GLetterWord) (x1_signs : Int) : Option (Bool) := Option.bind (g_limits_IsFrom 1 (List.length x0_words : Int) 4) (fun r1 => cond (r1) (cond (lenOk x0_words) (lbind (g_letter_areWords_l0 x1_signs x0_words 0) (fun r => some r) (fun c6 => some true) (fun _ _ => none)) none) (some false))
theorem g_letter_areWords_ok (x0_words : List GLetterWord) (x1_signs : Int) (R : Bool) (h : g_letter_areWords x0_words x1_signs = some R) : VPure Tryz.prog G0 111 [.sl (cellsL cGLetterWord x0_words) (List.length x0_words) false, .lit (.int .i64 x1_signs)] (.tree (.lit (.bool R))) := by
  refine VPure.runT mixed Tryz.call111 Tryz.func111 rfl (by simp [Tryz.ntmps111]; kernel_rfl) ?_
  obtain ⟨KF, h, kF, kN⟩ := fun_intro h
  simp only [g_letter_areWords] at h
  cases o8 : (g_limits_IsFrom 1 (List.length x0_words : Int) 4) with
  | none =>
    simp only [o8, cond_true, cond_false, lbind_go, lbind_ret, lbind_brk, lbind_none, Option.bind_some, Option.bind_none, Bool.not_true, Bool.not_false, reduceCtorEq] at h
    exact absurd h kN
  | some r7 =>
    simp only [o8, cond_true, cond_false, lbind_go, lbind_ret, lbind_brk, lbind_none, Option.bind_some, Option.bind_none, Bool.not_true, Bool.not_false, reduceCtorEq] at h
    simp only [vs, cwp_label, ng_normal, ng_ret, ng_exit, cr, tyf, implies_true, Nat.reduceAdd, Nat.reduceMul, Nat.reduceEqDiff, Nat.reduceLeDiff, reduceIte, reduceCtorEq]
    refine ktree (args0 := [.lit (.int .i64 1), .lit (.int .i64 (List.length x0_words : Int)), .lit (.int .i64 4)]) (by first | (simp only [nrm, tynrm]; done) | (simp only [nrm, tynrm]; rfl) | rfl) (by simp only [tre, tytre, Bool.and_self]) (g_limits_IsFrom_ok _ _ _ _ o8) ?_
    refine fin_cut (fun tm => tm 0 = .sl (cellsL cGLetterWord x0_words) (List.length x0_words) false ∧ tm 1 = .lit (.int .i64 x1_signs) ∧ tm 10 = .lit (.bool r7) ∧ True) (by refine ⟨?_, ?_, ?_, trivial⟩ <;> first | (simp only [upd_apply, updH_apply, without_apply, implies_true, Nat.reduceAdd, Nat.reduceMul, Nat.reduceEqDiff, Nat.reduceLeDiff, reduceIte, reduceCtorEq]; done) | (simp only [upd_apply, updH_apply, without_apply, implies_true, Nat.reduceAdd, Nat.reduceMul, Nat.reduceEqDiff, Nat.reduceLeDiff, reduceIte, reduceCtorEq]; rfl) | rfl) ?_
    rintro tm ⟨e9, e10, e11, _⟩
    cases d12 : (r7)
    · simp only [d12, cond_true, cond_false, lbind_go, lbind_ret, lbind_brk, lbind_none, Option.bind_some, Option.bind_none, Bool.not_true, Bool.not_false, reduceCtorEq] at h
      simp only [vs, cwp_label, ng_normal, ng_ret, ng_exit, cr, tyf, e9, e10, e11, d12, implies_true, Nat.reduceAdd, Nat.reduceMul, Nat.reduceEqDiff, Nat.reduceLeDiff, reduceIte, reduceCtorEq]
      obtain rfl := kF _ h
      refine ret1 Tryz.results111 ?_ ?_
      · first | (simp only [outV, upd_apply, updH_apply, without_apply, showV_ref, cr, tyf, nrm, tynrm, e9, e10, e11, d12, implies_true, Nat.reduceAdd, Nat.reduceMul, Nat.reduceEqDiff, Nat.reduceLeDiff, reduceIte, reduceCtorEq]; done) | (simp only [outV, upd_apply, updH_apply, without_apply, showV_ref, cr, tyf, nrm, tynrm, e9, e10, e11, d12, implies_true, Nat.reduceAdd, Nat.reduceMul, Nat.reduceEqDiff, Nat.reduceLeDiff, reduceIte, reduceCtorEq]; rfl)
      · simp only [tre, tytre, Bool.and_self]
    · simp only [d12, cond_true, cond_false, lbind_go, lbind_ret, lbind_brk, lbind_none, Option.bind_some, Option.bind_none, Bool.not_true, Bool.not_false, reduceCtorEq] at h
      cases g14 : (lenOk x0_words)
      · simp only [g14, cond_true, cond_false, lbind_go, lbind_ret, lbind_brk, lbind_none, Option.bind_some, Option.bind_none, Bool.not_true, Bool.not_false, reduceCtorEq] at h
        exact absurd h kN
      simp only [g14, cond_true, cond_false, lbind_go, lbind_ret, lbind_brk, lbind_none, Option.bind_some, Option.bind_none, Bool.not_true, Bool.not_false, reduceCtorEq] at h
      simp only [vs, cwp_label, ng_normal, ng_ret, ng_exit, cr, tyf, e9, e10, e11, d12, g14, implies_true, Nat.reduceAdd, Nat.reduceMul, Nat.reduceEqDiff, Nat.reduceLeDiff, reduceIte, reduceCtorEq]
      obtain ⟨K13, h, kR13, kG13, kB13, kN13⟩ := lbind_intro h kN
      obtain ⟨f13, hf13, h⟩ := call2 h
      obtain ⟨I13, hI13⟩ : ∃ I : Nat → St → Prop, I = (fun m st => ∃ (p13 : List GLetterWord) (c13_14 : Int), m = List.length p13 ∧ 0 ≤ c13_14 ∧ List.drop (Int.toNat c13_14) x0_words = p13 ∧ st.df = [] ∧ st.tm 1 = .lit (.int .i64 x1_signs) ∧ st.tm 12 = .sl (cellsL cGLetterWord x0_words) (List.length x0_words) false ∧ st.tm 13 = .lit (.int .i64 (List.length x0_words : Int)) ∧ st.tm 14 = .lit (.int .i64 c13_14) ∧ K13 (f13 p13 c13_14)) := ⟨_, rfl⟩
      refine loopK mixed (by kernel_rfl) I13 (List.length x0_words) (by rw [hI13]; refine ⟨x0_words, 0, rfl, Int.le_refl _, rfl, rfl, e10, ?_, ?_, ?_, h⟩ <;> first | (simp only [upd_apply, updH_apply, without_apply, e9, e10, e11, d12, implies_true, Nat.reduceAdd, Nat.reduceMul, Nat.reduceEqDiff, Nat.reduceLeDiff, reduceIte, reduceCtorEq]; done) | (simp only [upd_apply, updH_apply, without_apply, e9, e10, e11, d12, implies_true, Nat.reduceAdd, Nat.reduceMul, Nat.reduceEqDiff, Nat.reduceLeDiff, reduceIte, reduceCtorEq]; rfl) | rfl) ?_
      rintro m ⟨tm, H, nx, df⟩ hinv
      rw [hI13] at hinv
      obtain ⟨p13, c13_14, rfl, hi13, hp13, hdf, e15, e16, e17, e18, h⟩ := hinv
      simp only at hdf e15 e16 e17 e18
      subst hdf hf13
      cases p13 with
      | nil =>
        have d19 : (decide (c13_14 < (List.length x0_words : Int))) = false := not_lt_of_drop hi13 hp13
        simp only [g_letter_areWords_l0, cond_true, cond_false, lbind_go, lbind_ret, lbind_brk, lbind_none, Option.bind_some, Option.bind_none, Bool.not_true, Bool.not_false, reduceCtorEq] at h
        replace h := kG13 _ h
        try dsimp only at h
        try simp only [cond_true, cond_false, lbind_go, lbind_ret, lbind_brk, lbind_none, Option.bind_some, Option.bind_none, Bool.not_true, Bool.not_false] at h
        simp only [vs, cwp_label, ng_normal, ng_ret, ng_exit, cr, tyf, d12, g14, e15, e16, e17, e18, d19, implies_true, Nat.reduceAdd, Nat.reduceMul, Nat.reduceEqDiff, Nat.reduceLeDiff, reduceIte, reduceCtorEq]
        obtain rfl := kF _ h
        refine ret1 Tryz.results111 ?_ ?_
        · first | (simp only [outV, upd_apply, updH_apply, without_apply, showV_ref, cr, tyf, nrm, tynrm, d12, g14, e15, e16, e17, e18, d19, implies_true, Nat.reduceAdd, Nat.reduceMul, Nat.reduceEqDiff, Nat.reduceLeDiff, reduceIte, reduceCtorEq]; done) | (simp only [outV, upd_apply, updH_apply, without_apply, showV_ref, cr, tyf, nrm, tynrm, d12, g14, e15, e16, e17, e18, d19, implies_true, Nat.reduceAdd, Nat.reduceMul, Nat.reduceEqDiff, Nat.reduceLeDiff, reduceIte, reduceCtorEq]; rfl)
        · simp only [tre, tytre, Bool.and_self]
      | cons e13 p13 =>
        have d20 : (decide (c13_14 < (List.length x0_words : Int))) = true := lt_of_drop hi13 hp13
        have o22 := getI_of_drop hi13 hp13
        have w21 := wrap_next hi13 hp13 g14
        simp only [g_letter_areWords_l0, cond_true, cond_false, lbind_go, lbind_ret, lbind_brk, lbind_none, Option.bind_some, Option.bind_none, Bool.not_true, Bool.not_false, reduceCtorEq] at h
        cases o25 : (g_limits_IsFrom 1 (List.length e13.Signs : Int) 6) with
        | none =>
          simp only [o25, cond_true, cond_false, lbind_go, lbind_ret, lbind_brk, lbind_none, Option.bind_some, Option.bind_none, Bool.not_true, Bool.not_false, reduceCtorEq] at h
          exact absurd h kN13
        | some r24 =>
          simp only [o25, cond_true, cond_false, lbind_go, lbind_ret, lbind_brk, lbind_none, Option.bind_some, Option.bind_none, Bool.not_true, Bool.not_false, reduceCtorEq] at h
          simp only [vs, cwp_label, ng_normal, ng_ret, ng_exit, cr, tyf, d12, g14, e15, e16, e17, e18, d20, (ix26 o22), w21, implies_true, Nat.reduceAdd, Nat.reduceMul, Nat.reduceEqDiff, Nat.reduceLeDiff, reduceIte, reduceCtorEq]
          refine ktree (args0 := [.lit (.int .i64 1), .lit (.int .i64 (List.length e13.Signs : Int)), .lit (.int .i64 6)]) (by first | (simp only [nrm, tynrm]; done) | (simp only [nrm, tynrm]; rfl) | rfl) (by simp only [tre, tytre, Bool.and_self]) (g_limits_IsFrom_ok _ _ _ _ o25) ?_
          refine fin_cut (fun tm => tm 1 = .lit (.int .i64 x1_signs) ∧ tm 6 = .ptr (nx + 3) 0 ∧ tm 7 = .lit (.int .i64 (List.length e13.Signs : Int)) ∧ tm 12 = .sl (cellsL cGLetterWord x0_words) (List.length x0_words) false ∧ tm 13 = .lit (.int .i64 (List.length x0_words : Int)) ∧ tm 14 = .lit (.int .i64 c13_14) ∧ tm 22 = .lit (.bool r24) ∧ True) (by refine ⟨e15, ?_, ?_, e16, e17, e18, ?_, trivial⟩ <;> first | (simp only [upd_apply, updH_apply, without_apply, d12, e15, e16, e17, e18, d20, w21, implies_true, Nat.reduceAdd, Nat.reduceMul, Nat.reduceEqDiff, Nat.reduceLeDiff, reduceIte, reduceCtorEq]; done) | (simp only [upd_apply, updH_apply, without_apply, d12, e15, e16, e17, e18, d20, w21, implies_true, Nat.reduceAdd, Nat.reduceMul, Nat.reduceEqDiff, Nat.reduceLeDiff, reduceIte, reduceCtorEq]; rfl) | rfl) ?_
          rintro tm ⟨e26, e27, e28, e29, e30, e31, e32, _⟩
          cases d33 : (r24)
          · simp only [d33, cond_true, cond_false, lbind_go, lbind_ret, lbind_brk, lbind_none, Option.bind_some, Option.bind_none, Bool.not_true, Bool.not_false, reduceCtorEq] at h
            simp only [vs, cwp_label, ng_normal, ng_ret, ng_exit, cr, tyf, d12, g14, d20, (ix26 o22), w21, e26, e27, e28, e29, e30, e31, e32, d33, implies_true, Nat.reduceAdd, Nat.reduceMul, Nat.reduceEqDiff, Nat.reduceLeDiff, reduceIte, reduceCtorEq]
            replace h := kR13 _ h
            try dsimp only at h
            obtain rfl := kF _ h
            refine ret1 Tryz.results111 ?_ ?_
            · first | (simp only [outV, upd_apply, updH_apply, without_apply, showV_ref, cr, tyf, nrm, tynrm, d12, g14, d20, (ix26 o22), w21, e26, e27, e28, e29, e30, e31, e32, d33, implies_true, Nat.reduceAdd, Nat.reduceMul, Nat.reduceEqDiff, Nat.reduceLeDiff, reduceIte, reduceCtorEq]; done) | (simp only [outV, upd_apply, updH_apply, without_apply, showV_ref, cr, tyf, nrm, tynrm, d12, g14, d20, (ix26 o22), w21, e26, e27, e28, e29, e30, e31, e32, d33, implies_true, Nat.reduceAdd, Nat.reduceMul, Nat.reduceEqDiff, Nat.reduceLeDiff, reduceIte, reduceCtorEq]; rfl)
            · simp only [tre, tytre, Bool.and_self]
          · simp only [d33, cond_true, cond_false, lbind_go, lbind_ret, lbind_brk, lbind_none, Option.bind_some, Option.bind_none, Bool.not_true, Bool.not_false, reduceCtorEq] at h
            cases o35 : (g_limits_AreFrom 0 e13.Signs (IntKind.i64.wrap (x1_signs - 1))) with
            | none =>
              simp only [o35, cond_true, cond_false, lbind_go, lbind_ret, lbind_brk, lbind_none, Option.bind_some, Option.bind_none, Bool.not_true, Bool.not_false, reduceCtorEq] at h
              exact absurd h kN13
            | some r34 =>
              simp only [o35, cond_true, cond_false, lbind_go, lbind_ret, lbind_brk, lbind_none, Option.bind_some, Option.bind_none, Bool.not_true, Bool.not_false, reduceCtorEq] at h
              simp only [vs, cwp_label, ng_normal, ng_ret, ng_exit, cr, tyf, d12, g14, d20, (ix26 o22), w21, e26, e27, e28, e29, e30, e31, e32, d33, implies_true, Nat.reduceAdd, Nat.reduceMul, Nat.reduceEqDiff, Nat.reduceLeDiff, reduceIte, reduceCtorEq]
              refine ktree (args0 := [.lit (.int .i64 0), .sl (cellsL eI e13.Signs) (List.length e13.Signs) false, .lit (.int .i64 (IntKind.i64.wrap (x1_signs - 1)))]) (by first | (simp only [nrm, tynrm]; done) | (simp only [nrm, tynrm]; rfl) | rfl) (by simp only [tre, tytre, Bool.and_self]) (g_limits_AreFrom_ok _ _ _ _ o35) ?_
              refine fin_cut (fun tm => tm 1 = .lit (.int .i64 x1_signs) ∧ tm 6 = .ptr (nx + 3) 0 ∧ tm 7 = .lit (.int .i64 (List.length e13.Signs : Int)) ∧ tm 12 = .sl (cellsL cGLetterWord x0_words) (List.length x0_words) false ∧ tm 13 = .lit (.int .i64 (List.length x0_words : Int)) ∧ tm 14 = .lit (.int .i64 c13_14) ∧ tm 24 = .lit (.bool false) ∧ tm 29 = .lit (.bool r34) ∧ True) (by refine ⟨e26, e27, e28, e29, e30, e31, ?_, ?_, trivial⟩ <;> first | (simp only [upd_apply, updH_apply, without_apply, d12, d20, w21, e26, e27, e28, e29, e30, e31, e32, d33, implies_true, Nat.reduceAdd, Nat.reduceMul, Nat.reduceEqDiff, Nat.reduceLeDiff, reduceIte, reduceCtorEq]; done) | (simp only [upd_apply, updH_apply, without_apply, d12, d20, w21, e26, e27, e28, e29, e30, e31, e32, d33, implies_true, Nat.reduceAdd, Nat.reduceMul, Nat.reduceEqDiff, Nat.reduceLeDiff, reduceIte, reduceCtorEq]; rfl) | rfl) ?_
              rintro tm ⟨e36, e37, e38, e39, e40, e41, e42, e43, _⟩
              cases d44 : (r34)
              · simp only [d44, cond_true, cond_false, lbind_go, lbind_ret, lbind_brk, lbind_none, Option.bind_some, Option.bind_none, Bool.not_true, Bool.not_false, reduceCtorEq] at h
                simp only [vs, cwp_label, ng_normal, ng_ret, ng_exit, cr, tyf, d12, g14, d20, (ix26 o22), w21, d33, e36, e37, e38, e39, e40, e41, e42, e43, d44, implies_true, Nat.reduceAdd, Nat.reduceMul, Nat.reduceEqDiff, Nat.reduceLeDiff, reduceIte, reduceCtorEq]
                replace h := kR13 _ h
                try dsimp only at h
                obtain rfl := kF _ h
                refine ret1 Tryz.results111 ?_ ?_
                · first | (simp only [outV, upd_apply, updH_apply, without_apply, showV_ref, cr, tyf, nrm, tynrm, d12, g14, d20, (ix26 o22), w21, d33, e36, e37, e38, e39, e40, e41, e42, e43, d44, implies_true, Nat.reduceAdd, Nat.reduceMul, Nat.reduceEqDiff, Nat.reduceLeDiff, reduceIte, reduceCtorEq]; done) | (simp only [outV, upd_apply, updH_apply, without_apply, showV_ref, cr, tyf, nrm, tynrm, d12, g14, d20, (ix26 o22), w21, d33, e36, e37, e38, e39, e40, e41, e42, e43, d44, implies_true, Nat.reduceAdd, Nat.reduceMul, Nat.reduceEqDiff, Nat.reduceLeDiff, reduceIte, reduceCtorEq]; rfl)
                · simp only [tre, tytre, Bool.and_self]
              · simp only [d44, cond_true, cond_false, lbind_go, lbind_ret, lbind_brk, lbind_none, Option.bind_some, Option.bind_none, Bool.not_true, Bool.not_false, reduceCtorEq] at h
                cases o46 : (g_limits_AreIncreasing 1 e13.Cuts (IntKind.i64.wrap ((List.length e13.Signs : Int) - 1))) with
                | none =>
                  simp only [o46, cond_true, cond_false, lbind_go, lbind_ret, lbind_brk, lbind_none, Option.bind_some, Option.bind_none, Bool.not_true, Bool.not_false, reduceCtorEq] at h
                  exact absurd h kN13
                | some r45 =>
                  simp only [o46, cond_true, cond_false, lbind_go, lbind_ret, lbind_brk, lbind_none, Option.bind_some, Option.bind_none, Bool.not_true, Bool.not_false, reduceCtorEq] at h
                  simp only [vs, cwp_label, ng_normal, ng_ret, ng_exit, cr, tyf, d12, g14, d20, (ix26 o22), w21, d33, e36, e37, e38, e39, e40, e41, e42, e43, d44, implies_true, Nat.reduceAdd, Nat.reduceMul, Nat.reduceEqDiff, Nat.reduceLeDiff, reduceIte, reduceCtorEq]
                  refine ktree (args0 := [.lit (.int .i64 1), .sl (cellsL eI e13.Cuts) (List.length e13.Cuts) false, .lit (.int .i64 (IntKind.i64.wrap ((List.length e13.Signs : Int) - 1)))]) (by first | (simp only [nrm, tynrm]; done) | (simp only [nrm, tynrm]; rfl) | rfl) (by simp only [tre, tytre, Bool.and_self]) (g_limits_AreIncreasing_ok _ _ _ _ o46) ?_
                  refine fin_cut (fun tm => tm 1 = .lit (.int .i64 x1_signs) ∧ tm 12 = .sl (cellsL cGLetterWord x0_words) (List.length x0_words) false ∧ tm 13 = .lit (.int .i64 (List.length x0_words : Int)) ∧ tm 14 = .lit (.int .i64 c13_14) ∧ tm 32 = .lit (.bool false) ∧ tm 37 = .lit (.bool r45) ∧ True) (by refine ⟨e36, e39, e40, e41, ?_, ?_, trivial⟩ <;> first | (simp only [upd_apply, updH_apply, without_apply, d12, d20, w21, d33, e36, e37, e38, e39, e40, e41, e42, e43, d44, implies_true, Nat.reduceAdd, Nat.reduceMul, Nat.reduceEqDiff, Nat.reduceLeDiff, reduceIte, reduceCtorEq]; done) | (simp only [upd_apply, updH_apply, without_apply, d12, d20, w21, d33, e36, e37, e38, e39, e40, e41, e42, e43, d44, implies_true, Nat.reduceAdd, Nat.reduceMul, Nat.reduceEqDiff, Nat.reduceLeDiff, reduceIte, reduceCtorEq]; rfl) | rfl) ?_
                  rintro tm ⟨e47, e48, e49, e50, e51, e52, _⟩
                  cases d53 : (r45)
                  · simp only [d53, cond_true, cond_false, lbind_go, lbind_ret, lbind_brk, lbind_none, Option.bind_some, Option.bind_none, Bool.not_true, Bool.not_false, reduceCtorEq] at h
                    simp only [vs, cwp_label, ng_normal, ng_ret, ng_exit, cr, tyf, d12, g14, d20, (ix26 o22), w21, d33, d44, e47, e48, e49, e50, e51, e52, d53, implies_true, Nat.reduceAdd, Nat.reduceMul, Nat.reduceEqDiff, Nat.reduceLeDiff, reduceIte, reduceCtorEq]
                    replace h := kR13 _ h
                    try dsimp only at h
                    obtain rfl := kF _ h
                    refine ret1 Tryz.results111 ?_ ?_
                    · first | (simp only [outV, upd_apply, updH_apply, without_apply, showV_ref, cr, tyf, nrm, tynrm, d12, g14, d20, (ix26 o22), w21, d33, d44, e47, e48, e49, e50, e51, e52, d53, implies_true, Nat.reduceAdd, Nat.reduceMul, Nat.reduceEqDiff, Nat.reduceLeDiff, reduceIte, reduceCtorEq]; done) | (simp only [outV, upd_apply, updH_apply, without_apply, showV_ref, cr, tyf, nrm, tynrm, d12, g14, d20, (ix26 o22), w21, d33, d44, e47, e48, e49, e50, e51, e52, d53, implies_true, Nat.reduceAdd, Nat.reduceMul, Nat.reduceEqDiff, Nat.reduceLeDiff, reduceIte, reduceCtorEq]; rfl)
                    · simp only [tre, tytre, Bool.and_self]
                  · simp only [d53, cond_true, cond_false, lbind_go, lbind_ret, lbind_brk, lbind_none, Option.bind_some, Option.bind_none, Bool.not_true, Bool.not_false, reduceCtorEq] at h
                    simp only [vs, cwp_label, ng_normal, ng_ret, ng_exit, cr, tyf, d12, g14, d20, (ix26 o22), w21, d33, d44, e47, e48, e49, e50, e51, e52, d53, implies_true, Nat.reduceAdd, Nat.reduceMul, Nat.reduceEqDiff, Nat.reduceLeDiff, reduceIte, reduceCtorEq]
                    exact ⟨List.length p13, Nat.lt_succ_self _, by rw [hI13]; refine ⟨p13, c13_14 + 1, rfl, Int.le_trans hi13 (Int.le_add_one (Int.le_refl _)), drop_next hi13 hp13, rfl, e47, e48, e49, ?_, h⟩ <;> first | (simp only [upd_apply, updH_apply, without_apply, d12, d20, w21, d33, d44, e47, e48, e49, e50, e51, e52, d53, implies_true, Nat.reduceAdd, Nat.reduceMul, Nat.reduceEqDiff, Nat.reduceLeDiff, reduceIte, reduceCtorEq]; done) | (simp only [upd_apply, updH_apply, without_apply, d12, d20, w21, d33, d44, e47, e48, e49, e50, e51, e52, d53, implies_true, Nat.reduceAdd, Nat.reduceMul, Nat.reduceEqDiff, Nat.reduceLeDiff, reduceIte, reduceCtorEq]; rfl) | rfl⟩

end Go.V
end
section
namespace Go.V
open Go Go.Proofs
set_option linter.unusedSimpArgs false
set_option linter.unusedVariables false
set_option maxRecDepth 4000
set_option maxHeartbeats 4000000
def g_cmp_isNaN_int (x0_x : Int) : Option (Bool) := some (x0_x != x0_x)
theorem g_cmp_isNaN_int_ok (x0_x : Int) (R : Bool) (h : g_cmp_isNaN_int x0_x = some R) : VPure Tryz.prog G0 151 [.lit (.int .i64 x0_x)] (.tree (.lit (.bool R))) := by
  refine VPure.runT mixed Tryz.call151 Tryz.func151 rfl (by simp [Tryz.ntmps151]; kernel_rfl) ?_
  obtain ⟨KF, h, kF, kN⟩ := fun_intro h
  simp only [g_cmp_isNaN_int] at h
  simp only [vs, cwp_label, ng_normal, ng_ret, ng_exit, cr, tyf, implies_true, Nat.reduceAdd, Nat.reduceMul, Nat.reduceEqDiff, Nat.reduceLeDiff, reduceIte, reduceCtorEq]
  obtain rfl := kF _ h
  refine ret1 Tryz.results151 ?_ ?_
  · first | (simp only [outV, upd_apply, updH_apply, without_apply, showV_ref, cr, tyf, nrm, tynrm, implies_true, Nat.reduceAdd, Nat.reduceMul, Nat.reduceEqDiff, Nat.reduceLeDiff, reduceIte, reduceCtorEq]; done) | (simp only [outV, upd_apply, updH_apply, without_apply, showV_ref, cr, tyf, nrm, tynrm, implies_true, Nat.reduceAdd, Nat.reduceMul, Nat.reduceEqDiff, Nat.reduceLeDiff, reduceIte, reduceCtorEq]; rfl)
  · simp only [tre, tytre, Bool.and_self]

end Go.V
end
section
namespace Go.V
open Go Go.Proofs
set_option linter.unusedSimpArgs false
set_option linter.unusedVariables false
set_option maxRecDepth 4000
set_option maxHeartbeats 4000000
def g_cmp_Compare_int (x0_x : Int) (x1_y : Int) : Option (Int) := Option.bind (g_cmp_isNaN_int x0_x) (fun r1 => Option.bind (g_cmp_isNaN_int x1_y) (fun r2 => cond (r1) (cond (r2) (some 0) (some (-1))) (cond (r2) (some 1) (cond (decide (x0_x < x1_y)) (some (-1)) (cond (decide (x0_x > x1_y)) (some 1) (some 0))))))
theorem g_cmp_Compare_int_ok (x0_x : Int) (x1_y : Int) (R : Int) (h : g_cmp_Compare_int x0_x x1_y = some R) : VPure Tryz.prog G0 123 [.lit (.int .i64 x0_x), .lit (.int .i64 x1_y)] (.tree (.lit (.int .i64 R))) := by
  refine VPure.runT mixed Tryz.call123 Tryz.func123 rfl (by simp [Tryz.ntmps123]; kernel_rfl) ?_
  obtain ⟨KF, h, kF, kN⟩ := fun_intro h
  simp only [g_cmp_Compare_int] at h
  cases o4 : (g_cmp_isNaN_int x0_x) with
  | none =>
    simp only [o4, cond_true, cond_false, lbind_go, lbind_ret, lbind_brk, lbind_none, Option.bind_some, Option.bind_none, Bool.not_true, Bool.not_false, reduceCtorEq] at h
    exact absurd h kN
  | some r3 =>
    simp only [o4, cond_true, cond_false, lbind_go, lbind_ret, lbind_brk, lbind_none, Option.bind_some, Option.bind_none, Bool.not_true, Bool.not_false, reduceCtorEq] at h
    simp only [vs, cwp_label, ng_normal, ng_ret, ng_exit, cr, tyf, implies_true, Nat.reduceAdd, Nat.reduceMul, Nat.reduceEqDiff, Nat.reduceLeDiff, reduceIte, reduceCtorEq]
    refine ktree (args0 := [.lit (.int .i64 x0_x)]) (by first | (simp only [nrm, tynrm]; done) | (simp only [nrm, tynrm]; rfl) | rfl) (by simp only [tre, tytre, Bool.and_self]) (g_cmp_isNaN_int_ok _ _ o4) ?_
    refine fin_cut (fun tm => tm 0 = .lit (.int .i64 x0_x) ∧ tm 1 = .lit (.int .i64 x1_y) ∧ tm 8 = .lit (.bool r3) ∧ True) (by refine ⟨?_, ?_, ?_, trivial⟩ <;> first | (simp only [upd_apply, updH_apply, without_apply, implies_true, Nat.reduceAdd, Nat.reduceMul, Nat.reduceEqDiff, Nat.reduceLeDiff, reduceIte, reduceCtorEq]; done) | (simp only [upd_apply, updH_apply, without_apply, implies_true, Nat.reduceAdd, Nat.reduceMul, Nat.reduceEqDiff, Nat.reduceLeDiff, reduceIte, reduceCtorEq]; rfl) | rfl) ?_
    rintro tm ⟨e5, e6, e7, _⟩
    cases o9 : (g_cmp_isNaN_int x1_y) with
    | none =>
      simp only [o9, cond_true, cond_false, lbind_go, lbind_ret, lbind_brk, lbind_none, Option.bind_some, Option.bind_none, Bool.not_true, Bool.not_false, reduceCtorEq] at h
      exact absurd h kN
    | some r8 =>
      simp only [o9, cond_true, cond_false, lbind_go, lbind_ret, lbind_brk, lbind_none, Option.bind_some, Option.bind_none, Bool.not_true, Bool.not_false, reduceCtorEq] at h
      simp only [vs, cwp_label, ng_normal, ng_ret, ng_exit, cr, tyf, e5, e6, e7, implies_true, Nat.reduceAdd, Nat.reduceMul, Nat.reduceEqDiff, Nat.reduceLeDiff, reduceIte, reduceCtorEq]
      refine ktree (args0 := [.lit (.int .i64 x1_y)]) (by first | (simp only [nrm, tynrm]; done) | (simp only [nrm, tynrm]; rfl) | rfl) (by simp only [tre, tytre, Bool.and_self]) (g_cmp_isNaN_int_ok _ _ o9) ?_
      refine fin_cut (fun tm => tm 0 = .lit (.int .i64 x0_x) ∧ tm 1 = .lit (.int .i64 x1_y) ∧ tm 5 = .lit (.bool r3) ∧ tm 10 = .lit (.bool r8) ∧ True) (by refine ⟨e5, e6, ?_, ?_, trivial⟩ <;> first | (simp only [upd_apply, updH_apply, without_apply, e5, e6, e7, implies_true, Nat.reduceAdd, Nat.reduceMul, Nat.reduceEqDiff, Nat.reduceLeDiff, reduceIte, reduceCtorEq]; done) | (simp only [upd_apply, updH_apply, without_apply, e5, e6, e7, implies_true, Nat.reduceAdd, Nat.reduceMul, Nat.reduceEqDiff, Nat.reduceLeDiff, reduceIte, reduceCtorEq]; rfl) | rfl) ?_
      rintro tm ⟨e10, e11, e12, e13, _⟩
      cases d14 : (r3)
      · simp only [d14, cond_true, cond_false, lbind_go, lbind_ret, lbind_brk, lbind_none, Option.bind_some, Option.bind_none, Bool.not_true, Bool.not_false, reduceCtorEq] at h
        cases d15 : (r8)
        · simp only [d15, cond_true, cond_false, lbind_go, lbind_ret, lbind_brk, lbind_none, Option.bind_some, Option.bind_none, Bool.not_true, Bool.not_false, reduceCtorEq] at h
          cases d16 : (decide (x0_x < x1_y))
          · simp only [d16, cond_true, cond_false, lbind_go, lbind_ret, lbind_brk, lbind_none, Option.bind_some, Option.bind_none, Bool.not_true, Bool.not_false, reduceCtorEq] at h
            cases d17 : (decide (x0_x > x1_y))
            · simp only [d17, cond_true, cond_false, lbind_go, lbind_ret, lbind_brk, lbind_none, Option.bind_some, Option.bind_none, Bool.not_true, Bool.not_false, reduceCtorEq] at h
              simp only [vs, cwp_label, ng_normal, ng_ret, ng_exit, cr, tyf, e10, e11, e12, e13, d14, d15, d16, d17, implies_true, Nat.reduceAdd, Nat.reduceMul, Nat.reduceEqDiff, Nat.reduceLeDiff, reduceIte, reduceCtorEq]
              obtain rfl := kF _ h
              refine ret1 Tryz.results123 ?_ ?_
              · first | (simp only [outV, upd_apply, updH_apply, without_apply, showV_ref, cr, tyf, nrm, tynrm, e10, e11, e12, e13, d14, d15, d16, d17, implies_true, Nat.reduceAdd, Nat.reduceMul, Nat.reduceEqDiff, Nat.reduceLeDiff, reduceIte, reduceCtorEq]; done) | (simp only [outV, upd_apply, updH_apply, without_apply, showV_ref, cr, tyf, nrm, tynrm, e10, e11, e12, e13, d14, d15, d16, d17, implies_true, Nat.reduceAdd, Nat.reduceMul, Nat.reduceEqDiff, Nat.reduceLeDiff, reduceIte, reduceCtorEq]; rfl)
              · simp only [tre, tytre, Bool.and_self]
            · simp only [d17, cond_true, cond_false, lbind_go, lbind_ret, lbind_brk, lbind_none, Option.bind_some, Option.bind_none, Bool.not_true, Bool.not_false, reduceCtorEq] at h
              simp only [vs, cwp_label, ng_normal, ng_ret, ng_exit, cr, tyf, e10, e11, e12, e13, d14, d15, d16, d17, implies_true, Nat.reduceAdd, Nat.reduceMul, Nat.reduceEqDiff, Nat.reduceLeDiff, reduceIte, reduceCtorEq]
              obtain rfl := kF _ h
              refine ret1 Tryz.results123 ?_ ?_
              · first | (simp only [outV, upd_apply, updH_apply, without_apply, showV_ref, cr, tyf, nrm, tynrm, e10, e11, e12, e13, d14, d15, d16, d17, implies_true, Nat.reduceAdd, Nat.reduceMul, Nat.reduceEqDiff, Nat.reduceLeDiff, reduceIte, reduceCtorEq]; done) | (simp only [outV, upd_apply, updH_apply, without_apply, showV_ref, cr, tyf, nrm, tynrm, e10, e11, e12, e13, d14, d15, d16, d17, implies_true, Nat.reduceAdd, Nat.reduceMul, Nat.reduceEqDiff, Nat.reduceLeDiff, reduceIte, reduceCtorEq]; rfl)
              · simp only [tre, tytre, Bool.and_self]
          · simp only [d16, cond_true, cond_false, lbind_go, lbind_ret, lbind_brk, lbind_none, Option.bind_some, Option.bind_none, Bool.not_true, Bool.not_false, reduceCtorEq] at h
            simp only [vs, cwp_label, ng_normal, ng_ret, ng_exit, cr, tyf, e10, e11, e12, e13, d14, d15, d16, implies_true, Nat.reduceAdd, Nat.reduceMul, Nat.reduceEqDiff, Nat.reduceLeDiff, reduceIte, reduceCtorEq]
            obtain rfl := kF _ h
            refine ret1 Tryz.results123 ?_ ?_
            · first | (simp only [outV, upd_apply, updH_apply, without_apply, showV_ref, cr, tyf, nrm, tynrm, e10, e11, e12, e13, d14, d15, d16, implies_true, Nat.reduceAdd, Nat.reduceMul, Nat.reduceEqDiff, Nat.reduceLeDiff, reduceIte, reduceCtorEq]; done) | (simp only [outV, upd_apply, updH_apply, without_apply, showV_ref, cr, tyf, nrm, tynrm, e10, e11, e12, e13, d14, d15, d16, implies_true, Nat.reduceAdd, Nat.reduceMul, Nat.reduceEqDiff, Nat.reduceLeDiff, reduceIte, reduceCtorEq]; rfl)
            · simp only [tre, tytre, Bool.and_self]
        · simp only [d15, cond_true, cond_false, lbind_go, lbind_ret, lbind_brk, lbind_none, Option.bind_some, Option.bind_none, Bool.not_true, Bool.not_false, reduceCtorEq] at h
          simp only [vs, cwp_label, ng_normal, ng_ret, ng_exit, cr, tyf, e10, e11, e12, e13, d14, d15, implies_true, Nat.reduceAdd, Nat.reduceMul, Nat.reduceEqDiff, Nat.reduceLeDiff, reduceIte, reduceCtorEq]
          obtain rfl := kF _ h
          refine ret1 Tryz.results123 ?_ ?_
          · first | (simp only [outV, upd_apply, updH_apply, without_apply, showV_ref, cr, tyf, nrm, tynrm, e10, e11, e12, e13, d14, d15, implies_true, Nat.reduceAdd, Nat.reduceMul, Nat.reduceEqDiff, Nat.reduceLeDiff, reduceIte, reduceCtorEq]; done) | (simp only [outV, upd_apply, updH_apply, without_apply, showV_ref, cr, tyf, nrm, tynrm, e10, e11, e12, e13, d14, d15, implies_true, Nat.reduceAdd, Nat.reduceMul, Nat.reduceEqDiff, Nat.reduceLeDiff, reduceIte, reduceCtorEq]; rfl)
          · simp only [tre, tytre, Bool.and_self]
      · simp only [d14, cond_true, cond_false, lbind_go, lbind_ret, lbind_brk, lbind_none, Option.bind_some, Option.bind_none, Bool.not_true, Bool.not_false, reduceCtorEq] at h
        cases d18 : (r8)
        · simp only [d18, cond_true, cond_false, lbind_go, lbind_ret, lbind_brk, lbind_none, Option.bind_some, Option.bind_none, Bool.not_true, Bool.not_false, reduceCtorEq] at h
          simp only [vs, cwp_label, ng_normal, ng_ret, ng_exit, cr, tyf, e10, e11, e12, e13, d14, d18, implies_true, Nat.reduceAdd, Nat.reduceMul, Nat.reduceEqDiff, Nat.reduceLeDiff, reduceIte, reduceCtorEq]
          obtain rfl := kF _ h
          refine ret1 Tryz.results123 ?_ ?_
          · first | (simp only [outV, upd_apply, updH_apply, without_apply, showV_ref, cr, tyf, nrm, tynrm, e10, e11, e12, e13, d14, d18, implies_true, Nat.reduceAdd, Nat.reduceMul, Nat.reduceEqDiff, Nat.reduceLeDiff, reduceIte, reduceCtorEq]; done) | (simp only [outV, upd_apply, updH_apply, without_apply, showV_ref, cr, tyf, nrm, tynrm, e10, e11, e12, e13, d14, d18, implies_true, Nat.reduceAdd, Nat.reduceMul, Nat.reduceEqDiff, Nat.reduceLeDiff, reduceIte, reduceCtorEq]; rfl)
          · simp only [tre, tytre, Bool.and_self]
        · simp only [d18, cond_true, cond_false, lbind_go, lbind_ret, lbind_brk, lbind_none, Option.bind_some, Option.bind_none, Bool.not_true, Bool.not_false, reduceCtorEq] at h
          simp only [vs, cwp_label, ng_normal, ng_ret, ng_exit, cr, tyf, e10, e11, e12, e13, d14, d18, implies_true, Nat.reduceAdd, Nat.reduceMul, Nat.reduceEqDiff, Nat.reduceLeDiff, reduceIte, reduceCtorEq]
          obtain rfl := kF _ h
          refine ret1 Tryz.results123 ?_ ?_
          · first | (simp only [outV, upd_apply, updH_apply, without_apply, showV_ref, cr, tyf, nrm, tynrm, e10, e11, e12, e13, d14, d18, implies_true, Nat.reduceAdd, Nat.reduceMul, Nat.reduceEqDiff, Nat.reduceLeDiff, reduceIte, reduceCtorEq]; done) | (simp only [outV, upd_apply, updH_apply, without_apply, showV_ref, cr, tyf, nrm, tynrm, e10, e11, e12, e13, d14, d18, implies_true, Nat.reduceAdd, Nat.reduceMul, Nat.reduceEqDiff, Nat.reduceLeDiff, reduceIte, reduceCtorEq]; rfl)
          · simp only [tre, tytre, Bool.and_self]

end Go.V
end
