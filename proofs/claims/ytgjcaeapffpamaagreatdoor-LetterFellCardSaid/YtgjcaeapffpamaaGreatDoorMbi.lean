/- Part of the proof of a statement of YtgjcaeapffpamaaGreatDoor: a logic of values by content, the lifted functions, and what follows. -/
import Derived.Test.YtgjcaeapffpamaaGreatDoorMbf
import Derived.Test.YtgjcaeapffpamaaGreatDoorMbg
import Derived.Test.YtgjcaeapffpamaaGreatDoorMbh
set_option linter.unusedVariables false
set_option linter.unusedSimpArgs false
set_option linter.unusedSectionVars false
set_option linter.constructorNameAsVariable false
section
namespace Go.V
open Go Go.Proofs
set_option linter.unusedSimpArgs false
set_option linter.unusedVariables false
set_option maxRecDepth 4000
set_option maxHeartbeats 4000000
def g_letter_isSheet (x0_s : GLetterSheet) : Option (Bool) := Option.bind (g_letter_areWidths x0_s.Widths) (fun r2 => cond (r2) (Option.bind (g_letter_arePairs x0_s.Pairs (List.length x0_s.Widths : Int)) (fun r3 => cond (r3) (Option.bind (g_limits_IsSpan 0 x0_s.Other 9) (fun r4 => cond (r4) (Option.bind (g_limits_IsSpan 0 x0_s.Gap 20) (fun r5 => cond (r5) (Option.bind (g_limits_IsFrom 1 x0_s.Hyphen 20) (fun r6 => cond (r6) (Option.bind (g_letter_areWords x0_s.Words (List.length x0_s.Widths : Int)) (fun r7 => cond (r7) (Option.bind (g_limits_IsFrom 1 x0_s.Wide 400) (fun r8 => cond (r8) (Option.bind (g_limits_IsFrom 1 x0_s.Rows 3) (fun r9 => some r9)) (some false))) (some false))) (some false))) (some false))) (some false))) (some false))) (some false))
theorem g_letter_isSheet_ok (x0_s : GLetterSheet) (R : Bool) (h : g_letter_isSheet x0_s = some R) : VPure Tryz.prog G0 61 [.agg (cGLetterSheet x0_s)] (.tree (.lit (.bool R))) := by
  refine VPure.runT mixed Tryz.call61 Tryz.func61 rfl (by simp [Tryz.ntmps61]; kernel_rfl) ?_
  obtain ⟨KF, h, kF, kN⟩ := fun_intro h
  simp only [g_letter_isSheet] at h
  cases o12 : (g_letter_areWidths x0_s.Widths) with
  | none =>
    simp only [o12, cond_true, cond_false, lbind_go, lbind_ret, lbind_brk, lbind_none, Option.bind_some, Option.bind_none, Bool.not_true, Bool.not_false, reduceCtorEq] at h
    exact absurd h kN
  | some r11 =>
    simp only [o12, cond_true, cond_false, lbind_go, lbind_ret, lbind_brk, lbind_none, Option.bind_some, Option.bind_none, Bool.not_true, Bool.not_false, reduceCtorEq] at h
    simp only [vs, cwp_label, ng_normal, ng_ret, ng_exit, cr, tyf, implies_true, Nat.reduceAdd, Nat.reduceMul, Nat.reduceEqDiff, Nat.reduceLeDiff, reduceIte, reduceCtorEq]
    refine ktree (args0 := [.sl (cellsL eI x0_s.Widths) (List.length x0_s.Widths) false]) (by first | (simp only [nrm, tynrm]; done) | (simp only [nrm, tynrm]; rfl) | rfl) (by simp only [tre, tytre, Bool.and_self]) (g_letter_areWidths_ok _ _ o12) ?_
    refine fin_cut (fun tm => tm 1 = .ptr 0 0 ∧ tm 5 = .lit (.bool r11) ∧ True) (by refine ⟨?_, ?_, trivial⟩ <;> first | (simp only [upd_apply, updH_apply, without_apply, implies_true, Nat.reduceAdd, Nat.reduceMul, Nat.reduceEqDiff, Nat.reduceLeDiff, reduceIte, reduceCtorEq]; done) | (simp only [upd_apply, updH_apply, without_apply, implies_true, Nat.reduceAdd, Nat.reduceMul, Nat.reduceEqDiff, Nat.reduceLeDiff, reduceIte, reduceCtorEq]; rfl) | rfl) ?_
    rintro tm ⟨e13, e14, _⟩
    cases d15 : (r11)
    · simp only [d15, cond_true, cond_false, lbind_go, lbind_ret, lbind_brk, lbind_none, Option.bind_some, Option.bind_none, Bool.not_true, Bool.not_false, reduceCtorEq] at h
      simp only [vs, cwp_label, ng_normal, ng_ret, ng_exit, cr, tyf, e13, e14, d15, implies_true, Nat.reduceAdd, Nat.reduceMul, Nat.reduceEqDiff, Nat.reduceLeDiff, reduceIte, reduceCtorEq]
      obtain rfl := kF _ h
      refine ret1 Tryz.results61 ?_ ?_
      · first | (simp only [outV, upd_apply, updH_apply, without_apply, showV_ref, cr, tyf, nrm, tynrm, e13, e14, d15, implies_true, Nat.reduceAdd, Nat.reduceMul, Nat.reduceEqDiff, Nat.reduceLeDiff, reduceIte, reduceCtorEq]; done) | (simp only [outV, upd_apply, updH_apply, without_apply, showV_ref, cr, tyf, nrm, tynrm, e13, e14, d15, implies_true, Nat.reduceAdd, Nat.reduceMul, Nat.reduceEqDiff, Nat.reduceLeDiff, reduceIte, reduceCtorEq]; rfl)
      · simp only [tre, tytre, Bool.and_self]
    · simp only [d15, cond_true, cond_false, lbind_go, lbind_ret, lbind_brk, lbind_none, Option.bind_some, Option.bind_none, Bool.not_true, Bool.not_false, reduceCtorEq] at h
      cases o17 : (g_letter_arePairs x0_s.Pairs (List.length x0_s.Widths : Int)) with
      | none =>
        simp only [o17, cond_true, cond_false, lbind_go, lbind_ret, lbind_brk, lbind_none, Option.bind_some, Option.bind_none, Bool.not_true, Bool.not_false, reduceCtorEq] at h
        exact absurd h kN
      | some r16 =>
        simp only [o17, cond_true, cond_false, lbind_go, lbind_ret, lbind_brk, lbind_none, Option.bind_some, Option.bind_none, Bool.not_true, Bool.not_false, reduceCtorEq] at h
        simp only [vs, cwp_label, ng_normal, ng_ret, ng_exit, cr, tyf, e13, e14, d15, implies_true, Nat.reduceAdd, Nat.reduceMul, Nat.reduceEqDiff, Nat.reduceLeDiff, reduceIte, reduceCtorEq]
        refine ktree (args0 := [.sl (cellsL cGLetterPair x0_s.Pairs) (List.length x0_s.Pairs) false, .lit (.int .i64 (List.length x0_s.Widths : Int))]) (by first | (simp only [nrm, tynrm]; done) | (simp only [nrm, tynrm]; rfl) | rfl) (by simp only [tre, tytre, Bool.and_self]) (g_letter_arePairs_ok _ _ _ o17) ?_
        refine fin_cut (fun tm => tm 1 = .ptr 0 0 ∧ tm 6 = .lit (.bool true) ∧ tm 12 = .lit (.bool r16) ∧ True) (by refine ⟨e13, ?_, ?_, trivial⟩ <;> first | (simp only [upd_apply, updH_apply, without_apply, e13, e14, d15, implies_true, Nat.reduceAdd, Nat.reduceMul, Nat.reduceEqDiff, Nat.reduceLeDiff, reduceIte, reduceCtorEq]; done) | (simp only [upd_apply, updH_apply, without_apply, e13, e14, d15, implies_true, Nat.reduceAdd, Nat.reduceMul, Nat.reduceEqDiff, Nat.reduceLeDiff, reduceIte, reduceCtorEq]; rfl) | rfl) ?_
        rintro tm ⟨e18, e19, e20, _⟩
        cases d21 : (r16)
        · simp only [d21, cond_true, cond_false, lbind_go, lbind_ret, lbind_brk, lbind_none, Option.bind_some, Option.bind_none, Bool.not_true, Bool.not_false, reduceCtorEq] at h
          simp only [vs, cwp_label, ng_normal, ng_ret, ng_exit, cr, tyf, d15, e18, e19, e20, d21, implies_true, Nat.reduceAdd, Nat.reduceMul, Nat.reduceEqDiff, Nat.reduceLeDiff, reduceIte, reduceCtorEq]
          obtain rfl := kF _ h
          refine ret1 Tryz.results61 ?_ ?_
          · first | (simp only [outV, upd_apply, updH_apply, without_apply, showV_ref, cr, tyf, nrm, tynrm, d15, e18, e19, e20, d21, implies_true, Nat.reduceAdd, Nat.reduceMul, Nat.reduceEqDiff, Nat.reduceLeDiff, reduceIte, reduceCtorEq]; done) | (simp only [outV, upd_apply, updH_apply, without_apply, showV_ref, cr, tyf, nrm, tynrm, d15, e18, e19, e20, d21, implies_true, Nat.reduceAdd, Nat.reduceMul, Nat.reduceEqDiff, Nat.reduceLeDiff, reduceIte, reduceCtorEq]; rfl)
          · simp only [tre, tytre, Bool.and_self]
        · simp only [d21, cond_true, cond_false, lbind_go, lbind_ret, lbind_brk, lbind_none, Option.bind_some, Option.bind_none, Bool.not_true, Bool.not_false, reduceCtorEq] at h
          cases o23 : (g_limits_IsSpan 0 x0_s.Other 9) with
          | none =>
            simp only [o23, cond_true, cond_false, lbind_go, lbind_ret, lbind_brk, lbind_none, Option.bind_some, Option.bind_none, Bool.not_true, Bool.not_false, reduceCtorEq] at h
            exact absurd h kN
          | some r22 =>
            simp only [o23, cond_true, cond_false, lbind_go, lbind_ret, lbind_brk, lbind_none, Option.bind_some, Option.bind_none, Bool.not_true, Bool.not_false, reduceCtorEq] at h
            simp only [vs, cwp_label, ng_normal, ng_ret, ng_exit, cr, tyf, d15, e18, e19, e20, d21, implies_true, Nat.reduceAdd, Nat.reduceMul, Nat.reduceEqDiff, Nat.reduceLeDiff, reduceIte, reduceCtorEq]
            refine ktree (args0 := [.lit (.int .i64 0), .agg (cGSpan x0_s.Other), .lit (.int .i64 9)]) (by first | (simp only [nrm, tynrm]; done) | (simp only [nrm, tynrm]; rfl) | rfl) (by simp only [tre, tytre, Bool.and_self]) (g_limits_IsSpan_ok _ _ _ _ o23) ?_
            refine fin_cut (fun tm => tm 1 = .ptr 0 0 ∧ tm 14 = .lit (.bool true) ∧ tm 17 = .lit (.bool r22) ∧ True) (by refine ⟨e18, ?_, ?_, trivial⟩ <;> first | (simp only [upd_apply, updH_apply, without_apply, d15, e18, e19, e20, d21, implies_true, Nat.reduceAdd, Nat.reduceMul, Nat.reduceEqDiff, Nat.reduceLeDiff, reduceIte, reduceCtorEq]; done) | (simp only [upd_apply, updH_apply, without_apply, d15, e18, e19, e20, d21, implies_true, Nat.reduceAdd, Nat.reduceMul, Nat.reduceEqDiff, Nat.reduceLeDiff, reduceIte, reduceCtorEq]; rfl) | rfl) ?_
            rintro tm ⟨e24, e25, e26, _⟩
            cases d27 : (r22)
            · simp only [d27, cond_true, cond_false, lbind_go, lbind_ret, lbind_brk, lbind_none, Option.bind_some, Option.bind_none, Bool.not_true, Bool.not_false, reduceCtorEq] at h
              simp only [vs, cwp_label, ng_normal, ng_ret, ng_exit, cr, tyf, d15, d21, e24, e25, e26, d27, implies_true, Nat.reduceAdd, Nat.reduceMul, Nat.reduceEqDiff, Nat.reduceLeDiff, reduceIte, reduceCtorEq]
              obtain rfl := kF _ h
              refine ret1 Tryz.results61 ?_ ?_
              · first | (simp only [outV, upd_apply, updH_apply, without_apply, showV_ref, cr, tyf, nrm, tynrm, d15, d21, e24, e25, e26, d27, implies_true, Nat.reduceAdd, Nat.reduceMul, Nat.reduceEqDiff, Nat.reduceLeDiff, reduceIte, reduceCtorEq]; done) | (simp only [outV, upd_apply, updH_apply, without_apply, showV_ref, cr, tyf, nrm, tynrm, d15, d21, e24, e25, e26, d27, implies_true, Nat.reduceAdd, Nat.reduceMul, Nat.reduceEqDiff, Nat.reduceLeDiff, reduceIte, reduceCtorEq]; rfl)
              · simp only [tre, tytre, Bool.and_self]
            · simp only [d27, cond_true, cond_false, lbind_go, lbind_ret, lbind_brk, lbind_none, Option.bind_some, Option.bind_none, Bool.not_true, Bool.not_false, reduceCtorEq] at h
              cases o29 : (g_limits_IsSpan 0 x0_s.Gap 20) with
              | none =>
                simp only [o29, cond_true, cond_false, lbind_go, lbind_ret, lbind_brk, lbind_none, Option.bind_some, Option.bind_none, Bool.not_true, Bool.not_false, reduceCtorEq] at h
                exact absurd h kN
              | some r28 =>
                simp only [o29, cond_true, cond_false, lbind_go, lbind_ret, lbind_brk, lbind_none, Option.bind_some, Option.bind_none, Bool.not_true, Bool.not_false, reduceCtorEq] at h
                simp only [vs, cwp_label, ng_normal, ng_ret, ng_exit, cr, tyf, d15, d21, e24, e25, e26, d27, implies_true, Nat.reduceAdd, Nat.reduceMul, Nat.reduceEqDiff, Nat.reduceLeDiff, reduceIte, reduceCtorEq]
                refine ktree (args0 := [.lit (.int .i64 0), .agg (cGSpan x0_s.Gap), .lit (.int .i64 20)]) (by first | (simp only [nrm, tynrm]; done) | (simp only [nrm, tynrm]; rfl) | rfl) (by simp only [tre, tytre, Bool.and_self]) (g_limits_IsSpan_ok _ _ _ _ o29) ?_
                refine fin_cut (fun tm => tm 1 = .ptr 0 0 ∧ tm 19 = .lit (.bool true) ∧ tm 22 = .lit (.bool r28) ∧ True) (by refine ⟨e24, ?_, ?_, trivial⟩ <;> first | (simp only [upd_apply, updH_apply, without_apply, d15, d21, e24, e25, e26, d27, implies_true, Nat.reduceAdd, Nat.reduceMul, Nat.reduceEqDiff, Nat.reduceLeDiff, reduceIte, reduceCtorEq]; done) | (simp only [upd_apply, updH_apply, without_apply, d15, d21, e24, e25, e26, d27, implies_true, Nat.reduceAdd, Nat.reduceMul, Nat.reduceEqDiff, Nat.reduceLeDiff, reduceIte, reduceCtorEq]; rfl) | rfl) ?_
                rintro tm ⟨e30, e31, e32, _⟩
                cases d33 : (r28)
                · simp only [d33, cond_true, cond_false, lbind_go, lbind_ret, lbind_brk, lbind_none, Option.bind_some, Option.bind_none, Bool.not_true, Bool.not_false, reduceCtorEq] at h
                  simp only [vs, cwp_label, ng_normal, ng_ret, ng_exit, cr, tyf, d15, d21, d27, e30, e31, e32, d33, implies_true, Nat.reduceAdd, Nat.reduceMul, Nat.reduceEqDiff, Nat.reduceLeDiff, reduceIte, reduceCtorEq]
                  obtain rfl := kF _ h
                  refine ret1 Tryz.results61 ?_ ?_
                  · first | (simp only [outV, upd_apply, updH_apply, without_apply, showV_ref, cr, tyf, nrm, tynrm, d15, d21, d27, e30, e31, e32, d33, implies_true, Nat.reduceAdd, Nat.reduceMul, Nat.reduceEqDiff, Nat.reduceLeDiff, reduceIte, reduceCtorEq]; done) | (simp only [outV, upd_apply, updH_apply, without_apply, showV_ref, cr, tyf, nrm, tynrm, d15, d21, d27, e30, e31, e32, d33, implies_true, Nat.reduceAdd, Nat.reduceMul, Nat.reduceEqDiff, Nat.reduceLeDiff, reduceIte, reduceCtorEq]; rfl)
                  · simp only [tre, tytre, Bool.and_self]
                · simp only [d33, cond_true, cond_false, lbind_go, lbind_ret, lbind_brk, lbind_none, Option.bind_some, Option.bind_none, Bool.not_true, Bool.not_false, reduceCtorEq] at h
                  cases o35 : (g_limits_IsFrom 1 x0_s.Hyphen 20) with
                  | none =>
                    simp only [o35, cond_true, cond_false, lbind_go, lbind_ret, lbind_brk, lbind_none, Option.bind_some, Option.bind_none, Bool.not_true, Bool.not_false, reduceCtorEq] at h
                    exact absurd h kN
                  | some r34 =>
                    simp only [o35, cond_true, cond_false, lbind_go, lbind_ret, lbind_brk, lbind_none, Option.bind_some, Option.bind_none, Bool.not_true, Bool.not_false, reduceCtorEq] at h
                    simp only [vs, cwp_label, ng_normal, ng_ret, ng_exit, cr, tyf, d15, d21, d27, e30, e31, e32, d33, implies_true, Nat.reduceAdd, Nat.reduceMul, Nat.reduceEqDiff, Nat.reduceLeDiff, reduceIte, reduceCtorEq]
                    refine ktree (args0 := [.lit (.int .i64 1), .lit (.int .i64 x0_s.Hyphen), .lit (.int .i64 20)]) (by first | (simp only [nrm, tynrm]; done) | (simp only [nrm, tynrm]; rfl) | rfl) (by simp only [tre, tytre, Bool.and_self]) (g_limits_IsFrom_ok _ _ _ _ o35) ?_
                    refine fin_cut (fun tm => tm 1 = .ptr 0 0 ∧ tm 24 = .lit (.bool true) ∧ tm 27 = .lit (.bool r34) ∧ True) (by refine ⟨e30, ?_, ?_, trivial⟩ <;> first | (simp only [upd_apply, updH_apply, without_apply, d15, d21, d27, e30, e31, e32, d33, implies_true, Nat.reduceAdd, Nat.reduceMul, Nat.reduceEqDiff, Nat.reduceLeDiff, reduceIte, reduceCtorEq]; done) | (simp only [upd_apply, updH_apply, without_apply, d15, d21, d27, e30, e31, e32, d33, implies_true, Nat.reduceAdd, Nat.reduceMul, Nat.reduceEqDiff, Nat.reduceLeDiff, reduceIte, reduceCtorEq]; rfl) | rfl) ?_
                    rintro tm ⟨e36, e37, e38, _⟩
                    cases d39 : (r34)
                    · simp only [d39, cond_true, cond_false, lbind_go, lbind_ret, lbind_brk, lbind_none, Option.bind_some, Option.bind_none, Bool.not_true, Bool.not_false, reduceCtorEq] at h
                      simp only [vs, cwp_label, ng_normal, ng_ret, ng_exit, cr, tyf, d15, d21, d27, d33, e36, e37, e38, d39, implies_true, Nat.reduceAdd, Nat.reduceMul, Nat.reduceEqDiff, Nat.reduceLeDiff, reduceIte, reduceCtorEq]
                      obtain rfl := kF _ h
                      refine ret1 Tryz.results61 ?_ ?_
                      · first | (simp only [outV, upd_apply, updH_apply, without_apply, showV_ref, cr, tyf, nrm, tynrm, d15, d21, d27, d33, e36, e37, e38, d39, implies_true, Nat.reduceAdd, Nat.reduceMul, Nat.reduceEqDiff, Nat.reduceLeDiff, reduceIte, reduceCtorEq]; done) | (simp only [outV, upd_apply, updH_apply, without_apply, showV_ref, cr, tyf, nrm, tynrm, d15, d21, d27, d33, e36, e37, e38, d39, implies_true, Nat.reduceAdd, Nat.reduceMul, Nat.reduceEqDiff, Nat.reduceLeDiff, reduceIte, reduceCtorEq]; rfl)
                      · simp only [tre, tytre, Bool.and_self]
                    · simp only [d39, cond_true, cond_false, lbind_go, lbind_ret, lbind_brk, lbind_none, Option.bind_some, Option.bind_none, Bool.not_true, Bool.not_false, reduceCtorEq] at h
                      cases o41 : (g_letter_areWords x0_s.Words (List.length x0_s.Widths : Int)) with
                      | none =>
                        simp only [o41, cond_true, cond_false, lbind_go, lbind_ret, lbind_brk, lbind_none, Option.bind_some, Option.bind_none, Bool.not_true, Bool.not_false, reduceCtorEq] at h
                        exact absurd h kN
                      | some r40 =>
                        simp only [o41, cond_true, cond_false, lbind_go, lbind_ret, lbind_brk, lbind_none, Option.bind_some, Option.bind_none, Bool.not_true, Bool.not_false, reduceCtorEq] at h
                        simp only [vs, cwp_label, ng_normal, ng_ret, ng_exit, cr, tyf, d15, d21, d27, d33, e36, e37, e38, d39, implies_true, Nat.reduceAdd, Nat.reduceMul, Nat.reduceEqDiff, Nat.reduceLeDiff, reduceIte, reduceCtorEq]
                        refine ktree (args0 := [.sl (cellsL cGLetterWord x0_s.Words) (List.length x0_s.Words) false, .lit (.int .i64 (List.length x0_s.Widths : Int))]) (by first | (simp only [nrm, tynrm]; done) | (simp only [nrm, tynrm]; rfl) | rfl) (by simp only [tre, tytre, Bool.and_self]) (g_letter_areWords_ok _ _ _ o41) ?_
                        refine fin_cut (fun tm => tm 1 = .ptr 0 0 ∧ tm 29 = .lit (.bool true) ∧ tm 35 = .lit (.bool r40) ∧ True) (by refine ⟨e36, ?_, ?_, trivial⟩ <;> first | (simp only [upd_apply, updH_apply, without_apply, d15, d21, d27, d33, e36, e37, e38, d39, implies_true, Nat.reduceAdd, Nat.reduceMul, Nat.reduceEqDiff, Nat.reduceLeDiff, reduceIte, reduceCtorEq]; done) | (simp only [upd_apply, updH_apply, without_apply, d15, d21, d27, d33, e36, e37, e38, d39, implies_true, Nat.reduceAdd, Nat.reduceMul, Nat.reduceEqDiff, Nat.reduceLeDiff, reduceIte, reduceCtorEq]; rfl) | rfl) ?_
                        rintro tm ⟨e42, e43, e44, _⟩
                        cases d45 : (r40)
                        · simp only [d45, cond_true, cond_false, lbind_go, lbind_ret, lbind_brk, lbind_none, Option.bind_some, Option.bind_none, Bool.not_true, Bool.not_false, reduceCtorEq] at h
                          simp only [vs, cwp_label, ng_normal, ng_ret, ng_exit, cr, tyf, d15, d21, d27, d33, d39, e42, e43, e44, d45, implies_true, Nat.reduceAdd, Nat.reduceMul, Nat.reduceEqDiff, Nat.reduceLeDiff, reduceIte, reduceCtorEq]
                          obtain rfl := kF _ h
                          refine ret1 Tryz.results61 ?_ ?_
                          · first | (simp only [outV, upd_apply, updH_apply, without_apply, showV_ref, cr, tyf, nrm, tynrm, d15, d21, d27, d33, d39, e42, e43, e44, d45, implies_true, Nat.reduceAdd, Nat.reduceMul, Nat.reduceEqDiff, Nat.reduceLeDiff, reduceIte, reduceCtorEq]; done) | (simp only [outV, upd_apply, updH_apply, without_apply, showV_ref, cr, tyf, nrm, tynrm, d15, d21, d27, d33, d39, e42, e43, e44, d45, implies_true, Nat.reduceAdd, Nat.reduceMul, Nat.reduceEqDiff, Nat.reduceLeDiff, reduceIte, reduceCtorEq]; rfl)
                          · simp only [tre, tytre, Bool.and_self]
                        · simp only [d45, cond_true, cond_false, lbind_go, lbind_ret, lbind_brk, lbind_none, Option.bind_some, Option.bind_none, Bool.not_true, Bool.not_false, reduceCtorEq] at h
                          cases o47 : (g_limits_IsFrom 1 x0_s.Wide 400) with
                          | none =>
                            simp only [o47, cond_true, cond_false, lbind_go, lbind_ret, lbind_brk, lbind_none, Option.bind_some, Option.bind_none, Bool.not_true, Bool.not_false, reduceCtorEq] at h
                            exact absurd h kN
                          | some r46 =>
                            simp only [o47, cond_true, cond_false, lbind_go, lbind_ret, lbind_brk, lbind_none, Option.bind_some, Option.bind_none, Bool.not_true, Bool.not_false, reduceCtorEq] at h
                            simp only [vs, cwp_label, ng_normal, ng_ret, ng_exit, cr, tyf, d15, d21, d27, d33, d39, e42, e43, e44, d45, implies_true, Nat.reduceAdd, Nat.reduceMul, Nat.reduceEqDiff, Nat.reduceLeDiff, reduceIte, reduceCtorEq]
                            refine ktree (args0 := [.lit (.int .i64 1), .lit (.int .i64 x0_s.Wide), .lit (.int .i64 400)]) (by first | (simp only [nrm, tynrm]; done) | (simp only [nrm, tynrm]; rfl) | rfl) (by simp only [tre, tytre, Bool.and_self]) (g_limits_IsFrom_ok _ _ _ _ o47) ?_
                            refine fin_cut (fun tm => tm 1 = .ptr 0 0 ∧ tm 37 = .lit (.bool true) ∧ tm 40 = .lit (.bool r46) ∧ True) (by refine ⟨e42, ?_, ?_, trivial⟩ <;> first | (simp only [upd_apply, updH_apply, without_apply, d15, d21, d27, d33, d39, e42, e43, e44, d45, implies_true, Nat.reduceAdd, Nat.reduceMul, Nat.reduceEqDiff, Nat.reduceLeDiff, reduceIte, reduceCtorEq]; done) | (simp only [upd_apply, updH_apply, without_apply, d15, d21, d27, d33, d39, e42, e43, e44, d45, implies_true, Nat.reduceAdd, Nat.reduceMul, Nat.reduceEqDiff, Nat.reduceLeDiff, reduceIte, reduceCtorEq]; rfl) | rfl) ?_
                            rintro tm ⟨e48, e49, e50, _⟩
                            cases d51 : (r46)
                            · simp only [d51, cond_true, cond_false, lbind_go, lbind_ret, lbind_brk, lbind_none, Option.bind_some, Option.bind_none, Bool.not_true, Bool.not_false, reduceCtorEq] at h
                              simp only [vs, cwp_label, ng_normal, ng_ret, ng_exit, cr, tyf, d15, d21, d27, d33, d39, d45, e48, e49, e50, d51, implies_true, Nat.reduceAdd, Nat.reduceMul, Nat.reduceEqDiff, Nat.reduceLeDiff, reduceIte, reduceCtorEq]
                              obtain rfl := kF _ h
                              refine ret1 Tryz.results61 ?_ ?_
                              · first | (simp only [outV, upd_apply, updH_apply, without_apply, showV_ref, cr, tyf, nrm, tynrm, d15, d21, d27, d33, d39, d45, e48, e49, e50, d51, implies_true, Nat.reduceAdd, Nat.reduceMul, Nat.reduceEqDiff, Nat.reduceLeDiff, reduceIte, reduceCtorEq]; done) | (simp only [outV, upd_apply, updH_apply, without_apply, showV_ref, cr, tyf, nrm, tynrm, d15, d21, d27, d33, d39, d45, e48, e49, e50, d51, implies_true, Nat.reduceAdd, Nat.reduceMul, Nat.reduceEqDiff, Nat.reduceLeDiff, reduceIte, reduceCtorEq]; rfl)
                              · simp only [tre, tytre, Bool.and_self]
                            · simp only [d51, cond_true, cond_false, lbind_go, lbind_ret, lbind_brk, lbind_none, Option.bind_some, Option.bind_none, Bool.not_true, Bool.not_false, reduceCtorEq] at h
                              cases o53 : (g_limits_IsFrom 1 x0_s.Rows 3) with
                              | none =>
                                simp only [o53, cond_true, cond_false, lbind_go, lbind_ret, lbind_brk, lbind_none, Option.bind_some, Option.bind_none, Bool.not_true, Bool.not_false, reduceCtorEq] at h
                                exact absurd h kN
                              | some r52 =>
                                simp only [o53, cond_true, cond_false, lbind_go, lbind_ret, lbind_brk, lbind_none, Option.bind_some, Option.bind_none, Bool.not_true, Bool.not_false, reduceCtorEq] at h
                                simp only [vs, cwp_label, ng_normal, ng_ret, ng_exit, cr, tyf, d15, d21, d27, d33, d39, d45, e48, e49, e50, d51, implies_true, Nat.reduceAdd, Nat.reduceMul, Nat.reduceEqDiff, Nat.reduceLeDiff, reduceIte, reduceCtorEq]
                                refine ktree (args0 := [.lit (.int .i64 1), .lit (.int .i64 x0_s.Rows), .lit (.int .i64 3)]) (by first | (simp only [nrm, tynrm]; done) | (simp only [nrm, tynrm]; rfl) | rfl) (by simp only [tre, tytre, Bool.and_self]) (g_limits_IsFrom_ok _ _ _ _ o53) ?_
                                refine fin_cut (fun tm => tm 42 = .lit (.bool true) ∧ tm 45 = .lit (.bool r52) ∧ True) (by refine ⟨?_, ?_, trivial⟩ <;> first | (simp only [upd_apply, updH_apply, without_apply, d15, d21, d27, d33, d39, d45, e48, e49, e50, d51, implies_true, Nat.reduceAdd, Nat.reduceMul, Nat.reduceEqDiff, Nat.reduceLeDiff, reduceIte, reduceCtorEq]; done) | (simp only [upd_apply, updH_apply, without_apply, d15, d21, d27, d33, d39, d45, e48, e49, e50, d51, implies_true, Nat.reduceAdd, Nat.reduceMul, Nat.reduceEqDiff, Nat.reduceLeDiff, reduceIte, reduceCtorEq]; rfl) | rfl) ?_
                                rintro tm ⟨e54, e55, _⟩
                                simp only [vs, cwp_label, ng_normal, ng_ret, ng_exit, cr, tyf, d15, d21, d27, d33, d39, d45, d51, e54, e55, implies_true, Nat.reduceAdd, Nat.reduceMul, Nat.reduceEqDiff, Nat.reduceLeDiff, reduceIte, reduceCtorEq]
                                obtain rfl := kF _ h
                                refine ret1 Tryz.results61 ?_ ?_
                                · first | (simp only [outV, upd_apply, updH_apply, without_apply, showV_ref, cr, tyf, nrm, tynrm, d15, d21, d27, d33, d39, d45, d51, e54, e55, implies_true, Nat.reduceAdd, Nat.reduceMul, Nat.reduceEqDiff, Nat.reduceLeDiff, reduceIte, reduceCtorEq]; done) | (simp only [outV, upd_apply, updH_apply, without_apply, showV_ref, cr, tyf, nrm, tynrm, d15, d21, d27, d33, d39, d45, d51, e54, e55, implies_true, Nat.reduceAdd, Nat.reduceMul, Nat.reduceEqDiff, Nat.reduceLeDiff, reduceIte, reduceCtorEq]; rfl)
                                · simp only [tre, tytre, Bool.and_self]

end Go.V
end
section
namespace Go.V
open Go Go.Proofs
set_option linter.unusedSimpArgs false
set_option linter.unusedVariables false
set_option maxRecDepth 4000
set_option maxHeartbeats 4000000
def g_ref01_in (x0_n : Int) (x1_low : Int) (x2_high : Int) : Option (Bool) := cond (decide (x0_n ≥ x1_low)) (some (decide (x0_n ≤ x2_high))) (some false)
theorem g_ref01_in_ok (x0_n : Int) (x1_low : Int) (x2_high : Int) (R : Bool) (h : g_ref01_in x0_n x1_low x2_high = some R) : VPure Tryz.prog G0 66 [.lit (.int .i64 x0_n), .lit (.int .i64 x1_low), .lit (.int .i64 x2_high)] (.tree (.lit (.bool R))) := by
  refine VPure.runT mixed Tryz.call66 Tryz.func66 rfl (by simp [Tryz.ntmps66]; kernel_rfl) ?_
  obtain ⟨KF, h, kF, kN⟩ := fun_intro h
  simp only [g_ref01_in] at h
  cases d1 : (decide (x0_n ≥ x1_low))
  · simp only [d1, cond_true, cond_false, lbind_go, lbind_ret, lbind_brk, lbind_none, Option.bind_some, Option.bind_none, Bool.not_true, Bool.not_false, reduceCtorEq] at h
    simp only [vs, cwp_label, ng_normal, ng_ret, ng_exit, cr, tyf, d1, implies_true, Nat.reduceAdd, Nat.reduceMul, Nat.reduceEqDiff, Nat.reduceLeDiff, reduceIte, reduceCtorEq]
    obtain rfl := kF _ h
    refine ret1 Tryz.results66 ?_ ?_
    · first | (simp only [outV, upd_apply, updH_apply, without_apply, showV_ref, cr, tyf, nrm, tynrm, d1, implies_true, Nat.reduceAdd, Nat.reduceMul, Nat.reduceEqDiff, Nat.reduceLeDiff, reduceIte, reduceCtorEq]; done) | (simp only [outV, upd_apply, updH_apply, without_apply, showV_ref, cr, tyf, nrm, tynrm, d1, implies_true, Nat.reduceAdd, Nat.reduceMul, Nat.reduceEqDiff, Nat.reduceLeDiff, reduceIte, reduceCtorEq]; rfl)
    · simp only [tre, tytre, Bool.and_self]
  · simp only [d1, cond_true, cond_false, lbind_go, lbind_ret, lbind_brk, lbind_none, Option.bind_some, Option.bind_none, Bool.not_true, Bool.not_false, reduceCtorEq] at h
    simp only [vs, cwp_label, ng_normal, ng_ret, ng_exit, cr, tyf, d1, implies_true, Nat.reduceAdd, Nat.reduceMul, Nat.reduceEqDiff, Nat.reduceLeDiff, reduceIte, reduceCtorEq]
    obtain rfl := kF _ h
    refine ret1 Tryz.results66 ?_ ?_
    · first | (simp only [outV, upd_apply, updH_apply, without_apply, showV_ref, cr, tyf, nrm, tynrm, d1, implies_true, Nat.reduceAdd, Nat.reduceMul, Nat.reduceEqDiff, Nat.reduceLeDiff, reduceIte, reduceCtorEq]; done) | (simp only [outV, upd_apply, updH_apply, without_apply, showV_ref, cr, tyf, nrm, tynrm, d1, implies_true, Nat.reduceAdd, Nat.reduceMul, Nat.reduceEqDiff, Nat.reduceLeDiff, reduceIte, reduceCtorEq]; rfl)
    · simp only [tre, tytre, Bool.and_self]

end Go.V
end
section
namespace Go.V
open Go Go.Proofs
set_option linter.unusedSimpArgs false
set_option linter.unusedVariables false
set_option maxRecDepth 4000
set_option maxHeartbeats 4000000
def g_ref01_span (x0_s : GSpan) (x1_most : Int) : Option (Bool) := Option.bind (g_ref01_in x0_s.Low 0 x1_most) (fun r2 => cond (r2) (Option.bind (g_ref01_in x0_s.High x0_s.Low x1_most) (fun r3 => some r3)) (some false))
theorem g_ref01_span_ok (x0_s : GSpan) (x1_most : Int) (R : Bool) (h : g_ref01_span x0_s x1_most = some R) : VPure Tryz.prog G0 69 [.agg (cGSpan x0_s), .lit (.int .i64 x1_most)] (.tree (.lit (.bool R))) := by
  refine VPure.runT mixed Tryz.call69 Tryz.func69 rfl (by simp [Tryz.ntmps69]; kernel_rfl) ?_
  obtain ⟨KF, h, kF, kN⟩ := fun_intro h
  simp only [g_ref01_span] at h
  cases o6 : (g_ref01_in x0_s.Low 0 x1_most) with
  | none =>
    simp only [o6, cond_true, cond_false, lbind_go, lbind_ret, lbind_brk, lbind_none, Option.bind_some, Option.bind_none, Bool.not_true, Bool.not_false, reduceCtorEq] at h
    exact absurd h kN
  | some r5 =>
    simp only [o6, cond_true, cond_false, lbind_go, lbind_ret, lbind_brk, lbind_none, Option.bind_some, Option.bind_none, Bool.not_true, Bool.not_false, reduceCtorEq] at h
    simp only [vs, cwp_label, ng_normal, ng_ret, ng_exit, cr, tyf, implies_true, Nat.reduceAdd, Nat.reduceMul, Nat.reduceEqDiff, Nat.reduceLeDiff, reduceIte, reduceCtorEq]
    refine ktree (args0 := [.lit (.int .i64 x0_s.Low), .lit (.int .i64 0), .lit (.int .i64 x1_most)]) (by first | (simp only [nrm, tynrm]; done) | (simp only [nrm, tynrm]; rfl) | rfl) (by simp only [tre, tytre, Bool.and_self]) (g_ref01_in_ok _ _ _ _ o6) ?_
    refine fin_cut (fun tm => tm 1 = .lit (.int .i64 x1_most) ∧ tm 2 = .ptr 0 0 ∧ tm 8 = .lit (.bool r5) ∧ True) (by refine ⟨?_, ?_, ?_, trivial⟩ <;> first | (simp only [upd_apply, updH_apply, without_apply, implies_true, Nat.reduceAdd, Nat.reduceMul, Nat.reduceEqDiff, Nat.reduceLeDiff, reduceIte, reduceCtorEq]; done) | (simp only [upd_apply, updH_apply, without_apply, implies_true, Nat.reduceAdd, Nat.reduceMul, Nat.reduceEqDiff, Nat.reduceLeDiff, reduceIte, reduceCtorEq]; rfl) | rfl) ?_
    rintro tm ⟨e7, e8, e9, _⟩
    cases d10 : (r5)
    · simp only [d10, cond_true, cond_false, lbind_go, lbind_ret, lbind_brk, lbind_none, Option.bind_some, Option.bind_none, Bool.not_true, Bool.not_false, reduceCtorEq] at h
      simp only [vs, cwp_label, ng_normal, ng_ret, ng_exit, cr, tyf, e7, e8, e9, d10, implies_true, Nat.reduceAdd, Nat.reduceMul, Nat.reduceEqDiff, Nat.reduceLeDiff, reduceIte, reduceCtorEq]
      obtain rfl := kF _ h
      refine ret1 Tryz.results69 ?_ ?_
      · first | (simp only [outV, upd_apply, updH_apply, without_apply, showV_ref, cr, tyf, nrm, tynrm, e7, e8, e9, d10, implies_true, Nat.reduceAdd, Nat.reduceMul, Nat.reduceEqDiff, Nat.reduceLeDiff, reduceIte, reduceCtorEq]; done) | (simp only [outV, upd_apply, updH_apply, without_apply, showV_ref, cr, tyf, nrm, tynrm, e7, e8, e9, d10, implies_true, Nat.reduceAdd, Nat.reduceMul, Nat.reduceEqDiff, Nat.reduceLeDiff, reduceIte, reduceCtorEq]; rfl)
      · simp only [tre, tytre, Bool.and_self]
    · simp only [d10, cond_true, cond_false, lbind_go, lbind_ret, lbind_brk, lbind_none, Option.bind_some, Option.bind_none, Bool.not_true, Bool.not_false, reduceCtorEq] at h
      cases o12 : (g_ref01_in x0_s.High x0_s.Low x1_most) with
      | none =>
        simp only [o12, cond_true, cond_false, lbind_go, lbind_ret, lbind_brk, lbind_none, Option.bind_some, Option.bind_none, Bool.not_true, Bool.not_false, reduceCtorEq] at h
        exact absurd h kN
      | some r11 =>
        simp only [o12, cond_true, cond_false, lbind_go, lbind_ret, lbind_brk, lbind_none, Option.bind_some, Option.bind_none, Bool.not_true, Bool.not_false, reduceCtorEq] at h
        simp only [vs, cwp_label, ng_normal, ng_ret, ng_exit, cr, tyf, e7, e8, e9, d10, implies_true, Nat.reduceAdd, Nat.reduceMul, Nat.reduceEqDiff, Nat.reduceLeDiff, reduceIte, reduceCtorEq]
        refine ktree (args0 := [.lit (.int .i64 x0_s.High), .lit (.int .i64 x0_s.Low), .lit (.int .i64 x1_most)]) (by first | (simp only [nrm, tynrm]; done) | (simp only [nrm, tynrm]; rfl) | rfl) (by simp only [tre, tytre, Bool.and_self]) (g_ref01_in_ok _ _ _ _ o12) ?_
        refine fin_cut (fun tm => tm 9 = .lit (.bool true) ∧ tm 15 = .lit (.bool r11) ∧ True) (by refine ⟨?_, ?_, trivial⟩ <;> first | (simp only [upd_apply, updH_apply, without_apply, e7, e8, e9, d10, implies_true, Nat.reduceAdd, Nat.reduceMul, Nat.reduceEqDiff, Nat.reduceLeDiff, reduceIte, reduceCtorEq]; done) | (simp only [upd_apply, updH_apply, without_apply, e7, e8, e9, d10, implies_true, Nat.reduceAdd, Nat.reduceMul, Nat.reduceEqDiff, Nat.reduceLeDiff, reduceIte, reduceCtorEq]; rfl) | rfl) ?_
        rintro tm ⟨e13, e14, _⟩
        simp only [vs, cwp_label, ng_normal, ng_ret, ng_exit, cr, tyf, d10, e13, e14, implies_true, Nat.reduceAdd, Nat.reduceMul, Nat.reduceEqDiff, Nat.reduceLeDiff, reduceIte, reduceCtorEq]
        obtain rfl := kF _ h
        refine ret1 Tryz.results69 ?_ ?_
        · first | (simp only [outV, upd_apply, updH_apply, without_apply, showV_ref, cr, tyf, nrm, tynrm, d10, e13, e14, implies_true, Nat.reduceAdd, Nat.reduceMul, Nat.reduceEqDiff, Nat.reduceLeDiff, reduceIte, reduceCtorEq]; done) | (simp only [outV, upd_apply, updH_apply, without_apply, showV_ref, cr, tyf, nrm, tynrm, d10, e13, e14, implies_true, Nat.reduceAdd, Nat.reduceMul, Nat.reduceEqDiff, Nat.reduceLeDiff, reduceIte, reduceCtorEq]; rfl)
        · simp only [tre, tytre, Bool.and_self]

end Go.V
end
section
namespace Go.V
open Go Go.Proofs
set_option linter.unusedSimpArgs false
set_option linter.unusedVariables false
set_option maxRecDepth 4000
set_option maxHeartbeats 4000000
def g_ref01_sign (x0_s : GLetterSheet) (x1_n : Int) : Option (Bool) := Option.bind (g_ref01_in x1_n 0 (IntKind.i64.wrap ((List.length x0_s.Widths : Int) - 1))) (fun r2 => some r2)
theorem g_ref01_sign_ok (x0_s : GLetterSheet) (x1_n : Int) (R : Bool) (h : g_ref01_sign x0_s x1_n = some R) : VPure Tryz.prog G0 117 [.agg (cGLetterSheet x0_s), .lit (.int .i64 x1_n)] (.tree (.lit (.bool R))) := by
  refine VPure.runT mixed Tryz.call117 Tryz.func117 rfl (by simp [Tryz.ntmps117]; kernel_rfl) ?_
  obtain ⟨KF, h, kF, kN⟩ := fun_intro h
  simp only [g_ref01_sign] at h
  cases o5 : (g_ref01_in x1_n 0 (IntKind.i64.wrap ((List.length x0_s.Widths : Int) - 1))) with
  | none =>
    simp only [o5, cond_true, cond_false, lbind_go, lbind_ret, lbind_brk, lbind_none, Option.bind_some, Option.bind_none, Bool.not_true, Bool.not_false, reduceCtorEq] at h
    exact absurd h kN
  | some r4 =>
    simp only [o5, cond_true, cond_false, lbind_go, lbind_ret, lbind_brk, lbind_none, Option.bind_some, Option.bind_none, Bool.not_true, Bool.not_false, reduceCtorEq] at h
    simp only [vs, cwp_label, ng_normal, ng_ret, ng_exit, cr, tyf, implies_true, Nat.reduceAdd, Nat.reduceMul, Nat.reduceEqDiff, Nat.reduceLeDiff, reduceIte, reduceCtorEq]
    refine ktree (args0 := [.lit (.int .i64 x1_n), .lit (.int .i64 0), .lit (.int .i64 (IntKind.i64.wrap ((List.length x0_s.Widths : Int) - 1)))]) (by first | (simp only [nrm, tynrm]; done) | (simp only [nrm, tynrm]; rfl) | rfl) (by simp only [tre, tytre, Bool.and_self]) (g_ref01_in_ok _ _ _ _ o5) ?_
    refine fin_cut (fun tm => tm 10 = .lit (.bool r4) ∧ True) (by refine ⟨?_, trivial⟩ <;> first | (simp only [upd_apply, updH_apply, without_apply, implies_true, Nat.reduceAdd, Nat.reduceMul, Nat.reduceEqDiff, Nat.reduceLeDiff, reduceIte, reduceCtorEq]; done) | (simp only [upd_apply, updH_apply, without_apply, implies_true, Nat.reduceAdd, Nat.reduceMul, Nat.reduceEqDiff, Nat.reduceLeDiff, reduceIte, reduceCtorEq]; rfl) | rfl) ?_
    rintro tm ⟨e6, _⟩
    simp only [vs, cwp_label, ng_normal, ng_ret, ng_exit, cr, tyf, e6, implies_true, Nat.reduceAdd, Nat.reduceMul, Nat.reduceEqDiff, Nat.reduceLeDiff, reduceIte, reduceCtorEq]
    obtain rfl := kF _ h
    refine ret1 Tryz.results117 ?_ ?_
    · first | (simp only [outV, upd_apply, updH_apply, without_apply, showV_ref, cr, tyf, nrm, tynrm, e6, implies_true, Nat.reduceAdd, Nat.reduceMul, Nat.reduceEqDiff, Nat.reduceLeDiff, reduceIte, reduceCtorEq]; done) | (simp only [outV, upd_apply, updH_apply, without_apply, showV_ref, cr, tyf, nrm, tynrm, e6, implies_true, Nat.reduceAdd, Nat.reduceMul, Nat.reduceEqDiff, Nat.reduceLeDiff, reduceIte, reduceCtorEq]; rfl)
    · simp only [tre, tytre, Bool.and_self]

end Go.V
end
section
namespace Go.V
open Go Go.Proofs
set_option linter.unusedSimpArgs false
set_option linter.unusedVariables false
set_option maxRecDepth 4000
set_option maxHeartbeats 4000000
def g_ref01_word_l1 (x1_w : GLetterWord) : List Int → Int → Option (LOut (Bool) (Unit))
  | [], c1_6 => some (.go ())
  | e1 :: p1, c1_6 => Option.bind (g_ref01_in e1 1 (IntKind.i64.wrap ((List.length x1_w.Signs : Int) - 1))) (fun r5 => cond (r5) (cond (decide (c1_6 > 0)) (Option.bind (getI x1_w.Cuts (IntKind.i64.wrap (c1_6 - 1))) (fun x6 => cond (decide (e1 ≤ x6)) (some (.ret false)) (g_ref01_word_l1 x1_w p1 (c1_6 + 1)))) (g_ref01_word_l1 x1_w p1 (c1_6 + 1))) (some (.ret false)))
def g_ref01_word_l0 (x0_s : GLetterSheet) : List Int → Int → Option (LOut (Bool) (Unit))
  | [], c0_5 => some (.go ())
  | e0 :: p0, c0_5 => Option.bind (g_ref01_sign x0_s e0) (fun r3 => cond (r3) (g_ref01_word_l0 x0_s p0 (c0_5 + 1)) (some (.ret false)))
def g_ref01_word (x0_s : GLetterSheet) (x1_w : GLetterWord) : Option (Bool) := cond (lenOk x1_w.Signs) (lbind (g_ref01_word_l0 x0_s x1_w.Signs 0) (fun r => some r) (fun c4 => cond (lenOk x1_w.Cuts) (lbind (g_ref01_word_l1 x1_w x1_w.Cuts 0) (fun r => some r) (fun c7 => Option.bind (g_ref01_in (List.length x1_w.Signs : Int) 1 6) (fun r8 => some r8)) (fun _ _ => none)) none) (fun _ _ => none)) none
theorem g_ref01_word_ok (x0_s : GLetterSheet) (x1_w : GLetterWord) (R : Bool) (h : g_ref01_word x0_s x1_w = some R) : VPure Tryz.prog G0 67 [.agg (cGLetterSheet x0_s), .agg (cGLetterWord x1_w)] (.tree (.lit (.bool R))) := by
  refine VPure.runT mixed Tryz.call67 Tryz.func67 rfl (by simp [Tryz.ntmps67]; kernel_rfl) ?_
  obtain ⟨KF, h, kF, kN⟩ := fun_intro h
  simp only [g_ref01_word] at h
  cases g12 : (lenOk x1_w.Signs)
  · simp only [g12, cond_true, cond_false, lbind_go, lbind_ret, lbind_brk, lbind_none, Option.bind_some, Option.bind_none, Bool.not_true, Bool.not_false, reduceCtorEq] at h
    exact absurd h kN
  simp only [g12, cond_true, cond_false, lbind_go, lbind_ret, lbind_brk, lbind_none, Option.bind_some, Option.bind_none, Bool.not_true, Bool.not_false, reduceCtorEq] at h
  simp only [vs, cwp_label, ng_normal, ng_ret, ng_exit, cr, tyf, g12, implies_true, Nat.reduceAdd, Nat.reduceMul, Nat.reduceEqDiff, Nat.reduceLeDiff, reduceIte, reduceCtorEq]
  obtain ⟨K11, h, kR11, kG11, kB11, kN11⟩ := lbind_intro h kN
  obtain ⟨f11, hf11, h⟩ := call2 h
  obtain ⟨I11, hI11⟩ : ∃ I : Nat → St → Prop, I = (fun m st => ∃ (p11 : List Int) (c11_5 : Int), m = List.length p11 ∧ 0 ≤ c11_5 ∧ List.drop (Int.toNat c11_5) x1_w.Signs = p11 ∧ st.df = [] ∧ 2 ≤ st.nx ∧ st.H 1 = some (.cells (some 79) (cGLetterWord x1_w)) ∧ st.H 0 = some (.cells (some 28) (cGLetterSheet x0_s)) ∧ st.tm 2 = .ptr 0 0 ∧ st.tm 3 = .ptr 1 0 ∧ st.tm 5 = .lit (.int .i64 c11_5) ∧ K11 (f11 p11 c11_5)) := ⟨_, rfl⟩
  refine loopK mixed (by kernel_rfl) I11 (List.length x1_w.Signs) (by rw [hI11]; refine ⟨x1_w.Signs, 0, rfl, Int.le_refl _, rfl, rfl, (show 2 ≤ 4 by decide), ?_, ?_, ?_, ?_, ?_, h⟩ <;> first | (simp only [upd_apply, updH_apply, without_apply, implies_true, Nat.reduceAdd, Nat.reduceMul, Nat.reduceEqDiff, Nat.reduceLeDiff, reduceIte, reduceCtorEq]; done) | (simp only [upd_apply, updH_apply, without_apply, implies_true, Nat.reduceAdd, Nat.reduceMul, Nat.reduceEqDiff, Nat.reduceLeDiff, reduceIte, reduceCtorEq]; rfl) | rfl) ?_
  rintro m ⟨tm, H, nx, df⟩ hinv
  rw [hI11] at hinv
  obtain ⟨p11, c11_5, rfl, hi11, hp11, hdf, hn11, H16, H17, e13, e14, e15, h⟩ := hinv
  simp only at hdf hn11 H16 H17 e13 e14 e15
  have q18 := fresh_ne (n := 1) (B := 2) (by decide) hn11
  have q19 := fresh_ne (n := 0) (B := 2) (by decide) hn11
  subst hdf hf11
  cases p11 with
  | nil =>
    have d20 : (decide (c11_5 < (List.length x1_w.Signs : Int))) = false := not_lt_of_drop hi11 hp11
    simp only [g_ref01_word_l0, cond_true, cond_false, lbind_go, lbind_ret, lbind_brk, lbind_none, Option.bind_some, Option.bind_none, Bool.not_true, Bool.not_false, reduceCtorEq] at h
    replace h := kG11 _ h
    try dsimp only at h
    try simp only [cond_true, cond_false, lbind_go, lbind_ret, lbind_brk, lbind_none, Option.bind_some, Option.bind_none, Bool.not_true, Bool.not_false] at h
    cases g22 : (lenOk x1_w.Cuts)
    · simp only [g22, cond_true, cond_false, lbind_go, lbind_ret, lbind_brk, lbind_none, Option.bind_some, Option.bind_none, Bool.not_true, Bool.not_false, reduceCtorEq] at h
      exact absurd h kN
    simp only [g22, cond_true, cond_false, lbind_go, lbind_ret, lbind_brk, lbind_none, Option.bind_some, Option.bind_none, Bool.not_true, Bool.not_false, reduceCtorEq] at h
    simp only [vs, cwp_label, ng_normal, ng_ret, ng_exit, cr, tyf, g12, e13, e14, e15, H16, H17, q18, q19, d20, g22, implies_true, Nat.reduceAdd, Nat.reduceMul, Nat.reduceEqDiff, Nat.reduceLeDiff, reduceIte, reduceCtorEq]
    obtain ⟨K21, h, kR21, kG21, kB21, kN21⟩ := lbind_intro h kN
    obtain ⟨f21, hf21, h⟩ := call2 h
    obtain ⟨I21, hI21⟩ : ∃ I : Nat → St → Prop, I = (fun m st => ∃ (p21 : List Int) (c21_6 : Int), m = List.length p21 ∧ 0 ≤ c21_6 ∧ List.drop (Int.toNat c21_6) x1_w.Cuts = p21 ∧ st.df = [] ∧ 2 ≤ st.nx ∧ st.H 1 = some (.cells (some 79) (cGLetterWord x1_w)) ∧ st.tm 3 = .ptr 1 0 ∧ st.tm 6 = .lit (.int .i64 c21_6) ∧ K21 (f21 p21 c21_6)) := ⟨_, rfl⟩
    refine loopK mixed (by kernel_rfl) I21 (List.length x1_w.Cuts) (by rw [hI21]; refine ⟨x1_w.Cuts, 0, rfl, Int.le_refl _, rfl, rfl, (show 2 ≤ nx + 6 by omega), ?_, e14, ?_, h⟩ <;> first | (simp only [upd_apply, updH_apply, without_apply, e13, e14, e15, H16, H17, q18, q19, d20, implies_true, Nat.reduceAdd, Nat.reduceMul, Nat.reduceEqDiff, Nat.reduceLeDiff, reduceIte, reduceCtorEq]; done) | (simp only [upd_apply, updH_apply, without_apply, e13, e14, e15, H16, H17, q18, q19, d20, implies_true, Nat.reduceAdd, Nat.reduceMul, Nat.reduceEqDiff, Nat.reduceLeDiff, reduceIte, reduceCtorEq]; rfl) | rfl) ?_
    rintro m ⟨tm, H, nx, df⟩ hinv
    rw [hI21] at hinv
    obtain ⟨p21, c21_6, rfl, hi21, hp21, hdf, hn21, H25, e23, e24, h⟩ := hinv
    simp only at hdf hn21 H25 e23 e24
    have q26 := fresh_ne (n := 1) (B := 2) (by decide) hn21
    subst hdf hf21
    cases p21 with
    | nil =>
      have d27 : (decide (c21_6 < (List.length x1_w.Cuts : Int))) = false := not_lt_of_drop hi21 hp21
      simp only [g_ref01_word_l1, cond_true, cond_false, lbind_go, lbind_ret, lbind_brk, lbind_none, Option.bind_some, Option.bind_none, Bool.not_true, Bool.not_false, reduceCtorEq] at h
      replace h := kG21 _ h
      try dsimp only at h
      try simp only [cond_true, cond_false, lbind_go, lbind_ret, lbind_brk, lbind_none, Option.bind_some, Option.bind_none, Bool.not_true, Bool.not_false] at h
      cases o29 : (g_ref01_in (List.length x1_w.Signs : Int) 1 6) with
      | none =>
        simp only [o29, cond_true, cond_false, lbind_go, lbind_ret, lbind_brk, lbind_none, Option.bind_some, Option.bind_none, Bool.not_true, Bool.not_false, reduceCtorEq] at h
        exact absurd h kN
      | some r28 =>
        simp only [o29, cond_true, cond_false, lbind_go, lbind_ret, lbind_brk, lbind_none, Option.bind_some, Option.bind_none, Bool.not_true, Bool.not_false, reduceCtorEq] at h
        simp only [vs, cwp_label, ng_normal, ng_ret, ng_exit, cr, tyf, g12, d20, g22, e23, e24, H25, q26, d27, implies_true, Nat.reduceAdd, Nat.reduceMul, Nat.reduceEqDiff, Nat.reduceLeDiff, reduceIte, reduceCtorEq]
        refine ktree (args0 := [.lit (.int .i64 (List.length x1_w.Signs : Int)), .lit (.int .i64 1), .lit (.int .i64 6)]) (by first | (simp only [nrm, tynrm]; done) | (simp only [nrm, tynrm]; rfl) | rfl) (by simp only [tre, tytre, Bool.and_self]) (g_ref01_in_ok _ _ _ _ o29) ?_
        refine fin_cut (fun tm => tm 61 = .lit (.bool r28) ∧ True) (by refine ⟨?_, trivial⟩ <;> first | (simp only [upd_apply, updH_apply, without_apply, d20, e23, e24, H25, q26, d27, implies_true, Nat.reduceAdd, Nat.reduceMul, Nat.reduceEqDiff, Nat.reduceLeDiff, reduceIte, reduceCtorEq]; done) | (simp only [upd_apply, updH_apply, without_apply, d20, e23, e24, H25, q26, d27, implies_true, Nat.reduceAdd, Nat.reduceMul, Nat.reduceEqDiff, Nat.reduceLeDiff, reduceIte, reduceCtorEq]; rfl) | rfl) ?_
        rintro tm ⟨e30, _⟩
        simp only [vs, cwp_label, ng_normal, ng_ret, ng_exit, cr, tyf, g12, d20, g22, H25, q26, d27, e30, implies_true, Nat.reduceAdd, Nat.reduceMul, Nat.reduceEqDiff, Nat.reduceLeDiff, reduceIte, reduceCtorEq]
        obtain rfl := kF _ h
        refine ret1 Tryz.results67 ?_ ?_
        · first | (simp only [outV, upd_apply, updH_apply, without_apply, showV_ref, cr, tyf, nrm, tynrm, g12, d20, g22, H25, q26, d27, e30, implies_true, Nat.reduceAdd, Nat.reduceMul, Nat.reduceEqDiff, Nat.reduceLeDiff, reduceIte, reduceCtorEq]; done) | (simp only [outV, upd_apply, updH_apply, without_apply, showV_ref, cr, tyf, nrm, tynrm, g12, d20, g22, H25, q26, d27, e30, implies_true, Nat.reduceAdd, Nat.reduceMul, Nat.reduceEqDiff, Nat.reduceLeDiff, reduceIte, reduceCtorEq]; rfl)
        · simp only [tre, tytre, Bool.and_self]
    | cons e21 p21 =>
      have d31 : (decide (c21_6 < (List.length x1_w.Cuts : Int))) = true := lt_of_drop hi21 hp21
      have o33 := getI_of_drop hi21 hp21
      have w32 := wrap_next hi21 hp21 g22
      simp only [g_ref01_word_l1, cond_true, cond_false, lbind_go, lbind_ret, lbind_brk, lbind_none, Option.bind_some, Option.bind_none, Bool.not_true, Bool.not_false, reduceCtorEq] at h
      simp only [vs, cwp_label, ng_normal, ng_ret, ng_exit, cr, tyf, g12, d20, g22, e23, e24, H25, q26, d31, (ix22 o33), w32, implies_true, Nat.reduceAdd, Nat.reduceMul, Nat.reduceEqDiff, Nat.reduceLeDiff, reduceIte, reduceCtorEq]
      refine cwp_drwQF (fun tm => tm 3 = .ptr 1 0 ∧ tm 6 = .lit (.int .i64 c21_6) ∧ True) (by refine ⟨e23, e24, trivial⟩ <;> first | (simp only [upd_apply, updH_apply, without_apply, d20, e23, e24, H25, q26, d31, w32, implies_true, Nat.reduceAdd, Nat.reduceMul, Nat.reduceEqDiff, Nat.reduceLeDiff, reduceIte, reduceCtorEq]; done) | (simp only [upd_apply, updH_apply, without_apply, d20, e23, e24, H25, q26, d31, w32, implies_true, Nat.reduceAdd, Nat.reduceMul, Nat.reduceEqDiff, Nat.reduceLeDiff, reduceIte, reduceCtorEq]; rfl) | rfl) ?_
      rintro tm ⟨e34, e35, _⟩
      cases o37 : (g_ref01_in e21 1 (IntKind.i64.wrap ((List.length x1_w.Signs : Int) - 1))) with
      | none =>
        simp only [o37, cond_true, cond_false, lbind_go, lbind_ret, lbind_brk, lbind_none, Option.bind_some, Option.bind_none, Bool.not_true, Bool.not_false, reduceCtorEq] at h
        exact absurd h kN21
      | some r36 =>
        simp only [o37, cond_true, cond_false, lbind_go, lbind_ret, lbind_brk, lbind_none, Option.bind_some, Option.bind_none, Bool.not_true, Bool.not_false, reduceCtorEq] at h
        simp only [vs, cwp_label, ng_normal, ng_ret, ng_exit, cr, tyf, g12, d20, g22, H25, q26, d31, (ix22 o33), w32, e34, e35, implies_true, Nat.reduceAdd, Nat.reduceMul, Nat.reduceEqDiff, Nat.reduceLeDiff, reduceIte, reduceCtorEq]
        refine dktree (args0 := [.lit (.int .i64 e21), .lit (.int .i64 1), .lit (.int .i64 (IntKind.i64.wrap ((List.length x1_w.Signs : Int) - 1)))]) (by first | (simp only [nrm, tynrm]; done) | (simp only [nrm, tynrm]; rfl) | rfl) (by simp only [tre, tytre, Bool.and_self]) (g_ref01_in_ok _ _ _ _ o37) ?_
        refine fin_cut (fun tm => tm 3 = .ptr 1 0 ∧ tm 6 = .lit (.int .i64 c21_6) ∧ tm 38 = .lit (.bool r36) ∧ True) (by refine ⟨e34, e35, ?_, trivial⟩ <;> first | (simp only [upd_apply, updH_apply, without_apply, d20, H25, q26, d31, w32, e34, e35, implies_true, Nat.reduceAdd, Nat.reduceMul, Nat.reduceEqDiff, Nat.reduceLeDiff, reduceIte, reduceCtorEq]; done) | (simp only [upd_apply, updH_apply, without_apply, d20, H25, q26, d31, w32, e34, e35, implies_true, Nat.reduceAdd, Nat.reduceMul, Nat.reduceEqDiff, Nat.reduceLeDiff, reduceIte, reduceCtorEq]; rfl) | rfl) ?_
        rintro tm ⟨e38, e39, e40, _⟩
        cases d41 : (r36)
        · simp only [d41, cond_true, cond_false, lbind_go, lbind_ret, lbind_brk, lbind_none, Option.bind_some, Option.bind_none, Bool.not_true, Bool.not_false, reduceCtorEq] at h
          simp only [vs, cwp_label, ng_normal, ng_ret, ng_exit, cr, tyf, g12, d20, g22, H25, q26, d31, (ix22 o33), w32, e38, e39, e40, d41, implies_true, Nat.reduceAdd, Nat.reduceMul, Nat.reduceEqDiff, Nat.reduceLeDiff, reduceIte, reduceCtorEq]
          replace h := kR21 _ h
          try dsimp only at h
          obtain rfl := kF _ h
          refine ret1 Tryz.results67 ?_ ?_
          · first | (simp only [outV, upd_apply, updH_apply, without_apply, showV_ref, cr, tyf, nrm, tynrm, g12, d20, g22, H25, q26, d31, (ix22 o33), w32, e38, e39, e40, d41, implies_true, Nat.reduceAdd, Nat.reduceMul, Nat.reduceEqDiff, Nat.reduceLeDiff, reduceIte, reduceCtorEq]; done) | (simp only [outV, upd_apply, updH_apply, without_apply, showV_ref, cr, tyf, nrm, tynrm, g12, d20, g22, H25, q26, d31, (ix22 o33), w32, e38, e39, e40, d41, implies_true, Nat.reduceAdd, Nat.reduceMul, Nat.reduceEqDiff, Nat.reduceLeDiff, reduceIte, reduceCtorEq]; rfl)
          · simp only [tre, tytre, Bool.and_self]
        · simp only [d41, cond_true, cond_false, lbind_go, lbind_ret, lbind_brk, lbind_none, Option.bind_some, Option.bind_none, Bool.not_true, Bool.not_false, reduceCtorEq] at h
          cases d42 : (decide (c21_6 > 0))
          · simp only [d42, cond_true, cond_false, lbind_go, lbind_ret, lbind_brk, lbind_none, Option.bind_some, Option.bind_none, Bool.not_true, Bool.not_false, reduceCtorEq] at h
            simp only [vs, cwp_label, ng_normal, ng_ret, ng_exit, cr, tyf, g12, d20, g22, H25, q26, d31, (ix22 o33), w32, e38, e39, e40, d41, d42, implies_true, Nat.reduceAdd, Nat.reduceMul, Nat.reduceEqDiff, Nat.reduceLeDiff, reduceIte, reduceCtorEq]
            exact ⟨List.length p21, Nat.lt_succ_self _, by rw [hI21]; refine ⟨p21, c21_6 + 1, rfl, Int.le_trans hi21 (Int.le_add_one (Int.le_refl _)), drop_next hi21 hp21, rfl, (show 2 ≤ nx + 37 by omega), ?_, e38, ?_, h⟩ <;> first | (simp only [upd_apply, updH_apply, without_apply, d20, H25, q26, d31, w32, e38, e39, e40, d41, d42, implies_true, Nat.reduceAdd, Nat.reduceMul, Nat.reduceEqDiff, Nat.reduceLeDiff, reduceIte, reduceCtorEq]; done) | (simp only [upd_apply, updH_apply, without_apply, d20, H25, q26, d31, w32, e38, e39, e40, d41, d42, implies_true, Nat.reduceAdd, Nat.reduceMul, Nat.reduceEqDiff, Nat.reduceLeDiff, reduceIte, reduceCtorEq]; rfl) | rfl⟩
          · simp only [d42, cond_true, cond_false, lbind_go, lbind_ret, lbind_brk, lbind_none, Option.bind_some, Option.bind_none, Bool.not_true, Bool.not_false, reduceCtorEq] at h
            cases o44 : (getI x1_w.Cuts (IntKind.i64.wrap (c21_6 - 1))) with
            | none =>
              simp only [o44, cond_true, cond_false, lbind_go, lbind_ret, lbind_brk, lbind_none, Option.bind_some, Option.bind_none, Bool.not_true, Bool.not_false, reduceCtorEq] at h
              exact absurd h kN21
            | some x43 =>
              simp only [o44, cond_true, cond_false, lbind_go, lbind_ret, lbind_brk, lbind_none, Option.bind_some, Option.bind_none, Bool.not_true, Bool.not_false, reduceCtorEq] at h
              cases d45 : (decide (e21 ≤ x43))
              · simp only [d45, cond_true, cond_false, lbind_go, lbind_ret, lbind_brk, lbind_none, Option.bind_some, Option.bind_none, Bool.not_true, Bool.not_false, reduceCtorEq] at h
                simp only [vs, cwp_label, ng_normal, ng_ret, ng_exit, cr, tyf, g12, d20, g22, H25, q26, d31, (ix22 o33), w32, e38, e39, e40, d41, d42, (ix22 o44), d45, implies_true, Nat.reduceAdd, Nat.reduceMul, Nat.reduceEqDiff, Nat.reduceLeDiff, reduceIte, reduceCtorEq]
                exact ⟨List.length p21, Nat.lt_succ_self _, by rw [hI21]; refine ⟨p21, c21_6 + 1, rfl, Int.le_trans hi21 (Int.le_add_one (Int.le_refl _)), drop_next hi21 hp21, rfl, (show 2 ≤ nx + 37 by omega), ?_, e38, ?_, h⟩ <;> first | (simp only [upd_apply, updH_apply, without_apply, d20, H25, q26, d31, w32, e38, e39, e40, d41, d42, d45, implies_true, Nat.reduceAdd, Nat.reduceMul, Nat.reduceEqDiff, Nat.reduceLeDiff, reduceIte, reduceCtorEq]; done) | (simp only [upd_apply, updH_apply, without_apply, d20, H25, q26, d31, w32, e38, e39, e40, d41, d42, d45, implies_true, Nat.reduceAdd, Nat.reduceMul, Nat.reduceEqDiff, Nat.reduceLeDiff, reduceIte, reduceCtorEq]; rfl) | rfl⟩
              · simp only [d45, cond_true, cond_false, lbind_go, lbind_ret, lbind_brk, lbind_none, Option.bind_some, Option.bind_none, Bool.not_true, Bool.not_false, reduceCtorEq] at h
                simp only [vs, cwp_label, ng_normal, ng_ret, ng_exit, cr, tyf, g12, d20, g22, H25, q26, d31, (ix22 o33), w32, e38, e39, e40, d41, d42, (ix22 o44), d45, implies_true, Nat.reduceAdd, Nat.reduceMul, Nat.reduceEqDiff, Nat.reduceLeDiff, reduceIte, reduceCtorEq]
                replace h := kR21 _ h
                try dsimp only at h
                obtain rfl := kF _ h
                refine ret1 Tryz.results67 ?_ ?_
                · first | (simp only [outV, upd_apply, updH_apply, without_apply, showV_ref, cr, tyf, nrm, tynrm, g12, d20, g22, H25, q26, d31, (ix22 o33), w32, e38, e39, e40, d41, d42, (ix22 o44), d45, implies_true, Nat.reduceAdd, Nat.reduceMul, Nat.reduceEqDiff, Nat.reduceLeDiff, reduceIte, reduceCtorEq]; done) | (simp only [outV, upd_apply, updH_apply, without_apply, showV_ref, cr, tyf, nrm, tynrm, g12, d20, g22, H25, q26, d31, (ix22 o33), w32, e38, e39, e40, d41, d42, (ix22 o44), d45, implies_true, Nat.reduceAdd, Nat.reduceMul, Nat.reduceEqDiff, Nat.reduceLeDiff, reduceIte, reduceCtorEq]; rfl)
                · simp only [tre, tytre, Bool.and_self]
  | cons e11 p11 =>
    have d46 : (decide (c11_5 < (List.length x1_w.Signs : Int))) = true := lt_of_drop hi11 hp11
    have o48 := getI_of_drop hi11 hp11
    have w47 := wrap_next hi11 hp11 g12
    simp only [g_ref01_word_l0, cond_true, cond_false, lbind_go, lbind_ret, lbind_brk, lbind_none, Option.bind_some, Option.bind_none, Bool.not_true, Bool.not_false, reduceCtorEq] at h
    simp only [vs, cwp_label, ng_normal, ng_ret, ng_exit, cr, tyf, g12, e13, e14, e15, H16, H17, q18, q19, d46, (ix22 o48), w47, implies_true, Nat.reduceAdd, Nat.reduceMul, Nat.reduceEqDiff, Nat.reduceLeDiff, reduceIte, reduceCtorEq]
    refine cwp_drwQF (fun tm => tm 2 = .ptr 0 0 ∧ tm 3 = .ptr 1 0 ∧ tm 5 = .lit (.int .i64 c11_5) ∧ True) (by refine ⟨e13, e14, e15, trivial⟩ <;> first | (simp only [upd_apply, updH_apply, without_apply, e13, e14, e15, H16, H17, q18, q19, d46, w47, implies_true, Nat.reduceAdd, Nat.reduceMul, Nat.reduceEqDiff, Nat.reduceLeDiff, reduceIte, reduceCtorEq]; done) | (simp only [upd_apply, updH_apply, without_apply, e13, e14, e15, H16, H17, q18, q19, d46, w47, implies_true, Nat.reduceAdd, Nat.reduceMul, Nat.reduceEqDiff, Nat.reduceLeDiff, reduceIte, reduceCtorEq]; rfl) | rfl) ?_
    rintro tm ⟨e49, e50, e51, _⟩
    cases o53 : (g_ref01_sign x0_s e11) with
    | none =>
      simp only [o53, cond_true, cond_false, lbind_go, lbind_ret, lbind_brk, lbind_none, Option.bind_some, Option.bind_none, Bool.not_true, Bool.not_false, reduceCtorEq] at h
      exact absurd h kN11
    | some r52 =>
      simp only [o53, cond_true, cond_false, lbind_go, lbind_ret, lbind_brk, lbind_none, Option.bind_some, Option.bind_none, Bool.not_true, Bool.not_false, reduceCtorEq] at h
      simp only [vs, cwp_label, ng_normal, ng_ret, ng_exit, cr, tyf, g12, H16, H17, q18, q19, d46, (ix22 o48), w47, e49, e50, e51, implies_true, Nat.reduceAdd, Nat.reduceMul, Nat.reduceEqDiff, Nat.reduceLeDiff, reduceIte, reduceCtorEq]
      refine dktree (args0 := [.agg (cGLetterSheet x0_s), .lit (.int .i64 e11)]) (by first | (simp only [nrm, tynrm]; done) | (simp only [nrm, tynrm]; rfl) | rfl) (by simp only [tre, tytre, Bool.and_self]) (g_ref01_sign_ok _ _ _ o53) ?_
      refine fin_cut (fun tm => tm 2 = .ptr 0 0 ∧ tm 3 = .ptr 1 0 ∧ tm 5 = .lit (.int .i64 c11_5) ∧ tm 20 = .lit (.bool r52) ∧ True) (by refine ⟨e49, e50, e51, ?_, trivial⟩ <;> first | (simp only [upd_apply, updH_apply, without_apply, H16, H17, q18, q19, d46, w47, e49, e50, e51, implies_true, Nat.reduceAdd, Nat.reduceMul, Nat.reduceEqDiff, Nat.reduceLeDiff, reduceIte, reduceCtorEq]; done) | (simp only [upd_apply, updH_apply, without_apply, H16, H17, q18, q19, d46, w47, e49, e50, e51, implies_true, Nat.reduceAdd, Nat.reduceMul, Nat.reduceEqDiff, Nat.reduceLeDiff, reduceIte, reduceCtorEq]; rfl) | rfl) ?_
      rintro tm ⟨e54, e55, e56, e57, _⟩
      cases d58 : (r52)
      · simp only [d58, cond_true, cond_false, lbind_go, lbind_ret, lbind_brk, lbind_none, Option.bind_some, Option.bind_none, Bool.not_true, Bool.not_false, reduceCtorEq] at h
        simp only [vs, cwp_label, ng_normal, ng_ret, ng_exit, cr, tyf, g12, H16, H17, q18, q19, d46, (ix22 o48), w47, e54, e55, e56, e57, d58, implies_true, Nat.reduceAdd, Nat.reduceMul, Nat.reduceEqDiff, Nat.reduceLeDiff, reduceIte, reduceCtorEq]
        replace h := kR11 _ h
        try dsimp only at h
        obtain rfl := kF _ h
        refine ret1 Tryz.results67 ?_ ?_
        · first | (simp only [outV, upd_apply, updH_apply, without_apply, showV_ref, cr, tyf, nrm, tynrm, g12, H16, H17, q18, q19, d46, (ix22 o48), w47, e54, e55, e56, e57, d58, implies_true, Nat.reduceAdd, Nat.reduceMul, Nat.reduceEqDiff, Nat.reduceLeDiff, reduceIte, reduceCtorEq]; done) | (simp only [outV, upd_apply, updH_apply, without_apply, showV_ref, cr, tyf, nrm, tynrm, g12, H16, H17, q18, q19, d46, (ix22 o48), w47, e54, e55, e56, e57, d58, implies_true, Nat.reduceAdd, Nat.reduceMul, Nat.reduceEqDiff, Nat.reduceLeDiff, reduceIte, reduceCtorEq]; rfl)
        · simp only [tre, tytre, Bool.and_self]
      · simp only [d58, cond_true, cond_false, lbind_go, lbind_ret, lbind_brk, lbind_none, Option.bind_some, Option.bind_none, Bool.not_true, Bool.not_false, reduceCtorEq] at h
        simp only [vs, cwp_label, ng_normal, ng_ret, ng_exit, cr, tyf, g12, H16, H17, q18, q19, d46, (ix22 o48), w47, e54, e55, e56, e57, d58, implies_true, Nat.reduceAdd, Nat.reduceMul, Nat.reduceEqDiff, Nat.reduceLeDiff, reduceIte, reduceCtorEq]
        exact ⟨List.length p11, Nat.lt_succ_self _, by rw [hI11]; refine ⟨p11, c11_5 + 1, rfl, Int.le_trans hi11 (Int.le_add_one (Int.le_refl _)), drop_next hi11 hp11, rfl, (show 2 ≤ nx + 16 by omega), ?_, ?_, e54, e55, ?_, h⟩ <;> first | (simp only [upd_apply, updH_apply, without_apply, H16, H17, q18, q19, d46, w47, e54, e55, e56, e57, d58, implies_true, Nat.reduceAdd, Nat.reduceMul, Nat.reduceEqDiff, Nat.reduceLeDiff, reduceIte, reduceCtorEq]; done) | (simp only [upd_apply, updH_apply, without_apply, H16, H17, q18, q19, d46, w47, e54, e55, e56, e57, d58, implies_true, Nat.reduceAdd, Nat.reduceMul, Nat.reduceEqDiff, Nat.reduceLeDiff, reduceIte, reduceCtorEq]; rfl) | rfl⟩

end Go.V
end
