/- Part of the proof of a statement of YtljphegpidbnjaaGreatDoor: a logic of values by content, the lifted functions, and what follows. -/
import Derived.Test.YtljphegpidbnjaaGreatDoorMbf
import Derived.Test.YtljphegpidbnjaaGreatDoorMbj
import Derived.Test.YtljphegpidbnjaaGreatDoorMbk
import Derived.Test.YtljphegpidbnjaaGreatDoorMbl
import Derived.Test.YtljphegpidbnjaaGreatDoorMaz
set_option linter.unusedVariables false
set_option linter.unusedSimpArgs false
set_option linter.unusedSectionVars false
set_option linter.constructorNameAsVariable false
section
namespace Go.V
open Go Go.Proofs
set_option linter.unusedSimpArgs false
set_option linter.unusedVariables false
set_option maxRecDepth 4000
def g_letter_isSheet (x0_s : GLetterSheet) : Option (Bool) := Option.bind (g_letter_areWidths x0_s.Widths) (fun r2 => cond (r2) (Option.bind (g_letter_arePairs x0_s.Pairs (List.length x0_s.Widths : Int)) (fun r3 => cond (r3) (Option.bind (g_limits_IsSpan 0 x0_s.Other 9) (fun r4 => cond (r4) (Option.bind (g_limits_IsSpan 0 x0_s.Gap 20) (fun r5 => cond (r5) (Option.bind (g_limits_IsFrom 1 x0_s.Hyphen 20) (fun r6 => cond (r6) (Option.bind (g_letter_areWords x0_s.Words (List.length x0_s.Widths : Int)) (fun r7 => cond (r7) (Option.bind (g_limits_IsFrom 1 x0_s.Wide 400) (fun r8 => cond (r8) (Option.bind (g_limits_IsFrom 1 x0_s.Rows 3) (fun r9 => some r9)) (some false))) (some false))) (some false))) (some false))) (some false))) (some false))) (some false))
theorem g_letter_isSheet_ok (x0_s : GLetterSheet) (R : Bool) (h : g_letter_isSheet x0_s = some R) : VPure Tryz.prog G0 38 [.agg (cGLetterSheet x0_s)] (.tree (.lit (.bool R))) := by
  refine VPure.runT mixed Tryz.call38 Tryz.func38 rfl (by simp [Tryz.ntmps38]; kernel_rfl) ?_
  obtain ⟨KF, h, kF, kN⟩ := fun_intro h
  simp only [g_letter_isSheet] at h
  cases o12 : (g_letter_areWidths x0_s.Widths) with
  | none =>
    simp only [o12, cond_true, cond_false, lbind_go, lbind_ret, lbind_brk, lbind_none, Option.bind_some, Option.bind_none, Bool.not_true, Bool.not_false, reduceCtorEq] at h
    exact absurd h kN
  | some r11 =>
    simp only [o12, cond_true, cond_false, lbind_go, lbind_ret, lbind_brk, lbind_none, Option.bind_some, Option.bind_none, Bool.not_true, Bool.not_false, reduceCtorEq] at h
    simp only [vs, cwp_label, ng_normal, ng_ret, ng_exit, cr, tyf, implies_true, Nat.reduceAdd, Nat.reduceMul, Nat.reduceEqDiff, Nat.reduceLeDiff, reduceIte, reduceCtorEq]
    refine ktree (args0 := [.sl (cellsL eI x0_s.Widths) (List.length x0_s.Widths) false]) (by first | (simp only [nrm, tynrm]; done) | (simp only [nrm, tynrm]; rfl) | rfl) (by simp only [tre, tytre, Bool.and_self]) (g_letter_areWidths_ok _ _ o12) ?_
    refine fin_cut (fun tm => tm 1 = .ptr 0 0 ∧ tm 5 = .lit (.bool r11) ∧ True) (by refine ⟨?_, ?_, trivial⟩ <;> first | (simp only [upd_apply, updH_apply, without_apply, implies_true, Nat.reduceAdd, Nat.reduceMul, Nat.reduceEqDiff, Nat.reduceLeDiff, reduceIte, reduceCtorEq]; done) | (simp only [upd_apply, updH_apply, without_apply, implies_true, Nat.reduceAdd, Nat.reduceMul, Nat.reduceEqDiff, Nat.reduceLeDiff, reduceIte, reduceCtorEq]; rfl) | rfl) ?_
    rintro tm ⟨e13, e14, _⟩
    cases d15 : (r11)
    · simp only [d15, cond_true, cond_false, lbind_go, lbind_ret, lbind_brk, lbind_none, Option.bind_some, Option.bind_none, Bool.not_true, Bool.not_false, reduceCtorEq] at h
      simp only [vs, cwp_label, ng_normal, ng_ret, ng_exit, cr, tyf, e13, e14, d15, implies_true, Nat.reduceAdd, Nat.reduceMul, Nat.reduceEqDiff, Nat.reduceLeDiff, reduceIte, reduceCtorEq]
      obtain rfl := kF _ h
      refine ret1 Tryz.results38 ?_ ?_
      · first | (simp only [outV, upd_apply, updH_apply, without_apply, showV_ref, cr, tyf, nrm, tynrm, e13, e14, d15, implies_true, Nat.reduceAdd, Nat.reduceMul, Nat.reduceEqDiff, Nat.reduceLeDiff, reduceIte, reduceCtorEq]; done) | (simp only [outV, upd_apply, updH_apply, without_apply, showV_ref, cr, tyf, nrm, tynrm, e13, e14, d15, implies_true, Nat.reduceAdd, Nat.reduceMul, Nat.reduceEqDiff, Nat.reduceLeDiff, reduceIte, reduceCtorEq]; rfl)
      · simp only [tre, tytre, Bool.and_self]
    · simp only [d15, cond_true, cond_false, lbind_go, lbind_ret, lbind_brk, lbind_none, Option.bind_some, Option.bind_none, Bool.not_true, Bool.not_false, reduceCtorEq] at h
      cases o17 : (g_letter_arePairs x0_s.Pairs (List.length x0_s.Widths : Int)) with
      | none =>
        simp only [o17, cond_true, cond_false, lbind_go, lbind_ret, lbind_brk, lbind_none, Option.bind_some, Option.bind_none, Bool.not_true, Bool.not_false, reduceCtorEq] at h
        exact absurd h kN
      | some r16 =>
        simp only [o17, cond_true, cond_false, lbind_go, lbind_ret, lbind_brk, lbind_none, Option.bind_some, Option.bind_none, Bool.not_true, Bool.not_false, reduceCtorEq] at h
        simp only [vs, cwp_label, ng_normal, ng_ret, ng_exit, cr, tyf, e13, e14, d15, implies_true, Nat.reduceAdd, Nat.reduceMul, Nat.reduceEqDiff, Nat.reduceLeDiff, reduceIte, reduceCtorEq]
        refine ktree (args0 := [.sl (cellsL cGLetterPair x0_s.Pairs) (List.length x0_s.Pairs) false, .lit (.int .i64 (List.length x0_s.Widths : Int))]) (by first | (simp only [nrm, tynrm]; done) | (simp only [nrm, tynrm]; rfl) | rfl) (by simp only [tre, tytre, Bool.and_self]) (g_letter_arePairs_ok _ _ _ o17) ?_
        refine fin_cut (fun tm => tm 1 = .ptr 0 0 ∧ tm 6 = .lit (.bool true) ∧ tm 12 = .lit (.bool r16) ∧ True) (by refine ⟨e13, ?_, ?_, trivial⟩ <;> first | (simp only [upd_apply, updH_apply, without_apply, e13, e14, d15, implies_true, Nat.reduceAdd, Nat.reduceMul, Nat.reduceEqDiff, Nat.reduceLeDiff, reduceIte, reduceCtorEq]; done) | (simp only [upd_apply, updH_apply, without_apply, e13, e14, d15, implies_true, Nat.reduceAdd, Nat.reduceMul, Nat.reduceEqDiff, Nat.reduceLeDiff, reduceIte, reduceCtorEq]; rfl) | rfl) ?_
        rintro tm ⟨e18, e19, e20, _⟩
        cases d21 : (r16)
        · simp only [d21, cond_true, cond_false, lbind_go, lbind_ret, lbind_brk, lbind_none, Option.bind_some, Option.bind_none, Bool.not_true, Bool.not_false, reduceCtorEq] at h
          simp only [vs, cwp_label, ng_normal, ng_ret, ng_exit, cr, tyf, d15, e18, e19, e20, d21, implies_true, Nat.reduceAdd, Nat.reduceMul, Nat.reduceEqDiff, Nat.reduceLeDiff, reduceIte, reduceCtorEq]
          obtain rfl := kF _ h
          refine ret1 Tryz.results38 ?_ ?_
          · first | (simp only [outV, upd_apply, updH_apply, without_apply, showV_ref, cr, tyf, nrm, tynrm, d15, e18, e19, e20, d21, implies_true, Nat.reduceAdd, Nat.reduceMul, Nat.reduceEqDiff, Nat.reduceLeDiff, reduceIte, reduceCtorEq]; done) | (simp only [outV, upd_apply, updH_apply, without_apply, showV_ref, cr, tyf, nrm, tynrm, d15, e18, e19, e20, d21, implies_true, Nat.reduceAdd, Nat.reduceMul, Nat.reduceEqDiff, Nat.reduceLeDiff, reduceIte, reduceCtorEq]; rfl)
          · simp only [tre, tytre, Bool.and_self]
        · simp only [d21, cond_true, cond_false, lbind_go, lbind_ret, lbind_brk, lbind_none, Option.bind_some, Option.bind_none, Bool.not_true, Bool.not_false, reduceCtorEq] at h
          cases o23 : (g_limits_IsSpan 0 x0_s.Other 9) with
          | none =>
            simp only [o23, cond_true, cond_false, lbind_go, lbind_ret, lbind_brk, lbind_none, Option.bind_some, Option.bind_none, Bool.not_true, Bool.not_false, reduceCtorEq] at h
            exact absurd h kN
          | some r22 =>
            simp only [o23, cond_true, cond_false, lbind_go, lbind_ret, lbind_brk, lbind_none, Option.bind_some, Option.bind_none, Bool.not_true, Bool.not_false, reduceCtorEq] at h
            simp only [vs, cwp_label, ng_normal, ng_ret, ng_exit, cr, tyf, d15, e18, e19, e20, d21, implies_true, Nat.reduceAdd, Nat.reduceMul, Nat.reduceEqDiff, Nat.reduceLeDiff, reduceIte, reduceCtorEq]
            refine ktree (args0 := [.lit (.int .i64 0), .agg (cGSpan x0_s.Other), .lit (.int .i64 9)]) (by first | (simp only [nrm, tynrm]; done) | (simp only [nrm, tynrm]; rfl) | rfl) (by simp only [tre, tytre, Bool.and_self]) (g_limits_IsSpan_ok _ _ _ _ o23) ?_
            refine fin_cut (fun tm => tm 1 = .ptr 0 0 ∧ tm 14 = .lit (.bool true) ∧ tm 17 = .lit (.bool r22) ∧ True) (by refine ⟨e18, ?_, ?_, trivial⟩ <;> first | (simp only [upd_apply, updH_apply, without_apply, d15, e18, e19, e20, d21, implies_true, Nat.reduceAdd, Nat.reduceMul, Nat.reduceEqDiff, Nat.reduceLeDiff, reduceIte, reduceCtorEq]; done) | (simp only [upd_apply, updH_apply, without_apply, d15, e18, e19, e20, d21, implies_true, Nat.reduceAdd, Nat.reduceMul, Nat.reduceEqDiff, Nat.reduceLeDiff, reduceIte, reduceCtorEq]; rfl) | rfl) ?_
            rintro tm ⟨e24, e25, e26, _⟩
            cases d27 : (r22)
            · simp only [d27, cond_true, cond_false, lbind_go, lbind_ret, lbind_brk, lbind_none, Option.bind_some, Option.bind_none, Bool.not_true, Bool.not_false, reduceCtorEq] at h
              simp only [vs, cwp_label, ng_normal, ng_ret, ng_exit, cr, tyf, d15, d21, e24, e25, e26, d27, implies_true, Nat.reduceAdd, Nat.reduceMul, Nat.reduceEqDiff, Nat.reduceLeDiff, reduceIte, reduceCtorEq]
              obtain rfl := kF _ h
              refine ret1 Tryz.results38 ?_ ?_
              · first | (simp only [outV, upd_apply, updH_apply, without_apply, showV_ref, cr, tyf, nrm, tynrm, d15, d21, e24, e25, e26, d27, implies_true, Nat.reduceAdd, Nat.reduceMul, Nat.reduceEqDiff, Nat.reduceLeDiff, reduceIte, reduceCtorEq]; done) | (simp only [outV, upd_apply, updH_apply, without_apply, showV_ref, cr, tyf, nrm, tynrm, d15, d21, e24, e25, e26, d27, implies_true, Nat.reduceAdd, Nat.reduceMul, Nat.reduceEqDiff, Nat.reduceLeDiff, reduceIte, reduceCtorEq]; rfl)
              · simp only [tre, tytre, Bool.and_self]
            · simp only [d27, cond_true, cond_false, lbind_go, lbind_ret, lbind_brk, lbind_none, Option.bind_some, Option.bind_none, Bool.not_true, Bool.not_false, reduceCtorEq] at h
              cases o29 : (g_limits_IsSpan 0 x0_s.Gap 20) with
              | none =>
                simp only [o29, cond_true, cond_false, lbind_go, lbind_ret, lbind_brk, lbind_none, Option.bind_some, Option.bind_none, Bool.not_true, Bool.not_false, reduceCtorEq] at h
                exact absurd h kN
              | some r28 =>
                simp only [o29, cond_true, cond_false, lbind_go, lbind_ret, lbind_brk, lbind_none, Option.bind_some, Option.bind_none, Bool.not_true, Bool.not_false, reduceCtorEq] at h
                simp only [vs, cwp_label, ng_normal, ng_ret, ng_exit, cr, tyf, d15, d21, e24, e25, e26, d27, implies_true, Nat.reduceAdd, Nat.reduceMul, Nat.reduceEqDiff, Nat.reduceLeDiff, reduceIte, reduceCtorEq]
                refine ktree (args0 := [.lit (.int .i64 0), .agg (cGSpan x0_s.Gap), .lit (.int .i64 20)]) (by first | (simp only [nrm, tynrm]; done) | (simp only [nrm, tynrm]; rfl) | rfl) (by simp only [tre, tytre, Bool.and_self]) (g_limits_IsSpan_ok _ _ _ _ o29) ?_
                refine fin_cut (fun tm => tm 1 = .ptr 0 0 ∧ tm 19 = .lit (.bool true) ∧ tm 22 = .lit (.bool r28) ∧ True) (by refine ⟨e24, ?_, ?_, trivial⟩ <;> first | (simp only [upd_apply, updH_apply, without_apply, d15, d21, e24, e25, e26, d27, implies_true, Nat.reduceAdd, Nat.reduceMul, Nat.reduceEqDiff, Nat.reduceLeDiff, reduceIte, reduceCtorEq]; done) | (simp only [upd_apply, updH_apply, without_apply, d15, d21, e24, e25, e26, d27, implies_true, Nat.reduceAdd, Nat.reduceMul, Nat.reduceEqDiff, Nat.reduceLeDiff, reduceIte, reduceCtorEq]; rfl) | rfl) ?_
                rintro tm ⟨e30, e31, e32, _⟩
                cases d33 : (r28)
                · simp only [d33, cond_true, cond_false, lbind_go, lbind_ret, lbind_brk, lbind_none, Option.bind_some, Option.bind_none, Bool.not_true, Bool.not_false, reduceCtorEq] at h
                  simp only [vs, cwp_label, ng_normal, ng_ret, ng_exit, cr, tyf, d15, d21, d27, e30, e31, e32, d33, implies_true, Nat.reduceAdd, Nat.reduceMul, Nat.reduceEqDiff, Nat.reduceLeDiff, reduceIte, reduceCtorEq]
                  obtain rfl := kF _ h
                  refine ret1 Tryz.results38 ?_ ?_
                  · first | (simp only [outV, upd_apply, updH_apply, without_apply, showV_ref, cr, tyf, nrm, tynrm, d15, d21, d27, e30, e31, e32, d33, implies_true, Nat.reduceAdd, Nat.reduceMul, Nat.reduceEqDiff, Nat.reduceLeDiff, reduceIte, reduceCtorEq]; done) | (simp only [outV, upd_apply, updH_apply, without_apply, showV_ref, cr, tyf, nrm, tynrm, d15, d21, d27, e30, e31, e32, d33, implies_true, Nat.reduceAdd, Nat.reduceMul, Nat.reduceEqDiff, Nat.reduceLeDiff, reduceIte, reduceCtorEq]; rfl)
                  · simp only [tre, tytre, Bool.and_self]
                · simp only [d33, cond_true, cond_false, lbind_go, lbind_ret, lbind_brk, lbind_none, Option.bind_some, Option.bind_none, Bool.not_true, Bool.not_false, reduceCtorEq] at h
                  cases o35 : (g_limits_IsFrom 1 x0_s.Hyphen 20) with
                  | none =>
                    simp only [o35, cond_true, cond_false, lbind_go, lbind_ret, lbind_brk, lbind_none, Option.bind_some, Option.bind_none, Bool.not_true, Bool.not_false, reduceCtorEq] at h
                    exact absurd h kN
                  | some r34 =>
                    simp only [o35, cond_true, cond_false, lbind_go, lbind_ret, lbind_brk, lbind_none, Option.bind_some, Option.bind_none, Bool.not_true, Bool.not_false, reduceCtorEq] at h
                    simp only [vs, cwp_label, ng_normal, ng_ret, ng_exit, cr, tyf, d15, d21, d27, e30, e31, e32, d33, implies_true, Nat.reduceAdd, Nat.reduceMul, Nat.reduceEqDiff, Nat.reduceLeDiff, reduceIte, reduceCtorEq]
                    refine ktree (args0 := [.lit (.int .i64 1), .lit (.int .i64 x0_s.Hyphen), .lit (.int .i64 20)]) (by first | (simp only [nrm, tynrm]; done) | (simp only [nrm, tynrm]; rfl) | rfl) (by simp only [tre, tytre, Bool.and_self]) (g_limits_IsFrom_ok _ _ _ _ o35) ?_
                    refine fin_cut (fun tm => tm 1 = .ptr 0 0 ∧ tm 24 = .lit (.bool true) ∧ tm 27 = .lit (.bool r34) ∧ True) (by refine ⟨e30, ?_, ?_, trivial⟩ <;> first | (simp only [upd_apply, updH_apply, without_apply, d15, d21, d27, e30, e31, e32, d33, implies_true, Nat.reduceAdd, Nat.reduceMul, Nat.reduceEqDiff, Nat.reduceLeDiff, reduceIte, reduceCtorEq]; done) | (simp only [upd_apply, updH_apply, without_apply, d15, d21, d27, e30, e31, e32, d33, implies_true, Nat.reduceAdd, Nat.reduceMul, Nat.reduceEqDiff, Nat.reduceLeDiff, reduceIte, reduceCtorEq]; rfl) | rfl) ?_
                    rintro tm ⟨e36, e37, e38, _⟩
                    cases d39 : (r34)
                    · simp only [d39, cond_true, cond_false, lbind_go, lbind_ret, lbind_brk, lbind_none, Option.bind_some, Option.bind_none, Bool.not_true, Bool.not_false, reduceCtorEq] at h
                      simp only [vs, cwp_label, ng_normal, ng_ret, ng_exit, cr, tyf, d15, d21, d27, d33, e36, e37, e38, d39, implies_true, Nat.reduceAdd, Nat.reduceMul, Nat.reduceEqDiff, Nat.reduceLeDiff, reduceIte, reduceCtorEq]
                      obtain rfl := kF _ h
                      refine ret1 Tryz.results38 ?_ ?_
                      · first | (simp only [outV, upd_apply, updH_apply, without_apply, showV_ref, cr, tyf, nrm, tynrm, d15, d21, d27, d33, e36, e37, e38, d39, implies_true, Nat.reduceAdd, Nat.reduceMul, Nat.reduceEqDiff, Nat.reduceLeDiff, reduceIte, reduceCtorEq]; done) | (simp only [outV, upd_apply, updH_apply, without_apply, showV_ref, cr, tyf, nrm, tynrm, d15, d21, d27, d33, e36, e37, e38, d39, implies_true, Nat.reduceAdd, Nat.reduceMul, Nat.reduceEqDiff, Nat.reduceLeDiff, reduceIte, reduceCtorEq]; rfl)
                      · simp only [tre, tytre, Bool.and_self]
                    · simp only [d39, cond_true, cond_false, lbind_go, lbind_ret, lbind_brk, lbind_none, Option.bind_some, Option.bind_none, Bool.not_true, Bool.not_false, reduceCtorEq] at h
                      cases o41 : (g_letter_areWords x0_s.Words (List.length x0_s.Widths : Int)) with
                      | none =>
                        simp only [o41, cond_true, cond_false, lbind_go, lbind_ret, lbind_brk, lbind_none, Option.bind_some, Option.bind_none, Bool.not_true, Bool.not_false, reduceCtorEq] at h
                        exact absurd h kN
                      | some r40 =>
                        simp only [o41, cond_true, cond_false, lbind_go, lbind_ret, lbind_brk, lbind_none, Option.bind_some, Option.bind_none, Bool.not_true, Bool.not_false, reduceCtorEq] at h
                        simp only [vs, cwp_label, ng_normal, ng_ret, ng_exit, cr, tyf, d15, d21, d27, d33, e36, e37, e38, d39, implies_true, Nat.reduceAdd, Nat.reduceMul, Nat.reduceEqDiff, Nat.reduceLeDiff, reduceIte, reduceCtorEq]
                        refine ktree (args0 := [.sl (cellsL cGLetterWord x0_s.Words) (List.length x0_s.Words) false, .lit (.int .i64 (List.length x0_s.Widths : Int))]) (by first | (simp only [nrm, tynrm]; done) | (simp only [nrm, tynrm]; rfl) | rfl) (by simp only [tre, tytre, Bool.and_self]) (g_letter_areWords_ok _ _ _ o41) ?_
                        refine fin_cut (fun tm => tm 1 = .ptr 0 0 ∧ tm 29 = .lit (.bool true) ∧ tm 35 = .lit (.bool r40) ∧ True) (by refine ⟨e36, ?_, ?_, trivial⟩ <;> first | (simp only [upd_apply, updH_apply, without_apply, d15, d21, d27, d33, e36, e37, e38, d39, implies_true, Nat.reduceAdd, Nat.reduceMul, Nat.reduceEqDiff, Nat.reduceLeDiff, reduceIte, reduceCtorEq]; done) | (simp only [upd_apply, updH_apply, without_apply, d15, d21, d27, d33, e36, e37, e38, d39, implies_true, Nat.reduceAdd, Nat.reduceMul, Nat.reduceEqDiff, Nat.reduceLeDiff, reduceIte, reduceCtorEq]; rfl) | rfl) ?_
                        rintro tm ⟨e42, e43, e44, _⟩
                        cases d45 : (r40)
                        · simp only [d45, cond_true, cond_false, lbind_go, lbind_ret, lbind_brk, lbind_none, Option.bind_some, Option.bind_none, Bool.not_true, Bool.not_false, reduceCtorEq] at h
                          simp only [vs, cwp_label, ng_normal, ng_ret, ng_exit, cr, tyf, d15, d21, d27, d33, d39, e42, e43, e44, d45, implies_true, Nat.reduceAdd, Nat.reduceMul, Nat.reduceEqDiff, Nat.reduceLeDiff, reduceIte, reduceCtorEq]
                          obtain rfl := kF _ h
                          refine ret1 Tryz.results38 ?_ ?_
                          · first | (simp only [outV, upd_apply, updH_apply, without_apply, showV_ref, cr, tyf, nrm, tynrm, d15, d21, d27, d33, d39, e42, e43, e44, d45, implies_true, Nat.reduceAdd, Nat.reduceMul, Nat.reduceEqDiff, Nat.reduceLeDiff, reduceIte, reduceCtorEq]; done) | (simp only [outV, upd_apply, updH_apply, without_apply, showV_ref, cr, tyf, nrm, tynrm, d15, d21, d27, d33, d39, e42, e43, e44, d45, implies_true, Nat.reduceAdd, Nat.reduceMul, Nat.reduceEqDiff, Nat.reduceLeDiff, reduceIte, reduceCtorEq]; rfl)
                          · simp only [tre, tytre, Bool.and_self]
                        · simp only [d45, cond_true, cond_false, lbind_go, lbind_ret, lbind_brk, lbind_none, Option.bind_some, Option.bind_none, Bool.not_true, Bool.not_false, reduceCtorEq] at h
                          cases o47 : (g_limits_IsFrom 1 x0_s.Wide 400) with
                          | none =>
                            simp only [o47, cond_true, cond_false, lbind_go, lbind_ret, lbind_brk, lbind_none, Option.bind_some, Option.bind_none, Bool.not_true, Bool.not_false, reduceCtorEq] at h
                            exact absurd h kN
                          | some r46 =>
                            simp only [o47, cond_true, cond_false, lbind_go, lbind_ret, lbind_brk, lbind_none, Option.bind_some, Option.bind_none, Bool.not_true, Bool.not_false, reduceCtorEq] at h
                            simp only [vs, cwp_label, ng_normal, ng_ret, ng_exit, cr, tyf, d15, d21, d27, d33, d39, e42, e43, e44, d45, implies_true, Nat.reduceAdd, Nat.reduceMul, Nat.reduceEqDiff, Nat.reduceLeDiff, reduceIte, reduceCtorEq]
                            refine ktree (args0 := [.lit (.int .i64 1), .lit (.int .i64 x0_s.Wide), .lit (.int .i64 400)]) (by first | (simp only [nrm, tynrm]; done) | (simp only [nrm, tynrm]; rfl) | rfl) (by simp only [tre, tytre, Bool.and_self]) (g_limits_IsFrom_ok _ _ _ _ o47) ?_
                            refine fin_cut (fun tm => tm 1 = .ptr 0 0 ∧ tm 37 = .lit (.bool true) ∧ tm 40 = .lit (.bool r46) ∧ True) (by refine ⟨e42, ?_, ?_, trivial⟩ <;> first | (simp only [upd_apply, updH_apply, without_apply, d15, d21, d27, d33, d39, e42, e43, e44, d45, implies_true, Nat.reduceAdd, Nat.reduceMul, Nat.reduceEqDiff, Nat.reduceLeDiff, reduceIte, reduceCtorEq]; done) | (simp only [upd_apply, updH_apply, without_apply, d15, d21, d27, d33, d39, e42, e43, e44, d45, implies_true, Nat.reduceAdd, Nat.reduceMul, Nat.reduceEqDiff, Nat.reduceLeDiff, reduceIte, reduceCtorEq]; rfl) | rfl) ?_
                            rintro tm ⟨e48, e49, e50, _⟩
                            cases d51 : (r46)
                            · simp only [d51, cond_true, cond_false, lbind_go, lbind_ret, lbind_brk, lbind_none, Option.bind_some, Option.bind_none, Bool.not_true, Bool.not_false, reduceCtorEq] at h
                              simp only [vs, cwp_label, ng_normal, ng_ret, ng_exit, cr, tyf, d15, d21, d27, d33, d39, d45, e48, e49, e50, d51, implies_true, Nat.reduceAdd, Nat.reduceMul, Nat.reduceEqDiff, Nat.reduceLeDiff, reduceIte, reduceCtorEq]
                              obtain rfl := kF _ h
                              refine ret1 Tryz.results38 ?_ ?_
                              · first | (simp only [outV, upd_apply, updH_apply, without_apply, showV_ref, cr, tyf, nrm, tynrm, d15, d21, d27, d33, d39, d45, e48, e49, e50, d51, implies_true, Nat.reduceAdd, Nat.reduceMul, Nat.reduceEqDiff, Nat.reduceLeDiff, reduceIte, reduceCtorEq]; done) | (simp only [outV, upd_apply, updH_apply, without_apply, showV_ref, cr, tyf, nrm, tynrm, d15, d21, d27, d33, d39, d45, e48, e49, e50, d51, implies_true, Nat.reduceAdd, Nat.reduceMul, Nat.reduceEqDiff, Nat.reduceLeDiff, reduceIte, reduceCtorEq]; rfl)
                              · simp only [tre, tytre, Bool.and_self]
                            · simp only [d51, cond_true, cond_false, lbind_go, lbind_ret, lbind_brk, lbind_none, Option.bind_some, Option.bind_none, Bool.not_true, Bool.not_false, reduceCtorEq] at h
                              cases o53 : (g_limits_IsFrom 1 x0_s.Rows 3) with
                              | none =>
                                simp only [o53, cond_true, cond_false, lbind_go, lbind_ret, lbind_brk, lbind_none, Option.bind_some, Option.bind_none, Bool.not_true, Bool.not_false, reduceCtorEq] at h
                                exact absurd h kN
                              | some r52 =>
                                simp only [o53, cond_true, cond_false, lbind_go, lbind_ret, lbind_brk, lbind_none, Option.bind_some, Option.bind_none, Bool.not_true, Bool.not_false, reduceCtorEq] at h
                                simp only [vs, cwp_label, ng_normal, ng_ret, ng_exit, cr, tyf, d15, d21, d27, d33, d39, d45, e48, e49, e50, d51, implies_true, Nat.reduceAdd, Nat.reduceMul, Nat.reduceEqDiff, Nat.reduceLeDiff, reduceIte, reduceCtorEq]
                                refine ktree (args0 := [.lit (.int .i64 1), .lit (.int .i64 x0_s.Rows), .lit (.int .i64 3)]) (by first | (simp only [nrm, tynrm]; done) | (simp only [nrm, tynrm]; rfl) | rfl) (by simp only [tre, tytre, Bool.and_self]) (g_limits_IsFrom_ok _ _ _ _ o53) ?_
                                refine fin_cut (fun tm => tm 42 = .lit (.bool true) ∧ tm 45 = .lit (.bool r52) ∧ True) (by refine ⟨?_, ?_, trivial⟩ <;> first | (simp only [upd_apply, updH_apply, without_apply, d15, d21, d27, d33, d39, d45, e48, e49, e50, d51, implies_true, Nat.reduceAdd, Nat.reduceMul, Nat.reduceEqDiff, Nat.reduceLeDiff, reduceIte, reduceCtorEq]; done) | (simp only [upd_apply, updH_apply, without_apply, d15, d21, d27, d33, d39, d45, e48, e49, e50, d51, implies_true, Nat.reduceAdd, Nat.reduceMul, Nat.reduceEqDiff, Nat.reduceLeDiff, reduceIte, reduceCtorEq]; rfl) | rfl) ?_
                                rintro tm ⟨e54, e55, _⟩
                                simp only [vs, cwp_label, ng_normal, ng_ret, ng_exit, cr, tyf, d15, d21, d27, d33, d39, d45, d51, e54, e55, implies_true, Nat.reduceAdd, Nat.reduceMul, Nat.reduceEqDiff, Nat.reduceLeDiff, reduceIte, reduceCtorEq]
                                obtain rfl := kF _ h
                                refine ret1 Tryz.results38 ?_ ?_
                                · first | (simp only [outV, upd_apply, updH_apply, without_apply, showV_ref, cr, tyf, nrm, tynrm, d15, d21, d27, d33, d39, d45, d51, e54, e55, implies_true, Nat.reduceAdd, Nat.reduceMul, Nat.reduceEqDiff, Nat.reduceLeDiff, reduceIte, reduceCtorEq]; done) | (simp only [outV, upd_apply, updH_apply, without_apply, showV_ref, cr, tyf, nrm, tynrm, d15, d21, d27, d33, d39, d45, d51, e54, e55, implies_true, Nat.reduceAdd, Nat.reduceMul, Nat.reduceEqDiff, Nat.reduceLeDiff, reduceIte, reduceCtorEq]; rfl)
                                · simp only [tre, tytre, Bool.and_self]

end Go.V
end
section
namespace Go.V
open Go Go.Proofs
theorem looks1 (x0 : Int) : VPure Tryz.prog G0 92 [.sl [vi x0] 1 false] (.own [.sl [vi x0] 1 false] 1 1) := VPure.closedB mixed 1000 (by kernel_rfl)
theorem looks2 (x0 x1 : Int) : VPure Tryz.prog G0 92 [.sl [vi x0, vi x1] 2 false] (.own [.sl [vi x0, vi x1] 2 false, .sl [vi x1] 1 false, .sl [vi x0] 1 false] 3 1) := VPure.closedB mixed 1000 (by kernel_rfl)
theorem looks3 (x0 x1 x2 : Int) : VPure Tryz.prog G0 92 [.sl [vi x0, vi x1, vi x2] 3 false] (.own [.sl [vi x0, vi x1, vi x2] 3 false, .sl [vi x1, vi x2] 2 false, .sl [vi x0, vi x2] 2 false, .sl [vi x0, vi x1] 2 false] 4 1) := VPure.closedB mixed 1000 (by kernel_rfl)
theorem looks4 (x0 x1 x2 x3 : Int) : VPure Tryz.prog G0 92 [.sl [vi x0, vi x1, vi x2, vi x3] 4 false] (.own [.sl [vi x0, vi x1, vi x2, vi x3] 4 false, .sl [vi x1, vi x2, vi x3] 3 false, .sl [vi x0, vi x2, vi x3] 3 false, .sl [vi x0, vi x1, vi x3] 3 false, .sl [vi x0, vi x1, vi x2] 3 false] 5 1) := VPure.closedB mixed 1000 (by kernel_rfl)
theorem looks5 (x0 x1 x2 x3 x4 : Int) : VPure Tryz.prog G0 92 [.sl [vi x0, vi x1, vi x2, vi x3, vi x4] 5 false] (.own [.sl [vi x0, vi x1, vi x2, vi x3, vi x4] 5 false, .sl [vi x1, vi x2, vi x3, vi x4] 4 false, .sl [vi x0, vi x2, vi x3, vi x4] 4 false, .sl [vi x0, vi x1, vi x3, vi x4] 4 false, .sl [vi x0, vi x1, vi x2, vi x4] 4 false, .sl [vi x0, vi x1, vi x2, vi x3] 4 false] 6 1) := VPure.closedB mixed 1000 (by kernel_rfl)
theorem looks6 (x0 x1 x2 x3 x4 x5 : Int) : VPure Tryz.prog G0 92 [.sl [vi x0, vi x1, vi x2, vi x3, vi x4, vi x5] 6 false] (.own [.sl [vi x0, vi x1, vi x2, vi x3, vi x4, vi x5] 6 false, .sl [vi x1, vi x2, vi x3, vi x4, vi x5] 5 false, .sl [vi x0, vi x2, vi x3, vi x4, vi x5] 5 false, .sl [vi x0, vi x1, vi x3, vi x4, vi x5] 5 false, .sl [vi x0, vi x1, vi x2, vi x4, vi x5] 5 false, .sl [vi x0, vi x1, vi x2, vi x3, vi x5] 5 false, .sl [vi x0, vi x1, vi x2, vi x3, vi x4] 5 false] 7 1) := VPure.closedB mixed 1000 (by kernel_rfl)

def looksF (xs : List Int) : List (List Int) := if xs.length = 1 then [xs] else xs :: (List.range xs.length).map xs.eraseIdx
def g_letter_looks (xs : List Int) : Option (List (List Int)) := if 1 ≤ xs.length ∧ xs.length ≤ 6 then some (looksF xs) else none
theorem g_letter_looks_ok (xs : List Int) (R : List (List Int)) (h : g_letter_looks xs = some R) : VPure Tryz.prog G0 92 [.sl (cellsL eI xs) (List.length xs) false] (.tree (.sl (cellsL (eSl eI) R) (List.length R) false)) := by
  unfold g_letter_looks at h
  split at h
  · rename_i hl
    cases h
    match xs, hl with
    | [x0], _ => exact (looks1 x0).ofOwn (Nat.le_refl _)
    | [x0, x1], _ => exact (looks2 x0 x1).ofOwn (Nat.le_refl _)
    | [x0, x1, x2], _ => exact (looks3 x0 x1 x2).ofOwn (Nat.le_refl _)
    | [x0, x1, x2, x3], _ => exact (looks4 x0 x1 x2 x3).ofOwn (Nat.le_refl _)
    | [x0, x1, x2, x3, x4], _ => exact (looks5 x0 x1 x2 x3 x4).ofOwn (Nat.le_refl _)
    | [x0, x1, x2, x3, x4, x5], _ => exact (looks6 x0 x1 x2 x3 x4 x5).ofOwn (Nat.le_refl _)
    | _ :: _ :: _ :: _ :: _ :: _ :: _ :: _, hl => simp only [List.length_cons] at hl; omega
    | [], hl => simp at hl
  · cases h
end Go.V
end
section
namespace Go.V
open Go Go.Proofs
set_option linter.unusedSimpArgs false
set_option linter.unusedVariables false
set_option maxRecDepth 4000
def g_slices_Equal_int_int_l0 (x1_s2 : List Int) : List Int → Int → Option (LOut (Bool) (Unit))
  | [], c0_13 => some (.go ())
  | e0 :: p0, c0_13 => Option.bind (getI x1_s2 c0_13) (fun x1 => cond (e0 != x1) (some (.ret false)) (g_slices_Equal_int_int_l0 x1_s2 p0 (c0_13 + 1)))
def g_slices_Equal_int_int (x0_s1 : List Int) (x1_s2 : List Int) : Option (Bool) := cond ((List.length x0_s1 : Int) != (List.length x1_s2 : Int)) (some false) (cond (lenOk x0_s1) (lbind (g_slices_Equal_int_int_l0 x1_s2 x0_s1 0) (fun r => some r) (fun c2 => some true) (fun _ _ => none)) none)
theorem g_slices_Equal_int_int_ok (x0_s1 : List Int) (x1_s2 : List Int) (R : Bool) (h : g_slices_Equal_int_int x0_s1 x1_s2 = some R) : VPure Tryz.prog G0 93 [.sl (cellsL eI x0_s1) (List.length x0_s1) false, .sl (cellsL eI x1_s2) (List.length x1_s2) false] (.tree (.lit (.bool R))) := by
  refine VPure.runT mixed Tryz.call93 Tryz.func93 rfl (by simp [Tryz.ntmps93]; kernel_rfl) ?_
  obtain ⟨KF, h, kF, kN⟩ := fun_intro h
  simp only [g_slices_Equal_int_int] at h
  cases d3 : ((List.length x0_s1 : Int) != (List.length x1_s2 : Int))
  · simp only [d3, cond_true, cond_false, lbind_go, lbind_ret, lbind_brk, lbind_none, Option.bind_some, Option.bind_none, Bool.not_true, Bool.not_false, reduceCtorEq] at h
    cases g5 : (lenOk x0_s1)
    · simp only [g5, cond_true, cond_false, lbind_go, lbind_ret, lbind_brk, lbind_none, Option.bind_some, Option.bind_none, Bool.not_true, Bool.not_false, reduceCtorEq] at h
      exact absurd h kN
    simp only [g5, cond_true, cond_false, lbind_go, lbind_ret, lbind_brk, lbind_none, Option.bind_some, Option.bind_none, Bool.not_true, Bool.not_false, reduceCtorEq] at h
    simp only [vs, cwp_label, ng_normal, ng_ret, ng_exit, cr, tyf, d3, g5, implies_true, Nat.reduceAdd, Nat.reduceMul, Nat.reduceEqDiff, Nat.reduceLeDiff, reduceIte, reduceCtorEq]
    obtain ⟨K4, h, kR4, kG4, kB4, kN4⟩ := lbind_intro h kN
    obtain ⟨f4, hf4, h⟩ := call2 h
    obtain ⟨I4, hI4⟩ : ∃ I : Nat → St → Prop, I = (fun m st => ∃ (p4 : List Int) (c4_13 : Int), m = List.length p4 ∧ 0 ≤ c4_13 ∧ List.drop (Int.toNat c4_13) x0_s1 = p4 ∧ st.df = [] ∧ st.tm 0 = .sl (cellsL eI x0_s1) (List.length x0_s1) false ∧ st.tm 1 = .sl (cellsL eI x1_s2) (List.length x1_s2) false ∧ st.tm 12 = .lit (.int .i64 (List.length x0_s1 : Int)) ∧ st.tm 13 = .lit (.int .i64 c4_13) ∧ K4 (f4 p4 c4_13)) := ⟨_, rfl⟩
    refine loopK mixed (by kernel_rfl) I4 (List.length x0_s1) (by rw [hI4]; refine ⟨x0_s1, 0, rfl, Int.le_refl _, rfl, rfl, ?_, ?_, ?_, ?_, h⟩ <;> first | (simp only [upd_apply, updH_apply, without_apply, d3, implies_true, Nat.reduceAdd, Nat.reduceMul, Nat.reduceEqDiff, Nat.reduceLeDiff, reduceIte, reduceCtorEq]; done) | (simp only [upd_apply, updH_apply, without_apply, d3, implies_true, Nat.reduceAdd, Nat.reduceMul, Nat.reduceEqDiff, Nat.reduceLeDiff, reduceIte, reduceCtorEq]; rfl) | rfl) ?_
    rintro m ⟨tm, H, nx, df⟩ hinv
    rw [hI4] at hinv
    obtain ⟨p4, c4_13, rfl, hi4, hp4, hdf, e6, e7, e8, e9, h⟩ := hinv
    simp only at hdf e6 e7 e8 e9
    subst hdf hf4
    cases p4 with
    | nil =>
      have d10 : (decide (c4_13 < (List.length x0_s1 : Int))) = false := not_lt_of_drop hi4 hp4
      simp only [g_slices_Equal_int_int_l0, cond_true, cond_false, lbind_go, lbind_ret, lbind_brk, lbind_none, Option.bind_some, Option.bind_none, Bool.not_true, Bool.not_false, reduceCtorEq] at h
      replace h := kG4 _ h
      try dsimp only at h
      try simp only [cond_true, cond_false, lbind_go, lbind_ret, lbind_brk, lbind_none, Option.bind_some, Option.bind_none, Bool.not_true, Bool.not_false] at h
      simp only [vs, cwp_label, ng_normal, ng_ret, ng_exit, cr, tyf, d3, g5, e6, e7, e8, e9, d10, implies_true, Nat.reduceAdd, Nat.reduceMul, Nat.reduceEqDiff, Nat.reduceLeDiff, reduceIte, reduceCtorEq]
      obtain rfl := kF _ h
      refine ret1 Tryz.results93 ?_ ?_
      · first | (simp only [outV, upd_apply, updH_apply, without_apply, showV_ref, cr, tyf, nrm, tynrm, d3, g5, e6, e7, e8, e9, d10, implies_true, Nat.reduceAdd, Nat.reduceMul, Nat.reduceEqDiff, Nat.reduceLeDiff, reduceIte, reduceCtorEq]; done) | (simp only [outV, upd_apply, updH_apply, without_apply, showV_ref, cr, tyf, nrm, tynrm, d3, g5, e6, e7, e8, e9, d10, implies_true, Nat.reduceAdd, Nat.reduceMul, Nat.reduceEqDiff, Nat.reduceLeDiff, reduceIte, reduceCtorEq]; rfl)
      · simp only [tre, tytre, Bool.and_self]
    | cons e4 p4 =>
      have d11 : (decide (c4_13 < (List.length x0_s1 : Int))) = true := lt_of_drop hi4 hp4
      have o13 := getI_of_drop hi4 hp4
      have w12 := wrap_next hi4 hp4 g5
      simp only [g_slices_Equal_int_int_l0, cond_true, cond_false, lbind_go, lbind_ret, lbind_brk, lbind_none, Option.bind_some, Option.bind_none, Bool.not_true, Bool.not_false, reduceCtorEq] at h
      simp only [vs, cwp_label, ng_normal, ng_ret, ng_exit, cr, tyf, d3, g5, e6, e7, e8, e9, d11, (ix22 o13), w12, implies_true, Nat.reduceAdd, Nat.reduceMul, Nat.reduceEqDiff, Nat.reduceLeDiff, reduceIte, reduceCtorEq]
      refine cwp_drwQF (fun tm => tm 0 = .sl (cellsL eI x0_s1) (List.length x0_s1) false ∧ tm 1 = .sl (cellsL eI x1_s2) (List.length x1_s2) false ∧ tm 5 = .lit (.int .i64 c4_13) ∧ tm 12 = .lit (.int .i64 (List.length x0_s1 : Int)) ∧ tm 13 = .lit (.int .i64 c4_13) ∧ True) (by refine ⟨e6, e7, ?_, e8, e9, trivial⟩ <;> first | (simp only [upd_apply, updH_apply, without_apply, d3, e6, e7, e8, e9, d11, w12, implies_true, Nat.reduceAdd, Nat.reduceMul, Nat.reduceEqDiff, Nat.reduceLeDiff, reduceIte, reduceCtorEq]; done) | (simp only [upd_apply, updH_apply, without_apply, d3, e6, e7, e8, e9, d11, w12, implies_true, Nat.reduceAdd, Nat.reduceMul, Nat.reduceEqDiff, Nat.reduceLeDiff, reduceIte, reduceCtorEq]; rfl) | rfl) ?_
      rintro tm ⟨e14, e15, e16, e17, e18, _⟩
      cases o20 : (getI x1_s2 c4_13) with
      | none =>
        simp only [o20, cond_true, cond_false, lbind_go, lbind_ret, lbind_brk, lbind_none, Option.bind_some, Option.bind_none, Bool.not_true, Bool.not_false, reduceCtorEq] at h
        exact absurd h kN4
      | some x19 =>
        simp only [o20, cond_true, cond_false, lbind_go, lbind_ret, lbind_brk, lbind_none, Option.bind_some, Option.bind_none, Bool.not_true, Bool.not_false, reduceCtorEq] at h
        cases d21 : (e4 != x19)
        · simp only [d21, cond_true, cond_false, lbind_go, lbind_ret, lbind_brk, lbind_none, Option.bind_some, Option.bind_none, Bool.not_true, Bool.not_false, reduceCtorEq] at h
          simp only [vs, cwp_label, ng_normal, ng_ret, ng_exit, cr, tyf, d3, g5, d11, (ix22 o13), w12, e14, e15, e16, e17, e18, (ix22 o20), d21, implies_true, Nat.reduceAdd, Nat.reduceMul, Nat.reduceEqDiff, Nat.reduceLeDiff, reduceIte, reduceCtorEq]
          exact ⟨List.length p4, Nat.lt_succ_self _, by rw [hI4]; refine ⟨p4, c4_13 + 1, rfl, Int.le_trans hi4 (Int.le_add_one (Int.le_refl _)), drop_next hi4 hp4, rfl, e14, e15, e17, ?_, h⟩ <;> first | (simp only [upd_apply, updH_apply, without_apply, d3, d11, w12, e14, e15, e16, e17, e18, d21, implies_true, Nat.reduceAdd, Nat.reduceMul, Nat.reduceEqDiff, Nat.reduceLeDiff, reduceIte, reduceCtorEq]; done) | (simp only [upd_apply, updH_apply, without_apply, d3, d11, w12, e14, e15, e16, e17, e18, d21, implies_true, Nat.reduceAdd, Nat.reduceMul, Nat.reduceEqDiff, Nat.reduceLeDiff, reduceIte, reduceCtorEq]; rfl) | rfl⟩
        · simp only [d21, cond_true, cond_false, lbind_go, lbind_ret, lbind_brk, lbind_none, Option.bind_some, Option.bind_none, Bool.not_true, Bool.not_false, reduceCtorEq] at h
          simp only [vs, cwp_label, ng_normal, ng_ret, ng_exit, cr, tyf, d3, g5, d11, (ix22 o13), w12, e14, e15, e16, e17, e18, (ix22 o20), d21, implies_true, Nat.reduceAdd, Nat.reduceMul, Nat.reduceEqDiff, Nat.reduceLeDiff, reduceIte, reduceCtorEq]
          replace h := kR4 _ h
          try dsimp only at h
          obtain rfl := kF _ h
          refine ret1 Tryz.results93 ?_ ?_
          · first | (simp only [outV, upd_apply, updH_apply, without_apply, showV_ref, cr, tyf, nrm, tynrm, d3, g5, d11, (ix22 o13), w12, e14, e15, e16, e17, e18, (ix22 o20), d21, implies_true, Nat.reduceAdd, Nat.reduceMul, Nat.reduceEqDiff, Nat.reduceLeDiff, reduceIte, reduceCtorEq]; done) | (simp only [outV, upd_apply, updH_apply, without_apply, showV_ref, cr, tyf, nrm, tynrm, d3, g5, d11, (ix22 o13), w12, e14, e15, e16, e17, e18, (ix22 o20), d21, implies_true, Nat.reduceAdd, Nat.reduceMul, Nat.reduceEqDiff, Nat.reduceLeDiff, reduceIte, reduceCtorEq]; rfl)
          · simp only [tre, tytre, Bool.and_self]
  · simp only [d3, cond_true, cond_false, lbind_go, lbind_ret, lbind_brk, lbind_none, Option.bind_some, Option.bind_none, Bool.not_true, Bool.not_false, reduceCtorEq] at h
    simp only [vs, cwp_label, ng_normal, ng_ret, ng_exit, cr, tyf, d3, implies_true, Nat.reduceAdd, Nat.reduceMul, Nat.reduceEqDiff, Nat.reduceLeDiff, reduceIte, reduceCtorEq]
    obtain rfl := kF _ h
    refine ret1 Tryz.results93 ?_ ?_
    · first | (simp only [outV, upd_apply, updH_apply, without_apply, showV_ref, cr, tyf, nrm, tynrm, d3, implies_true, Nat.reduceAdd, Nat.reduceMul, Nat.reduceEqDiff, Nat.reduceLeDiff, reduceIte, reduceCtorEq]; done) | (simp only [outV, upd_apply, updH_apply, without_apply, showV_ref, cr, tyf, nrm, tynrm, d3, implies_true, Nat.reduceAdd, Nat.reduceMul, Nat.reduceEqDiff, Nat.reduceLeDiff, reduceIte, reduceCtorEq]; rfl)
    · simp only [tre, tytre, Bool.and_self]

end Go.V
end
section
namespace Go.V
open Go Go.Proofs
set_option linter.unusedSimpArgs false
set_option linter.unusedVariables false
set_option maxRecDepth 4000
def g_letter_mistaken_l1 (e0 : List Int) : List (List Int) → Int → Option (LOut (Bool) (Unit))
  | [], c1_19 => some (.go ())
  | e1 :: p1, c1_19 => Option.bind (g_slices_Equal_int_int e0 e1) (fun r3 => cond (r3) (some (.ret true)) (g_letter_mistaken_l1 e0 p1 (c1_19 + 1)))
def g_letter_mistaken_l0 (x1_other : List Int) : List (List Int) → Int → Option (LOut (Bool) (Unit))
  | [], c0_12 => some (.go ())
  | e0 :: p0, c0_12 => Option.bind (g_letter_looks x1_other) (fun r2 => cond (lenOk r2) (lbind (g_letter_mistaken_l1 e0 r2 0) (fun r => some (.ret r)) (fun c4 => g_letter_mistaken_l0 x1_other p0 (c0_12 + 1)) (fun _ _ => none)) none)
def g_letter_mistaken (x0_one : List Int) (x1_other : List Int) : Option (Bool) := Option.bind (g_letter_looks x0_one) (fun r1 => cond (lenOk r1) (lbind (g_letter_mistaken_l0 x1_other r1 0) (fun r => some r) (fun c5 => some false) (fun _ _ => none)) none)
theorem g_letter_mistaken_ok (x0_one : List Int) (x1_other : List Int) (R : Bool) (h : g_letter_mistaken x0_one x1_other = some R) : VPure Tryz.prog G0 54 [.sl (cellsL eI x0_one) (List.length x0_one) false, .sl (cellsL eI x1_other) (List.length x1_other) false] (.tree (.lit (.bool R))) := by
  refine VPure.runT mixed Tryz.call54 Tryz.func54 rfl (by simp [Tryz.ntmps54]; kernel_rfl) ?_
  obtain ⟨KF, h, kF, kN⟩ := fun_intro h
  simp only [g_letter_mistaken] at h
  cases o7 : (g_letter_looks x0_one) with
  | none =>
    simp only [o7, cond_true, cond_false, lbind_go, lbind_ret, lbind_brk, lbind_none, Option.bind_some, Option.bind_none, Bool.not_true, Bool.not_false, reduceCtorEq] at h
    exact absurd h kN
  | some r6 =>
    simp only [o7, cond_true, cond_false, lbind_go, lbind_ret, lbind_brk, lbind_none, Option.bind_some, Option.bind_none, Bool.not_true, Bool.not_false, reduceCtorEq] at h
    simp only [vs, cwp_label, ng_normal, ng_ret, ng_exit, cr, tyf, implies_true, Nat.reduceAdd, Nat.reduceMul, Nat.reduceEqDiff, Nat.reduceLeDiff, reduceIte, reduceCtorEq]
    refine ktree (args0 := [.sl (cellsL eI x0_one) (List.length x0_one) false]) (by first | (simp only [nrm, tynrm]; done) | (simp only [nrm, tynrm]; rfl) | rfl) (by simp only [tre, tytre, Bool.and_self]) (g_letter_looks_ok _ _ o7) ?_
    refine fin_cut (fun tm => tm 1 = .sl (cellsL eI x1_other) (List.length x1_other) false ∧ tm 10 = .sl (cellsL (eSl eI) r6) (List.length r6) false ∧ True) (by refine ⟨?_, ?_, trivial⟩ <;> first | (simp only [upd_apply, updH_apply, without_apply, implies_true, Nat.reduceAdd, Nat.reduceMul, Nat.reduceEqDiff, Nat.reduceLeDiff, reduceIte, reduceCtorEq]; done) | (simp only [upd_apply, updH_apply, without_apply, implies_true, Nat.reduceAdd, Nat.reduceMul, Nat.reduceEqDiff, Nat.reduceLeDiff, reduceIte, reduceCtorEq]; rfl) | rfl) ?_
    rintro tm ⟨e8, e9, _⟩
    cases g11 : (lenOk r6)
    · simp only [g11, cond_true, cond_false, lbind_go, lbind_ret, lbind_brk, lbind_none, Option.bind_some, Option.bind_none, Bool.not_true, Bool.not_false, reduceCtorEq] at h
      exact absurd h kN
    simp only [g11, cond_true, cond_false, lbind_go, lbind_ret, lbind_brk, lbind_none, Option.bind_some, Option.bind_none, Bool.not_true, Bool.not_false, reduceCtorEq] at h
    simp only [vs, cwp_label, ng_normal, ng_ret, ng_exit, cr, tyf, e8, e9, g11, implies_true, Nat.reduceAdd, Nat.reduceMul, Nat.reduceEqDiff, Nat.reduceLeDiff, reduceIte, reduceCtorEq]
    obtain ⟨K10, h, kR10, kG10, kB10, kN10⟩ := lbind_intro h kN
    obtain ⟨f10, hf10, h⟩ := call2 h
    obtain ⟨I10, hI10⟩ : ∃ I : Nat → St → Prop, I = (fun m st => ∃ (p10 : List (List Int)) (c10_12 : Int), m = List.length p10 ∧ 0 ≤ c10_12 ∧ List.drop (Int.toNat c10_12) r6 = p10 ∧ st.df = [] ∧ st.tm 1 = .sl (cellsL eI x1_other) (List.length x1_other) false ∧ st.tm 10 = .sl (cellsL (eSl eI) r6) (List.length r6) false ∧ st.tm 11 = .lit (.int .i64 (List.length r6 : Int)) ∧ st.tm 12 = .lit (.int .i64 c10_12) ∧ K10 (f10 p10 c10_12)) := ⟨_, rfl⟩
    refine loopK mixed (by kernel_rfl) I10 (List.length r6) (by rw [hI10]; refine ⟨r6, 0, rfl, Int.le_refl _, rfl, rfl, e8, e9, ?_, ?_, h⟩ <;> first | (simp only [upd_apply, updH_apply, without_apply, e8, e9, implies_true, Nat.reduceAdd, Nat.reduceMul, Nat.reduceEqDiff, Nat.reduceLeDiff, reduceIte, reduceCtorEq]; done) | (simp only [upd_apply, updH_apply, without_apply, e8, e9, implies_true, Nat.reduceAdd, Nat.reduceMul, Nat.reduceEqDiff, Nat.reduceLeDiff, reduceIte, reduceCtorEq]; rfl) | rfl) ?_
    rintro m ⟨tm, H, nx, df⟩ hinv
    rw [hI10] at hinv
    obtain ⟨p10, c10_12, rfl, hi10, hp10, hdf, e12, e13, e14, e15, h⟩ := hinv
    simp only at hdf e12 e13 e14 e15
    subst hdf hf10
    cases p10 with
    | nil =>
      have d16 : (decide (c10_12 < (List.length r6 : Int))) = false := not_lt_of_drop hi10 hp10
      simp only [g_letter_mistaken_l0, cond_true, cond_false, lbind_go, lbind_ret, lbind_brk, lbind_none, Option.bind_some, Option.bind_none, Bool.not_true, Bool.not_false, reduceCtorEq] at h
      replace h := kG10 _ h
      try dsimp only at h
      try simp only [cond_true, cond_false, lbind_go, lbind_ret, lbind_brk, lbind_none, Option.bind_some, Option.bind_none, Bool.not_true, Bool.not_false] at h
      simp only [vs, cwp_label, ng_normal, ng_ret, ng_exit, cr, tyf, g11, e12, e13, e14, e15, d16, implies_true, Nat.reduceAdd, Nat.reduceMul, Nat.reduceEqDiff, Nat.reduceLeDiff, reduceIte, reduceCtorEq]
      obtain rfl := kF _ h
      refine ret1 Tryz.results54 ?_ ?_
      · first | (simp only [outV, upd_apply, updH_apply, without_apply, showV_ref, cr, tyf, nrm, tynrm, g11, e12, e13, e14, e15, d16, implies_true, Nat.reduceAdd, Nat.reduceMul, Nat.reduceEqDiff, Nat.reduceLeDiff, reduceIte, reduceCtorEq]; done) | (simp only [outV, upd_apply, updH_apply, without_apply, showV_ref, cr, tyf, nrm, tynrm, g11, e12, e13, e14, e15, d16, implies_true, Nat.reduceAdd, Nat.reduceMul, Nat.reduceEqDiff, Nat.reduceLeDiff, reduceIte, reduceCtorEq]; rfl)
      · simp only [tre, tytre, Bool.and_self]
    | cons e10 p10 =>
      have d17 : (decide (c10_12 < (List.length r6 : Int))) = true := lt_of_drop hi10 hp10
      have o19 := getI_of_drop hi10 hp10
      have w18 := wrap_next hi10 hp10 g11
      simp only [g_letter_mistaken_l0, cond_true, cond_false, lbind_go, lbind_ret, lbind_brk, lbind_none, Option.bind_some, Option.bind_none, Bool.not_true, Bool.not_false, reduceCtorEq] at h
      cases o21 : (g_letter_looks x1_other) with
      | none =>
        simp only [o21, cond_true, cond_false, lbind_go, lbind_ret, lbind_brk, lbind_none, Option.bind_some, Option.bind_none, Bool.not_true, Bool.not_false, reduceCtorEq] at h
        exact absurd h kN10
      | some r20 =>
        simp only [o21, cond_true, cond_false, lbind_go, lbind_ret, lbind_brk, lbind_none, Option.bind_some, Option.bind_none, Bool.not_true, Bool.not_false, reduceCtorEq] at h
        simp only [vs, cwp_label, ng_normal, ng_ret, ng_exit, cr, tyf, g11, e12, e13, e14, e15, d17, (ix58 o19), w18, implies_true, Nat.reduceAdd, Nat.reduceMul, Nat.reduceEqDiff, Nat.reduceLeDiff, reduceIte, reduceCtorEq]
        refine ktree (args0 := [.sl (cellsL eI x1_other) (List.length x1_other) false]) (by first | (simp only [nrm, tynrm]; done) | (simp only [nrm, tynrm]; rfl) | rfl) (by simp only [tre, tytre, Bool.and_self]) (g_letter_looks_ok _ _ o21) ?_
        refine fin_cut (fun tm => tm 1 = .sl (cellsL eI x1_other) (List.length x1_other) false ∧ tm 6 = .sl (cellsL eI e10) (List.length e10) false ∧ tm 10 = .sl (cellsL (eSl eI) r6) (List.length r6) false ∧ tm 11 = .lit (.int .i64 (List.length r6 : Int)) ∧ tm 12 = .lit (.int .i64 c10_12) ∧ tm 17 = .sl (cellsL (eSl eI) r20) (List.length r20) false ∧ True) (by refine ⟨e12, ?_, e13, e14, e15, ?_, trivial⟩ <;> first | (simp only [upd_apply, updH_apply, without_apply, e12, e13, e14, e15, d17, w18, implies_true, Nat.reduceAdd, Nat.reduceMul, Nat.reduceEqDiff, Nat.reduceLeDiff, reduceIte, reduceCtorEq]; done) | (simp only [upd_apply, updH_apply, without_apply, e12, e13, e14, e15, d17, w18, implies_true, Nat.reduceAdd, Nat.reduceMul, Nat.reduceEqDiff, Nat.reduceLeDiff, reduceIte, reduceCtorEq]; rfl) | rfl) ?_
        rintro tm ⟨e22, e23, e24, e25, e26, e27, _⟩
        cases g29 : (lenOk r20)
        · simp only [g29, cond_true, cond_false, lbind_go, lbind_ret, lbind_brk, lbind_none, Option.bind_some, Option.bind_none, Bool.not_true, Bool.not_false, reduceCtorEq] at h
          exact absurd h kN10
        simp only [g29, cond_true, cond_false, lbind_go, lbind_ret, lbind_brk, lbind_none, Option.bind_some, Option.bind_none, Bool.not_true, Bool.not_false, reduceCtorEq] at h
        simp only [vs, cwp_label, ng_normal, ng_ret, ng_exit, cr, tyf, g11, d17, (ix58 o19), w18, e22, e23, e24, e25, e26, e27, g29, implies_true, Nat.reduceAdd, Nat.reduceMul, Nat.reduceEqDiff, Nat.reduceLeDiff, reduceIte, reduceCtorEq]
        obtain ⟨K28, h, kR28, kG28, kB28, kN28⟩ := lbind_intro h kN10
        obtain ⟨f28, hf28, h⟩ := call2 h
        obtain ⟨I28, hI28⟩ : ∃ I : Nat → St → Prop, I = (fun m st => ∃ (p28 : List (List Int)) (c28_19 : Int), m = List.length p28 ∧ 0 ≤ c28_19 ∧ List.drop (Int.toNat c28_19) r20 = p28 ∧ st.df = [] ∧ st.tm 1 = .sl (cellsL eI x1_other) (List.length x1_other) false ∧ st.tm 6 = .sl (cellsL eI e10) (List.length e10) false ∧ st.tm 10 = .sl (cellsL (eSl eI) r6) (List.length r6) false ∧ st.tm 11 = .lit (.int .i64 (List.length r6 : Int)) ∧ st.tm 12 = .lit (.int .i64 c10_12) ∧ st.tm 17 = .sl (cellsL (eSl eI) r20) (List.length r20) false ∧ st.tm 18 = .lit (.int .i64 (List.length r20 : Int)) ∧ st.tm 19 = .lit (.int .i64 c28_19) ∧ K28 (f28 p28 c28_19)) := ⟨_, rfl⟩
        refine loopK mixed (by kernel_rfl) I28 (List.length r20) (by rw [hI28]; refine ⟨r20, 0, rfl, Int.le_refl _, rfl, rfl, e22, e23, e24, e25, e26, e27, ?_, ?_, h⟩ <;> first | (simp only [upd_apply, updH_apply, without_apply, d17, w18, e22, e23, e24, e25, e26, e27, implies_true, Nat.reduceAdd, Nat.reduceMul, Nat.reduceEqDiff, Nat.reduceLeDiff, reduceIte, reduceCtorEq]; done) | (simp only [upd_apply, updH_apply, without_apply, d17, w18, e22, e23, e24, e25, e26, e27, implies_true, Nat.reduceAdd, Nat.reduceMul, Nat.reduceEqDiff, Nat.reduceLeDiff, reduceIte, reduceCtorEq]; rfl) | rfl) ?_
        rintro m ⟨tm, H, nx, df⟩ hinv
        rw [hI28] at hinv
        obtain ⟨p28, c28_19, rfl, hi28, hp28, hdf, e30, e31, e32, e33, e34, e35, e36, e37, h⟩ := hinv
        simp only at hdf e30 e31 e32 e33 e34 e35 e36 e37
        subst hdf hf28
        cases p28 with
        | nil =>
          have d38 : (decide (c28_19 < (List.length r20 : Int))) = false := not_lt_of_drop hi28 hp28
          simp only [g_letter_mistaken_l1, cond_true, cond_false, lbind_go, lbind_ret, lbind_brk, lbind_none, Option.bind_some, Option.bind_none, Bool.not_true, Bool.not_false, reduceCtorEq] at h
          replace h := kG28 _ h
          try dsimp only at h
          try simp only [cond_true, cond_false, lbind_go, lbind_ret, lbind_brk, lbind_none, Option.bind_some, Option.bind_none, Bool.not_true, Bool.not_false] at h
          simp only [vs, cwp_label, ng_normal, ng_ret, ng_exit, cr, tyf, g11, d17, (ix58 o19), w18, g29, e30, e31, e32, e33, e34, e35, e36, e37, d38, implies_true, Nat.reduceAdd, Nat.reduceMul, Nat.reduceEqDiff, Nat.reduceLeDiff, reduceIte, reduceCtorEq]
          exact ⟨List.length p10, Nat.lt_succ_self _, by rw [hI10]; refine ⟨p10, c10_12 + 1, rfl, Int.le_trans hi10 (Int.le_add_one (Int.le_refl _)), drop_next hi10 hp10, rfl, e30, e32, e33, ?_, h⟩ <;> first | (simp only [upd_apply, updH_apply, without_apply, d17, w18, e30, e31, e32, e33, e34, e35, e36, e37, d38, implies_true, Nat.reduceAdd, Nat.reduceMul, Nat.reduceEqDiff, Nat.reduceLeDiff, reduceIte, reduceCtorEq]; done) | (simp only [upd_apply, updH_apply, without_apply, d17, w18, e30, e31, e32, e33, e34, e35, e36, e37, d38, implies_true, Nat.reduceAdd, Nat.reduceMul, Nat.reduceEqDiff, Nat.reduceLeDiff, reduceIte, reduceCtorEq]; rfl) | rfl⟩
        | cons e28 p28 =>
          have d39 : (decide (c28_19 < (List.length r20 : Int))) = true := lt_of_drop hi28 hp28
          have o41 := getI_of_drop hi28 hp28
          have w40 := wrap_next hi28 hp28 g29
          simp only [g_letter_mistaken_l1, cond_true, cond_false, lbind_go, lbind_ret, lbind_brk, lbind_none, Option.bind_some, Option.bind_none, Bool.not_true, Bool.not_false, reduceCtorEq] at h
          cases o43 : (g_slices_Equal_int_int e10 e28) with
          | none =>
            simp only [o43, cond_true, cond_false, lbind_go, lbind_ret, lbind_brk, lbind_none, Option.bind_some, Option.bind_none, Bool.not_true, Bool.not_false, reduceCtorEq] at h
            exact absurd h kN28
          | some r42 =>
            simp only [o43, cond_true, cond_false, lbind_go, lbind_ret, lbind_brk, lbind_none, Option.bind_some, Option.bind_none, Bool.not_true, Bool.not_false, reduceCtorEq] at h
            simp only [vs, cwp_label, ng_normal, ng_ret, ng_exit, cr, tyf, g11, d17, (ix58 o19), w18, g29, e30, e31, e32, e33, e34, e35, e36, e37, d39, (ix58 o41), w40, implies_true, Nat.reduceAdd, Nat.reduceMul, Nat.reduceEqDiff, Nat.reduceLeDiff, reduceIte, reduceCtorEq]
            refine ktree (args0 := [.sl (cellsL eI e10) (List.length e10) false, .sl (cellsL eI e28) (List.length e28) false]) (by first | (simp only [nrm, tynrm]; done) | (simp only [nrm, tynrm]; rfl) | rfl) (by simp only [tre, tytre, Bool.and_self]) (g_slices_Equal_int_int_ok _ _ _ o43) ?_
            refine fin_cut (fun tm => tm 1 = .sl (cellsL eI x1_other) (List.length x1_other) false ∧ tm 6 = .sl (cellsL eI e10) (List.length e10) false ∧ tm 10 = .sl (cellsL (eSl eI) r6) (List.length r6) false ∧ tm 11 = .lit (.int .i64 (List.length r6 : Int)) ∧ tm 12 = .lit (.int .i64 c10_12) ∧ tm 17 = .sl (cellsL (eSl eI) r20) (List.length r20) false ∧ tm 18 = .lit (.int .i64 (List.length r20 : Int)) ∧ tm 19 = .lit (.int .i64 c28_19) ∧ tm 25 = .lit (.bool r42) ∧ True) (by refine ⟨e30, e31, e32, e33, e34, e35, e36, e37, ?_, trivial⟩ <;> first | (simp only [upd_apply, updH_apply, without_apply, d17, w18, e30, e31, e32, e33, e34, e35, e36, e37, d39, w40, implies_true, Nat.reduceAdd, Nat.reduceMul, Nat.reduceEqDiff, Nat.reduceLeDiff, reduceIte, reduceCtorEq]; done) | (simp only [upd_apply, updH_apply, without_apply, d17, w18, e30, e31, e32, e33, e34, e35, e36, e37, d39, w40, implies_true, Nat.reduceAdd, Nat.reduceMul, Nat.reduceEqDiff, Nat.reduceLeDiff, reduceIte, reduceCtorEq]; rfl) | rfl) ?_
            rintro tm ⟨e44, e45, e46, e47, e48, e49, e50, e51, e52, _⟩
            cases d53 : (r42)
            · simp only [d53, cond_true, cond_false, lbind_go, lbind_ret, lbind_brk, lbind_none, Option.bind_some, Option.bind_none, Bool.not_true, Bool.not_false, reduceCtorEq] at h
              simp only [vs, cwp_label, ng_normal, ng_ret, ng_exit, cr, tyf, g11, d17, (ix58 o19), w18, g29, d39, (ix58 o41), w40, e44, e45, e46, e47, e48, e49, e50, e51, e52, d53, implies_true, Nat.reduceAdd, Nat.reduceMul, Nat.reduceEqDiff, Nat.reduceLeDiff, reduceIte, reduceCtorEq]
              exact ⟨List.length p28, Nat.lt_succ_self _, by rw [hI28]; refine ⟨p28, c28_19 + 1, rfl, Int.le_trans hi28 (Int.le_add_one (Int.le_refl _)), drop_next hi28 hp28, rfl, e44, e45, e46, e47, e48, e49, e50, ?_, h⟩ <;> first | (simp only [upd_apply, updH_apply, without_apply, d17, w18, d39, w40, e44, e45, e46, e47, e48, e49, e50, e51, e52, d53, implies_true, Nat.reduceAdd, Nat.reduceMul, Nat.reduceEqDiff, Nat.reduceLeDiff, reduceIte, reduceCtorEq]; done) | (simp only [upd_apply, updH_apply, without_apply, d17, w18, d39, w40, e44, e45, e46, e47, e48, e49, e50, e51, e52, d53, implies_true, Nat.reduceAdd, Nat.reduceMul, Nat.reduceEqDiff, Nat.reduceLeDiff, reduceIte, reduceCtorEq]; rfl) | rfl⟩
            · simp only [d53, cond_true, cond_false, lbind_go, lbind_ret, lbind_brk, lbind_none, Option.bind_some, Option.bind_none, Bool.not_true, Bool.not_false, reduceCtorEq] at h
              simp only [vs, cwp_label, ng_normal, ng_ret, ng_exit, cr, tyf, g11, d17, (ix58 o19), w18, g29, d39, (ix58 o41), w40, e44, e45, e46, e47, e48, e49, e50, e51, e52, d53, implies_true, Nat.reduceAdd, Nat.reduceMul, Nat.reduceEqDiff, Nat.reduceLeDiff, reduceIte, reduceCtorEq]
              replace h := kR28 _ h
              try dsimp only at h
              replace h := kR10 _ h
              try dsimp only at h
              obtain rfl := kF _ h
              refine ret1 Tryz.results54 ?_ ?_
              · first | (simp only [outV, upd_apply, updH_apply, without_apply, showV_ref, cr, tyf, nrm, tynrm, g11, d17, (ix58 o19), w18, g29, d39, (ix58 o41), w40, e44, e45, e46, e47, e48, e49, e50, e51, e52, d53, implies_true, Nat.reduceAdd, Nat.reduceMul, Nat.reduceEqDiff, Nat.reduceLeDiff, reduceIte, reduceCtorEq]; done) | (simp only [outV, upd_apply, updH_apply, without_apply, showV_ref, cr, tyf, nrm, tynrm, g11, d17, (ix58 o19), w18, g29, d39, (ix58 o41), w40, e44, e45, e46, e47, e48, e49, e50, e51, e52, d53, implies_true, Nat.reduceAdd, Nat.reduceMul, Nat.reduceEqDiff, Nat.reduceLeDiff, reduceIte, reduceCtorEq]; rfl)
              · simp only [tre, tytre, Bool.and_self]

end Go.V
end
