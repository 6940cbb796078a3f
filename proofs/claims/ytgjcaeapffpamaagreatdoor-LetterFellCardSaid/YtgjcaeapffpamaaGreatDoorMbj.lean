/- Part of the proof of a statement of YtgjcaeapffpamaaGreatDoor: a logic of values by content, the lifted functions, and what follows. -/
import Derived.Test.YtgjcaeapffpamaaGreatDoorMbf
import Derived.Test.YtgjcaeapffpamaaGreatDoorMbi
set_option linter.unusedVariables false
set_option linter.unusedSimpArgs false
set_option linter.unusedSectionVars false
set_option linter.constructorNameAsVariable false
section
namespace Go.V
open Go Go.Proofs
set_option linter.unusedSimpArgs false
set_option linter.unusedVariables false
set_option maxRecDepth 4000
set_option maxHeartbeats 4000000
def g_ref01_pairs_l0 (x0_s : GLetterSheet) : List GLetterPair → Int → Option (LOut (Bool) (Unit))
  | [], c0_3 => some (.go ())
  | e0 :: p0, c0_3 => Option.bind (g_ref01_sign x0_s e0.Left) (fun r3 => cond (r3) (Option.bind (g_ref01_sign x0_s e0.Right) (fun r4 => cond (r4) (Option.bind (g_ref01_span e0.Space 9) (fun r5 => cond (r5) (cond (decide (c0_3 > 0)) (Option.bind (getI x0_s.Pairs (IntKind.i64.wrap (c0_3 - 1))) (fun x6 => cond (decide (x6.Left > e0.Left)) (some (.ret false)) (cond (x6.Left == e0.Left) (cond (decide (x6.Right ≥ e0.Right)) (some (.ret false)) (g_ref01_pairs_l0 x0_s p0 (c0_3 + 1))) (g_ref01_pairs_l0 x0_s p0 (c0_3 + 1))))) (g_ref01_pairs_l0 x0_s p0 (c0_3 + 1))) (some (.ret false)))) (some (.ret false)))) (some (.ret false)))
def g_ref01_pairs (x0_s : GLetterSheet) : Option (Bool) := cond (lenOk x0_s.Pairs) (lbind (g_ref01_pairs_l0 x0_s x0_s.Pairs 0) (fun r => some r) (fun c7 => some (decide ((List.length x0_s.Pairs : Int) ≤ 6))) (fun _ _ => none)) none
theorem g_ref01_pairs_ok (x0_s : GLetterSheet) (R : Bool) (h : g_ref01_pairs x0_s = some R) : VPure Tryz.prog G0 68 [.agg (cGLetterSheet x0_s)] (.tree (.lit (.bool R))) := by
  refine VPure.runT mixed Tryz.call68 Tryz.func68 rfl (by simp [Tryz.ntmps68]; kernel_rfl) ?_
  obtain ⟨KF, h, kF, kN⟩ := fun_intro h
  simp only [g_ref01_pairs] at h
  cases g10 : (lenOk x0_s.Pairs)
  · simp only [g10, cond_true, cond_false, lbind_go, lbind_ret, lbind_brk, lbind_none, Option.bind_some, Option.bind_none, Bool.not_true, Bool.not_false, reduceCtorEq] at h
    exact absurd h kN
  simp only [g10, cond_true, cond_false, lbind_go, lbind_ret, lbind_brk, lbind_none, Option.bind_some, Option.bind_none, Bool.not_true, Bool.not_false, reduceCtorEq] at h
  simp only [vs, cwp_label, ng_normal, ng_ret, ng_exit, cr, tyf, g10, implies_true, Nat.reduceAdd, Nat.reduceMul, Nat.reduceEqDiff, Nat.reduceLeDiff, reduceIte, reduceCtorEq]
  obtain ⟨K9, h, kR9, kG9, kB9, kN9⟩ := lbind_intro h kN
  obtain ⟨f9, hf9, h⟩ := call2 h
  obtain ⟨I9, hI9⟩ : ∃ I : Nat → St → Prop, I = (fun m st => ∃ (p9 : List GLetterPair) (c9_3 : Int), m = List.length p9 ∧ 0 ≤ c9_3 ∧ List.drop (Int.toNat c9_3) x0_s.Pairs = p9 ∧ st.df = [] ∧ 1 ≤ st.nx ∧ st.H 0 = some (.cells (some 28) (cGLetterSheet x0_s)) ∧ st.tm 1 = .ptr 0 0 ∧ st.tm 3 = .lit (.int .i64 c9_3) ∧ K9 (f9 p9 c9_3)) := ⟨_, rfl⟩
  refine loopK mixed (by kernel_rfl) I9 (List.length x0_s.Pairs) (by rw [hI9]; refine ⟨x0_s.Pairs, 0, rfl, Int.le_refl _, rfl, rfl, (show 1 ≤ 3 by decide), ?_, ?_, ?_, h⟩ <;> first | (simp only [upd_apply, updH_apply, without_apply, implies_true, Nat.reduceAdd, Nat.reduceMul, Nat.reduceEqDiff, Nat.reduceLeDiff, reduceIte, reduceCtorEq]; done) | (simp only [upd_apply, updH_apply, without_apply, implies_true, Nat.reduceAdd, Nat.reduceMul, Nat.reduceEqDiff, Nat.reduceLeDiff, reduceIte, reduceCtorEq]; rfl) | rfl) ?_
  rintro m ⟨tm, H, nx, df⟩ hinv
  rw [hI9] at hinv
  obtain ⟨p9, c9_3, rfl, hi9, hp9, hdf, hn9, H13, e11, e12, h⟩ := hinv
  simp only at hdf hn9 H13 e11 e12
  have q14 := fresh_ne (n := 0) (B := 1) (by decide) hn9
  subst hdf hf9
  cases p9 with
  | nil =>
    have d15 : (decide (c9_3 < (List.length x0_s.Pairs : Int))) = false := not_lt_of_drop hi9 hp9
    simp only [g_ref01_pairs_l0, cond_true, cond_false, lbind_go, lbind_ret, lbind_brk, lbind_none, Option.bind_some, Option.bind_none, Bool.not_true, Bool.not_false, reduceCtorEq] at h
    replace h := kG9 _ h
    try dsimp only at h
    try simp only [cond_true, cond_false, lbind_go, lbind_ret, lbind_brk, lbind_none, Option.bind_some, Option.bind_none, Bool.not_true, Bool.not_false] at h
    simp only [vs, cwp_label, ng_normal, ng_ret, ng_exit, cr, tyf, g10, e11, e12, H13, q14, d15, implies_true, Nat.reduceAdd, Nat.reduceMul, Nat.reduceEqDiff, Nat.reduceLeDiff, reduceIte, reduceCtorEq]
    obtain rfl := kF _ h
    refine ret1 Tryz.results68 ?_ ?_
    · first | (simp only [outV, upd_apply, updH_apply, without_apply, showV_ref, cr, tyf, nrm, tynrm, g10, e11, e12, H13, q14, d15, implies_true, Nat.reduceAdd, Nat.reduceMul, Nat.reduceEqDiff, Nat.reduceLeDiff, reduceIte, reduceCtorEq]; done) | (simp only [outV, upd_apply, updH_apply, without_apply, showV_ref, cr, tyf, nrm, tynrm, g10, e11, e12, H13, q14, d15, implies_true, Nat.reduceAdd, Nat.reduceMul, Nat.reduceEqDiff, Nat.reduceLeDiff, reduceIte, reduceCtorEq]; rfl)
    · simp only [tre, tytre, Bool.and_self]
  | cons e9 p9 =>
    have d16 : (decide (c9_3 < (List.length x0_s.Pairs : Int))) = true := lt_of_drop hi9 hp9
    have o18 := getI_of_drop hi9 hp9
    have w17 := wrap_next hi9 hp9 g10
    simp only [g_ref01_pairs_l0, cond_true, cond_false, lbind_go, lbind_ret, lbind_brk, lbind_none, Option.bind_some, Option.bind_none, Bool.not_true, Bool.not_false, reduceCtorEq] at h
    cases o21 : (g_ref01_sign x0_s e9.Left) with
    | none =>
      simp only [o21, cond_true, cond_false, lbind_go, lbind_ret, lbind_brk, lbind_none, Option.bind_some, Option.bind_none, Bool.not_true, Bool.not_false, reduceCtorEq] at h
      exact absurd h kN9
    | some r20 =>
      simp only [o21, cond_true, cond_false, lbind_go, lbind_ret, lbind_brk, lbind_none, Option.bind_some, Option.bind_none, Bool.not_true, Bool.not_false, reduceCtorEq] at h
      simp only [vs, cwp_label, ng_normal, ng_ret, ng_exit, cr, tyf, g10, e11, e12, H13, q14, d16, (ix23 o18), w17, implies_true, Nat.reduceAdd, Nat.reduceMul, Nat.reduceEqDiff, Nat.reduceLeDiff, reduceIte, reduceCtorEq]
      refine ktree (args0 := [.agg (cGLetterSheet x0_s), .lit (.int .i64 e9.Left)]) (by first | (simp only [nrm, tynrm]; done) | (simp only [nrm, tynrm]; rfl) | rfl) (by simp only [tre, tytre, Bool.and_self]) (g_ref01_sign_ok _ _ _ o21) ?_
      refine fin_cut (fun tm => tm 1 = .ptr 0 0 ∧ tm 3 = .lit (.int .i64 c9_3) ∧ tm 4 = .ptr (nx + 10) 0 ∧ tm 20 = .lit (.bool r20) ∧ True) (by refine ⟨e11, e12, ?_, ?_, trivial⟩ <;> first | (simp only [upd_apply, updH_apply, without_apply, e11, e12, H13, q14, d16, w17, implies_true, Nat.reduceAdd, Nat.reduceMul, Nat.reduceEqDiff, Nat.reduceLeDiff, reduceIte, reduceCtorEq]; done) | (simp only [upd_apply, updH_apply, without_apply, e11, e12, H13, q14, d16, w17, implies_true, Nat.reduceAdd, Nat.reduceMul, Nat.reduceEqDiff, Nat.reduceLeDiff, reduceIte, reduceCtorEq]; rfl) | rfl) ?_
      rintro tm ⟨e22, e23, e24, e25, _⟩
      cases d26 : (r20)
      · simp only [d26, cond_true, cond_false, lbind_go, lbind_ret, lbind_brk, lbind_none, Option.bind_some, Option.bind_none, Bool.not_true, Bool.not_false, reduceCtorEq] at h
        simp only [vs, cwp_label, ng_normal, ng_ret, ng_exit, cr, tyf, g10, H13, q14, d16, (ix23 o18), w17, e22, e23, e24, e25, d26, implies_true, Nat.reduceAdd, Nat.reduceMul, Nat.reduceEqDiff, Nat.reduceLeDiff, reduceIte, reduceCtorEq]
        replace h := kR9 _ h
        try dsimp only at h
        obtain rfl := kF _ h
        refine ret1 Tryz.results68 ?_ ?_
        · first | (simp only [outV, upd_apply, updH_apply, without_apply, showV_ref, cr, tyf, nrm, tynrm, g10, H13, q14, d16, (ix23 o18), w17, e22, e23, e24, e25, d26, implies_true, Nat.reduceAdd, Nat.reduceMul, Nat.reduceEqDiff, Nat.reduceLeDiff, reduceIte, reduceCtorEq]; done) | (simp only [outV, upd_apply, updH_apply, without_apply, showV_ref, cr, tyf, nrm, tynrm, g10, H13, q14, d16, (ix23 o18), w17, e22, e23, e24, e25, d26, implies_true, Nat.reduceAdd, Nat.reduceMul, Nat.reduceEqDiff, Nat.reduceLeDiff, reduceIte, reduceCtorEq]; rfl)
        · simp only [tre, tytre, Bool.and_self]
      · simp only [d26, cond_true, cond_false, lbind_go, lbind_ret, lbind_brk, lbind_none, Option.bind_some, Option.bind_none, Bool.not_true, Bool.not_false, reduceCtorEq] at h
        cases o28 : (g_ref01_sign x0_s e9.Right) with
        | none =>
          simp only [o28, cond_true, cond_false, lbind_go, lbind_ret, lbind_brk, lbind_none, Option.bind_some, Option.bind_none, Bool.not_true, Bool.not_false, reduceCtorEq] at h
          exact absurd h kN9
        | some r27 =>
          simp only [o28, cond_true, cond_false, lbind_go, lbind_ret, lbind_brk, lbind_none, Option.bind_some, Option.bind_none, Bool.not_true, Bool.not_false, reduceCtorEq] at h
          simp only [vs, cwp_label, ng_normal, ng_ret, ng_exit, cr, tyf, g10, H13, q14, d16, (ix23 o18), w17, e22, e23, e24, e25, d26, implies_true, Nat.reduceAdd, Nat.reduceMul, Nat.reduceEqDiff, Nat.reduceLeDiff, reduceIte, reduceCtorEq]
          refine ktree (args0 := [.agg (cGLetterSheet x0_s), .lit (.int .i64 e9.Right)]) (by first | (simp only [nrm, tynrm]; done) | (simp only [nrm, tynrm]; rfl) | rfl) (by simp only [tre, tytre, Bool.and_self]) (g_ref01_sign_ok _ _ _ o28) ?_
          refine fin_cut (fun tm => tm 1 = .ptr 0 0 ∧ tm 3 = .lit (.int .i64 c9_3) ∧ tm 4 = .ptr (nx + 10) 0 ∧ tm 22 = .lit (.bool false) ∧ tm 26 = .lit (.bool r27) ∧ True) (by refine ⟨e22, e23, e24, ?_, ?_, trivial⟩ <;> first | (simp only [upd_apply, updH_apply, without_apply, H13, q14, d16, w17, e22, e23, e24, e25, d26, implies_true, Nat.reduceAdd, Nat.reduceMul, Nat.reduceEqDiff, Nat.reduceLeDiff, reduceIte, reduceCtorEq]; done) | (simp only [upd_apply, updH_apply, without_apply, H13, q14, d16, w17, e22, e23, e24, e25, d26, implies_true, Nat.reduceAdd, Nat.reduceMul, Nat.reduceEqDiff, Nat.reduceLeDiff, reduceIte, reduceCtorEq]; rfl) | rfl) ?_
          rintro tm ⟨e29, e30, e31, e32, e33, _⟩
          cases d34 : (r27)
          · simp only [d34, cond_true, cond_false, lbind_go, lbind_ret, lbind_brk, lbind_none, Option.bind_some, Option.bind_none, Bool.not_true, Bool.not_false, reduceCtorEq] at h
            simp only [vs, cwp_label, ng_normal, ng_ret, ng_exit, cr, tyf, g10, H13, q14, d16, (ix23 o18), w17, d26, e29, e30, e31, e32, e33, d34, implies_true, Nat.reduceAdd, Nat.reduceMul, Nat.reduceEqDiff, Nat.reduceLeDiff, reduceIte, reduceCtorEq]
            replace h := kR9 _ h
            try dsimp only at h
            obtain rfl := kF _ h
            refine ret1 Tryz.results68 ?_ ?_
            · first | (simp only [outV, upd_apply, updH_apply, without_apply, showV_ref, cr, tyf, nrm, tynrm, g10, H13, q14, d16, (ix23 o18), w17, d26, e29, e30, e31, e32, e33, d34, implies_true, Nat.reduceAdd, Nat.reduceMul, Nat.reduceEqDiff, Nat.reduceLeDiff, reduceIte, reduceCtorEq]; done) | (simp only [outV, upd_apply, updH_apply, without_apply, showV_ref, cr, tyf, nrm, tynrm, g10, H13, q14, d16, (ix23 o18), w17, d26, e29, e30, e31, e32, e33, d34, implies_true, Nat.reduceAdd, Nat.reduceMul, Nat.reduceEqDiff, Nat.reduceLeDiff, reduceIte, reduceCtorEq]; rfl)
            · simp only [tre, tytre, Bool.and_self]
          · simp only [d34, cond_true, cond_false, lbind_go, lbind_ret, lbind_brk, lbind_none, Option.bind_some, Option.bind_none, Bool.not_true, Bool.not_false, reduceCtorEq] at h
            cases o36 : (g_ref01_span e9.Space 9) with
            | none =>
              simp only [o36, cond_true, cond_false, lbind_go, lbind_ret, lbind_brk, lbind_none, Option.bind_some, Option.bind_none, Bool.not_true, Bool.not_false, reduceCtorEq] at h
              exact absurd h kN9
            | some r35 =>
              simp only [o36, cond_true, cond_false, lbind_go, lbind_ret, lbind_brk, lbind_none, Option.bind_some, Option.bind_none, Bool.not_true, Bool.not_false, reduceCtorEq] at h
              simp only [vs, cwp_label, ng_normal, ng_ret, ng_exit, cr, tyf, g10, H13, q14, d16, (ix23 o18), w17, d26, e29, e30, e31, e32, e33, d34, implies_true, Nat.reduceAdd, Nat.reduceMul, Nat.reduceEqDiff, Nat.reduceLeDiff, reduceIte, reduceCtorEq]
              refine ktree (args0 := [.agg (cGSpan e9.Space), .lit (.int .i64 9)]) (by first | (simp only [nrm, tynrm]; done) | (simp only [nrm, tynrm]; rfl) | rfl) (by simp only [tre, tytre, Bool.and_self]) (g_ref01_span_ok _ _ _ o36) ?_
              refine fin_cut (fun tm => tm 1 = .ptr 0 0 ∧ tm 3 = .lit (.int .i64 c9_3) ∧ tm 4 = .ptr (nx + 10) 0 ∧ tm 29 = .lit (.bool false) ∧ tm 32 = .lit (.bool r35) ∧ True) (by refine ⟨e29, e30, e31, ?_, ?_, trivial⟩ <;> first | (simp only [upd_apply, updH_apply, without_apply, H13, q14, d16, w17, d26, e29, e30, e31, e32, e33, d34, implies_true, Nat.reduceAdd, Nat.reduceMul, Nat.reduceEqDiff, Nat.reduceLeDiff, reduceIte, reduceCtorEq]; done) | (simp only [upd_apply, updH_apply, without_apply, H13, q14, d16, w17, d26, e29, e30, e31, e32, e33, d34, implies_true, Nat.reduceAdd, Nat.reduceMul, Nat.reduceEqDiff, Nat.reduceLeDiff, reduceIte, reduceCtorEq]; rfl) | rfl) ?_
              rintro tm ⟨e37, e38, e39, e40, e41, _⟩
              cases d42 : (r35)
              · simp only [d42, cond_true, cond_false, lbind_go, lbind_ret, lbind_brk, lbind_none, Option.bind_some, Option.bind_none, Bool.not_true, Bool.not_false, reduceCtorEq] at h
                simp only [vs, cwp_label, ng_normal, ng_ret, ng_exit, cr, tyf, g10, H13, q14, d16, (ix23 o18), w17, d26, d34, e37, e38, e39, e40, e41, d42, implies_true, Nat.reduceAdd, Nat.reduceMul, Nat.reduceEqDiff, Nat.reduceLeDiff, reduceIte, reduceCtorEq]
                replace h := kR9 _ h
                try dsimp only at h
                obtain rfl := kF _ h
                refine ret1 Tryz.results68 ?_ ?_
                · first | (simp only [outV, upd_apply, updH_apply, without_apply, showV_ref, cr, tyf, nrm, tynrm, g10, H13, q14, d16, (ix23 o18), w17, d26, d34, e37, e38, e39, e40, e41, d42, implies_true, Nat.reduceAdd, Nat.reduceMul, Nat.reduceEqDiff, Nat.reduceLeDiff, reduceIte, reduceCtorEq]; done) | (simp only [outV, upd_apply, updH_apply, without_apply, showV_ref, cr, tyf, nrm, tynrm, g10, H13, q14, d16, (ix23 o18), w17, d26, d34, e37, e38, e39, e40, e41, d42, implies_true, Nat.reduceAdd, Nat.reduceMul, Nat.reduceEqDiff, Nat.reduceLeDiff, reduceIte, reduceCtorEq]; rfl)
                · simp only [tre, tytre, Bool.and_self]
              · simp only [d42, cond_true, cond_false, lbind_go, lbind_ret, lbind_brk, lbind_none, Option.bind_some, Option.bind_none, Bool.not_true, Bool.not_false, reduceCtorEq] at h
                simp only [vs, cwp_label, ng_normal, ng_ret, ng_exit, cr, tyf, g10, H13, q14, d16, (ix23 o18), w17, d26, d34, e37, e38, e39, e40, e41, d42, implies_true, Nat.reduceAdd, Nat.reduceMul, Nat.reduceEqDiff, Nat.reduceLeDiff, reduceIte, reduceCtorEq]
                refine cwp_drwQF (fun tm => tm 1 = .ptr 0 0 ∧ tm 3 = .lit (.int .i64 c9_3) ∧ tm 4 = .ptr (nx + 10) 0 ∧ True) (by refine ⟨e37, e38, e39, trivial⟩ <;> first | (simp only [upd_apply, updH_apply, without_apply, H13, q14, d16, w17, d26, d34, e37, e38, e39, e40, e41, d42, implies_true, Nat.reduceAdd, Nat.reduceMul, Nat.reduceEqDiff, Nat.reduceLeDiff, reduceIte, reduceCtorEq]; done) | (simp only [upd_apply, updH_apply, without_apply, H13, q14, d16, w17, d26, d34, e37, e38, e39, e40, e41, d42, implies_true, Nat.reduceAdd, Nat.reduceMul, Nat.reduceEqDiff, Nat.reduceLeDiff, reduceIte, reduceCtorEq]; rfl) | rfl) ?_
                rintro tm ⟨e43, e44, e45, _⟩
                cases d46 : (decide (c9_3 > 0))
                · simp only [d46, cond_true, cond_false, lbind_go, lbind_ret, lbind_brk, lbind_none, Option.bind_some, Option.bind_none, Bool.not_true, Bool.not_false, reduceCtorEq] at h
                  simp only [vs, cwp_label, ng_normal, ng_ret, ng_exit, cr, tyf, g10, H13, q14, d16, (ix23 o18), w17, d26, d34, d42, e43, e44, e45, d46, implies_true, Nat.reduceAdd, Nat.reduceMul, Nat.reduceEqDiff, Nat.reduceLeDiff, reduceIte, reduceCtorEq]
                  exact ⟨List.length p9, Nat.lt_succ_self _, by rw [hI9]; refine ⟨p9, c9_3 + 1, rfl, Int.le_trans hi9 (Int.le_add_one (Int.le_refl _)), drop_next hi9 hp9, rfl, (show 1 ≤ nx + 71 by omega), ?_, e43, ?_, h⟩ <;> first | (simp only [upd_apply, updH_apply, without_apply, H13, q14, d16, w17, d26, d34, d42, e43, e44, e45, d46, implies_true, Nat.reduceAdd, Nat.reduceMul, Nat.reduceEqDiff, Nat.reduceLeDiff, reduceIte, reduceCtorEq]; done) | (simp only [upd_apply, updH_apply, without_apply, H13, q14, d16, w17, d26, d34, d42, e43, e44, e45, d46, implies_true, Nat.reduceAdd, Nat.reduceMul, Nat.reduceEqDiff, Nat.reduceLeDiff, reduceIte, reduceCtorEq]; rfl) | rfl⟩
                · simp only [d46, cond_true, cond_false, lbind_go, lbind_ret, lbind_brk, lbind_none, Option.bind_some, Option.bind_none, Bool.not_true, Bool.not_false, reduceCtorEq] at h
                  cases o48 : (getI x0_s.Pairs (IntKind.i64.wrap (c9_3 - 1))) with
                  | none =>
                    simp only [o48, cond_true, cond_false, lbind_go, lbind_ret, lbind_brk, lbind_none, Option.bind_some, Option.bind_none, Bool.not_true, Bool.not_false, reduceCtorEq] at h
                    exact absurd h kN9
                  | some x47 =>
                    simp only [o48, cond_true, cond_false, lbind_go, lbind_ret, lbind_brk, lbind_none, Option.bind_some, Option.bind_none, Bool.not_true, Bool.not_false, reduceCtorEq] at h
                    cases d49 : (decide (x47.Left > e9.Left))
                    · simp only [d49, cond_true, cond_false, lbind_go, lbind_ret, lbind_brk, lbind_none, Option.bind_some, Option.bind_none, Bool.not_true, Bool.not_false, reduceCtorEq] at h
                      cases d50 : (x47.Left == e9.Left)
                      · simp only [d50, cond_true, cond_false, lbind_go, lbind_ret, lbind_brk, lbind_none, Option.bind_some, Option.bind_none, Bool.not_true, Bool.not_false, reduceCtorEq] at h
                        simp only [vs, cwp_label, ng_normal, ng_ret, ng_exit, cr, tyf, g10, H13, q14, d16, (ix23 o18), w17, d26, d34, d42, e43, e44, e45, d46, (ix23 o48), d49, d50, implies_true, Nat.reduceAdd, Nat.reduceMul, Nat.reduceEqDiff, Nat.reduceLeDiff, reduceIte, reduceCtorEq]
                        exact ⟨List.length p9, Nat.lt_succ_self _, by rw [hI9]; refine ⟨p9, c9_3 + 1, rfl, Int.le_trans hi9 (Int.le_add_one (Int.le_refl _)), drop_next hi9 hp9, rfl, (show 1 ≤ nx + 71 by omega), ?_, e43, ?_, h⟩ <;> first | (simp only [upd_apply, updH_apply, without_apply, H13, q14, d16, w17, d26, d34, d42, e43, e44, e45, d46, d49, d50, implies_true, Nat.reduceAdd, Nat.reduceMul, Nat.reduceEqDiff, Nat.reduceLeDiff, reduceIte, reduceCtorEq]; done) | (simp only [upd_apply, updH_apply, without_apply, H13, q14, d16, w17, d26, d34, d42, e43, e44, e45, d46, d49, d50, implies_true, Nat.reduceAdd, Nat.reduceMul, Nat.reduceEqDiff, Nat.reduceLeDiff, reduceIte, reduceCtorEq]; rfl) | rfl⟩
                      · simp only [d50, cond_true, cond_false, lbind_go, lbind_ret, lbind_brk, lbind_none, Option.bind_some, Option.bind_none, Bool.not_true, Bool.not_false, reduceCtorEq] at h
                        cases d51 : (decide (x47.Right ≥ e9.Right))
                        · simp only [d51, cond_true, cond_false, lbind_go, lbind_ret, lbind_brk, lbind_none, Option.bind_some, Option.bind_none, Bool.not_true, Bool.not_false, reduceCtorEq] at h
                          simp only [vs, cwp_label, ng_normal, ng_ret, ng_exit, cr, tyf, g10, H13, q14, d16, (ix23 o18), w17, d26, d34, d42, e43, e44, e45, d46, (ix23 o48), d49, d50, d51, implies_true, Nat.reduceAdd, Nat.reduceMul, Nat.reduceEqDiff, Nat.reduceLeDiff, reduceIte, reduceCtorEq]
                          exact ⟨List.length p9, Nat.lt_succ_self _, by rw [hI9]; refine ⟨p9, c9_3 + 1, rfl, Int.le_trans hi9 (Int.le_add_one (Int.le_refl _)), drop_next hi9 hp9, rfl, (show 1 ≤ nx + 71 by omega), ?_, e43, ?_, h⟩ <;> first | (simp only [upd_apply, updH_apply, without_apply, H13, q14, d16, w17, d26, d34, d42, e43, e44, e45, d46, d49, d50, d51, implies_true, Nat.reduceAdd, Nat.reduceMul, Nat.reduceEqDiff, Nat.reduceLeDiff, reduceIte, reduceCtorEq]; done) | (simp only [upd_apply, updH_apply, without_apply, H13, q14, d16, w17, d26, d34, d42, e43, e44, e45, d46, d49, d50, d51, implies_true, Nat.reduceAdd, Nat.reduceMul, Nat.reduceEqDiff, Nat.reduceLeDiff, reduceIte, reduceCtorEq]; rfl) | rfl⟩
                        · simp only [d51, cond_true, cond_false, lbind_go, lbind_ret, lbind_brk, lbind_none, Option.bind_some, Option.bind_none, Bool.not_true, Bool.not_false, reduceCtorEq] at h
                          simp only [vs, cwp_label, ng_normal, ng_ret, ng_exit, cr, tyf, g10, H13, q14, d16, (ix23 o18), w17, d26, d34, d42, e43, e44, e45, d46, (ix23 o48), d49, d50, d51, implies_true, Nat.reduceAdd, Nat.reduceMul, Nat.reduceEqDiff, Nat.reduceLeDiff, reduceIte, reduceCtorEq]
                          replace h := kR9 _ h
                          try dsimp only at h
                          obtain rfl := kF _ h
                          refine ret1 Tryz.results68 ?_ ?_
                          · first | (simp only [outV, upd_apply, updH_apply, without_apply, showV_ref, cr, tyf, nrm, tynrm, g10, H13, q14, d16, (ix23 o18), w17, d26, d34, d42, e43, e44, e45, d46, (ix23 o48), d49, d50, d51, implies_true, Nat.reduceAdd, Nat.reduceMul, Nat.reduceEqDiff, Nat.reduceLeDiff, reduceIte, reduceCtorEq]; done) | (simp only [outV, upd_apply, updH_apply, without_apply, showV_ref, cr, tyf, nrm, tynrm, g10, H13, q14, d16, (ix23 o18), w17, d26, d34, d42, e43, e44, e45, d46, (ix23 o48), d49, d50, d51, implies_true, Nat.reduceAdd, Nat.reduceMul, Nat.reduceEqDiff, Nat.reduceLeDiff, reduceIte, reduceCtorEq]; rfl)
                          · simp only [tre, tytre, Bool.and_self]
                    · simp only [d49, cond_true, cond_false, lbind_go, lbind_ret, lbind_brk, lbind_none, Option.bind_some, Option.bind_none, Bool.not_true, Bool.not_false, reduceCtorEq] at h
                      simp only [vs, cwp_label, ng_normal, ng_ret, ng_exit, cr, tyf, g10, H13, q14, d16, (ix23 o18), w17, d26, d34, d42, e43, e44, e45, d46, (ix23 o48), d49, implies_true, Nat.reduceAdd, Nat.reduceMul, Nat.reduceEqDiff, Nat.reduceLeDiff, reduceIte, reduceCtorEq]
                      replace h := kR9 _ h
                      try dsimp only at h
                      obtain rfl := kF _ h
                      refine ret1 Tryz.results68 ?_ ?_
                      · first | (simp only [outV, upd_apply, updH_apply, without_apply, showV_ref, cr, tyf, nrm, tynrm, g10, H13, q14, d16, (ix23 o18), w17, d26, d34, d42, e43, e44, e45, d46, (ix23 o48), d49, implies_true, Nat.reduceAdd, Nat.reduceMul, Nat.reduceEqDiff, Nat.reduceLeDiff, reduceIte, reduceCtorEq]; done) | (simp only [outV, upd_apply, updH_apply, without_apply, showV_ref, cr, tyf, nrm, tynrm, g10, H13, q14, d16, (ix23 o18), w17, d26, d34, d42, e43, e44, e45, d46, (ix23 o48), d49, implies_true, Nat.reduceAdd, Nat.reduceMul, Nat.reduceEqDiff, Nat.reduceLeDiff, reduceIte, reduceCtorEq]; rfl)
                      · simp only [tre, tytre, Bool.and_self]

end Go.V
end
section
namespace Go.V
open Go Go.Proofs
set_option linter.unusedSimpArgs false
set_option linter.unusedVariables false
set_option maxRecDepth 4000
set_option maxHeartbeats 4000000
def g_ref01_Front (x0_n : Int) : Option (Bool) := Option.bind (g_ref01_in x0_n 1 400) (fun r1 => some r1)
theorem g_ref01_Front_ok (x0_n : Int) (R : Bool) (h : g_ref01_Front x0_n = some R) : VPure Tryz.prog G0 70 [.lit (.int .i64 x0_n)] (.tree (.lit (.bool R))) := by
  refine VPure.runT mixed Tryz.call70 Tryz.func70 rfl (by simp [Tryz.ntmps70]; kernel_rfl) ?_
  obtain ⟨KF, h, kF, kN⟩ := fun_intro h
  simp only [g_ref01_Front] at h
  cases o3 : (g_ref01_in x0_n 1 400) with
  | none =>
    simp only [o3, cond_true, cond_false, lbind_go, lbind_ret, lbind_brk, lbind_none, Option.bind_some, Option.bind_none, Bool.not_true, Bool.not_false, reduceCtorEq] at h
    exact absurd h kN
  | some r2 =>
    simp only [o3, cond_true, cond_false, lbind_go, lbind_ret, lbind_brk, lbind_none, Option.bind_some, Option.bind_none, Bool.not_true, Bool.not_false, reduceCtorEq] at h
    simp only [vs, cwp_label, ng_normal, ng_ret, ng_exit, cr, tyf, implies_true, Nat.reduceAdd, Nat.reduceMul, Nat.reduceEqDiff, Nat.reduceLeDiff, reduceIte, reduceCtorEq]
    refine ktree (args0 := [.lit (.int .i64 x0_n), .lit (.int .i64 1), .lit (.int .i64 400)]) (by first | (simp only [nrm, tynrm]; done) | (simp only [nrm, tynrm]; rfl) | rfl) (by simp only [tre, tytre, Bool.and_self]) (g_ref01_in_ok _ _ _ _ o3) ?_
    refine fin_cut (fun tm => tm 4 = .lit (.bool r2) ∧ True) (by refine ⟨?_, trivial⟩ <;> first | (simp only [upd_apply, updH_apply, without_apply, implies_true, Nat.reduceAdd, Nat.reduceMul, Nat.reduceEqDiff, Nat.reduceLeDiff, reduceIte, reduceCtorEq]; done) | (simp only [upd_apply, updH_apply, without_apply, implies_true, Nat.reduceAdd, Nat.reduceMul, Nat.reduceEqDiff, Nat.reduceLeDiff, reduceIte, reduceCtorEq]; rfl) | rfl) ?_
    rintro tm ⟨e4, _⟩
    simp only [vs, cwp_label, ng_normal, ng_ret, ng_exit, cr, tyf, e4, implies_true, Nat.reduceAdd, Nat.reduceMul, Nat.reduceEqDiff, Nat.reduceLeDiff, reduceIte, reduceCtorEq]
    obtain rfl := kF _ h
    refine ret1 Tryz.results70 ?_ ?_
    · first | (simp only [outV, upd_apply, updH_apply, without_apply, showV_ref, cr, tyf, nrm, tynrm, e4, implies_true, Nat.reduceAdd, Nat.reduceMul, Nat.reduceEqDiff, Nat.reduceLeDiff, reduceIte, reduceCtorEq]; done) | (simp only [outV, upd_apply, updH_apply, without_apply, showV_ref, cr, tyf, nrm, tynrm, e4, implies_true, Nat.reduceAdd, Nat.reduceMul, Nat.reduceEqDiff, Nat.reduceLeDiff, reduceIte, reduceCtorEq]; rfl)
    · simp only [tre, tytre, Bool.and_self]

end Go.V
end
