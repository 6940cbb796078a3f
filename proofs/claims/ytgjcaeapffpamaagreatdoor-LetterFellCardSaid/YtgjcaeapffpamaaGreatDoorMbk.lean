/- Part of the proof of a statement of YtgjcaeapffpamaaGreatDoor: a logic of values by content, the lifted functions, and what follows. -/
import Derived.Test.YtgjcaeapffpamaaGreatDoorMbf
import Derived.Test.YtgjcaeapffpamaaGreatDoorMbi
import Derived.Test.YtgjcaeapffpamaaGreatDoorMbj
set_option linter.unusedVariables false
set_option linter.unusedSimpArgs false
set_option linter.unusedSectionVars false
set_option linter.constructorNameAsVariable false
section
namespace Go.V
open Go Go.Proofs
set_option linter.unusedSimpArgs false
set_option linter.unusedVariables false
set_option maxRecDepth 4000
set_option maxHeartbeats 4000000
def g_ref01_Sheet_l1 (x0_s : GLetterSheet) : List GLetterWord → Int → Option (LOut (Bool) (Unit))
  | [], c1_4 => some (.go ())
  | e1 :: p1, c1_4 => Option.bind (g_ref01_word x0_s e1) (fun r4 => cond (r4) (g_ref01_Sheet_l1 x0_s p1 (c1_4 + 1)) (some (.ret false)))
def g_ref01_Sheet_l0  : List Int → Int → Option (LOut (Bool) (Unit))
  | [], c0_3 => some (.go ())
  | e0 :: p0, c0_3 => Option.bind (g_ref01_in e0 1 20) (fun r2 => cond (r2) (g_ref01_Sheet_l0 p0 (c0_3 + 1)) (some (.ret false)))
def g_ref01_Sheet (x0_s : GLetterSheet) : Option (Bool) := cond (lenOk x0_s.Widths) (lbind (g_ref01_Sheet_l0 x0_s.Widths 0) (fun r => some r) (fun c3 => cond (lenOk x0_s.Words) (lbind (g_ref01_Sheet_l1 x0_s x0_s.Words 0) (fun r => some r) (fun c5 => Option.bind (g_ref01_in (List.length x0_s.Widths : Int) 1 6) (fun r6 => cond (r6) (Option.bind (g_ref01_pairs x0_s) (fun r7 => cond (r7) (Option.bind (g_ref01_span x0_s.Other 9) (fun r8 => cond (r8) (Option.bind (g_ref01_span x0_s.Gap 20) (fun r9 => cond (r9) (Option.bind (g_ref01_in x0_s.Hyphen 1 20) (fun r10 => cond (r10) (Option.bind (g_ref01_in (List.length x0_s.Words : Int) 1 4) (fun r11 => cond (r11) (Option.bind (g_ref01_Front x0_s.Wide) (fun r12 => cond (r12) (Option.bind (g_ref01_in x0_s.Rows 1 3) (fun r13 => some r13)) (some false))) (some false))) (some false))) (some false))) (some false))) (some false))) (some false))) (fun _ _ => none)) none) (fun _ _ => none)) none
theorem g_ref01_Sheet_ok (x0_s : GLetterSheet) (R : Bool) (h : g_ref01_Sheet x0_s = some R) : VPure Tryz.prog G0 20 [.agg (cGLetterSheet x0_s)] (.tree (.lit (.bool R))) := by
  refine VPure.runT mixed Tryz.call20 Tryz.func20 rfl (by simp [Tryz.ntmps20]; kernel_rfl) ?_
  obtain ⟨KF, h, kF, kN⟩ := fun_intro h
  simp only [g_ref01_Sheet] at h
  cases g16 : (lenOk x0_s.Widths)
  · simp only [g16, cond_true, cond_false, lbind_go, lbind_ret, lbind_brk, lbind_none, Option.bind_some, Option.bind_none, Bool.not_true, Bool.not_false, reduceCtorEq] at h
    exact absurd h kN
  simp only [g16, cond_true, cond_false, lbind_go, lbind_ret, lbind_brk, lbind_none, Option.bind_some, Option.bind_none, Bool.not_true, Bool.not_false, reduceCtorEq] at h
  simp only [vs, cwp_label, ng_normal, ng_ret, ng_exit, cr, tyf, g16, implies_true, Nat.reduceAdd, Nat.reduceMul, Nat.reduceEqDiff, Nat.reduceLeDiff, reduceIte, reduceCtorEq]
  obtain ⟨K15, h, kR15, kG15, kB15, kN15⟩ := lbind_intro h kN
  obtain ⟨f15, hf15, h⟩ := call2 h
  obtain ⟨I15, hI15⟩ : ∃ I : Nat → St → Prop, I = (fun m st => ∃ (p15 : List Int) (c15_3 : Int), m = List.length p15 ∧ 0 ≤ c15_3 ∧ List.drop (Int.toNat c15_3) x0_s.Widths = p15 ∧ st.df = [] ∧ 1 ≤ st.nx ∧ st.H 0 = some (.cells (some 28) (cGLetterSheet x0_s)) ∧ st.tm 1 = .ptr 0 0 ∧ st.tm 3 = .lit (.int .i64 c15_3) ∧ K15 (f15 p15 c15_3)) := ⟨_, rfl⟩
  refine loopK mixed (by kernel_rfl) I15 (List.length x0_s.Widths) (by rw [hI15]; refine ⟨x0_s.Widths, 0, rfl, Int.le_refl _, rfl, rfl, (show 1 ≤ 3 by decide), ?_, ?_, ?_, h⟩ <;> first | (simp only [upd_apply, updH_apply, without_apply, implies_true, Nat.reduceAdd, Nat.reduceMul, Nat.reduceEqDiff, Nat.reduceLeDiff, reduceIte, reduceCtorEq]; done) | (simp only [upd_apply, updH_apply, without_apply, implies_true, Nat.reduceAdd, Nat.reduceMul, Nat.reduceEqDiff, Nat.reduceLeDiff, reduceIte, reduceCtorEq]; rfl) | rfl) ?_
  rintro m ⟨tm, H, nx, df⟩ hinv
  rw [hI15] at hinv
  obtain ⟨p15, c15_3, rfl, hi15, hp15, hdf, hn15, H19, e17, e18, h⟩ := hinv
  simp only at hdf hn15 H19 e17 e18
  have q20 := fresh_ne (n := 0) (B := 1) (by decide) hn15
  subst hdf hf15
  cases p15 with
  | nil =>
    have d21 : (decide (c15_3 < (List.length x0_s.Widths : Int))) = false := not_lt_of_drop hi15 hp15
    simp only [g_ref01_Sheet_l0, cond_true, cond_false, lbind_go, lbind_ret, lbind_brk, lbind_none, Option.bind_some, Option.bind_none, Bool.not_true, Bool.not_false, reduceCtorEq] at h
    replace h := kG15 _ h
    try dsimp only at h
    try simp only [cond_true, cond_false, lbind_go, lbind_ret, lbind_brk, lbind_none, Option.bind_some, Option.bind_none, Bool.not_true, Bool.not_false] at h
    cases g23 : (lenOk x0_s.Words)
    · simp only [g23, cond_true, cond_false, lbind_go, lbind_ret, lbind_brk, lbind_none, Option.bind_some, Option.bind_none, Bool.not_true, Bool.not_false, reduceCtorEq] at h
      exact absurd h kN
    simp only [g23, cond_true, cond_false, lbind_go, lbind_ret, lbind_brk, lbind_none, Option.bind_some, Option.bind_none, Bool.not_true, Bool.not_false, reduceCtorEq] at h
    simp only [vs, cwp_label, ng_normal, ng_ret, ng_exit, cr, tyf, g16, e17, e18, H19, q20, d21, g23, implies_true, Nat.reduceAdd, Nat.reduceMul, Nat.reduceEqDiff, Nat.reduceLeDiff, reduceIte, reduceCtorEq]
    obtain ⟨K22, h, kR22, kG22, kB22, kN22⟩ := lbind_intro h kN
    obtain ⟨f22, hf22, h⟩ := call2 h
    obtain ⟨I22, hI22⟩ : ∃ I : Nat → St → Prop, I = (fun m st => ∃ (p22 : List GLetterWord) (c22_4 : Int), m = List.length p22 ∧ 0 ≤ c22_4 ∧ List.drop (Int.toNat c22_4) x0_s.Words = p22 ∧ st.df = [] ∧ 1 ≤ st.nx ∧ st.H 0 = some (.cells (some 28) (cGLetterSheet x0_s)) ∧ st.tm 1 = .ptr 0 0 ∧ st.tm 4 = .lit (.int .i64 c22_4) ∧ K22 (f22 p22 c22_4)) := ⟨_, rfl⟩
    refine loopK mixed (by kernel_rfl) I22 (List.length x0_s.Words) (by rw [hI22]; refine ⟨x0_s.Words, 0, rfl, Int.le_refl _, rfl, rfl, (show 1 ≤ nx + 6 by omega), ?_, e17, ?_, h⟩ <;> first | (simp only [upd_apply, updH_apply, without_apply, e17, e18, H19, q20, d21, implies_true, Nat.reduceAdd, Nat.reduceMul, Nat.reduceEqDiff, Nat.reduceLeDiff, reduceIte, reduceCtorEq]; done) | (simp only [upd_apply, updH_apply, without_apply, e17, e18, H19, q20, d21, implies_true, Nat.reduceAdd, Nat.reduceMul, Nat.reduceEqDiff, Nat.reduceLeDiff, reduceIte, reduceCtorEq]; rfl) | rfl) ?_
    rintro m ⟨tm, H, nx, df⟩ hinv
    rw [hI22] at hinv
    obtain ⟨p22, c22_4, rfl, hi22, hp22, hdf, hn22, H26, e24, e25, h⟩ := hinv
    simp only at hdf hn22 H26 e24 e25
    have q27 := fresh_ne (n := 0) (B := 1) (by decide) hn22
    subst hdf hf22
    cases p22 with
    | nil =>
      have d28 : (decide (c22_4 < (List.length x0_s.Words : Int))) = false := not_lt_of_drop hi22 hp22
      simp only [g_ref01_Sheet_l1, cond_true, cond_false, lbind_go, lbind_ret, lbind_brk, lbind_none, Option.bind_some, Option.bind_none, Bool.not_true, Bool.not_false, reduceCtorEq] at h
      replace h := kG22 _ h
      try dsimp only at h
      try simp only [cond_true, cond_false, lbind_go, lbind_ret, lbind_brk, lbind_none, Option.bind_some, Option.bind_none, Bool.not_true, Bool.not_false] at h
      cases o30 : (g_ref01_in (List.length x0_s.Widths : Int) 1 6) with
      | none =>
        simp only [o30, cond_true, cond_false, lbind_go, lbind_ret, lbind_brk, lbind_none, Option.bind_some, Option.bind_none, Bool.not_true, Bool.not_false, reduceCtorEq] at h
        exact absurd h kN
      | some r29 =>
        simp only [o30, cond_true, cond_false, lbind_go, lbind_ret, lbind_brk, lbind_none, Option.bind_some, Option.bind_none, Bool.not_true, Bool.not_false, reduceCtorEq] at h
        simp only [vs, cwp_label, ng_normal, ng_ret, ng_exit, cr, tyf, g16, d21, g23, e24, e25, H26, q27, d28, implies_true, Nat.reduceAdd, Nat.reduceMul, Nat.reduceEqDiff, Nat.reduceLeDiff, reduceIte, reduceCtorEq]
        refine ktree (args0 := [.lit (.int .i64 (List.length x0_s.Widths : Int)), .lit (.int .i64 1), .lit (.int .i64 6)]) (by first | (simp only [nrm, tynrm]; done) | (simp only [nrm, tynrm]; rfl) | rfl) (by simp only [tre, tytre, Bool.and_self]) (g_ref01_in_ok _ _ _ _ o30) ?_
        refine fin_cut (fun tm => tm 1 = .ptr 0 0 ∧ tm 37 = .lit (.bool r29) ∧ True) (by refine ⟨e24, ?_, trivial⟩ <;> first | (simp only [upd_apply, updH_apply, without_apply, d21, e24, e25, H26, q27, d28, implies_true, Nat.reduceAdd, Nat.reduceMul, Nat.reduceEqDiff, Nat.reduceLeDiff, reduceIte, reduceCtorEq]; done) | (simp only [upd_apply, updH_apply, without_apply, d21, e24, e25, H26, q27, d28, implies_true, Nat.reduceAdd, Nat.reduceMul, Nat.reduceEqDiff, Nat.reduceLeDiff, reduceIte, reduceCtorEq]; rfl) | rfl) ?_
        rintro tm ⟨e31, e32, _⟩
        cases d33 : (r29)
        · simp only [d33, cond_true, cond_false, lbind_go, lbind_ret, lbind_brk, lbind_none, Option.bind_some, Option.bind_none, Bool.not_true, Bool.not_false, reduceCtorEq] at h
          simp only [vs, cwp_label, ng_normal, ng_ret, ng_exit, cr, tyf, g16, d21, g23, H26, q27, d28, e31, e32, d33, implies_true, Nat.reduceAdd, Nat.reduceMul, Nat.reduceEqDiff, Nat.reduceLeDiff, reduceIte, reduceCtorEq]
          obtain rfl := kF _ h
          refine ret1 Tryz.results20 ?_ ?_
          · first | (simp only [outV, upd_apply, updH_apply, without_apply, showV_ref, cr, tyf, nrm, tynrm, g16, d21, g23, H26, q27, d28, e31, e32, d33, implies_true, Nat.reduceAdd, Nat.reduceMul, Nat.reduceEqDiff, Nat.reduceLeDiff, reduceIte, reduceCtorEq]; done) | (simp only [outV, upd_apply, updH_apply, without_apply, showV_ref, cr, tyf, nrm, tynrm, g16, d21, g23, H26, q27, d28, e31, e32, d33, implies_true, Nat.reduceAdd, Nat.reduceMul, Nat.reduceEqDiff, Nat.reduceLeDiff, reduceIte, reduceCtorEq]; rfl)
          · simp only [tre, tytre, Bool.and_self]
        · simp only [d33, cond_true, cond_false, lbind_go, lbind_ret, lbind_brk, lbind_none, Option.bind_some, Option.bind_none, Bool.not_true, Bool.not_false, reduceCtorEq] at h
          cases o35 : (g_ref01_pairs x0_s) with
          | none =>
            simp only [o35, cond_true, cond_false, lbind_go, lbind_ret, lbind_brk, lbind_none, Option.bind_some, Option.bind_none, Bool.not_true, Bool.not_false, reduceCtorEq] at h
            exact absurd h kN
          | some r34 =>
            simp only [o35, cond_true, cond_false, lbind_go, lbind_ret, lbind_brk, lbind_none, Option.bind_some, Option.bind_none, Bool.not_true, Bool.not_false, reduceCtorEq] at h
            simp only [vs, cwp_label, ng_normal, ng_ret, ng_exit, cr, tyf, g16, d21, g23, H26, q27, d28, e31, e32, d33, implies_true, Nat.reduceAdd, Nat.reduceMul, Nat.reduceEqDiff, Nat.reduceLeDiff, reduceIte, reduceCtorEq]
            refine ktree (args0 := [.agg (cGLetterSheet x0_s)]) (by first | (simp only [nrm, tynrm]; done) | (simp only [nrm, tynrm]; rfl) | rfl) (by simp only [tre, tytre, Bool.and_self]) (g_ref01_pairs_ok _ _ o35) ?_
            refine fin_cut (fun tm => tm 1 = .ptr 0 0 ∧ tm 38 = .lit (.bool true) ∧ tm 40 = .lit (.bool r34) ∧ True) (by refine ⟨e31, ?_, ?_, trivial⟩ <;> first | (simp only [upd_apply, updH_apply, without_apply, d21, H26, q27, d28, e31, e32, d33, implies_true, Nat.reduceAdd, Nat.reduceMul, Nat.reduceEqDiff, Nat.reduceLeDiff, reduceIte, reduceCtorEq]; done) | (simp only [upd_apply, updH_apply, without_apply, d21, H26, q27, d28, e31, e32, d33, implies_true, Nat.reduceAdd, Nat.reduceMul, Nat.reduceEqDiff, Nat.reduceLeDiff, reduceIte, reduceCtorEq]; rfl) | rfl) ?_
            rintro tm ⟨e36, e37, e38, _⟩
            cases d39 : (r34)
            · simp only [d39, cond_true, cond_false, lbind_go, lbind_ret, lbind_brk, lbind_none, Option.bind_some, Option.bind_none, Bool.not_true, Bool.not_false, reduceCtorEq] at h
              simp only [vs, cwp_label, ng_normal, ng_ret, ng_exit, cr, tyf, g16, d21, g23, H26, q27, d28, d33, e36, e37, e38, d39, implies_true, Nat.reduceAdd, Nat.reduceMul, Nat.reduceEqDiff, Nat.reduceLeDiff, reduceIte, reduceCtorEq]
              obtain rfl := kF _ h
              refine ret1 Tryz.results20 ?_ ?_
              · first | (simp only [outV, upd_apply, updH_apply, without_apply, showV_ref, cr, tyf, nrm, tynrm, g16, d21, g23, H26, q27, d28, d33, e36, e37, e38, d39, implies_true, Nat.reduceAdd, Nat.reduceMul, Nat.reduceEqDiff, Nat.reduceLeDiff, reduceIte, reduceCtorEq]; done) | (simp only [outV, upd_apply, updH_apply, without_apply, showV_ref, cr, tyf, nrm, tynrm, g16, d21, g23, H26, q27, d28, d33, e36, e37, e38, d39, implies_true, Nat.reduceAdd, Nat.reduceMul, Nat.reduceEqDiff, Nat.reduceLeDiff, reduceIte, reduceCtorEq]; rfl)
              · simp only [tre, tytre, Bool.and_self]
            · simp only [d39, cond_true, cond_false, lbind_go, lbind_ret, lbind_brk, lbind_none, Option.bind_some, Option.bind_none, Bool.not_true, Bool.not_false, reduceCtorEq] at h
              cases o41 : (g_ref01_span x0_s.Other 9) with
              | none =>
                simp only [o41, cond_true, cond_false, lbind_go, lbind_ret, lbind_brk, lbind_none, Option.bind_some, Option.bind_none, Bool.not_true, Bool.not_false, reduceCtorEq] at h
                exact absurd h kN
              | some r40 =>
                simp only [o41, cond_true, cond_false, lbind_go, lbind_ret, lbind_brk, lbind_none, Option.bind_some, Option.bind_none, Bool.not_true, Bool.not_false, reduceCtorEq] at h
                simp only [vs, cwp_label, ng_normal, ng_ret, ng_exit, cr, tyf, g16, d21, g23, H26, q27, d28, d33, e36, e37, e38, d39, implies_true, Nat.reduceAdd, Nat.reduceMul, Nat.reduceEqDiff, Nat.reduceLeDiff, reduceIte, reduceCtorEq]
                refine ktree (args0 := [.agg (cGSpan x0_s.Other), .lit (.int .i64 9)]) (by first | (simp only [nrm, tynrm]; done) | (simp only [nrm, tynrm]; rfl) | rfl) (by simp only [tre, tytre, Bool.and_self]) (g_ref01_span_ok _ _ _ o41) ?_
                refine fin_cut (fun tm => tm 1 = .ptr 0 0 ∧ tm 42 = .lit (.bool true) ∧ tm 45 = .lit (.bool r40) ∧ True) (by refine ⟨e36, ?_, ?_, trivial⟩ <;> first | (simp only [upd_apply, updH_apply, without_apply, d21, H26, q27, d28, d33, e36, e37, e38, d39, implies_true, Nat.reduceAdd, Nat.reduceMul, Nat.reduceEqDiff, Nat.reduceLeDiff, reduceIte, reduceCtorEq]; done) | (simp only [upd_apply, updH_apply, without_apply, d21, H26, q27, d28, d33, e36, e37, e38, d39, implies_true, Nat.reduceAdd, Nat.reduceMul, Nat.reduceEqDiff, Nat.reduceLeDiff, reduceIte, reduceCtorEq]; rfl) | rfl) ?_
                rintro tm ⟨e42, e43, e44, _⟩
                cases d45 : (r40)
                · simp only [d45, cond_true, cond_false, lbind_go, lbind_ret, lbind_brk, lbind_none, Option.bind_some, Option.bind_none, Bool.not_true, Bool.not_false, reduceCtorEq] at h
                  simp only [vs, cwp_label, ng_normal, ng_ret, ng_exit, cr, tyf, g16, d21, g23, H26, q27, d28, d33, d39, e42, e43, e44, d45, implies_true, Nat.reduceAdd, Nat.reduceMul, Nat.reduceEqDiff, Nat.reduceLeDiff, reduceIte, reduceCtorEq]
                  obtain rfl := kF _ h
                  refine ret1 Tryz.results20 ?_ ?_
                  · first | (simp only [outV, upd_apply, updH_apply, without_apply, showV_ref, cr, tyf, nrm, tynrm, g16, d21, g23, H26, q27, d28, d33, d39, e42, e43, e44, d45, implies_true, Nat.reduceAdd, Nat.reduceMul, Nat.reduceEqDiff, Nat.reduceLeDiff, reduceIte, reduceCtorEq]; done) | (simp only [outV, upd_apply, updH_apply, without_apply, showV_ref, cr, tyf, nrm, tynrm, g16, d21, g23, H26, q27, d28, d33, d39, e42, e43, e44, d45, implies_true, Nat.reduceAdd, Nat.reduceMul, Nat.reduceEqDiff, Nat.reduceLeDiff, reduceIte, reduceCtorEq]; rfl)
                  · simp only [tre, tytre, Bool.and_self]
                · simp only [d45, cond_true, cond_false, lbind_go, lbind_ret, lbind_brk, lbind_none, Option.bind_some, Option.bind_none, Bool.not_true, Bool.not_false, reduceCtorEq] at h
                  cases o47 : (g_ref01_span x0_s.Gap 20) with
                  | none =>
                    simp only [o47, cond_true, cond_false, lbind_go, lbind_ret, lbind_brk, lbind_none, Option.bind_some, Option.bind_none, Bool.not_true, Bool.not_false, reduceCtorEq] at h
                    exact absurd h kN
                  | some r46 =>
                    simp only [o47, cond_true, cond_false, lbind_go, lbind_ret, lbind_brk, lbind_none, Option.bind_some, Option.bind_none, Bool.not_true, Bool.not_false, reduceCtorEq] at h
                    simp only [vs, cwp_label, ng_normal, ng_ret, ng_exit, cr, tyf, g16, d21, g23, H26, q27, d28, d33, d39, e42, e43, e44, d45, implies_true, Nat.reduceAdd, Nat.reduceMul, Nat.reduceEqDiff, Nat.reduceLeDiff, reduceIte, reduceCtorEq]
                    refine ktree (args0 := [.agg (cGSpan x0_s.Gap), .lit (.int .i64 20)]) (by first | (simp only [nrm, tynrm]; done) | (simp only [nrm, tynrm]; rfl) | rfl) (by simp only [tre, tytre, Bool.and_self]) (g_ref01_span_ok _ _ _ o47) ?_
                    refine fin_cut (fun tm => tm 1 = .ptr 0 0 ∧ tm 47 = .lit (.bool true) ∧ tm 50 = .lit (.bool r46) ∧ True) (by refine ⟨e42, ?_, ?_, trivial⟩ <;> first | (simp only [upd_apply, updH_apply, without_apply, d21, H26, q27, d28, d33, d39, e42, e43, e44, d45, implies_true, Nat.reduceAdd, Nat.reduceMul, Nat.reduceEqDiff, Nat.reduceLeDiff, reduceIte, reduceCtorEq]; done) | (simp only [upd_apply, updH_apply, without_apply, d21, H26, q27, d28, d33, d39, e42, e43, e44, d45, implies_true, Nat.reduceAdd, Nat.reduceMul, Nat.reduceEqDiff, Nat.reduceLeDiff, reduceIte, reduceCtorEq]; rfl) | rfl) ?_
                    rintro tm ⟨e48, e49, e50, _⟩
                    cases d51 : (r46)
                    · simp only [d51, cond_true, cond_false, lbind_go, lbind_ret, lbind_brk, lbind_none, Option.bind_some, Option.bind_none, Bool.not_true, Bool.not_false, reduceCtorEq] at h
                      simp only [vs, cwp_label, ng_normal, ng_ret, ng_exit, cr, tyf, g16, d21, g23, H26, q27, d28, d33, d39, d45, e48, e49, e50, d51, implies_true, Nat.reduceAdd, Nat.reduceMul, Nat.reduceEqDiff, Nat.reduceLeDiff, reduceIte, reduceCtorEq]
                      obtain rfl := kF _ h
                      refine ret1 Tryz.results20 ?_ ?_
                      · first | (simp only [outV, upd_apply, updH_apply, without_apply, showV_ref, cr, tyf, nrm, tynrm, g16, d21, g23, H26, q27, d28, d33, d39, d45, e48, e49, e50, d51, implies_true, Nat.reduceAdd, Nat.reduceMul, Nat.reduceEqDiff, Nat.reduceLeDiff, reduceIte, reduceCtorEq]; done) | (simp only [outV, upd_apply, updH_apply, without_apply, showV_ref, cr, tyf, nrm, tynrm, g16, d21, g23, H26, q27, d28, d33, d39, d45, e48, e49, e50, d51, implies_true, Nat.reduceAdd, Nat.reduceMul, Nat.reduceEqDiff, Nat.reduceLeDiff, reduceIte, reduceCtorEq]; rfl)
                      · simp only [tre, tytre, Bool.and_self]
                    · simp only [d51, cond_true, cond_false, lbind_go, lbind_ret, lbind_brk, lbind_none, Option.bind_some, Option.bind_none, Bool.not_true, Bool.not_false, reduceCtorEq] at h
                      cases o53 : (g_ref01_in x0_s.Hyphen 1 20) with
                      | none =>
                        simp only [o53, cond_true, cond_false, lbind_go, lbind_ret, lbind_brk, lbind_none, Option.bind_some, Option.bind_none, Bool.not_true, Bool.not_false, reduceCtorEq] at h
                        exact absurd h kN
                      | some r52 =>
                        simp only [o53, cond_true, cond_false, lbind_go, lbind_ret, lbind_brk, lbind_none, Option.bind_some, Option.bind_none, Bool.not_true, Bool.not_false, reduceCtorEq] at h
                        simp only [vs, cwp_label, ng_normal, ng_ret, ng_exit, cr, tyf, g16, d21, g23, H26, q27, d28, d33, d39, d45, e48, e49, e50, d51, implies_true, Nat.reduceAdd, Nat.reduceMul, Nat.reduceEqDiff, Nat.reduceLeDiff, reduceIte, reduceCtorEq]
                        refine ktree (args0 := [.lit (.int .i64 x0_s.Hyphen), .lit (.int .i64 1), .lit (.int .i64 20)]) (by first | (simp only [nrm, tynrm]; done) | (simp only [nrm, tynrm]; rfl) | rfl) (by simp only [tre, tytre, Bool.and_self]) (g_ref01_in_ok _ _ _ _ o53) ?_
                        refine fin_cut (fun tm => tm 1 = .ptr 0 0 ∧ tm 52 = .lit (.bool true) ∧ tm 55 = .lit (.bool r52) ∧ True) (by refine ⟨e48, ?_, ?_, trivial⟩ <;> first | (simp only [upd_apply, updH_apply, without_apply, d21, H26, q27, d28, d33, d39, d45, e48, e49, e50, d51, implies_true, Nat.reduceAdd, Nat.reduceMul, Nat.reduceEqDiff, Nat.reduceLeDiff, reduceIte, reduceCtorEq]; done) | (simp only [upd_apply, updH_apply, without_apply, d21, H26, q27, d28, d33, d39, d45, e48, e49, e50, d51, implies_true, Nat.reduceAdd, Nat.reduceMul, Nat.reduceEqDiff, Nat.reduceLeDiff, reduceIte, reduceCtorEq]; rfl) | rfl) ?_
                        rintro tm ⟨e54, e55, e56, _⟩
                        cases d57 : (r52)
                        · simp only [d57, cond_true, cond_false, lbind_go, lbind_ret, lbind_brk, lbind_none, Option.bind_some, Option.bind_none, Bool.not_true, Bool.not_false, reduceCtorEq] at h
                          simp only [vs, cwp_label, ng_normal, ng_ret, ng_exit, cr, tyf, g16, d21, g23, H26, q27, d28, d33, d39, d45, d51, e54, e55, e56, d57, implies_true, Nat.reduceAdd, Nat.reduceMul, Nat.reduceEqDiff, Nat.reduceLeDiff, reduceIte, reduceCtorEq]
                          obtain rfl := kF _ h
                          refine ret1 Tryz.results20 ?_ ?_
                          · first | (simp only [outV, upd_apply, updH_apply, without_apply, showV_ref, cr, tyf, nrm, tynrm, g16, d21, g23, H26, q27, d28, d33, d39, d45, d51, e54, e55, e56, d57, implies_true, Nat.reduceAdd, Nat.reduceMul, Nat.reduceEqDiff, Nat.reduceLeDiff, reduceIte, reduceCtorEq]; done) | (simp only [outV, upd_apply, updH_apply, without_apply, showV_ref, cr, tyf, nrm, tynrm, g16, d21, g23, H26, q27, d28, d33, d39, d45, d51, e54, e55, e56, d57, implies_true, Nat.reduceAdd, Nat.reduceMul, Nat.reduceEqDiff, Nat.reduceLeDiff, reduceIte, reduceCtorEq]; rfl)
                          · simp only [tre, tytre, Bool.and_self]
                        · simp only [d57, cond_true, cond_false, lbind_go, lbind_ret, lbind_brk, lbind_none, Option.bind_some, Option.bind_none, Bool.not_true, Bool.not_false, reduceCtorEq] at h
                          cases o59 : (g_ref01_in (List.length x0_s.Words : Int) 1 4) with
                          | none =>
                            simp only [o59, cond_true, cond_false, lbind_go, lbind_ret, lbind_brk, lbind_none, Option.bind_some, Option.bind_none, Bool.not_true, Bool.not_false, reduceCtorEq] at h
                            exact absurd h kN
                          | some r58 =>
                            simp only [o59, cond_true, cond_false, lbind_go, lbind_ret, lbind_brk, lbind_none, Option.bind_some, Option.bind_none, Bool.not_true, Bool.not_false, reduceCtorEq] at h
                            simp only [vs, cwp_label, ng_normal, ng_ret, ng_exit, cr, tyf, g16, d21, g23, H26, q27, d28, d33, d39, d45, d51, e54, e55, e56, d57, implies_true, Nat.reduceAdd, Nat.reduceMul, Nat.reduceEqDiff, Nat.reduceLeDiff, reduceIte, reduceCtorEq]
                            refine ktree (args0 := [.lit (.int .i64 (List.length x0_s.Words : Int)), .lit (.int .i64 1), .lit (.int .i64 4)]) (by first | (simp only [nrm, tynrm]; done) | (simp only [nrm, tynrm]; rfl) | rfl) (by simp only [tre, tytre, Bool.and_self]) (g_ref01_in_ok _ _ _ _ o59) ?_
                            refine fin_cut (fun tm => tm 1 = .ptr 0 0 ∧ tm 57 = .lit (.bool true) ∧ tm 61 = .lit (.bool r58) ∧ True) (by refine ⟨e54, ?_, ?_, trivial⟩ <;> first | (simp only [upd_apply, updH_apply, without_apply, d21, H26, q27, d28, d33, d39, d45, d51, e54, e55, e56, d57, implies_true, Nat.reduceAdd, Nat.reduceMul, Nat.reduceEqDiff, Nat.reduceLeDiff, reduceIte, reduceCtorEq]; done) | (simp only [upd_apply, updH_apply, without_apply, d21, H26, q27, d28, d33, d39, d45, d51, e54, e55, e56, d57, implies_true, Nat.reduceAdd, Nat.reduceMul, Nat.reduceEqDiff, Nat.reduceLeDiff, reduceIte, reduceCtorEq]; rfl) | rfl) ?_
                            rintro tm ⟨e60, e61, e62, _⟩
                            cases d63 : (r58)
                            · simp only [d63, cond_true, cond_false, lbind_go, lbind_ret, lbind_brk, lbind_none, Option.bind_some, Option.bind_none, Bool.not_true, Bool.not_false, reduceCtorEq] at h
                              simp only [vs, cwp_label, ng_normal, ng_ret, ng_exit, cr, tyf, g16, d21, g23, H26, q27, d28, d33, d39, d45, d51, d57, e60, e61, e62, d63, implies_true, Nat.reduceAdd, Nat.reduceMul, Nat.reduceEqDiff, Nat.reduceLeDiff, reduceIte, reduceCtorEq]
                              obtain rfl := kF _ h
                              refine ret1 Tryz.results20 ?_ ?_
                              · first | (simp only [outV, upd_apply, updH_apply, without_apply, showV_ref, cr, tyf, nrm, tynrm, g16, d21, g23, H26, q27, d28, d33, d39, d45, d51, d57, e60, e61, e62, d63, implies_true, Nat.reduceAdd, Nat.reduceMul, Nat.reduceEqDiff, Nat.reduceLeDiff, reduceIte, reduceCtorEq]; done) | (simp only [outV, upd_apply, updH_apply, without_apply, showV_ref, cr, tyf, nrm, tynrm, g16, d21, g23, H26, q27, d28, d33, d39, d45, d51, d57, e60, e61, e62, d63, implies_true, Nat.reduceAdd, Nat.reduceMul, Nat.reduceEqDiff, Nat.reduceLeDiff, reduceIte, reduceCtorEq]; rfl)
                              · simp only [tre, tytre, Bool.and_self]
                            · simp only [d63, cond_true, cond_false, lbind_go, lbind_ret, lbind_brk, lbind_none, Option.bind_some, Option.bind_none, Bool.not_true, Bool.not_false, reduceCtorEq] at h
                              cases o65 : (g_ref01_Front x0_s.Wide) with
                              | none =>
                                simp only [o65, cond_true, cond_false, lbind_go, lbind_ret, lbind_brk, lbind_none, Option.bind_some, Option.bind_none, Bool.not_true, Bool.not_false, reduceCtorEq] at h
                                exact absurd h kN
                              | some r64 =>
                                simp only [o65, cond_true, cond_false, lbind_go, lbind_ret, lbind_brk, lbind_none, Option.bind_some, Option.bind_none, Bool.not_true, Bool.not_false, reduceCtorEq] at h
                                simp only [vs, cwp_label, ng_normal, ng_ret, ng_exit, cr, tyf, g16, d21, g23, H26, q27, d28, d33, d39, d45, d51, d57, e60, e61, e62, d63, implies_true, Nat.reduceAdd, Nat.reduceMul, Nat.reduceEqDiff, Nat.reduceLeDiff, reduceIte, reduceCtorEq]
                                refine ktree (args0 := [.lit (.int .i64 x0_s.Wide)]) (by first | (simp only [nrm, tynrm]; done) | (simp only [nrm, tynrm]; rfl) | rfl) (by simp only [tre, tytre, Bool.and_self]) (g_ref01_Front_ok _ _ o65) ?_
                                refine fin_cut (fun tm => tm 1 = .ptr 0 0 ∧ tm 63 = .lit (.bool true) ∧ tm 66 = .lit (.bool r64) ∧ True) (by refine ⟨e60, ?_, ?_, trivial⟩ <;> first | (simp only [upd_apply, updH_apply, without_apply, d21, H26, q27, d28, d33, d39, d45, d51, d57, e60, e61, e62, d63, implies_true, Nat.reduceAdd, Nat.reduceMul, Nat.reduceEqDiff, Nat.reduceLeDiff, reduceIte, reduceCtorEq]; done) | (simp only [upd_apply, updH_apply, without_apply, d21, H26, q27, d28, d33, d39, d45, d51, d57, e60, e61, e62, d63, implies_true, Nat.reduceAdd, Nat.reduceMul, Nat.reduceEqDiff, Nat.reduceLeDiff, reduceIte, reduceCtorEq]; rfl) | rfl) ?_
                                rintro tm ⟨e66, e67, e68, _⟩
                                cases d69 : (r64)
                                · simp only [d69, cond_true, cond_false, lbind_go, lbind_ret, lbind_brk, lbind_none, Option.bind_some, Option.bind_none, Bool.not_true, Bool.not_false, reduceCtorEq] at h
                                  simp only [vs, cwp_label, ng_normal, ng_ret, ng_exit, cr, tyf, g16, d21, g23, H26, q27, d28, d33, d39, d45, d51, d57, d63, e66, e67, e68, d69, implies_true, Nat.reduceAdd, Nat.reduceMul, Nat.reduceEqDiff, Nat.reduceLeDiff, reduceIte, reduceCtorEq]
                                  obtain rfl := kF _ h
                                  refine ret1 Tryz.results20 ?_ ?_
                                  · first | (simp only [outV, upd_apply, updH_apply, without_apply, showV_ref, cr, tyf, nrm, tynrm, g16, d21, g23, H26, q27, d28, d33, d39, d45, d51, d57, d63, e66, e67, e68, d69, implies_true, Nat.reduceAdd, Nat.reduceMul, Nat.reduceEqDiff, Nat.reduceLeDiff, reduceIte, reduceCtorEq]; done) | (simp only [outV, upd_apply, updH_apply, without_apply, showV_ref, cr, tyf, nrm, tynrm, g16, d21, g23, H26, q27, d28, d33, d39, d45, d51, d57, d63, e66, e67, e68, d69, implies_true, Nat.reduceAdd, Nat.reduceMul, Nat.reduceEqDiff, Nat.reduceLeDiff, reduceIte, reduceCtorEq]; rfl)
                                  · simp only [tre, tytre, Bool.and_self]
                                · simp only [d69, cond_true, cond_false, lbind_go, lbind_ret, lbind_brk, lbind_none, Option.bind_some, Option.bind_none, Bool.not_true, Bool.not_false, reduceCtorEq] at h
                                  cases o71 : (g_ref01_in x0_s.Rows 1 3) with
                                  | none =>
                                    simp only [o71, cond_true, cond_false, lbind_go, lbind_ret, lbind_brk, lbind_none, Option.bind_some, Option.bind_none, Bool.not_true, Bool.not_false, reduceCtorEq] at h
                                    exact absurd h kN
                                  | some r70 =>
                                    simp only [o71, cond_true, cond_false, lbind_go, lbind_ret, lbind_brk, lbind_none, Option.bind_some, Option.bind_none, Bool.not_true, Bool.not_false, reduceCtorEq] at h
                                    simp only [vs, cwp_label, ng_normal, ng_ret, ng_exit, cr, tyf, g16, d21, g23, H26, q27, d28, d33, d39, d45, d51, d57, d63, e66, e67, e68, d69, implies_true, Nat.reduceAdd, Nat.reduceMul, Nat.reduceEqDiff, Nat.reduceLeDiff, reduceIte, reduceCtorEq]
                                    refine ktree (args0 := [.lit (.int .i64 x0_s.Rows), .lit (.int .i64 1), .lit (.int .i64 3)]) (by first | (simp only [nrm, tynrm]; done) | (simp only [nrm, tynrm]; rfl) | rfl) (by simp only [tre, tytre, Bool.and_self]) (g_ref01_in_ok _ _ _ _ o71) ?_
                                    refine fin_cut (fun tm => tm 68 = .lit (.bool true) ∧ tm 71 = .lit (.bool r70) ∧ True) (by refine ⟨?_, ?_, trivial⟩ <;> first | (simp only [upd_apply, updH_apply, without_apply, d21, H26, q27, d28, d33, d39, d45, d51, d57, d63, e66, e67, e68, d69, implies_true, Nat.reduceAdd, Nat.reduceMul, Nat.reduceEqDiff, Nat.reduceLeDiff, reduceIte, reduceCtorEq]; done) | (simp only [upd_apply, updH_apply, without_apply, d21, H26, q27, d28, d33, d39, d45, d51, d57, d63, e66, e67, e68, d69, implies_true, Nat.reduceAdd, Nat.reduceMul, Nat.reduceEqDiff, Nat.reduceLeDiff, reduceIte, reduceCtorEq]; rfl) | rfl) ?_
                                    rintro tm ⟨e72, e73, _⟩
                                    simp only [vs, cwp_label, ng_normal, ng_ret, ng_exit, cr, tyf, g16, d21, g23, H26, q27, d28, d33, d39, d45, d51, d57, d63, d69, e72, e73, implies_true, Nat.reduceAdd, Nat.reduceMul, Nat.reduceEqDiff, Nat.reduceLeDiff, reduceIte, reduceCtorEq]
                                    obtain rfl := kF _ h
                                    refine ret1 Tryz.results20 ?_ ?_
                                    · first | (simp only [outV, upd_apply, updH_apply, without_apply, showV_ref, cr, tyf, nrm, tynrm, g16, d21, g23, H26, q27, d28, d33, d39, d45, d51, d57, d63, d69, e72, e73, implies_true, Nat.reduceAdd, Nat.reduceMul, Nat.reduceEqDiff, Nat.reduceLeDiff, reduceIte, reduceCtorEq]; done) | (simp only [outV, upd_apply, updH_apply, without_apply, showV_ref, cr, tyf, nrm, tynrm, g16, d21, g23, H26, q27, d28, d33, d39, d45, d51, d57, d63, d69, e72, e73, implies_true, Nat.reduceAdd, Nat.reduceMul, Nat.reduceEqDiff, Nat.reduceLeDiff, reduceIte, reduceCtorEq]; rfl)
                                    · simp only [tre, tytre, Bool.and_self]
    | cons e22 p22 =>
      have d74 : (decide (c22_4 < (List.length x0_s.Words : Int))) = true := lt_of_drop hi22 hp22
      have o76 := getI_of_drop hi22 hp22
      have w75 := wrap_next hi22 hp22 g23
      simp only [g_ref01_Sheet_l1, cond_true, cond_false, lbind_go, lbind_ret, lbind_brk, lbind_none, Option.bind_some, Option.bind_none, Bool.not_true, Bool.not_false, reduceCtorEq] at h
      simp only [vs, cwp_label, ng_normal, ng_ret, ng_exit, cr, tyf, g16, d21, g23, e24, e25, H26, q27, d74, (ix26 o76), w75, implies_true, Nat.reduceAdd, Nat.reduceMul, Nat.reduceEqDiff, Nat.reduceLeDiff, reduceIte, reduceCtorEq]
      refine cwp_drwQF (fun tm => tm 1 = .ptr 0 0 ∧ tm 4 = .lit (.int .i64 c22_4) ∧ True) (by refine ⟨e24, e25, trivial⟩ <;> first | (simp only [upd_apply, updH_apply, without_apply, d21, e24, e25, H26, q27, d74, w75, implies_true, Nat.reduceAdd, Nat.reduceMul, Nat.reduceEqDiff, Nat.reduceLeDiff, reduceIte, reduceCtorEq]; done) | (simp only [upd_apply, updH_apply, without_apply, d21, e24, e25, H26, q27, d74, w75, implies_true, Nat.reduceAdd, Nat.reduceMul, Nat.reduceEqDiff, Nat.reduceLeDiff, reduceIte, reduceCtorEq]; rfl) | rfl) ?_
      rintro tm ⟨e77, e78, _⟩
      cases o80 : (g_ref01_word x0_s e22) with
      | none =>
        simp only [o80, cond_true, cond_false, lbind_go, lbind_ret, lbind_brk, lbind_none, Option.bind_some, Option.bind_none, Bool.not_true, Bool.not_false, reduceCtorEq] at h
        exact absurd h kN22
      | some r79 =>
        simp only [o80, cond_true, cond_false, lbind_go, lbind_ret, lbind_brk, lbind_none, Option.bind_some, Option.bind_none, Bool.not_true, Bool.not_false, reduceCtorEq] at h
        simp only [vs, cwp_label, ng_normal, ng_ret, ng_exit, cr, tyf, g16, d21, g23, H26, q27, d74, (ix26 o76), w75, e77, e78, implies_true, Nat.reduceAdd, Nat.reduceMul, Nat.reduceEqDiff, Nat.reduceLeDiff, reduceIte, reduceCtorEq]
        refine dktree (args0 := [.agg (cGLetterSheet x0_s), .agg (cGLetterWord e22)]) (by first | (simp only [nrm, tynrm]; done) | (simp only [nrm, tynrm]; rfl) | rfl) (by simp only [tre, tytre, Bool.and_self]) (g_ref01_word_ok _ _ _ o80) ?_
        refine fin_cut (fun tm => tm 1 = .ptr 0 0 ∧ tm 4 = .lit (.int .i64 c22_4) ∧ tm 32 = .lit (.bool r79) ∧ True) (by refine ⟨e77, e78, ?_, trivial⟩ <;> first | (simp only [upd_apply, updH_apply, without_apply, d21, H26, q27, d74, w75, e77, e78, implies_true, Nat.reduceAdd, Nat.reduceMul, Nat.reduceEqDiff, Nat.reduceLeDiff, reduceIte, reduceCtorEq]; done) | (simp only [upd_apply, updH_apply, without_apply, d21, H26, q27, d74, w75, e77, e78, implies_true, Nat.reduceAdd, Nat.reduceMul, Nat.reduceEqDiff, Nat.reduceLeDiff, reduceIte, reduceCtorEq]; rfl) | rfl) ?_
        rintro tm ⟨e81, e82, e83, _⟩
        cases d84 : (r79)
        · simp only [d84, cond_true, cond_false, lbind_go, lbind_ret, lbind_brk, lbind_none, Option.bind_some, Option.bind_none, Bool.not_true, Bool.not_false, reduceCtorEq] at h
          simp only [vs, cwp_label, ng_normal, ng_ret, ng_exit, cr, tyf, g16, d21, g23, H26, q27, d74, (ix26 o76), w75, e81, e82, e83, d84, implies_true, Nat.reduceAdd, Nat.reduceMul, Nat.reduceEqDiff, Nat.reduceLeDiff, reduceIte, reduceCtorEq]
          replace h := kR22 _ h
          try dsimp only at h
          obtain rfl := kF _ h
          refine ret1 Tryz.results20 ?_ ?_
          · first | (simp only [outV, upd_apply, updH_apply, without_apply, showV_ref, cr, tyf, nrm, tynrm, g16, d21, g23, H26, q27, d74, (ix26 o76), w75, e81, e82, e83, d84, implies_true, Nat.reduceAdd, Nat.reduceMul, Nat.reduceEqDiff, Nat.reduceLeDiff, reduceIte, reduceCtorEq]; done) | (simp only [outV, upd_apply, updH_apply, without_apply, showV_ref, cr, tyf, nrm, tynrm, g16, d21, g23, H26, q27, d74, (ix26 o76), w75, e81, e82, e83, d84, implies_true, Nat.reduceAdd, Nat.reduceMul, Nat.reduceEqDiff, Nat.reduceLeDiff, reduceIte, reduceCtorEq]; rfl)
          · simp only [tre, tytre, Bool.and_self]
        · simp only [d84, cond_true, cond_false, lbind_go, lbind_ret, lbind_brk, lbind_none, Option.bind_some, Option.bind_none, Bool.not_true, Bool.not_false, reduceCtorEq] at h
          simp only [vs, cwp_label, ng_normal, ng_ret, ng_exit, cr, tyf, g16, d21, g23, H26, q27, d74, (ix26 o76), w75, e81, e82, e83, d84, implies_true, Nat.reduceAdd, Nat.reduceMul, Nat.reduceEqDiff, Nat.reduceLeDiff, reduceIte, reduceCtorEq]
          exact ⟨List.length p22, Nat.lt_succ_self _, by rw [hI22]; refine ⟨p22, c22_4 + 1, rfl, Int.le_trans hi22 (Int.le_add_one (Int.le_refl _)), drop_next hi22 hp22, rfl, (show 1 ≤ nx + 16 by omega), ?_, e81, ?_, h⟩ <;> first | (simp only [upd_apply, updH_apply, without_apply, d21, H26, q27, d74, w75, e81, e82, e83, d84, implies_true, Nat.reduceAdd, Nat.reduceMul, Nat.reduceEqDiff, Nat.reduceLeDiff, reduceIte, reduceCtorEq]; done) | (simp only [upd_apply, updH_apply, without_apply, d21, H26, q27, d74, w75, e81, e82, e83, d84, implies_true, Nat.reduceAdd, Nat.reduceMul, Nat.reduceEqDiff, Nat.reduceLeDiff, reduceIte, reduceCtorEq]; rfl) | rfl⟩
  | cons e15 p15 =>
    have d85 : (decide (c15_3 < (List.length x0_s.Widths : Int))) = true := lt_of_drop hi15 hp15
    have o87 := getI_of_drop hi15 hp15
    have w86 := wrap_next hi15 hp15 g16
    simp only [g_ref01_Sheet_l0, cond_true, cond_false, lbind_go, lbind_ret, lbind_brk, lbind_none, Option.bind_some, Option.bind_none, Bool.not_true, Bool.not_false, reduceCtorEq] at h
    cases o89 : (g_ref01_in e15 1 20) with
    | none =>
      simp only [o89, cond_true, cond_false, lbind_go, lbind_ret, lbind_brk, lbind_none, Option.bind_some, Option.bind_none, Bool.not_true, Bool.not_false, reduceCtorEq] at h
      exact absurd h kN15
    | some r88 =>
      simp only [o89, cond_true, cond_false, lbind_go, lbind_ret, lbind_brk, lbind_none, Option.bind_some, Option.bind_none, Bool.not_true, Bool.not_false, reduceCtorEq] at h
      simp only [vs, cwp_label, ng_normal, ng_ret, ng_exit, cr, tyf, g16, e17, e18, H19, q20, d85, (ix22 o87), w86, implies_true, Nat.reduceAdd, Nat.reduceMul, Nat.reduceEqDiff, Nat.reduceLeDiff, reduceIte, reduceCtorEq]
      refine ktree (args0 := [.lit (.int .i64 e15), .lit (.int .i64 1), .lit (.int .i64 20)]) (by first | (simp only [nrm, tynrm]; done) | (simp only [nrm, tynrm]; rfl) | rfl) (by simp only [tre, tytre, Bool.and_self]) (g_ref01_in_ok _ _ _ _ o89) ?_
      refine fin_cut (fun tm => tm 1 = .ptr 0 0 ∧ tm 3 = .lit (.int .i64 c15_3) ∧ tm 17 = .lit (.bool r88) ∧ True) (by refine ⟨e17, e18, ?_, trivial⟩ <;> first | (simp only [upd_apply, updH_apply, without_apply, e17, e18, H19, q20, d85, w86, implies_true, Nat.reduceAdd, Nat.reduceMul, Nat.reduceEqDiff, Nat.reduceLeDiff, reduceIte, reduceCtorEq]; done) | (simp only [upd_apply, updH_apply, without_apply, e17, e18, H19, q20, d85, w86, implies_true, Nat.reduceAdd, Nat.reduceMul, Nat.reduceEqDiff, Nat.reduceLeDiff, reduceIte, reduceCtorEq]; rfl) | rfl) ?_
      rintro tm ⟨e90, e91, e92, _⟩
      cases d93 : (r88)
      · simp only [d93, cond_true, cond_false, lbind_go, lbind_ret, lbind_brk, lbind_none, Option.bind_some, Option.bind_none, Bool.not_true, Bool.not_false, reduceCtorEq] at h
        simp only [vs, cwp_label, ng_normal, ng_ret, ng_exit, cr, tyf, g16, H19, q20, d85, (ix22 o87), w86, e90, e91, e92, d93, implies_true, Nat.reduceAdd, Nat.reduceMul, Nat.reduceEqDiff, Nat.reduceLeDiff, reduceIte, reduceCtorEq]
        replace h := kR15 _ h
        try dsimp only at h
        obtain rfl := kF _ h
        refine ret1 Tryz.results20 ?_ ?_
        · first | (simp only [outV, upd_apply, updH_apply, without_apply, showV_ref, cr, tyf, nrm, tynrm, g16, H19, q20, d85, (ix22 o87), w86, e90, e91, e92, d93, implies_true, Nat.reduceAdd, Nat.reduceMul, Nat.reduceEqDiff, Nat.reduceLeDiff, reduceIte, reduceCtorEq]; done) | (simp only [outV, upd_apply, updH_apply, without_apply, showV_ref, cr, tyf, nrm, tynrm, g16, H19, q20, d85, (ix22 o87), w86, e90, e91, e92, d93, implies_true, Nat.reduceAdd, Nat.reduceMul, Nat.reduceEqDiff, Nat.reduceLeDiff, reduceIte, reduceCtorEq]; rfl)
        · simp only [tre, tytre, Bool.and_self]
      · simp only [d93, cond_true, cond_false, lbind_go, lbind_ret, lbind_brk, lbind_none, Option.bind_some, Option.bind_none, Bool.not_true, Bool.not_false, reduceCtorEq] at h
        simp only [vs, cwp_label, ng_normal, ng_ret, ng_exit, cr, tyf, g16, H19, q20, d85, (ix22 o87), w86, e90, e91, e92, d93, implies_true, Nat.reduceAdd, Nat.reduceMul, Nat.reduceEqDiff, Nat.reduceLeDiff, reduceIte, reduceCtorEq]
        exact ⟨List.length p15, Nat.lt_succ_self _, by rw [hI15]; refine ⟨p15, c15_3 + 1, rfl, Int.le_trans hi15 (Int.le_add_one (Int.le_refl _)), drop_next hi15 hp15, rfl, (show 1 ≤ nx + 15 by omega), ?_, e90, ?_, h⟩ <;> first | (simp only [upd_apply, updH_apply, without_apply, H19, q20, d85, w86, e90, e91, e92, d93, implies_true, Nat.reduceAdd, Nat.reduceMul, Nat.reduceEqDiff, Nat.reduceLeDiff, reduceIte, reduceCtorEq]; done) | (simp only [upd_apply, updH_apply, without_apply, H19, q20, d85, w86, e90, e91, e92, d93, implies_true, Nat.reduceAdd, Nat.reduceMul, Nat.reduceEqDiff, Nat.reduceLeDiff, reduceIte, reduceCtorEq]; rfl) | rfl⟩

end Go.V
end
section
namespace Go.V
open Go
/-! Plain facts on the lifted functions: what a sheet is. -/
/-- A loop that goes through, or gives false at once. -/
def goB (b : Bool) : Option (LOut Bool Unit) := cond b (some (.go ())) (some (.ret false))
theorem goB_and (a b : Bool) : goB (a && b) = cond a (goB b) (some (.ret false)) := by cases a <;> rfl
theorem cnot {α : Type} (a : Bool) (x y : α) : cond (!a) x y = cond a y x := by cases a <;> rfl
theorem cand {α : Type} (a b : Bool) (x y : α) : cond (a && b) x y = cond a (cond b x y) y := by cases a <;> rfl
def inB (a b n : Int) : Bool := decide (a ≤ n) && decide (n ≤ b)
theorem isFrom_eq (a n b : Int) : g_limits_IsFrom a n b = some (inB a b n) := by
  unfold g_limits_IsFrom inB
  cases decide (a ≤ n) <;> rfl
theorem in_eq (n a b : Int) : g_ref01_in n a b = some (inB a b n) := by
  unfold g_ref01_in inB
  show cond (decide (a ≤ n)) _ _ = _
  cases decide (a ≤ n) <;> rfl
def spanB (m : Int) (x : GSpan) : Bool := decide (0 ≤ x.Low) && (decide (x.Low ≤ x.High) && decide (x.High ≤ m))
theorem isSpan_eq (x : GSpan) (m : Int) : g_limits_IsSpan 0 x m = some (spanB m x) := by
  unfold g_limits_IsSpan spanB
  cases decide (0 ≤ x.Low) <;> cases decide (x.Low ≤ x.High) <;> rfl
theorem span_eq (x : GSpan) (m : Int) : g_ref01_span x m = some (spanB m x) := by
  unfold g_ref01_span
  simp only [in_eq, Option.bind_some]
  by_cases h1 : 0 ≤ x.Low <;> by_cases h2 : x.Low ≤ x.High <;> by_cases h3 : x.High ≤ m <;> by_cases h4 : x.Low ≤ m <;> simp [inB, spanB, h1, h2, h3, h4] <;> omega
theorem wrap_eq {n : Int} (h1 : -9223372036854775808 ≤ n) (h2 : n < 9223372036854775808) : IntKind.i64.wrap n = n := IntWalk.i64_in _ (by omega)
theorem areFrom_l0_eq (a b : Int) : ∀ (p : List Int) (i : Int), g_limits_AreFrom_l0 a b p i = goB (p.all (inB a b))
  | [], _ => rfl
  | e :: p, i => by
    simp only [g_limits_AreFrom_l0, goB_and, cnot, cand, isFrom_eq, Option.bind_some, areFrom_l0_eq a b p, List.all_cons]
theorem areFrom_eq (a b : Int) (xs : List Int) (h : lenOk xs = true) : g_limits_AreFrom a xs b = some (xs.all (inB a b)) := by
  simp only [g_limits_AreFrom, h, cond_true, areFrom_l0_eq]
  cases xs.all (inB a b) <;> rfl
def incr : Int → List Int → Bool
  | _, [] => true
  | q, e :: p => !decide (e ≤ q) && incr e p
def incrL : List Int → Bool
  | [] => true
  | e :: p => incr e p
theorem lenOk_lt {α : Type} {xs : List α} (h : lenOk xs = true) : xs.length < 9223372036854775808 := by simpa [lenOk] using h
theorem lenOk_of {α : Type} {xs : List α} (h : xs.length < 9223372036854775808) : lenOk xs = true := by simpa [lenOk] using h
/-- The one before. -/
theorem getI_prev {α : Type} {xs p : List α} {q : α} {i : Int} (h0 : 1 ≤ i) (hi : i < 9223372036854775808) (h : xs.drop (i - 1).toNat = q :: p) : getI xs (IntKind.i64.wrap (i - 1)) = some q := by
  rw [wrap_eq (by omega) (by omega)]
  exact getI_of_drop (by omega) h
theorem drop_le {α : Type} {xs p : List α} {n : Nat} (h : xs.drop n = p) : n + p.length ≤ xs.length ∨ p = [] := by
  subst h
  by_cases hn : n ≤ xs.length
  · left; simp; omega
  · right; exact List.drop_eq_nil_of_le (by omega)
theorem areIncreasing_l0_eq (xs : List Int) (hl : lenOk xs = true) : ∀ (p : List Int) (q i : Int), 1 ≤ i → xs.drop (i - 1).toNat = q :: p → g_limits_AreIncreasing_l0 xs p i = goB (incr q p)
  | [], _, _, _, _ => rfl
  | e :: p, q, i, h0, h => by
    have hb := lenOk_lt hl
    have hle := drop_le h
    simp only [List.length_cons] at hle
    have hi : i < 9223372036854775808 := by
      rcases hle with hle | hle
      · omega
      · cases hle
    have hn : xs.drop (i + 1 - 1).toNat = e :: p := by
      have := drop_next (i := i - 1) (by omega) h
      rwa [show i - 1 + 1 = i + 1 - 1 by omega] at this
    simp only [g_limits_AreIncreasing_l0, goB_and, cnot, cand, getI_prev h0 hi h, Option.bind_some, areIncreasing_l0_eq xs hl p e (i + 1) (by omega) hn, incr]
theorem areIncreasing_eq (a b : Int) (xs : List Int) (h : lenOk xs = true) : g_limits_AreIncreasing a xs b = some (incrL xs && xs.all (inB a b)) := by
  have h1 : leB 0 1 = true := rfl
  simp only [g_limits_AreIncreasing, h, h1, cond_true, areFrom_eq a b xs h]
  cases xs with
  | nil => rfl
  | cons e p =>
    have := areIncreasing_l0_eq (e :: p) h p e 1 (by omega) (by rfl)
    rw [show List.drop (Int.toNat 1) (e :: p) = p from rfl, this]
    simp only [incrL]
    cases incr e p <;> rfl
/-- Cuts, as the document's own answer takes them. -/
def cutsB (hi : Int) : Option Int → List Int → Bool
  | _, [] => true
  | none, e :: p => inB 1 hi e && cutsB hi (some e) p
  | some q, e :: p => inB 1 hi e && (!decide (e ≤ q) && cutsB hi (some e) p)
theorem cutsB_some (hi : Int) : ∀ (p : List Int) (q : Int), cutsB hi (some q) p = (incr q p && p.all (inB 1 hi))
  | [], _ => rfl
  | e :: p, q => by
    simp only [cutsB, cutsB_some hi p e, incr, List.all_cons]
    cases h1 : inB 1 hi e <;> cases h2 : decide (e ≤ q) <;> cases h3 : incr e p <;> simp [h1, h2, h3]
theorem cutsB_none (hi : Int) : ∀ (p : List Int), cutsB hi none p = (incrL p && p.all (inB 1 hi))
  | [] => rfl
  | e :: p => by
    simp only [cutsB, cutsB_some, incrL, List.all_cons]
    cases h1 : inB 1 hi e <;> cases h2 : incr e p <;> simp [h1, h2]
theorem word_l1_eq (w : GLetterWord) (hl : lenOk w.Cuts = true) : ∀ (p : List Int) (q : Int) (i : Int), 1 ≤ i → w.Cuts.drop (i - 1).toNat = q :: p →
    g_ref01_word_l1 w p i = goB (cutsB (IntKind.i64.wrap ((w.Signs.length : Int) - 1)) (some q) p)
  | [], _, _, _, _ => rfl
  | e :: p, q, i, h0, h => by
    have hb := lenOk_lt hl
    have hle := drop_le h
    simp only [List.length_cons] at hle
    have hi : i < 9223372036854775808 := by
      rcases hle with hle | hle
      · omega
      · cases hle
    have hn : w.Cuts.drop (i + 1 - 1).toNat = e :: p := by
      have := drop_next (i := i - 1) (by omega) h
      rwa [show i - 1 + 1 = i + 1 - 1 by omega] at this
    have hp : decide (i > 0) = true := by simp; omega
    simp only [g_ref01_word_l1, goB_and, cnot, cand, in_eq, getI_prev h0 hi h, hp, Option.bind_some, word_l1_eq w hl p e (i + 1) (by omega) hn, cutsB, cond_true]
theorem word_l1_eq0 (w : GLetterWord) (hl : lenOk w.Cuts = true) : g_ref01_word_l1 w w.Cuts 0 = goB (cutsB (IntKind.i64.wrap ((w.Signs.length : Int) - 1)) none w.Cuts) := by
  generalize hc : w.Cuts = cs
  cases cs with
  | nil => rfl
  | cons e p =>
    have := word_l1_eq w hl p e (0 + 1) (by omega) (by rw [hc]; rfl)
    simp only [g_ref01_word_l1, goB_and, cnot, cand, in_eq, Option.bind_some, this, cutsB, show decide ((0 : Int) > 0) = false from rfl, cond_false]
theorem sign_eq (s : GLetterSheet) (n : Int) : g_ref01_sign s n = some (inB 0 (IntKind.i64.wrap ((s.Widths.length : Int) - 1)) n) := by
  simp only [g_ref01_sign, in_eq, Option.bind_some]
theorem word_l0_eq (s : GLetterSheet) : ∀ (p : List Int) (i : Int), g_ref01_word_l0 s p i = goB (p.all (inB 0 (IntKind.i64.wrap ((s.Widths.length : Int) - 1))))
  | [], _ => rfl
  | e :: p, i => by
    simp only [g_ref01_word_l0, goB_and, cnot, cand, sign_eq, Option.bind_some, word_l0_eq s p, List.all_cons]
/-- A word, as defined. -/
def wordB (n : Int) (w : GLetterWord) : Bool := inB 1 6 w.Signs.length && (w.Signs.all (inB 0 n) && (incrL w.Cuts && w.Cuts.all (inB 1 (IntKind.i64.wrap ((w.Signs.length : Int) - 1)))))
theorem word_eq (s : GLetterSheet) (w : GLetterWord) (h1 : lenOk w.Signs = true) (h2 : lenOk w.Cuts = true) : g_ref01_word s w = some (wordB (IntKind.i64.wrap ((s.Widths.length : Int) - 1)) w) := by
  simp only [g_ref01_word, h1, h2, cond_true, word_l0_eq, word_l1_eq0 w h2, in_eq, Option.bind_some, cutsB_none, wordB]
  cases w.Signs.all _ <;> cases (incrL w.Cuts && w.Cuts.all _) <;> cases inB 1 6 _ <;> rfl
def Fine (w : GLetterWord) : Prop := lenOk w.Signs = true ∧ lenOk w.Cuts = true
theorem sheet_l1_eq (s : GLetterSheet) : ∀ (p : List GLetterWord) (i : Int), (∀ w ∈ p, Fine w) → g_ref01_Sheet_l1 s p i = goB (p.all (wordB (IntKind.i64.wrap ((s.Widths.length : Int) - 1))))
  | [], _, _ => rfl
  | e :: p, i, h => by
    have he := h e (List.mem_cons_self ..)
    simp only [g_ref01_Sheet_l1, goB_and, cnot, cand, word_eq s e he.1 he.2, Option.bind_some, sheet_l1_eq s p (i + 1) (fun w hw => h w (List.mem_cons_of_mem _ hw)), List.all_cons]
theorem areWords_l0_eq (n : Int) : ∀ (p : List GLetterWord) (i : Int), (∀ w ∈ p, Fine w) → g_letter_areWords_l0 n p i = goB (p.all (wordB (IntKind.i64.wrap (n - 1))))
  | [], _, _ => rfl
  | e :: p, i, h => by
    have he := h e (List.mem_cons_self ..)
    simp only [g_letter_areWords_l0, goB_and, cnot, cand, isFrom_eq, areFrom_eq _ _ _ he.1, areIncreasing_eq _ _ _ he.2, Option.bind_some, areWords_l0_eq n p (i + 1) (fun w hw => h w (List.mem_cons_of_mem _ hw)), List.all_cons, wordB]
theorem sheet_l0_eq : ∀ (p : List Int) (i : Int), g_ref01_Sheet_l0 p i = goB (p.all (inB 1 20))
  | [], _ => rfl
  | e :: p, i => by
    simp only [g_ref01_Sheet_l0, goB_and, cnot, cand, in_eq, Option.bind_some, sheet_l0_eq p, List.all_cons]
end Go.V
end
section
namespace Go.V
open Go
/-! Pairs; a sheet, as defined, both ways. -/
theorem csome (a b : Bool) : cond a (some b) (some false) = some (a && b) := by cases a <;> rfl
def sgn (a b : Int) : Int := if a < b then -1 else if a > b then 1 else 0
theorem compare_eq (a b : Int) : g_cmp_Compare_int a b = some (sgn a b) := by
  unfold g_cmp_Compare_int g_cmp_isNaN_int sgn
  by_cases h1 : a < b <;> by_cases h2 : a > b <;> simp [h1, h2]
def pairGe (a b : GLetterPair) : Bool := cond (decide (a.Left > b.Left)) true (cond (a.Left == b.Left) (decide (a.Right ≥ b.Right)) false)
theorem or_eq (a b : Int) : g_cmp_Or_int [a, b] = some (if a = 0 then b else a) := by
  have e : (fun x : Int => x != 0) a = !decide (a = 0) := by by_cases h : a = 0 <;> simp [h]
  have e' : (b != 0) = !decide (b = 0) := by by_cases h : b = 0 <;> simp [h]
  simp only [] at e
  by_cases h : a = 0 <;> by_cases h' : b = 0 <;> simp [g_cmp_Or_int, g_cmp_Or_int_l0, lenOk, lbind, e, e', h, h']
theorem comparePairs_eq (a b : GLetterPair) : ∃ r, g_letter_comparePairs a b = some r ∧ decide (r ≥ 0) = pairGe a b := by
  refine ⟨_, by simp only [g_letter_comparePairs, compare_eq, or_eq, Option.bind_some]; rfl, ?_⟩
  unfold sgn pairGe
  by_cases h1 : a.Left < b.Left
  · have : ¬ a.Left > b.Left := by omega
    have h3 : ¬ a.Left = b.Left := by omega
    simp [h1, this, h3]
  · by_cases h2 : a.Left > b.Left
    · simp [h1, h2]
    · have h3 : a.Left = b.Left := by omega
      by_cases h4 : a.Right < b.Right
      · have : ¬ a.Right ≥ b.Right := by omega
        simp [h3, h4]
      · by_cases h5 : a.Right > b.Right
        · simp [h3, h4, h5]; omega
        · simp [h3, h4, h5]; omega
def pairB (m : Int) (e : GLetterPair) : Bool := inB 0 m e.Left && (inB 0 m e.Right && spanB 9 e.Space)
def pairsG (m : Int) : Option GLetterPair → List GLetterPair → Bool
  | _, [] => true
  | none, e :: p => pairB m e && pairsG m (some e) p
  | some q, e :: p => pairB m e && (!pairGe q e && pairsG m (some e) p)
theorem cif {α : Type} (a b : Bool) (x y : α) : cond a x (cond b x y) = cond (cond a true b) x y := by cases a <;> rfl
theorem cff {α : Type} (a b : Bool) (x y : α) : cond a (cond b x y) y = cond (cond a b false) x y := by cases a <;> rfl
theorem refpairs_l0_eq (s : GLetterSheet) (hl : lenOk s.Pairs = true) : ∀ (p : List GLetterPair) (q : GLetterPair) (i : Int), 1 ≤ i → s.Pairs.drop (i - 1).toNat = q :: p →
    g_ref01_pairs_l0 s p i = goB (pairsG (IntKind.i64.wrap ((s.Widths.length : Int) - 1)) (some q) p)
  | [], _, _, _, _ => rfl
  | e :: p, q, i, h0, h => by
    have hb := lenOk_lt hl
    have hle := drop_le h
    simp only [List.length_cons] at hle
    have hi : i < 9223372036854775808 := by
      rcases hle with hle | hle
      · omega
      · cases hle
    have hn : s.Pairs.drop (i + 1 - 1).toNat = e :: p := by
      have := drop_next (i := i - 1) (by omega) h
      rwa [show i - 1 + 1 = i + 1 - 1 by omega] at this
    have hp : decide (i > 0) = true := by simp; omega
    simp only [g_ref01_pairs_l0, goB_and, cnot, sign_eq, span_eq, getI_prev h0 hi h, hp, Option.bind_some, refpairs_l0_eq s hl p e (i + 1) (by omega) hn, pairsG, pairB, cand, cond_true, pairGe]
    cases decide (q.Left > e.Left) <;> cases (q.Left == e.Left) <;> rfl
theorem refpairs_l0_eq0 (s : GLetterSheet) (hl : lenOk s.Pairs = true) : g_ref01_pairs_l0 s s.Pairs 0 = goB (pairsG (IntKind.i64.wrap ((s.Widths.length : Int) - 1)) none s.Pairs) := by
  generalize hc : s.Pairs = cs
  cases cs with
  | nil => rfl
  | cons e p =>
    have := refpairs_l0_eq s hl p e (0 + 1) (by omega) (by rw [hc]; rfl)
    simp only [g_ref01_pairs_l0, goB_and, cnot, cand, sign_eq, span_eq, Option.bind_some, this, pairsG, pairB, show decide ((0 : Int) > 0) = false from rfl, cond_false]
theorem arePairs_l0_eq (xs : List GLetterPair) (n : Int) (hl : lenOk xs = true) : ∀ (p : List GLetterPair) (q : GLetterPair) (i : Int), 1 ≤ i → xs.drop (i - 1).toNat = q :: p →
    g_letter_arePairs_l0 xs n p i = goB (pairsG (IntKind.i64.wrap (n - 1)) (some q) p)
  | [], _, _, _, _ => rfl
  | e :: p, q, i, h0, h => by
    have hb := lenOk_lt hl
    have hle := drop_le h
    simp only [List.length_cons] at hle
    have hi : i < 9223372036854775808 := by
      rcases hle with hle | hle
      · omega
      · cases hle
    have hn : xs.drop (i + 1 - 1).toNat = e :: p := by
      have := drop_next (i := i - 1) (by omega) h
      rwa [show i - 1 + 1 = i + 1 - 1 by omega] at this
    have hp : decide (i > 0) = true := by simp; omega
    obtain ⟨r, hr, hr'⟩ := comparePairs_eq q e
    simp only [g_letter_arePairs_l0, goB_and, cnot, isFrom_eq, isSpan_eq, getI_prev h0 hi h, hp, hr, hr', Option.bind_some, arePairs_l0_eq xs n hl p e (i + 1) (by omega) hn, pairsG, pairB, cand, cond_true]
theorem arePairs_l0_eq0 (xs : List GLetterPair) (n : Int) (hl : lenOk xs = true) : g_letter_arePairs_l0 xs n xs 0 = goB (pairsG (IntKind.i64.wrap (n - 1)) none xs) := by
  cases xs with
  | nil => rfl
  | cons e p =>
    have := arePairs_l0_eq (e :: p) n hl p e (0 + 1) (by omega) rfl
    simp only [g_letter_arePairs_l0, goB_and, cnot, cand, isFrom_eq, isSpan_eq, Option.bind_some, this, pairsG, pairB, show decide ((0 : Int) > 0) = false from rfl, cond_false]
/-- All lists short enough. -/
def FineS (s : GLetterSheet) : Prop := lenOk s.Widths = true ∧ lenOk s.Pairs = true ∧ lenOk s.Words = true ∧ ∀ w ∈ s.Words, Fine w
def sheetB (s : GLetterSheet) : Bool :=
  inB 1 6 s.Widths.length && s.Widths.all (inB 1 20) &&
  (decide ((s.Pairs.length : Int) ≤ 6) && pairsG (IntKind.i64.wrap ((s.Widths.length : Int) - 1)) none s.Pairs) &&
  spanB 9 s.Other && spanB 20 s.Gap && inB 1 20 s.Hyphen &&
  (inB 1 4 s.Words.length && s.Words.all (wordB (IntKind.i64.wrap ((s.Widths.length : Int) - 1)))) &&
  inB 1 400 s.Wide && inB 1 3 s.Rows
theorem front_eq (n : Int) : g_ref01_Front n = some (inB 1 400 n) := by
  simp only [g_ref01_Front, in_eq, Option.bind_some]
theorem goB_lbind {X : Type} (b : Bool) (kr : Bool → Option X) (kg : Unit → Option X) (kb : Nat → Unit → Option X) : lbind (goB b) kr kg kb = cond b (kg ()) (kr false) := by cases b <;> rfl
theorem refpairs_eq (s : GLetterSheet) (h : lenOk s.Pairs = true) : g_ref01_pairs s = some (decide ((s.Pairs.length : Int) ≤ 6) && pairsG (IntKind.i64.wrap ((s.Widths.length : Int) - 1)) none s.Pairs) := by
  simp only [g_ref01_pairs, h, cond_true, refpairs_l0_eq0 s h, goB_lbind, csome]
  rw [Bool.and_comm]
theorem arePairs_eq (xs : List GLetterPair) (n : Int) (h : lenOk xs = true) : g_letter_arePairs xs n = some (decide ((xs.length : Int) ≤ 6) && pairsG (IntKind.i64.wrap (n - 1)) none xs) := by
  simp only [g_letter_arePairs, h, cond_true, arePairs_l0_eq0 xs n h, goB_lbind]
  by_cases hn : (xs.length : Int) ≤ 6
  · have : ¬ (xs.length : Int) > 6 := by omega
    simp only [hn, this, decide_true, decide_false, cond_false, Bool.true_and]
    cases pairsG _ _ xs <;> rfl
  · have : (xs.length : Int) > 6 := by omega
    simp only [hn, this, decide_true, decide_false, cond_true, Bool.false_and]
theorem refSheet_eq (s : GLetterSheet) (h : FineS s) : g_ref01_Sheet s = some (sheetB s) := by
  obtain ⟨h1, h2, h3, h4⟩ := h
  simp only [g_ref01_Sheet, h1, h3, cond_true, sheet_l0_eq, sheet_l1_eq s _ _ h4, goB_lbind, in_eq, span_eq, front_eq, refpairs_eq s h2, Option.bind_some, csome, sheetB, ← Bool.and_assoc]
  congr 1
  simp only [Bool.and_assoc]
  cases s.Widths.all _ <;> cases s.Words.all _ <;> simp [Bool.and_comm, Bool.and_left_comm]
theorem areWidths_eq (xs : List Int) (h : lenOk xs = true) : g_letter_areWidths xs = some (inB 1 6 xs.length && xs.all (inB 1 20)) := by
  simp only [g_letter_areWidths, isFrom_eq, areFrom_eq _ _ _ h, Option.bind_some, csome]
theorem areWords_eq (xs : List GLetterWord) (n : Int) (h : lenOk xs = true) (hw : ∀ w ∈ xs, Fine w) : g_letter_areWords xs n = some (inB 1 4 xs.length && xs.all (wordB (IntKind.i64.wrap (n - 1)))) := by
  simp only [g_letter_areWords, isFrom_eq, Option.bind_some, h, cond_true, areWords_l0_eq n xs 0 hw, goB_lbind, csome, Bool.and_true]
theorem isSheet_eq (s : GLetterSheet) (h : FineS s) : g_letter_isSheet s = some (sheetB s) := by
  obtain ⟨h1, h2, h3, h4⟩ := h
  simp only [g_letter_isSheet, areWidths_eq _ h1, arePairs_eq _ _ h2, areWords_eq _ _ h3 h4, isFrom_eq, isSpan_eq, Option.bind_some, csome, sheetB, Bool.and_assoc]
end Go.V
end
