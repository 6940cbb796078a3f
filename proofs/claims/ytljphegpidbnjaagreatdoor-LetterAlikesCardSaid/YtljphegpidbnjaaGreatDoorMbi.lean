/- Part of the proof of a statement of YtljphegpidbnjaaGreatDoor: a logic of values by content, the lifted functions, and what follows. -/
import Derived.Test.YtljphegpidbnjaaGreatDoorMbf
import Derived.Test.YtljphegpidbnjaaGreatDoorMbg
import Derived.Test.YtljphegpidbnjaaGreatDoorMbh
set_option linter.unusedVariables false
set_option linter.unusedSimpArgs false
set_option linter.unusedSectionVars false
set_option linter.constructorNameAsVariable false
section
namespace Go.V
open Go Go.Proofs
set_option linter.unusedSimpArgs false
set_option linter.unusedVariables false
set_option maxRecDepth 4000
def g_ref01_Sheet_l1 (x0_s : GLetterSheet) : List GLetterWord → Int → Option (LOut (Bool) (Unit))
  | [], c1_4 => some (.go ())
  | e1 :: p1, c1_4 => Option.bind (g_ref01_word x0_s e1) (fun r4 => cond (r4) (g_ref01_Sheet_l1 x0_s p1 (c1_4 + 1)) (some (.ret false)))
def g_ref01_Sheet_l0  : List Int → Int → Option (LOut (Bool) (Unit))
  | [], c0_3 => some (.go ())
  | e0 :: p0, c0_3 => Option.bind (g_ref01_in e0 1 20) (fun r2 => cond (r2) (g_ref01_Sheet_l0 p0 (c0_3 + 1)) (some (.ret false)))
def g_ref01_Sheet (x0_s : GLetterSheet) : Option (Bool) := cond (lenOk x0_s.Widths) (lbind (g_ref01_Sheet_l0 x0_s.Widths 0) (fun r => some r) (fun c3 => cond (lenOk x0_s.Words) (lbind (g_ref01_Sheet_l1 x0_s x0_s.Words 0) (fun r => some r) (fun c5 => Option.bind (g_ref01_in (List.length x0_s.Widths : Int) 1 6) (fun r6 => cond (r6) (Option.bind (g_ref01_pairs x0_s) (fun r7 => cond (r7) (Option.bind (g_ref01_span x0_s.Other 9) (fun r8 => cond (r8) (Option.bind (g_ref01_span x0_s.Gap 20) (fun r9 => cond (r9) (Option.bind (g_ref01_in x0_s.Hyphen 1 20) (fun r10 => cond (r10) (Option.bind (g_ref01_in (List.length x0_s.Words : Int) 1 4) (fun r11 => cond (r11) (Option.bind (g_ref01_Front x0_s.Wide) (fun r12 => cond (r12) (Option.bind (g_ref01_in x0_s.Rows 1 3) (fun r13 => some r13)) (some false))) (some false))) (some false))) (some false))) (some false))) (some false))) (some false))) (fun _ _ => none)) none) (fun _ _ => none)) none
theorem g_ref01_Sheet_ok (x0_s : GLetterSheet) (R : Bool) (h : g_ref01_Sheet x0_s = some R) : VPure Tryz.prog G0 11 [.agg (cGLetterSheet x0_s)] (.tree (.lit (.bool R))) := by
  refine VPure.runT mixed Tryz.call11 Tryz.func11 rfl (by simp [Tryz.ntmps11]; kernel_rfl) ?_
  obtain ⟨KF, h, kF, kN⟩ := fun_intro h
  simp only [g_ref01_Sheet] at h
  cases g16 : (lenOk x0_s.Widths)
  · simp only [g16, cond_true, cond_false, lbind_go, lbind_ret, lbind_brk, lbind_none, Option.bind_some, Option.bind_none, Bool.not_true, Bool.not_false, reduceCtorEq] at h
    exact absurd h kN
  simp only [g16, cond_true, cond_false, lbind_go, lbind_ret, lbind_brk, lbind_none, Option.bind_some, Option.bind_none, Bool.not_true, Bool.not_false, reduceCtorEq] at h
  simp only [vs, cwp_label, ng_normal, ng_ret, ng_exit, cr, tyf, g16, implies_true, Nat.reduceAdd, Nat.reduceMul, Nat.reduceEqDiff, Nat.reduceLeDiff, reduceIte, reduceCtorEq]
  obtain ⟨K15, h, kR15, kG15, kB15, kN15⟩ := lbind_intro h kN
  obtain ⟨f15, hf15, h⟩ := call2 h
  obtain ⟨I15, hI15⟩ : ∃ I : Nat → St → Prop, I = (fun m st => ∃ (p15 : List Int) (c15_3 : Int), m = List.length p15 ∧ 0 ≤ c15_3 ∧ List.drop (Int.toNat c15_3) x0_s.Widths = p15 ∧ st.df = [] ∧ 1 ≤ st.nx ∧ st.H 0 = some (.cells (some 28) (cGLetterSheet x0_s)) ∧ st.tm 1 = .ptr 0 0 ∧ st.tm 3 = .lit (.int .i64 c15_3) ∧ K15 (f15 p15 c15_3)) := ⟨_, rfl⟩
  refine loopK mixed (by kernel_rfl) I15 (List.length x0_s.Widths) (by rw [hI15]; refine ⟨x0_s.Widths, 0, rfl, Int.le_refl _, rfl, rfl, (show 1 ≤ 3 by decide), ?_, ?_, ?_, h⟩ <;> first | (simp only [upd_apply, updH_apply, without_apply, implies_true, Nat.reduceAdd, Nat.reduceMul, Nat.reduceEqDiff, Nat.reduceLeDiff, reduceIte, reduceCtorEq]; done) | (simp only [upd_apply, updH_apply, without_apply, implies_true, Nat.reduceAdd, Nat.reduceMul, Nat.reduceEqDiff, Nat.reduceLeDiff, reduceIte, reduceCtorEq]; rfl) | rfl) ?_
  rintro m ⟨tm, H, nx, df⟩ hinv
  rw [hI15] at hinv
  obtain ⟨p15, c15_3, rfl, hi15, hp15, hdf, hn15, H19, e17, e18, h⟩ := hinv
  simp only at hdf hn15 H19 e17 e18
  have q20 := fresh_ne (n := 0) (B := 1) (by decide) hn15
  subst hdf hf15
  cases p15 with
  | nil =>
    have d21 : (decide (c15_3 < (List.length x0_s.Widths : Int))) = false := not_lt_of_drop hi15 hp15
    simp only [g_ref01_Sheet_l0, cond_true, cond_false, lbind_go, lbind_ret, lbind_brk, lbind_none, Option.bind_some, Option.bind_none, Bool.not_true, Bool.not_false, reduceCtorEq] at h
    replace h := kG15 _ h
    try dsimp only at h
    try simp only [cond_true, cond_false, lbind_go, lbind_ret, lbind_brk, lbind_none, Option.bind_some, Option.bind_none, Bool.not_true, Bool.not_false] at h
    cases g23 : (lenOk x0_s.Words)
    · simp only [g23, cond_true, cond_false, lbind_go, lbind_ret, lbind_brk, lbind_none, Option.bind_some, Option.bind_none, Bool.not_true, Bool.not_false, reduceCtorEq] at h
      exact absurd h kN
    simp only [g23, cond_true, cond_false, lbind_go, lbind_ret, lbind_brk, lbind_none, Option.bind_some, Option.bind_none, Bool.not_true, Bool.not_false, reduceCtorEq] at h
    simp only [vs, cwp_label, ng_normal, ng_ret, ng_exit, cr, tyf, g16, e17, e18, H19, q20, d21, g23, implies_true, Nat.reduceAdd, Nat.reduceMul, Nat.reduceEqDiff, Nat.reduceLeDiff, reduceIte, reduceCtorEq]
    obtain ⟨K22, h, kR22, kG22, kB22, kN22⟩ := lbind_intro h kN
    obtain ⟨f22, hf22, h⟩ := call2 h
    obtain ⟨I22, hI22⟩ : ∃ I : Nat → St → Prop, I = (fun m st => ∃ (p22 : List GLetterWord) (c22_4 : Int), m = List.length p22 ∧ 0 ≤ c22_4 ∧ List.drop (Int.toNat c22_4) x0_s.Words = p22 ∧ st.df = [] ∧ 1 ≤ st.nx ∧ st.H 0 = some (.cells (some 28) (cGLetterSheet x0_s)) ∧ st.tm 1 = .ptr 0 0 ∧ st.tm 4 = .lit (.int .i64 c22_4) ∧ K22 (f22 p22 c22_4)) := ⟨_, rfl⟩
    refine loopK mixed (by kernel_rfl) I22 (List.length x0_s.Words) (by rw [hI22]; refine ⟨x0_s.Words, 0, rfl, Int.le_refl _, rfl, rfl, (show 1 ≤ nx + 6 by omega), ?_, e17, ?_, h⟩ <;> first | (simp only [upd_apply, updH_apply, without_apply, e17, e18, H19, q20, d21, implies_true, Nat.reduceAdd, Nat.reduceMul, Nat.reduceEqDiff, Nat.reduceLeDiff, reduceIte, reduceCtorEq]; done) | (simp only [upd_apply, updH_apply, without_apply, e17, e18, H19, q20, d21, implies_true, Nat.reduceAdd, Nat.reduceMul, Nat.reduceEqDiff, Nat.reduceLeDiff, reduceIte, reduceCtorEq]; rfl) | rfl) ?_
    rintro m ⟨tm, H, nx, df⟩ hinv
    rw [hI22] at hinv
    obtain ⟨p22, c22_4, rfl, hi22, hp22, hdf, hn22, H26, e24, e25, h⟩ := hinv
    simp only at hdf hn22 H26 e24 e25
    have q27 := fresh_ne (n := 0) (B := 1) (by decide) hn22
    subst hdf hf22
    cases p22 with
    | nil =>
      have d28 : (decide (c22_4 < (List.length x0_s.Words : Int))) = false := not_lt_of_drop hi22 hp22
      simp only [g_ref01_Sheet_l1, cond_true, cond_false, lbind_go, lbind_ret, lbind_brk, lbind_none, Option.bind_some, Option.bind_none, Bool.not_true, Bool.not_false, reduceCtorEq] at h
      replace h := kG22 _ h
      try dsimp only at h
      try simp only [cond_true, cond_false, lbind_go, lbind_ret, lbind_brk, lbind_none, Option.bind_some, Option.bind_none, Bool.not_true, Bool.not_false] at h
      cases o30 : (g_ref01_in (List.length x0_s.Widths : Int) 1 6) with
      | none =>
        simp only [o30, cond_true, cond_false, lbind_go, lbind_ret, lbind_brk, lbind_none, Option.bind_some, Option.bind_none, Bool.not_true, Bool.not_false, reduceCtorEq] at h
        exact absurd h kN
      | some r29 =>
        simp only [o30, cond_true, cond_false, lbind_go, lbind_ret, lbind_brk, lbind_none, Option.bind_some, Option.bind_none, Bool.not_true, Bool.not_false, reduceCtorEq] at h
        simp only [vs, cwp_label, ng_normal, ng_ret, ng_exit, cr, tyf, g16, d21, g23, e24, e25, H26, q27, d28, implies_true, Nat.reduceAdd, Nat.reduceMul, Nat.reduceEqDiff, Nat.reduceLeDiff, reduceIte, reduceCtorEq]
        refine ktree (args0 := [.lit (.int .i64 (List.length x0_s.Widths : Int)), .lit (.int .i64 1), .lit (.int .i64 6)]) (by first | (simp only [nrm, tynrm]; done) | (simp only [nrm, tynrm]; rfl) | rfl) (by simp only [tre, tytre, Bool.and_self]) (g_ref01_in_ok _ _ _ _ o30) ?_
        refine fin_cut (fun tm => tm 1 = .ptr 0 0 ∧ tm 37 = .lit (.bool r29) ∧ True) (by refine ⟨e24, ?_, trivial⟩ <;> first | (simp only [upd_apply, updH_apply, without_apply, d21, e24, e25, H26, q27, d28, implies_true, Nat.reduceAdd, Nat.reduceMul, Nat.reduceEqDiff, Nat.reduceLeDiff, reduceIte, reduceCtorEq]; done) | (simp only [upd_apply, updH_apply, without_apply, d21, e24, e25, H26, q27, d28, implies_true, Nat.reduceAdd, Nat.reduceMul, Nat.reduceEqDiff, Nat.reduceLeDiff, reduceIte, reduceCtorEq]; rfl) | rfl) ?_
        rintro tm ⟨e31, e32, _⟩
        cases d33 : (r29)
        · simp only [d33, cond_true, cond_false, lbind_go, lbind_ret, lbind_brk, lbind_none, Option.bind_some, Option.bind_none, Bool.not_true, Bool.not_false, reduceCtorEq] at h
          simp only [vs, cwp_label, ng_normal, ng_ret, ng_exit, cr, tyf, g16, d21, g23, H26, q27, d28, e31, e32, d33, implies_true, Nat.reduceAdd, Nat.reduceMul, Nat.reduceEqDiff, Nat.reduceLeDiff, reduceIte, reduceCtorEq]
          obtain rfl := kF _ h
          refine ret1 Tryz.results11 ?_ ?_
          · first | (simp only [outV, upd_apply, updH_apply, without_apply, showV_ref, cr, tyf, nrm, tynrm, g16, d21, g23, H26, q27, d28, e31, e32, d33, implies_true, Nat.reduceAdd, Nat.reduceMul, Nat.reduceEqDiff, Nat.reduceLeDiff, reduceIte, reduceCtorEq]; done) | (simp only [outV, upd_apply, updH_apply, without_apply, showV_ref, cr, tyf, nrm, tynrm, g16, d21, g23, H26, q27, d28, e31, e32, d33, implies_true, Nat.reduceAdd, Nat.reduceMul, Nat.reduceEqDiff, Nat.reduceLeDiff, reduceIte, reduceCtorEq]; rfl)
          · simp only [tre, tytre, Bool.and_self]
        · simp only [d33, cond_true, cond_false, lbind_go, lbind_ret, lbind_brk, lbind_none, Option.bind_some, Option.bind_none, Bool.not_true, Bool.not_false, reduceCtorEq] at h
          cases o35 : (g_ref01_pairs x0_s) with
          | none =>
            simp only [o35, cond_true, cond_false, lbind_go, lbind_ret, lbind_brk, lbind_none, Option.bind_some, Option.bind_none, Bool.not_true, Bool.not_false, reduceCtorEq] at h
            exact absurd h kN
          | some r34 =>
            simp only [o35, cond_true, cond_false, lbind_go, lbind_ret, lbind_brk, lbind_none, Option.bind_some, Option.bind_none, Bool.not_true, Bool.not_false, reduceCtorEq] at h
            simp only [vs, cwp_label, ng_normal, ng_ret, ng_exit, cr, tyf, g16, d21, g23, H26, q27, d28, e31, e32, d33, implies_true, Nat.reduceAdd, Nat.reduceMul, Nat.reduceEqDiff, Nat.reduceLeDiff, reduceIte, reduceCtorEq]
            refine ktree (args0 := [.agg (cGLetterSheet x0_s)]) (by first | (simp only [nrm, tynrm]; done) | (simp only [nrm, tynrm]; rfl) | rfl) (by simp only [tre, tytre, Bool.and_self]) (g_ref01_pairs_ok _ _ o35) ?_
            refine fin_cut (fun tm => tm 1 = .ptr 0 0 ∧ tm 38 = .lit (.bool true) ∧ tm 40 = .lit (.bool r34) ∧ True) (by refine ⟨e31, ?_, ?_, trivial⟩ <;> first | (simp only [upd_apply, updH_apply, without_apply, d21, H26, q27, d28, e31, e32, d33, implies_true, Nat.reduceAdd, Nat.reduceMul, Nat.reduceEqDiff, Nat.reduceLeDiff, reduceIte, reduceCtorEq]; done) | (simp only [upd_apply, updH_apply, without_apply, d21, H26, q27, d28, e31, e32, d33, implies_true, Nat.reduceAdd, Nat.reduceMul, Nat.reduceEqDiff, Nat.reduceLeDiff, reduceIte, reduceCtorEq]; rfl) | rfl) ?_
            rintro tm ⟨e36, e37, e38, _⟩
            cases d39 : (r34)
            · simp only [d39, cond_true, cond_false, lbind_go, lbind_ret, lbind_brk, lbind_none, Option.bind_some, Option.bind_none, Bool.not_true, Bool.not_false, reduceCtorEq] at h
              simp only [vs, cwp_label, ng_normal, ng_ret, ng_exit, cr, tyf, g16, d21, g23, H26, q27, d28, d33, e36, e37, e38, d39, implies_true, Nat.reduceAdd, Nat.reduceMul, Nat.reduceEqDiff, Nat.reduceLeDiff, reduceIte, reduceCtorEq]
              obtain rfl := kF _ h
              refine ret1 Tryz.results11 ?_ ?_
              · first | (simp only [outV, upd_apply, updH_apply, without_apply, showV_ref, cr, tyf, nrm, tynrm, g16, d21, g23, H26, q27, d28, d33, e36, e37, e38, d39, implies_true, Nat.reduceAdd, Nat.reduceMul, Nat.reduceEqDiff, Nat.reduceLeDiff, reduceIte, reduceCtorEq]; done) | (simp only [outV, upd_apply, updH_apply, without_apply, showV_ref, cr, tyf, nrm, tynrm, g16, d21, g23, H26, q27, d28, d33, e36, e37, e38, d39, implies_true, Nat.reduceAdd, Nat.reduceMul, Nat.reduceEqDiff, Nat.reduceLeDiff, reduceIte, reduceCtorEq]; rfl)
              · simp only [tre, tytre, Bool.and_self]
            · simp only [d39, cond_true, cond_false, lbind_go, lbind_ret, lbind_brk, lbind_none, Option.bind_some, Option.bind_none, Bool.not_true, Bool.not_false, reduceCtorEq] at h
              cases o41 : (g_ref01_span x0_s.Other 9) with
              | none =>
                simp only [o41, cond_true, cond_false, lbind_go, lbind_ret, lbind_brk, lbind_none, Option.bind_some, Option.bind_none, Bool.not_true, Bool.not_false, reduceCtorEq] at h
                exact absurd h kN
              | some r40 =>
                simp only [o41, cond_true, cond_false, lbind_go, lbind_ret, lbind_brk, lbind_none, Option.bind_some, Option.bind_none, Bool.not_true, Bool.not_false, reduceCtorEq] at h
                simp only [vs, cwp_label, ng_normal, ng_ret, ng_exit, cr, tyf, g16, d21, g23, H26, q27, d28, d33, e36, e37, e38, d39, implies_true, Nat.reduceAdd, Nat.reduceMul, Nat.reduceEqDiff, Nat.reduceLeDiff, reduceIte, reduceCtorEq]
                refine ktree (args0 := [.agg (cGSpan x0_s.Other), .lit (.int .i64 9)]) (by first | (simp only [nrm, tynrm]; done) | (simp only [nrm, tynrm]; rfl) | rfl) (by simp only [tre, tytre, Bool.and_self]) (g_ref01_span_ok _ _ _ o41) ?_
                refine fin_cut (fun tm => tm 1 = .ptr 0 0 ∧ tm 42 = .lit (.bool true) ∧ tm 45 = .lit (.bool r40) ∧ True) (by refine ⟨e36, ?_, ?_, trivial⟩ <;> first | (simp only [upd_apply, updH_apply, without_apply, d21, H26, q27, d28, d33, e36, e37, e38, d39, implies_true, Nat.reduceAdd, Nat.reduceMul, Nat.reduceEqDiff, Nat.reduceLeDiff, reduceIte, reduceCtorEq]; done) | (simp only [upd_apply, updH_apply, without_apply, d21, H26, q27, d28, d33, e36, e37, e38, d39, implies_true, Nat.reduceAdd, Nat.reduceMul, Nat.reduceEqDiff, Nat.reduceLeDiff, reduceIte, reduceCtorEq]; rfl) | rfl) ?_
                rintro tm ⟨e42, e43, e44, _⟩
                cases d45 : (r40)
                · simp only [d45, cond_true, cond_false, lbind_go, lbind_ret, lbind_brk, lbind_none, Option.bind_some, Option.bind_none, Bool.not_true, Bool.not_false, reduceCtorEq] at h
                  simp only [vs, cwp_label, ng_normal, ng_ret, ng_exit, cr, tyf, g16, d21, g23, H26, q27, d28, d33, d39, e42, e43, e44, d45, implies_true, Nat.reduceAdd, Nat.reduceMul, Nat.reduceEqDiff, Nat.reduceLeDiff, reduceIte, reduceCtorEq]
                  obtain rfl := kF _ h
                  refine ret1 Tryz.results11 ?_ ?_
                  · first | (simp only [outV, upd_apply, updH_apply, without_apply, showV_ref, cr, tyf, nrm, tynrm, g16, d21, g23, H26, q27, d28, d33, d39, e42, e43, e44, d45, implies_true, Nat.reduceAdd, Nat.reduceMul, Nat.reduceEqDiff, Nat.reduceLeDiff, reduceIte, reduceCtorEq]; done) | (simp only [outV, upd_apply, updH_apply, without_apply, showV_ref, cr, tyf, nrm, tynrm, g16, d21, g23, H26, q27, d28, d33, d39, e42, e43, e44, d45, implies_true, Nat.reduceAdd, Nat.reduceMul, Nat.reduceEqDiff, Nat.reduceLeDiff, reduceIte, reduceCtorEq]; rfl)
                  · simp only [tre, tytre, Bool.and_self]
                · simp only [d45, cond_true, cond_false, lbind_go, lbind_ret, lbind_brk, lbind_none, Option.bind_some, Option.bind_none, Bool.not_true, Bool.not_false, reduceCtorEq] at h
                  cases o47 : (g_ref01_span x0_s.Gap 20) with
                  | none =>
                    simp only [o47, cond_true, cond_false, lbind_go, lbind_ret, lbind_brk, lbind_none, Option.bind_some, Option.bind_none, Bool.not_true, Bool.not_false, reduceCtorEq] at h
                    exact absurd h kN
                  | some r46 =>
                    simp only [o47, cond_true, cond_false, lbind_go, lbind_ret, lbind_brk, lbind_none, Option.bind_some, Option.bind_none, Bool.not_true, Bool.not_false, reduceCtorEq] at h
                    simp only [vs, cwp_label, ng_normal, ng_ret, ng_exit, cr, tyf, g16, d21, g23, H26, q27, d28, d33, d39, e42, e43, e44, d45, implies_true, Nat.reduceAdd, Nat.reduceMul, Nat.reduceEqDiff, Nat.reduceLeDiff, reduceIte, reduceCtorEq]
                    refine ktree (args0 := [.agg (cGSpan x0_s.Gap), .lit (.int .i64 20)]) (by first | (simp only [nrm, tynrm]; done) | (simp only [nrm, tynrm]; rfl) | rfl) (by simp only [tre, tytre, Bool.and_self]) (g_ref01_span_ok _ _ _ o47) ?_
                    refine fin_cut (fun tm => tm 1 = .ptr 0 0 ∧ tm 47 = .lit (.bool true) ∧ tm 50 = .lit (.bool r46) ∧ True) (by refine ⟨e42, ?_, ?_, trivial⟩ <;> first | (simp only [upd_apply, updH_apply, without_apply, d21, H26, q27, d28, d33, d39, e42, e43, e44, d45, implies_true, Nat.reduceAdd, Nat.reduceMul, Nat.reduceEqDiff, Nat.reduceLeDiff, reduceIte, reduceCtorEq]; done) | (simp only [upd_apply, updH_apply, without_apply, d21, H26, q27, d28, d33, d39, e42, e43, e44, d45, implies_true, Nat.reduceAdd, Nat.reduceMul, Nat.reduceEqDiff, Nat.reduceLeDiff, reduceIte, reduceCtorEq]; rfl) | rfl) ?_
                    rintro tm ⟨e48, e49, e50, _⟩
                    cases d51 : (r46)
                    · simp only [d51, cond_true, cond_false, lbind_go, lbind_ret, lbind_brk, lbind_none, Option.bind_some, Option.bind_none, Bool.not_true, Bool.not_false, reduceCtorEq] at h
                      simp only [vs, cwp_label, ng_normal, ng_ret, ng_exit, cr, tyf, g16, d21, g23, H26, q27, d28, d33, d39, d45, e48, e49, e50, d51, implies_true, Nat.reduceAdd, Nat.reduceMul, Nat.reduceEqDiff, Nat.reduceLeDiff, reduceIte, reduceCtorEq]
                      obtain rfl := kF _ h
                      refine ret1 Tryz.results11 ?_ ?_
                      · first | (simp only [outV, upd_apply, updH_apply, without_apply, showV_ref, cr, tyf, nrm, tynrm, g16, d21, g23, H26, q27, d28, d33, d39, d45, e48, e49, e50, d51, implies_true, Nat.reduceAdd, Nat.reduceMul, Nat.reduceEqDiff, Nat.reduceLeDiff, reduceIte, reduceCtorEq]; done) | (simp only [outV, upd_apply, updH_apply, without_apply, showV_ref, cr, tyf, nrm, tynrm, g16, d21, g23, H26, q27, d28, d33, d39, d45, e48, e49, e50, d51, implies_true, Nat.reduceAdd, Nat.reduceMul, Nat.reduceEqDiff, Nat.reduceLeDiff, reduceIte, reduceCtorEq]; rfl)
                      · simp only [tre, tytre, Bool.and_self]
                    · simp only [d51, cond_true, cond_false, lbind_go, lbind_ret, lbind_brk, lbind_none, Option.bind_some, Option.bind_none, Bool.not_true, Bool.not_false, reduceCtorEq] at h
                      cases o53 : (g_ref01_in x0_s.Hyphen 1 20) with
                      | none =>
                        simp only [o53, cond_true, cond_false, lbind_go, lbind_ret, lbind_brk, lbind_none, Option.bind_some, Option.bind_none, Bool.not_true, Bool.not_false, reduceCtorEq] at h
                        exact absurd h kN
                      | some r52 =>
                        simp only [o53, cond_true, cond_false, lbind_go, lbind_ret, lbind_brk, lbind_none, Option.bind_some, Option.bind_none, Bool.not_true, Bool.not_false, reduceCtorEq] at h
                        simp only [vs, cwp_label, ng_normal, ng_ret, ng_exit, cr, tyf, g16, d21, g23, H26, q27, d28, d33, d39, d45, e48, e49, e50, d51, implies_true, Nat.reduceAdd, Nat.reduceMul, Nat.reduceEqDiff, Nat.reduceLeDiff, reduceIte, reduceCtorEq]
                        refine ktree (args0 := [.lit (.int .i64 x0_s.Hyphen), .lit (.int .i64 1), .lit (.int .i64 20)]) (by first | (simp only [nrm, tynrm]; done) | (simp only [nrm, tynrm]; rfl) | rfl) (by simp only [tre, tytre, Bool.and_self]) (g_ref01_in_ok _ _ _ _ o53) ?_
                        refine fin_cut (fun tm => tm 1 = .ptr 0 0 ∧ tm 52 = .lit (.bool true) ∧ tm 55 = .lit (.bool r52) ∧ True) (by refine ⟨e48, ?_, ?_, trivial⟩ <;> first | (simp only [upd_apply, updH_apply, without_apply, d21, H26, q27, d28, d33, d39, d45, e48, e49, e50, d51, implies_true, Nat.reduceAdd, Nat.reduceMul, Nat.reduceEqDiff, Nat.reduceLeDiff, reduceIte, reduceCtorEq]; done) | (simp only [upd_apply, updH_apply, without_apply, d21, H26, q27, d28, d33, d39, d45, e48, e49, e50, d51, implies_true, Nat.reduceAdd, Nat.reduceMul, Nat.reduceEqDiff, Nat.reduceLeDiff, reduceIte, reduceCtorEq]; rfl) | rfl) ?_
                        rintro tm ⟨e54, e55, e56, _⟩
                        cases d57 : (r52)
                        · simp only [d57, cond_true, cond_false, lbind_go, lbind_ret, lbind_brk, lbind_none, Option.bind_some, Option.bind_none, Bool.not_true, Bool.not_false, reduceCtorEq] at h
                          simp only [vs, cwp_label, ng_normal, ng_ret, ng_exit, cr, tyf, g16, d21, g23, H26, q27, d28, d33, d39, d45, d51, e54, e55, e56, d57, implies_true, Nat.reduceAdd, Nat.reduceMul, Nat.reduceEqDiff, Nat.reduceLeDiff, reduceIte, reduceCtorEq]
                          obtain rfl := kF _ h
                          refine ret1 Tryz.results11 ?_ ?_
                          · first | (simp only [outV, upd_apply, updH_apply, without_apply, showV_ref, cr, tyf, nrm, tynrm, g16, d21, g23, H26, q27, d28, d33, d39, d45, d51, e54, e55, e56, d57, implies_true, Nat.reduceAdd, Nat.reduceMul, Nat.reduceEqDiff, Nat.reduceLeDiff, reduceIte, reduceCtorEq]; done) | (simp only [outV, upd_apply, updH_apply, without_apply, showV_ref, cr, tyf, nrm, tynrm, g16, d21, g23, H26, q27, d28, d33, d39, d45, d51, e54, e55, e56, d57, implies_true, Nat.reduceAdd, Nat.reduceMul, Nat.reduceEqDiff, Nat.reduceLeDiff, reduceIte, reduceCtorEq]; rfl)
                          · simp only [tre, tytre, Bool.and_self]
                        · simp only [d57, cond_true, cond_false, lbind_go, lbind_ret, lbind_brk, lbind_none, Option.bind_some, Option.bind_none, Bool.not_true, Bool.not_false, reduceCtorEq] at h
                          cases o59 : (g_ref01_in (List.length x0_s.Words : Int) 1 4) with
                          | none =>
                            simp only [o59, cond_true, cond_false, lbind_go, lbind_ret, lbind_brk, lbind_none, Option.bind_some, Option.bind_none, Bool.not_true, Bool.not_false, reduceCtorEq] at h
                            exact absurd h kN
                          | some r58 =>
                            simp only [o59, cond_true, cond_false, lbind_go, lbind_ret, lbind_brk, lbind_none, Option.bind_some, Option.bind_none, Bool.not_true, Bool.not_false, reduceCtorEq] at h
                            simp only [vs, cwp_label, ng_normal, ng_ret, ng_exit, cr, tyf, g16, d21, g23, H26, q27, d28, d33, d39, d45, d51, e54, e55, e56, d57, implies_true, Nat.reduceAdd, Nat.reduceMul, Nat.reduceEqDiff, Nat.reduceLeDiff, reduceIte, reduceCtorEq]
                            refine ktree (args0 := [.lit (.int .i64 (List.length x0_s.Words : Int)), .lit (.int .i64 1), .lit (.int .i64 4)]) (by first | (simp only [nrm, tynrm]; done) | (simp only [nrm, tynrm]; rfl) | rfl) (by simp only [tre, tytre, Bool.and_self]) (g_ref01_in_ok _ _ _ _ o59) ?_
                            refine fin_cut (fun tm => tm 1 = .ptr 0 0 ∧ tm 57 = .lit (.bool true) ∧ tm 61 = .lit (.bool r58) ∧ True) (by refine ⟨e54, ?_, ?_, trivial⟩ <;> first | (simp only [upd_apply, updH_apply, without_apply, d21, H26, q27, d28, d33, d39, d45, d51, e54, e55, e56, d57, implies_true, Nat.reduceAdd, Nat.reduceMul, Nat.reduceEqDiff, Nat.reduceLeDiff, reduceIte, reduceCtorEq]; done) | (simp only [upd_apply, updH_apply, without_apply, d21, H26, q27, d28, d33, d39, d45, d51, e54, e55, e56, d57, implies_true, Nat.reduceAdd, Nat.reduceMul, Nat.reduceEqDiff, Nat.reduceLeDiff, reduceIte, reduceCtorEq]; rfl) | rfl) ?_
                            rintro tm ⟨e60, e61, e62, _⟩
                            cases d63 : (r58)
                            · simp only [d63, cond_true, cond_false, lbind_go, lbind_ret, lbind_brk, lbind_none, Option.bind_some, Option.bind_none, Bool.not_true, Bool.not_false, reduceCtorEq] at h
                              simp only [vs, cwp_label, ng_normal, ng_ret, ng_exit, cr, tyf, g16, d21, g23, H26, q27, d28, d33, d39, d45, d51, d57, e60, e61, e62, d63, implies_true, Nat.reduceAdd, Nat.reduceMul, Nat.reduceEqDiff, Nat.reduceLeDiff, reduceIte, reduceCtorEq]
                              obtain rfl := kF _ h
                              refine ret1 Tryz.results11 ?_ ?_
                              · first | (simp only [outV, upd_apply, updH_apply, without_apply, showV_ref, cr, tyf, nrm, tynrm, g16, d21, g23, H26, q27, d28, d33, d39, d45, d51, d57, e60, e61, e62, d63, implies_true, Nat.reduceAdd, Nat.reduceMul, Nat.reduceEqDiff, Nat.reduceLeDiff, reduceIte, reduceCtorEq]; done) | (simp only [outV, upd_apply, updH_apply, without_apply, showV_ref, cr, tyf, nrm, tynrm, g16, d21, g23, H26, q27, d28, d33, d39, d45, d51, d57, e60, e61, e62, d63, implies_true, Nat.reduceAdd, Nat.reduceMul, Nat.reduceEqDiff, Nat.reduceLeDiff, reduceIte, reduceCtorEq]; rfl)
                              · simp only [tre, tytre, Bool.and_self]
                            · simp only [d63, cond_true, cond_false, lbind_go, lbind_ret, lbind_brk, lbind_none, Option.bind_some, Option.bind_none, Bool.not_true, Bool.not_false, reduceCtorEq] at h
                              cases o65 : (g_ref01_Front x0_s.Wide) with
                              | none =>
                                simp only [o65, cond_true, cond_false, lbind_go, lbind_ret, lbind_brk, lbind_none, Option.bind_some, Option.bind_none, Bool.not_true, Bool.not_false, reduceCtorEq] at h
                                exact absurd h kN
                              | some r64 =>
                                simp only [o65, cond_true, cond_false, lbind_go, lbind_ret, lbind_brk, lbind_none, Option.bind_some, Option.bind_none, Bool.not_true, Bool.not_false, reduceCtorEq] at h
                                simp only [vs, cwp_label, ng_normal, ng_ret, ng_exit, cr, tyf, g16, d21, g23, H26, q27, d28, d33, d39, d45, d51, d57, e60, e61, e62, d63, implies_true, Nat.reduceAdd, Nat.reduceMul, Nat.reduceEqDiff, Nat.reduceLeDiff, reduceIte, reduceCtorEq]
                                refine ktree (args0 := [.lit (.int .i64 x0_s.Wide)]) (by first | (simp only [nrm, tynrm]; done) | (simp only [nrm, tynrm]; rfl) | rfl) (by simp only [tre, tytre, Bool.and_self]) (g_ref01_Front_ok _ _ o65) ?_
                                refine fin_cut (fun tm => tm 1 = .ptr 0 0 ∧ tm 63 = .lit (.bool true) ∧ tm 66 = .lit (.bool r64) ∧ True) (by refine ⟨e60, ?_, ?_, trivial⟩ <;> first | (simp only [upd_apply, updH_apply, without_apply, d21, H26, q27, d28, d33, d39, d45, d51, d57, e60, e61, e62, d63, implies_true, Nat.reduceAdd, Nat.reduceMul, Nat.reduceEqDiff, Nat.reduceLeDiff, reduceIte, reduceCtorEq]; done) | (simp only [upd_apply, updH_apply, without_apply, d21, H26, q27, d28, d33, d39, d45, d51, d57, e60, e61, e62, d63, implies_true, Nat.reduceAdd, Nat.reduceMul, Nat.reduceEqDiff, Nat.reduceLeDiff, reduceIte, reduceCtorEq]; rfl) | rfl) ?_
                                rintro tm ⟨e66, e67, e68, _⟩
                                cases d69 : (r64)
                                · simp only [d69, cond_true, cond_false, lbind_go, lbind_ret, lbind_brk, lbind_none, Option.bind_some, Option.bind_none, Bool.not_true, Bool.not_false, reduceCtorEq] at h
                                  simp only [vs, cwp_label, ng_normal, ng_ret, ng_exit, cr, tyf, g16, d21, g23, H26, q27, d28, d33, d39, d45, d51, d57, d63, e66, e67, e68, d69, implies_true, Nat.reduceAdd, Nat.reduceMul, Nat.reduceEqDiff, Nat.reduceLeDiff, reduceIte, reduceCtorEq]
                                  obtain rfl := kF _ h
                                  refine ret1 Tryz.results11 ?_ ?_
                                  · first | (simp only [outV, upd_apply, updH_apply, without_apply, showV_ref, cr, tyf, nrm, tynrm, g16, d21, g23, H26, q27, d28, d33, d39, d45, d51, d57, d63, e66, e67, e68, d69, implies_true, Nat.reduceAdd, Nat.reduceMul, Nat.reduceEqDiff, Nat.reduceLeDiff, reduceIte, reduceCtorEq]; done) | (simp only [outV, upd_apply, updH_apply, without_apply, showV_ref, cr, tyf, nrm, tynrm, g16, d21, g23, H26, q27, d28, d33, d39, d45, d51, d57, d63, e66, e67, e68, d69, implies_true, Nat.reduceAdd, Nat.reduceMul, Nat.reduceEqDiff, Nat.reduceLeDiff, reduceIte, reduceCtorEq]; rfl)
                                  · simp only [tre, tytre, Bool.and_self]
                                · simp only [d69, cond_true, cond_false, lbind_go, lbind_ret, lbind_brk, lbind_none, Option.bind_some, Option.bind_none, Bool.not_true, Bool.not_false, reduceCtorEq] at h
                                  cases o71 : (g_ref01_in x0_s.Rows 1 3) with
                                  | none =>
                                    simp only [o71, cond_true, cond_false, lbind_go, lbind_ret, lbind_brk, lbind_none, Option.bind_some, Option.bind_none, Bool.not_true, Bool.not_false, reduceCtorEq] at h
                                    exact absurd h kN
                                  | some r70 =>
                                    simp only [o71, cond_true, cond_false, lbind_go, lbind_ret, lbind_brk, lbind_none, Option.bind_some, Option.bind_none, Bool.not_true, Bool.not_false, reduceCtorEq] at h
                                    simp only [vs, cwp_label, ng_normal, ng_ret, ng_exit, cr, tyf, g16, d21, g23, H26, q27, d28, d33, d39, d45, d51, d57, d63, e66, e67, e68, d69, implies_true, Nat.reduceAdd, Nat.reduceMul, Nat.reduceEqDiff, Nat.reduceLeDiff, reduceIte, reduceCtorEq]
                                    refine ktree (args0 := [.lit (.int .i64 x0_s.Rows), .lit (.int .i64 1), .lit (.int .i64 3)]) (by first | (simp only [nrm, tynrm]; done) | (simp only [nrm, tynrm]; rfl) | rfl) (by simp only [tre, tytre, Bool.and_self]) (g_ref01_in_ok _ _ _ _ o71) ?_
                                    refine fin_cut (fun tm => tm 68 = .lit (.bool true) ∧ tm 71 = .lit (.bool r70) ∧ True) (by refine ⟨?_, ?_, trivial⟩ <;> first | (simp only [upd_apply, updH_apply, without_apply, d21, H26, q27, d28, d33, d39, d45, d51, d57, d63, e66, e67, e68, d69, implies_true, Nat.reduceAdd, Nat.reduceMul, Nat.reduceEqDiff, Nat.reduceLeDiff, reduceIte, reduceCtorEq]; done) | (simp only [upd_apply, updH_apply, without_apply, d21, H26, q27, d28, d33, d39, d45, d51, d57, d63, e66, e67, e68, d69, implies_true, Nat.reduceAdd, Nat.reduceMul, Nat.reduceEqDiff, Nat.reduceLeDiff, reduceIte, reduceCtorEq]; rfl) | rfl) ?_
                                    rintro tm ⟨e72, e73, _⟩
                                    simp only [vs, cwp_label, ng_normal, ng_ret, ng_exit, cr, tyf, g16, d21, g23, H26, q27, d28, d33, d39, d45, d51, d57, d63, d69, e72, e73, implies_true, Nat.reduceAdd, Nat.reduceMul, Nat.reduceEqDiff, Nat.reduceLeDiff, reduceIte, reduceCtorEq]
                                    obtain rfl := kF _ h
                                    refine ret1 Tryz.results11 ?_ ?_
                                    · first | (simp only [outV, upd_apply, updH_apply, without_apply, showV_ref, cr, tyf, nrm, tynrm, g16, d21, g23, H26, q27, d28, d33, d39, d45, d51, d57, d63, d69, e72, e73, implies_true, Nat.reduceAdd, Nat.reduceMul, Nat.reduceEqDiff, Nat.reduceLeDiff, reduceIte, reduceCtorEq]; done) | (simp only [outV, upd_apply, updH_apply, without_apply, showV_ref, cr, tyf, nrm, tynrm, g16, d21, g23, H26, q27, d28, d33, d39, d45, d51, d57, d63, d69, e72, e73, implies_true, Nat.reduceAdd, Nat.reduceMul, Nat.reduceEqDiff, Nat.reduceLeDiff, reduceIte, reduceCtorEq]; rfl)
                                    · simp only [tre, tytre, Bool.and_self]
    | cons e22 p22 =>
      have d74 : (decide (c22_4 < (List.length x0_s.Words : Int))) = true := lt_of_drop hi22 hp22
      have o76 := getI_of_drop hi22 hp22
      have w75 := wrap_next hi22 hp22 g23
      simp only [g_ref01_Sheet_l1, cond_true, cond_false, lbind_go, lbind_ret, lbind_brk, lbind_none, Option.bind_some, Option.bind_none, Bool.not_true, Bool.not_false, reduceCtorEq] at h
      simp only [vs, cwp_label, ng_normal, ng_ret, ng_exit, cr, tyf, g16, d21, g23, e24, e25, H26, q27, d74, (ix26 o76), w75, implies_true, Nat.reduceAdd, Nat.reduceMul, Nat.reduceEqDiff, Nat.reduceLeDiff, reduceIte, reduceCtorEq]
      refine cwp_drwQF (fun tm => tm 1 = .ptr 0 0 ∧ tm 4 = .lit (.int .i64 c22_4) ∧ True) (by refine ⟨e24, e25, trivial⟩ <;> first | (simp only [upd_apply, updH_apply, without_apply, d21, e24, e25, H26, q27, d74, w75, implies_true, Nat.reduceAdd, Nat.reduceMul, Nat.reduceEqDiff, Nat.reduceLeDiff, reduceIte, reduceCtorEq]; done) | (simp only [upd_apply, updH_apply, without_apply, d21, e24, e25, H26, q27, d74, w75, implies_true, Nat.reduceAdd, Nat.reduceMul, Nat.reduceEqDiff, Nat.reduceLeDiff, reduceIte, reduceCtorEq]; rfl) | rfl) ?_
      rintro tm ⟨e77, e78, _⟩
      cases o80 : (g_ref01_word x0_s e22) with
      | none =>
        simp only [o80, cond_true, cond_false, lbind_go, lbind_ret, lbind_brk, lbind_none, Option.bind_some, Option.bind_none, Bool.not_true, Bool.not_false, reduceCtorEq] at h
        exact absurd h kN22
      | some r79 =>
        simp only [o80, cond_true, cond_false, lbind_go, lbind_ret, lbind_brk, lbind_none, Option.bind_some, Option.bind_none, Bool.not_true, Bool.not_false, reduceCtorEq] at h
        simp only [vs, cwp_label, ng_normal, ng_ret, ng_exit, cr, tyf, g16, d21, g23, H26, q27, d74, (ix26 o76), w75, e77, e78, implies_true, Nat.reduceAdd, Nat.reduceMul, Nat.reduceEqDiff, Nat.reduceLeDiff, reduceIte, reduceCtorEq]
        refine dktree (args0 := [.agg (cGLetterSheet x0_s), .agg (cGLetterWord e22)]) (by first | (simp only [nrm, tynrm]; done) | (simp only [nrm, tynrm]; rfl) | rfl) (by simp only [tre, tytre, Bool.and_self]) (g_ref01_word_ok _ _ _ o80) ?_
        refine fin_cut (fun tm => tm 1 = .ptr 0 0 ∧ tm 4 = .lit (.int .i64 c22_4) ∧ tm 32 = .lit (.bool r79) ∧ True) (by refine ⟨e77, e78, ?_, trivial⟩ <;> first | (simp only [upd_apply, updH_apply, without_apply, d21, H26, q27, d74, w75, e77, e78, implies_true, Nat.reduceAdd, Nat.reduceMul, Nat.reduceEqDiff, Nat.reduceLeDiff, reduceIte, reduceCtorEq]; done) | (simp only [upd_apply, updH_apply, without_apply, d21, H26, q27, d74, w75, e77, e78, implies_true, Nat.reduceAdd, Nat.reduceMul, Nat.reduceEqDiff, Nat.reduceLeDiff, reduceIte, reduceCtorEq]; rfl) | rfl) ?_
        rintro tm ⟨e81, e82, e83, _⟩
        cases d84 : (r79)
        · simp only [d84, cond_true, cond_false, lbind_go, lbind_ret, lbind_brk, lbind_none, Option.bind_some, Option.bind_none, Bool.not_true, Bool.not_false, reduceCtorEq] at h
          simp only [vs, cwp_label, ng_normal, ng_ret, ng_exit, cr, tyf, g16, d21, g23, H26, q27, d74, (ix26 o76), w75, e81, e82, e83, d84, implies_true, Nat.reduceAdd, Nat.reduceMul, Nat.reduceEqDiff, Nat.reduceLeDiff, reduceIte, reduceCtorEq]
          replace h := kR22 _ h
          try dsimp only at h
          obtain rfl := kF _ h
          refine ret1 Tryz.results11 ?_ ?_
          · first | (simp only [outV, upd_apply, updH_apply, without_apply, showV_ref, cr, tyf, nrm, tynrm, g16, d21, g23, H26, q27, d74, (ix26 o76), w75, e81, e82, e83, d84, implies_true, Nat.reduceAdd, Nat.reduceMul, Nat.reduceEqDiff, Nat.reduceLeDiff, reduceIte, reduceCtorEq]; done) | (simp only [outV, upd_apply, updH_apply, without_apply, showV_ref, cr, tyf, nrm, tynrm, g16, d21, g23, H26, q27, d74, (ix26 o76), w75, e81, e82, e83, d84, implies_true, Nat.reduceAdd, Nat.reduceMul, Nat.reduceEqDiff, Nat.reduceLeDiff, reduceIte, reduceCtorEq]; rfl)
          · simp only [tre, tytre, Bool.and_self]
        · simp only [d84, cond_true, cond_false, lbind_go, lbind_ret, lbind_brk, lbind_none, Option.bind_some, Option.bind_none, Bool.not_true, Bool.not_false, reduceCtorEq] at h
          simp only [vs, cwp_label, ng_normal, ng_ret, ng_exit, cr, tyf, g16, d21, g23, H26, q27, d74, (ix26 o76), w75, e81, e82, e83, d84, implies_true, Nat.reduceAdd, Nat.reduceMul, Nat.reduceEqDiff, Nat.reduceLeDiff, reduceIte, reduceCtorEq]
          exact ⟨List.length p22, Nat.lt_succ_self _, by rw [hI22]; refine ⟨p22, c22_4 + 1, rfl, Int.le_trans hi22 (Int.le_add_one (Int.le_refl _)), drop_next hi22 hp22, rfl, (show 1 ≤ nx + 16 by omega), ?_, e81, ?_, h⟩ <;> first | (simp only [upd_apply, updH_apply, without_apply, d21, H26, q27, d74, w75, e81, e82, e83, d84, implies_true, Nat.reduceAdd, Nat.reduceMul, Nat.reduceEqDiff, Nat.reduceLeDiff, reduceIte, reduceCtorEq]; done) | (simp only [upd_apply, updH_apply, without_apply, d21, H26, q27, d74, w75, e81, e82, e83, d84, implies_true, Nat.reduceAdd, Nat.reduceMul, Nat.reduceEqDiff, Nat.reduceLeDiff, reduceIte, reduceCtorEq]; rfl) | rfl⟩
  | cons e15 p15 =>
    have d85 : (decide (c15_3 < (List.length x0_s.Widths : Int))) = true := lt_of_drop hi15 hp15
    have o87 := getI_of_drop hi15 hp15
    have w86 := wrap_next hi15 hp15 g16
    simp only [g_ref01_Sheet_l0, cond_true, cond_false, lbind_go, lbind_ret, lbind_brk, lbind_none, Option.bind_some, Option.bind_none, Bool.not_true, Bool.not_false, reduceCtorEq] at h
    cases o89 : (g_ref01_in e15 1 20) with
    | none =>
      simp only [o89, cond_true, cond_false, lbind_go, lbind_ret, lbind_brk, lbind_none, Option.bind_some, Option.bind_none, Bool.not_true, Bool.not_false, reduceCtorEq] at h
      exact absurd h kN15
    | some r88 =>
      simp only [o89, cond_true, cond_false, lbind_go, lbind_ret, lbind_brk, lbind_none, Option.bind_some, Option.bind_none, Bool.not_true, Bool.not_false, reduceCtorEq] at h
      simp only [vs, cwp_label, ng_normal, ng_ret, ng_exit, cr, tyf, g16, e17, e18, H19, q20, d85, (ix22 o87), w86, implies_true, Nat.reduceAdd, Nat.reduceMul, Nat.reduceEqDiff, Nat.reduceLeDiff, reduceIte, reduceCtorEq]
      refine ktree (args0 := [.lit (.int .i64 e15), .lit (.int .i64 1), .lit (.int .i64 20)]) (by first | (simp only [nrm, tynrm]; done) | (simp only [nrm, tynrm]; rfl) | rfl) (by simp only [tre, tytre, Bool.and_self]) (g_ref01_in_ok _ _ _ _ o89) ?_
      refine fin_cut (fun tm => tm 1 = .ptr 0 0 ∧ tm 3 = .lit (.int .i64 c15_3) ∧ tm 17 = .lit (.bool r88) ∧ True) (by refine ⟨e17, e18, ?_, trivial⟩ <;> first | (simp only [upd_apply, updH_apply, without_apply, e17, e18, H19, q20, d85, w86, implies_true, Nat.reduceAdd, Nat.reduceMul, Nat.reduceEqDiff, Nat.reduceLeDiff, reduceIte, reduceCtorEq]; done) | (simp only [upd_apply, updH_apply, without_apply, e17, e18, H19, q20, d85, w86, implies_true, Nat.reduceAdd, Nat.reduceMul, Nat.reduceEqDiff, Nat.reduceLeDiff, reduceIte, reduceCtorEq]; rfl) | rfl) ?_
      rintro tm ⟨e90, e91, e92, _⟩
      cases d93 : (r88)
      · simp only [d93, cond_true, cond_false, lbind_go, lbind_ret, lbind_brk, lbind_none, Option.bind_some, Option.bind_none, Bool.not_true, Bool.not_false, reduceCtorEq] at h
        simp only [vs, cwp_label, ng_normal, ng_ret, ng_exit, cr, tyf, g16, H19, q20, d85, (ix22 o87), w86, e90, e91, e92, d93, implies_true, Nat.reduceAdd, Nat.reduceMul, Nat.reduceEqDiff, Nat.reduceLeDiff, reduceIte, reduceCtorEq]
        replace h := kR15 _ h
        try dsimp only at h
        obtain rfl := kF _ h
        refine ret1 Tryz.results11 ?_ ?_
        · first | (simp only [outV, upd_apply, updH_apply, without_apply, showV_ref, cr, tyf, nrm, tynrm, g16, H19, q20, d85, (ix22 o87), w86, e90, e91, e92, d93, implies_true, Nat.reduceAdd, Nat.reduceMul, Nat.reduceEqDiff, Nat.reduceLeDiff, reduceIte, reduceCtorEq]; done) | (simp only [outV, upd_apply, updH_apply, without_apply, showV_ref, cr, tyf, nrm, tynrm, g16, H19, q20, d85, (ix22 o87), w86, e90, e91, e92, d93, implies_true, Nat.reduceAdd, Nat.reduceMul, Nat.reduceEqDiff, Nat.reduceLeDiff, reduceIte, reduceCtorEq]; rfl)
        · simp only [tre, tytre, Bool.and_self]
      · simp only [d93, cond_true, cond_false, lbind_go, lbind_ret, lbind_brk, lbind_none, Option.bind_some, Option.bind_none, Bool.not_true, Bool.not_false, reduceCtorEq] at h
        simp only [vs, cwp_label, ng_normal, ng_ret, ng_exit, cr, tyf, g16, H19, q20, d85, (ix22 o87), w86, e90, e91, e92, d93, implies_true, Nat.reduceAdd, Nat.reduceMul, Nat.reduceEqDiff, Nat.reduceLeDiff, reduceIte, reduceCtorEq]
        exact ⟨List.length p15, Nat.lt_succ_self _, by rw [hI15]; refine ⟨p15, c15_3 + 1, rfl, Int.le_trans hi15 (Int.le_add_one (Int.le_refl _)), drop_next hi15 hp15, rfl, (show 1 ≤ nx + 15 by omega), ?_, e90, ?_, h⟩ <;> first | (simp only [upd_apply, updH_apply, without_apply, H19, q20, d85, w86, e90, e91, e92, d93, implies_true, Nat.reduceAdd, Nat.reduceMul, Nat.reduceEqDiff, Nat.reduceLeDiff, reduceIte, reduceCtorEq]; done) | (simp only [upd_apply, updH_apply, without_apply, H19, q20, d85, w86, e90, e91, e92, d93, implies_true, Nat.reduceAdd, Nat.reduceMul, Nat.reduceEqDiff, Nat.reduceLeDiff, reduceIte, reduceCtorEq]; rfl) | rfl⟩

end Go.V
end
section
namespace Go.V
open Go Go.Proofs
set_option linter.unusedSimpArgs false
set_option linter.unusedVariables false
set_option maxRecDepth 4000
def g_ref01_Same_l0 (x1_b : List Int) : List Int → Int → Option (LOut (Bool) (Unit))
  | [], c0_5 => some (.go ())
  | e0 :: p0, c0_5 => Option.bind (getI x1_b c0_5) (fun x1 => cond (e0 != x1) (some (.ret false)) (g_ref01_Same_l0 x1_b p0 (c0_5 + 1)))
def g_ref01_Same (x0_a : List Int) (x1_b : List Int) : Option (Bool) := cond ((List.length x0_a : Int) != (List.length x1_b : Int)) (some false) (cond (lenOk x0_a) (lbind (g_ref01_Same_l0 x1_b x0_a 0) (fun r => some r) (fun c2 => some true) (fun _ _ => none)) none)
theorem g_ref01_Same_ok (x0_a : List Int) (x1_b : List Int) (R : Bool) (h : g_ref01_Same x0_a x1_b = some R) : VPure Tryz.prog G0 14 [.sl (cellsL eI x0_a) (List.length x0_a) false, .sl (cellsL eI x1_b) (List.length x1_b) false] (.tree (.lit (.bool R))) := by
  refine VPure.runT mixed Tryz.call14 Tryz.func14 rfl (by simp [Tryz.ntmps14]; kernel_rfl) ?_
  obtain ⟨KF, h, kF, kN⟩ := fun_intro h
  simp only [g_ref01_Same] at h
  cases d3 : ((List.length x0_a : Int) != (List.length x1_b : Int))
  · simp only [d3, cond_true, cond_false, lbind_go, lbind_ret, lbind_brk, lbind_none, Option.bind_some, Option.bind_none, Bool.not_true, Bool.not_false, reduceCtorEq] at h
    cases g5 : (lenOk x0_a)
    · simp only [g5, cond_true, cond_false, lbind_go, lbind_ret, lbind_brk, lbind_none, Option.bind_some, Option.bind_none, Bool.not_true, Bool.not_false, reduceCtorEq] at h
      exact absurd h kN
    simp only [g5, cond_true, cond_false, lbind_go, lbind_ret, lbind_brk, lbind_none, Option.bind_some, Option.bind_none, Bool.not_true, Bool.not_false, reduceCtorEq] at h
    simp only [vs, cwp_label, ng_normal, ng_ret, ng_exit, cr, tyf, d3, g5, implies_true, Nat.reduceAdd, Nat.reduceMul, Nat.reduceEqDiff, Nat.reduceLeDiff, reduceIte, reduceCtorEq]
    obtain ⟨K4, h, kR4, kG4, kB4, kN4⟩ := lbind_intro h kN
    obtain ⟨f4, hf4, h⟩ := call2 h
    obtain ⟨I4, hI4⟩ : ∃ I : Nat → St → Prop, I = (fun m st => ∃ (p4 : List Int) (c4_5 : Int), m = List.length p4 ∧ 0 ≤ c4_5 ∧ List.drop (Int.toNat c4_5) x0_a = p4 ∧ st.df = [] ∧ st.tm 0 = .sl (cellsL eI x0_a) (List.length x0_a) false ∧ st.tm 1 = .sl (cellsL eI x1_b) (List.length x1_b) false ∧ st.tm 5 = .lit (.int .i64 c4_5) ∧ K4 (f4 p4 c4_5)) := ⟨_, rfl⟩
    refine loopK mixed (by kernel_rfl) I4 (List.length x0_a) (by rw [hI4]; refine ⟨x0_a, 0, rfl, Int.le_refl _, rfl, rfl, ?_, ?_, ?_, h⟩ <;> first | (simp only [upd_apply, updH_apply, without_apply, d3, implies_true, Nat.reduceAdd, Nat.reduceMul, Nat.reduceEqDiff, Nat.reduceLeDiff, reduceIte, reduceCtorEq]; done) | (simp only [upd_apply, updH_apply, without_apply, d3, implies_true, Nat.reduceAdd, Nat.reduceMul, Nat.reduceEqDiff, Nat.reduceLeDiff, reduceIte, reduceCtorEq]; rfl) | rfl) ?_
    rintro m ⟨tm, H, nx, df⟩ hinv
    rw [hI4] at hinv
    obtain ⟨p4, c4_5, rfl, hi4, hp4, hdf, e6, e7, e8, h⟩ := hinv
    simp only at hdf e6 e7 e8
    subst hdf hf4
    cases p4 with
    | nil =>
      have d9 : (decide (c4_5 < (List.length x0_a : Int))) = false := not_lt_of_drop hi4 hp4
      simp only [g_ref01_Same_l0, cond_true, cond_false, lbind_go, lbind_ret, lbind_brk, lbind_none, Option.bind_some, Option.bind_none, Bool.not_true, Bool.not_false, reduceCtorEq] at h
      replace h := kG4 _ h
      try dsimp only at h
      try simp only [cond_true, cond_false, lbind_go, lbind_ret, lbind_brk, lbind_none, Option.bind_some, Option.bind_none, Bool.not_true, Bool.not_false] at h
      simp only [vs, cwp_label, ng_normal, ng_ret, ng_exit, cr, tyf, d3, g5, e6, e7, e8, d9, implies_true, Nat.reduceAdd, Nat.reduceMul, Nat.reduceEqDiff, Nat.reduceLeDiff, reduceIte, reduceCtorEq]
      obtain rfl := kF _ h
      refine ret1 Tryz.results14 ?_ ?_
      · first | (simp only [outV, upd_apply, updH_apply, without_apply, showV_ref, cr, tyf, nrm, tynrm, d3, g5, e6, e7, e8, d9, implies_true, Nat.reduceAdd, Nat.reduceMul, Nat.reduceEqDiff, Nat.reduceLeDiff, reduceIte, reduceCtorEq]; done) | (simp only [outV, upd_apply, updH_apply, without_apply, showV_ref, cr, tyf, nrm, tynrm, d3, g5, e6, e7, e8, d9, implies_true, Nat.reduceAdd, Nat.reduceMul, Nat.reduceEqDiff, Nat.reduceLeDiff, reduceIte, reduceCtorEq]; rfl)
      · simp only [tre, tytre, Bool.and_self]
    | cons e4 p4 =>
      have d10 : (decide (c4_5 < (List.length x0_a : Int))) = true := lt_of_drop hi4 hp4
      have o12 := getI_of_drop hi4 hp4
      have w11 := wrap_next hi4 hp4 g5
      simp only [g_ref01_Same_l0, cond_true, cond_false, lbind_go, lbind_ret, lbind_brk, lbind_none, Option.bind_some, Option.bind_none, Bool.not_true, Bool.not_false, reduceCtorEq] at h
      simp only [vs, cwp_label, ng_normal, ng_ret, ng_exit, cr, tyf, d3, g5, e6, e7, e8, d10, (ix22 o12), w11, implies_true, Nat.reduceAdd, Nat.reduceMul, Nat.reduceEqDiff, Nat.reduceLeDiff, reduceIte, reduceCtorEq]
      refine cwp_drwQF (fun tm => tm 0 = .sl (cellsL eI x0_a) (List.length x0_a) false ∧ tm 1 = .sl (cellsL eI x1_b) (List.length x1_b) false ∧ tm 5 = .lit (.int .i64 c4_5) ∧ True) (by refine ⟨e6, e7, e8, trivial⟩ <;> first | (simp only [upd_apply, updH_apply, without_apply, d3, e6, e7, e8, d10, w11, implies_true, Nat.reduceAdd, Nat.reduceMul, Nat.reduceEqDiff, Nat.reduceLeDiff, reduceIte, reduceCtorEq]; done) | (simp only [upd_apply, updH_apply, without_apply, d3, e6, e7, e8, d10, w11, implies_true, Nat.reduceAdd, Nat.reduceMul, Nat.reduceEqDiff, Nat.reduceLeDiff, reduceIte, reduceCtorEq]; rfl) | rfl) ?_
      rintro tm ⟨e13, e14, e15, _⟩
      cases o17 : (getI x1_b c4_5) with
      | none =>
        simp only [o17, cond_true, cond_false, lbind_go, lbind_ret, lbind_brk, lbind_none, Option.bind_some, Option.bind_none, Bool.not_true, Bool.not_false, reduceCtorEq] at h
        exact absurd h kN4
      | some x16 =>
        simp only [o17, cond_true, cond_false, lbind_go, lbind_ret, lbind_brk, lbind_none, Option.bind_some, Option.bind_none, Bool.not_true, Bool.not_false, reduceCtorEq] at h
        cases d18 : (e4 != x16)
        · simp only [d18, cond_true, cond_false, lbind_go, lbind_ret, lbind_brk, lbind_none, Option.bind_some, Option.bind_none, Bool.not_true, Bool.not_false, reduceCtorEq] at h
          simp only [vs, cwp_label, ng_normal, ng_ret, ng_exit, cr, tyf, d3, g5, d10, (ix22 o12), w11, e13, e14, e15, (ix22 o17), d18, implies_true, Nat.reduceAdd, Nat.reduceMul, Nat.reduceEqDiff, Nat.reduceLeDiff, reduceIte, reduceCtorEq]
          exact ⟨List.length p4, Nat.lt_succ_self _, by rw [hI4]; refine ⟨p4, c4_5 + 1, rfl, Int.le_trans hi4 (Int.le_add_one (Int.le_refl _)), drop_next hi4 hp4, rfl, e13, e14, ?_, h⟩ <;> first | (simp only [upd_apply, updH_apply, without_apply, d3, d10, w11, e13, e14, e15, d18, implies_true, Nat.reduceAdd, Nat.reduceMul, Nat.reduceEqDiff, Nat.reduceLeDiff, reduceIte, reduceCtorEq]; done) | (simp only [upd_apply, updH_apply, without_apply, d3, d10, w11, e13, e14, e15, d18, implies_true, Nat.reduceAdd, Nat.reduceMul, Nat.reduceEqDiff, Nat.reduceLeDiff, reduceIte, reduceCtorEq]; rfl) | rfl⟩
        · simp only [d18, cond_true, cond_false, lbind_go, lbind_ret, lbind_brk, lbind_none, Option.bind_some, Option.bind_none, Bool.not_true, Bool.not_false, reduceCtorEq] at h
          simp only [vs, cwp_label, ng_normal, ng_ret, ng_exit, cr, tyf, d3, g5, d10, (ix22 o12), w11, e13, e14, e15, (ix22 o17), d18, implies_true, Nat.reduceAdd, Nat.reduceMul, Nat.reduceEqDiff, Nat.reduceLeDiff, reduceIte, reduceCtorEq]
          replace h := kR4 _ h
          try dsimp only at h
          obtain rfl := kF _ h
          refine ret1 Tryz.results14 ?_ ?_
          · first | (simp only [outV, upd_apply, updH_apply, without_apply, showV_ref, cr, tyf, nrm, tynrm, d3, g5, d10, (ix22 o12), w11, e13, e14, e15, (ix22 o17), d18, implies_true, Nat.reduceAdd, Nat.reduceMul, Nat.reduceEqDiff, Nat.reduceLeDiff, reduceIte, reduceCtorEq]; done) | (simp only [outV, upd_apply, updH_apply, without_apply, showV_ref, cr, tyf, nrm, tynrm, d3, g5, d10, (ix22 o12), w11, e13, e14, e15, (ix22 o17), d18, implies_true, Nat.reduceAdd, Nat.reduceMul, Nat.reduceEqDiff, Nat.reduceLeDiff, reduceIte, reduceCtorEq]; rfl)
          · simp only [tre, tytre, Bool.and_self]
  · simp only [d3, cond_true, cond_false, lbind_go, lbind_ret, lbind_brk, lbind_none, Option.bind_some, Option.bind_none, Bool.not_true, Bool.not_false, reduceCtorEq] at h
    simp only [vs, cwp_label, ng_normal, ng_ret, ng_exit, cr, tyf, d3, implies_true, Nat.reduceAdd, Nat.reduceMul, Nat.reduceEqDiff, Nat.reduceLeDiff, reduceIte, reduceCtorEq]
    obtain rfl := kF _ h
    refine ret1 Tryz.results14 ?_ ?_
    · first | (simp only [outV, upd_apply, updH_apply, without_apply, showV_ref, cr, tyf, nrm, tynrm, d3, implies_true, Nat.reduceAdd, Nat.reduceMul, Nat.reduceEqDiff, Nat.reduceLeDiff, reduceIte, reduceCtorEq]; done) | (simp only [outV, upd_apply, updH_apply, without_apply, showV_ref, cr, tyf, nrm, tynrm, d3, implies_true, Nat.reduceAdd, Nat.reduceMul, Nat.reduceEqDiff, Nat.reduceLeDiff, reduceIte, reduceCtorEq]; rfl)
    · simp only [tre, tytre, Bool.and_self]

end Go.V
end
