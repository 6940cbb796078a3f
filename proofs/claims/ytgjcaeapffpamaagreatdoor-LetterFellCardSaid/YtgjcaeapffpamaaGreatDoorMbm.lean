/- Part of the proof of a statement of YtgjcaeapffpamaaGreatDoor: a logic of values by content, the lifted functions, and what follows. -/
import Derived.Test.YtgjcaeapffpamaaGreatDoorMbf
import Derived.Test.YtgjcaeapffpamaaGreatDoorMbl
import Derived.Test.YtgjcaeapffpamaaGreatDoorMbk
set_option linter.unusedVariables false
set_option linter.unusedSimpArgs false
set_option linter.unusedSectionVars false
set_option linter.constructorNameAsVariable false
section
namespace Go.V
open Go Go.Proofs
set_option linter.unusedSimpArgs false
set_option linter.unusedVariables false
set_option maxRecDepth 4000
set_option maxHeartbeats 4000000
def g_ref01_mistaken_l1 (x0_a : GLetterWord) (x1_b : GLetterWord) (c0_5 : Int) : Nat → Int → Option (LOut (Bool) (Unit))
  | 0, c1_6 => some (.go ())
  | k1 + 1, c1_6 => Option.bind (g_ref01_Fallen x0_a c0_5) (fun r3 => cond (decide ((List.length r3 : Int) > 0)) (Option.bind (g_ref01_Fallen x1_b c1_6) (fun r4 => Option.bind (g_ref01_Same r3 r4) (fun r5 => cond (r5) (some (.ret true)) (g_ref01_mistaken_l1 x0_a x1_b c0_5 k1 (c1_6 + 1))))) (g_ref01_mistaken_l1 x0_a x1_b c0_5 k1 (c1_6 + 1)))
def g_ref01_mistaken_l0 (x0_a : GLetterWord) (x1_b : GLetterWord) : Nat → Int → Option (LOut (Bool) (Unit))
  | 0, c0_5 => some (.go ())
  | k0 + 1, c0_5 => cond (boundOk (List.length x1_b.Signs : Int)) (lbind (g_ref01_mistaken_l1 x0_a x1_b c0_5 (Int.toNat ((List.length x1_b.Signs : Int) - (-1))) (-1)) (fun r => some (.ret r)) (fun c6 => g_ref01_mistaken_l0 x0_a x1_b k0 (c0_5 + 1)) (fun _ _ => none)) none
def g_ref01_mistaken (x0_a : GLetterWord) (x1_b : GLetterWord) : Option (Bool) := cond (boundOk (List.length x0_a.Signs : Int)) (lbind (g_ref01_mistaken_l0 x0_a x1_b (Int.toNat ((List.length x0_a.Signs : Int) - (-1))) (-1)) (fun r => some r) (fun c7 => some false) (fun _ _ => none)) none
theorem g_ref01_mistaken_ok (x0_a : GLetterWord) (x1_b : GLetterWord) (R : Bool) (h : g_ref01_mistaken x0_a x1_b = some R) : VPure Tryz.prog G0 101 [.agg (cGLetterWord x0_a), .agg (cGLetterWord x1_b)] (.tree (.lit (.bool R))) := by
  refine VPure.runT mixed Tryz.call101 Tryz.func101 rfl (by simp [Tryz.ntmps101]; kernel_rfl) ?_
  obtain ⟨KF, h, kF, kN⟩ := fun_intro h
  simp only [g_ref01_mistaken] at h
  cases g11 : (boundOk (List.length x0_a.Signs : Int))
  · simp only [g11, cond_true, cond_false, lbind_go, lbind_ret, lbind_brk, lbind_none, Option.bind_some, Option.bind_none, Bool.not_true, Bool.not_false, reduceCtorEq] at h
    exact absurd h kN
  simp only [g11, cond_true, cond_false, lbind_go, lbind_ret, lbind_brk, lbind_none, Option.bind_some, Option.bind_none, Bool.not_true, Bool.not_false, reduceCtorEq] at h
  simp only [vs, cwp_label, ng_normal, ng_ret, ng_exit, cr, tyf, g11, implies_true, Nat.reduceAdd, Nat.reduceMul, Nat.reduceEqDiff, Nat.reduceLeDiff, reduceIte, reduceCtorEq]
  obtain ⟨K10, h, kR10, kG10, kB10, kN10⟩ := lbind_intro h kN
  obtain ⟨f10, hf10, h⟩ := call2 h
  obtain ⟨I10, hI10⟩ : ∃ I : Nat → St → Prop, I = (fun m st => ∃ (p10 : Nat) (c10_5 : Int), p10 = m ∧ loOk c10_5 = true ∧ Int.toNat ((List.length x0_a.Signs : Int) - c10_5) = p10 ∧ st.df = [] ∧ 2 ≤ st.nx ∧ st.H 0 = some (.cells (some 79) (cGLetterWord x0_a)) ∧ st.H 1 = some (.cells (some 79) (cGLetterWord x1_b)) ∧ st.tm 2 = .ptr 0 0 ∧ st.tm 3 = .ptr 1 0 ∧ st.tm 5 = .lit (.int .i64 c10_5) ∧ K10 (f10 p10 c10_5)) := ⟨_, rfl⟩
  refine loopK mixed (by kernel_rfl) I10 (Int.toNat ((List.length x0_a.Signs : Int) - (-1))) (by rw [hI10]; refine ⟨Int.toNat ((List.length x0_a.Signs : Int) - (-1)), (-1), rfl, (by rfl), rfl, rfl, (show 2 ≤ 4 by decide), ?_, ?_, ?_, ?_, ?_, h⟩ <;> first | (simp only [upd_apply, updH_apply, without_apply, implies_true, Nat.reduceAdd, Nat.reduceMul, Nat.reduceEqDiff, Nat.reduceLeDiff, reduceIte, reduceCtorEq]; done) | (simp only [upd_apply, updH_apply, without_apply, implies_true, Nat.reduceAdd, Nat.reduceMul, Nat.reduceEqDiff, Nat.reduceLeDiff, reduceIte, reduceCtorEq]; rfl) | rfl) ?_
  rintro m ⟨tm, H, nx, df⟩ hinv
  rw [hI10] at hinv
  obtain ⟨p10, c10_5, rfl, hi10, hp10, hdf, hn10, H15, H16, e12, e13, e14, h⟩ := hinv
  simp only at hdf hn10 H15 H16 e12 e13 e14
  have q17 := fresh_ne (n := 0) (B := 2) (by decide) hn10
  have q18 := fresh_ne (n := 1) (B := 2) (by decide) hn10
  subst hdf hf10
  cases p10 with
  | zero =>
    have d19 : (decide (c10_5 < (List.length x0_a.Signs : Int))) = false := cnt_not_lt hp10
    simp only [g_ref01_mistaken_l0, cond_true, cond_false, lbind_go, lbind_ret, lbind_brk, lbind_none, Option.bind_some, Option.bind_none, Bool.not_true, Bool.not_false, reduceCtorEq] at h
    replace h := kG10 _ h
    try dsimp only at h
    try simp only [cond_true, cond_false, lbind_go, lbind_ret, lbind_brk, lbind_none, Option.bind_some, Option.bind_none, Bool.not_true, Bool.not_false] at h
    simp only [vs, cwp_label, ng_normal, ng_ret, ng_exit, cr, tyf, g11, e12, e13, e14, H15, H16, q17, q18, d19, implies_true, Nat.reduceAdd, Nat.reduceMul, Nat.reduceEqDiff, Nat.reduceLeDiff, reduceIte, reduceCtorEq]
    obtain rfl := kF _ h
    refine ret1 Tryz.results101 ?_ ?_
    · first | (simp only [outV, upd_apply, updH_apply, without_apply, showV_ref, cr, tyf, nrm, tynrm, g11, e12, e13, e14, H15, H16, q17, q18, d19, implies_true, Nat.reduceAdd, Nat.reduceMul, Nat.reduceEqDiff, Nat.reduceLeDiff, reduceIte, reduceCtorEq]; done) | (simp only [outV, upd_apply, updH_apply, without_apply, showV_ref, cr, tyf, nrm, tynrm, g11, e12, e13, e14, H15, H16, q17, q18, d19, implies_true, Nat.reduceAdd, Nat.reduceMul, Nat.reduceEqDiff, Nat.reduceLeDiff, reduceIte, reduceCtorEq]; rfl)
    · simp only [tre, tytre, Bool.and_self]
  | succ p10 =>
    have d20 : (decide (c10_5 < (List.length x0_a.Signs : Int))) = true := cnt_lt hp10
    have w21 := cnt_wrap hi10 hp10 g11
    simp only [g_ref01_mistaken_l0, cond_true, cond_false, lbind_go, lbind_ret, lbind_brk, lbind_none, Option.bind_some, Option.bind_none, Bool.not_true, Bool.not_false, reduceCtorEq] at h
    cases g23 : (boundOk (List.length x1_b.Signs : Int))
    · simp only [g23, cond_true, cond_false, lbind_go, lbind_ret, lbind_brk, lbind_none, Option.bind_some, Option.bind_none, Bool.not_true, Bool.not_false, reduceCtorEq] at h
      exact absurd h kN10
    simp only [g23, cond_true, cond_false, lbind_go, lbind_ret, lbind_brk, lbind_none, Option.bind_some, Option.bind_none, Bool.not_true, Bool.not_false, reduceCtorEq] at h
    simp only [vs, cwp_label, ng_normal, ng_ret, ng_exit, cr, tyf, g11, e12, e13, e14, H15, H16, q17, q18, d20, w21, g23, implies_true, Nat.reduceAdd, Nat.reduceMul, Nat.reduceEqDiff, Nat.reduceLeDiff, reduceIte, reduceCtorEq]
    obtain ⟨K22, h, kR22, kG22, kB22, kN22⟩ := lbind_intro h kN10
    obtain ⟨f22, hf22, h⟩ := call2 h
    obtain ⟨I22, hI22⟩ : ∃ I : Nat → St → Prop, I = (fun m st => ∃ (p22 : Nat) (c22_6 : Int), p22 = m ∧ loOk c22_6 = true ∧ Int.toNat ((List.length x1_b.Signs : Int) - c22_6) = p22 ∧ st.df = [] ∧ 2 ≤ st.nx ∧ st.H 0 = some (.cells (some 79) (cGLetterWord x0_a)) ∧ st.H 1 = some (.cells (some 79) (cGLetterWord x1_b)) ∧ st.tm 2 = .ptr 0 0 ∧ st.tm 3 = .ptr 1 0 ∧ st.tm 5 = .lit (.int .i64 c10_5) ∧ st.tm 6 = .lit (.int .i64 c22_6) ∧ K22 (f22 p22 c22_6)) := ⟨_, rfl⟩
    refine loopK mixed (by kernel_rfl) I22 (Int.toNat ((List.length x1_b.Signs : Int) - (-1))) (by rw [hI22]; refine ⟨Int.toNat ((List.length x1_b.Signs : Int) - (-1)), (-1), rfl, (by rfl), rfl, rfl, (show 2 ≤ nx + 6 by omega), ?_, ?_, e12, e13, e14, ?_, h⟩ <;> first | (simp only [upd_apply, updH_apply, without_apply, e12, e13, e14, H15, H16, q17, q18, d20, w21, implies_true, Nat.reduceAdd, Nat.reduceMul, Nat.reduceEqDiff, Nat.reduceLeDiff, reduceIte, reduceCtorEq]; done) | (simp only [upd_apply, updH_apply, without_apply, e12, e13, e14, H15, H16, q17, q18, d20, w21, implies_true, Nat.reduceAdd, Nat.reduceMul, Nat.reduceEqDiff, Nat.reduceLeDiff, reduceIte, reduceCtorEq]; rfl) | rfl) ?_
    rintro m ⟨tm, H, nx, df⟩ hinv
    rw [hI22] at hinv
    obtain ⟨p22, c22_6, rfl, hi22, hp22, hdf, hn22, H28, H29, e24, e25, e26, e27, h⟩ := hinv
    simp only at hdf hn22 H28 H29 e24 e25 e26 e27
    have q30 := fresh_ne (n := 0) (B := 2) (by decide) hn22
    have q31 := fresh_ne (n := 1) (B := 2) (by decide) hn22
    subst hdf hf22
    cases p22 with
    | zero =>
      have d32 : (decide (c22_6 < (List.length x1_b.Signs : Int))) = false := cnt_not_lt hp22
      simp only [g_ref01_mistaken_l1, cond_true, cond_false, lbind_go, lbind_ret, lbind_brk, lbind_none, Option.bind_some, Option.bind_none, Bool.not_true, Bool.not_false, reduceCtorEq] at h
      replace h := kG22 _ h
      try dsimp only at h
      try simp only [cond_true, cond_false, lbind_go, lbind_ret, lbind_brk, lbind_none, Option.bind_some, Option.bind_none, Bool.not_true, Bool.not_false] at h
      simp only [vs, cwp_label, ng_normal, ng_ret, ng_exit, cr, tyf, g11, d20, w21, g23, e24, e25, e26, e27, H28, H29, q30, q31, d32, implies_true, Nat.reduceAdd, Nat.reduceMul, Nat.reduceEqDiff, Nat.reduceLeDiff, reduceIte, reduceCtorEq]
      exact ⟨p10, Nat.lt_succ_self _, by rw [hI10]; refine ⟨p10, c10_5 + 1, rfl, cnt_lo hi10, cnt_next hp10, rfl, (show 2 ≤ nx + 8 by omega), ?_, ?_, e24, e25, ?_, h⟩ <;> first | (simp only [upd_apply, updH_apply, without_apply, d20, w21, e24, e25, e26, e27, H28, H29, q30, q31, d32, implies_true, Nat.reduceAdd, Nat.reduceMul, Nat.reduceEqDiff, Nat.reduceLeDiff, reduceIte, reduceCtorEq]; done) | (simp only [upd_apply, updH_apply, without_apply, d20, w21, e24, e25, e26, e27, H28, H29, q30, q31, d32, implies_true, Nat.reduceAdd, Nat.reduceMul, Nat.reduceEqDiff, Nat.reduceLeDiff, reduceIte, reduceCtorEq]; rfl) | rfl⟩
    | succ p22 =>
      have d33 : (decide (c22_6 < (List.length x1_b.Signs : Int))) = true := cnt_lt hp22
      have w34 := cnt_wrap hi22 hp22 g23
      simp only [g_ref01_mistaken_l1, cond_true, cond_false, lbind_go, lbind_ret, lbind_brk, lbind_none, Option.bind_some, Option.bind_none, Bool.not_true, Bool.not_false, reduceCtorEq] at h
      cases o36 : (g_ref01_Fallen x0_a c10_5) with
      | none =>
        simp only [o36, cond_true, cond_false, lbind_go, lbind_ret, lbind_brk, lbind_none, Option.bind_some, Option.bind_none, Bool.not_true, Bool.not_false, reduceCtorEq] at h
        exact absurd h kN22
      | some r35 =>
        simp only [o36, cond_true, cond_false, lbind_go, lbind_ret, lbind_brk, lbind_none, Option.bind_some, Option.bind_none, Bool.not_true, Bool.not_false, reduceCtorEq] at h
        simp only [vs, cwp_label, ng_normal, ng_ret, ng_exit, cr, tyf, g11, d20, w21, g23, e24, e25, e26, e27, H28, H29, q30, q31, d33, w34, implies_true, Nat.reduceAdd, Nat.reduceMul, Nat.reduceEqDiff, Nat.reduceLeDiff, reduceIte, reduceCtorEq]
        refine ktree (args0 := [.agg (cGLetterWord x0_a), .lit (.int .i64 c10_5)]) (by first | (simp only [nrm, tynrm]; done) | (simp only [nrm, tynrm]; rfl) | rfl) (by simp only [tre, tytre, Bool.and_self]) (g_ref01_Fallen_ok _ _ _ o36) ?_
        refine fin_cut (fun tm => tm 2 = .ptr 0 0 ∧ tm 3 = .ptr 1 0 ∧ tm 5 = .lit (.int .i64 c10_5) ∧ tm 6 = .lit (.int .i64 c22_6) ∧ tm 24 = .sl (cellsL eI r35) (List.length r35) false ∧ True) (by refine ⟨e24, e25, e26, e27, ?_, trivial⟩ <;> first | (simp only [upd_apply, updH_apply, without_apply, d20, w21, e24, e25, e26, e27, H28, H29, q30, q31, d33, w34, implies_true, Nat.reduceAdd, Nat.reduceMul, Nat.reduceEqDiff, Nat.reduceLeDiff, reduceIte, reduceCtorEq]; done) | (simp only [upd_apply, updH_apply, without_apply, d20, w21, e24, e25, e26, e27, H28, H29, q30, q31, d33, w34, implies_true, Nat.reduceAdd, Nat.reduceMul, Nat.reduceEqDiff, Nat.reduceLeDiff, reduceIte, reduceCtorEq]; rfl) | rfl) ?_
        rintro tm ⟨e37, e38, e39, e40, e41, _⟩
        cases d42 : (decide ((List.length r35 : Int) > 0))
        · simp only [d42, cond_true, cond_false, lbind_go, lbind_ret, lbind_brk, lbind_none, Option.bind_some, Option.bind_none, Bool.not_true, Bool.not_false, reduceCtorEq] at h
          simp only [vs, cwp_label, ng_normal, ng_ret, ng_exit, cr, tyf, g11, d20, w21, g23, H28, H29, q30, q31, d33, w34, e37, e38, e39, e40, e41, d42, implies_true, Nat.reduceAdd, Nat.reduceMul, Nat.reduceEqDiff, Nat.reduceLeDiff, reduceIte, reduceCtorEq]
          exact ⟨p22, Nat.lt_succ_self _, by rw [hI22]; refine ⟨p22, c22_6 + 1, rfl, cnt_lo hi22, cnt_next hp22, rfl, (show 2 ≤ nx + 22 by omega), ?_, ?_, e37, e38, e39, ?_, h⟩ <;> first | (simp only [upd_apply, updH_apply, without_apply, d20, w21, H28, H29, q30, q31, d33, w34, e37, e38, e39, e40, e41, d42, implies_true, Nat.reduceAdd, Nat.reduceMul, Nat.reduceEqDiff, Nat.reduceLeDiff, reduceIte, reduceCtorEq]; done) | (simp only [upd_apply, updH_apply, without_apply, d20, w21, H28, H29, q30, q31, d33, w34, e37, e38, e39, e40, e41, d42, implies_true, Nat.reduceAdd, Nat.reduceMul, Nat.reduceEqDiff, Nat.reduceLeDiff, reduceIte, reduceCtorEq]; rfl) | rfl⟩
        · simp only [d42, cond_true, cond_false, lbind_go, lbind_ret, lbind_brk, lbind_none, Option.bind_some, Option.bind_none, Bool.not_true, Bool.not_false, reduceCtorEq] at h
          cases o44 : (g_ref01_Fallen x1_b c22_6) with
          | none =>
            simp only [o44, cond_true, cond_false, lbind_go, lbind_ret, lbind_brk, lbind_none, Option.bind_some, Option.bind_none, Bool.not_true, Bool.not_false, reduceCtorEq] at h
            exact absurd h kN22
          | some r43 =>
            simp only [o44, cond_true, cond_false, lbind_go, lbind_ret, lbind_brk, lbind_none, Option.bind_some, Option.bind_none, Bool.not_true, Bool.not_false, reduceCtorEq] at h
            simp only [vs, cwp_label, ng_normal, ng_ret, ng_exit, cr, tyf, g11, d20, w21, g23, H28, H29, q30, q31, d33, w34, e37, e38, e39, e40, e41, d42, implies_true, Nat.reduceAdd, Nat.reduceMul, Nat.reduceEqDiff, Nat.reduceLeDiff, reduceIte, reduceCtorEq]
            refine ktree (args0 := [.agg (cGLetterWord x1_b), .lit (.int .i64 c22_6)]) (by first | (simp only [nrm, tynrm]; done) | (simp only [nrm, tynrm]; rfl) | rfl) (by simp only [tre, tytre, Bool.and_self]) (g_ref01_Fallen_ok _ _ _ o44) ?_
            refine fin_cut (fun tm => tm 2 = .ptr 0 0 ∧ tm 3 = .ptr 1 0 ∧ tm 5 = .lit (.int .i64 c10_5) ∧ tm 6 = .lit (.int .i64 c22_6) ∧ tm 28 = .lit (.bool true) ∧ tm 29 = .sl (cellsL eI r35) (List.length r35) false ∧ tm 32 = .sl (cellsL eI r43) (List.length r43) false ∧ True) (by refine ⟨e37, e38, e39, e40, ?_, ?_, ?_, trivial⟩ <;> first | (simp only [upd_apply, updH_apply, without_apply, d20, w21, H28, H29, q30, q31, d33, w34, e37, e38, e39, e40, e41, d42, implies_true, Nat.reduceAdd, Nat.reduceMul, Nat.reduceEqDiff, Nat.reduceLeDiff, reduceIte, reduceCtorEq]; done) | (simp only [upd_apply, updH_apply, without_apply, d20, w21, H28, H29, q30, q31, d33, w34, e37, e38, e39, e40, e41, d42, implies_true, Nat.reduceAdd, Nat.reduceMul, Nat.reduceEqDiff, Nat.reduceLeDiff, reduceIte, reduceCtorEq]; rfl) | rfl) ?_
            rintro tm ⟨e45, e46, e47, e48, e49, e50, e51, _⟩
            cases o53 : (g_ref01_Same r35 r43) with
            | none =>
              simp only [o53, cond_true, cond_false, lbind_go, lbind_ret, lbind_brk, lbind_none, Option.bind_some, Option.bind_none, Bool.not_true, Bool.not_false, reduceCtorEq] at h
              exact absurd h kN22
            | some r52 =>
              simp only [o53, cond_true, cond_false, lbind_go, lbind_ret, lbind_brk, lbind_none, Option.bind_some, Option.bind_none, Bool.not_true, Bool.not_false, reduceCtorEq] at h
              simp only [vs, cwp_label, ng_normal, ng_ret, ng_exit, cr, tyf, g11, d20, w21, g23, H28, H29, q30, q31, d33, w34, d42, e45, e46, e47, e48, e49, e50, e51, implies_true, Nat.reduceAdd, Nat.reduceMul, Nat.reduceEqDiff, Nat.reduceLeDiff, reduceIte, reduceCtorEq]
              refine ktree (args0 := [.sl (cellsL eI r35) (List.length r35) false, .sl (cellsL eI r43) (List.length r43) false]) (by first | (simp only [nrm, tynrm]; done) | (simp only [nrm, tynrm]; rfl) | rfl) (by simp only [tre, tytre, Bool.and_self]) (g_ref01_Same_ok _ _ _ o53) ?_
              refine fin_cut (fun tm => tm 2 = .ptr 0 0 ∧ tm 3 = .ptr 1 0 ∧ tm 5 = .lit (.int .i64 c10_5) ∧ tm 6 = .lit (.int .i64 c22_6) ∧ tm 28 = .lit (.bool true) ∧ tm 33 = .lit (.bool r52) ∧ True) (by refine ⟨e45, e46, e47, e48, e49, ?_, trivial⟩ <;> first | (simp only [upd_apply, updH_apply, without_apply, d20, w21, H28, H29, q30, q31, d33, w34, d42, e45, e46, e47, e48, e49, e50, e51, implies_true, Nat.reduceAdd, Nat.reduceMul, Nat.reduceEqDiff, Nat.reduceLeDiff, reduceIte, reduceCtorEq]; done) | (simp only [upd_apply, updH_apply, without_apply, d20, w21, H28, H29, q30, q31, d33, w34, d42, e45, e46, e47, e48, e49, e50, e51, implies_true, Nat.reduceAdd, Nat.reduceMul, Nat.reduceEqDiff, Nat.reduceLeDiff, reduceIte, reduceCtorEq]; rfl) | rfl) ?_
              rintro tm ⟨e54, e55, e56, e57, e58, e59, _⟩
              cases d60 : (r52)
              · simp only [d60, cond_true, cond_false, lbind_go, lbind_ret, lbind_brk, lbind_none, Option.bind_some, Option.bind_none, Bool.not_true, Bool.not_false, reduceCtorEq] at h
                simp only [vs, cwp_label, ng_normal, ng_ret, ng_exit, cr, tyf, g11, d20, w21, g23, H28, H29, q30, q31, d33, w34, d42, e54, e55, e56, e57, e58, e59, d60, implies_true, Nat.reduceAdd, Nat.reduceMul, Nat.reduceEqDiff, Nat.reduceLeDiff, reduceIte, reduceCtorEq]
                exact ⟨p22, Nat.lt_succ_self _, by rw [hI22]; refine ⟨p22, c22_6 + 1, rfl, cnt_lo hi22, cnt_next hp22, rfl, (show 2 ≤ nx + 22 by omega), ?_, ?_, e54, e55, e56, ?_, h⟩ <;> first | (simp only [upd_apply, updH_apply, without_apply, d20, w21, H28, H29, q30, q31, d33, w34, d42, e54, e55, e56, e57, e58, e59, d60, implies_true, Nat.reduceAdd, Nat.reduceMul, Nat.reduceEqDiff, Nat.reduceLeDiff, reduceIte, reduceCtorEq]; done) | (simp only [upd_apply, updH_apply, without_apply, d20, w21, H28, H29, q30, q31, d33, w34, d42, e54, e55, e56, e57, e58, e59, d60, implies_true, Nat.reduceAdd, Nat.reduceMul, Nat.reduceEqDiff, Nat.reduceLeDiff, reduceIte, reduceCtorEq]; rfl) | rfl⟩
              · simp only [d60, cond_true, cond_false, lbind_go, lbind_ret, lbind_brk, lbind_none, Option.bind_some, Option.bind_none, Bool.not_true, Bool.not_false, reduceCtorEq] at h
                simp only [vs, cwp_label, ng_normal, ng_ret, ng_exit, cr, tyf, g11, d20, w21, g23, H28, H29, q30, q31, d33, w34, d42, e54, e55, e56, e57, e58, e59, d60, implies_true, Nat.reduceAdd, Nat.reduceMul, Nat.reduceEqDiff, Nat.reduceLeDiff, reduceIte, reduceCtorEq]
                replace h := kR22 _ h
                try dsimp only at h
                replace h := kR10 _ h
                try dsimp only at h
                obtain rfl := kF _ h
                refine ret1 Tryz.results101 ?_ ?_
                · first | (simp only [outV, upd_apply, updH_apply, without_apply, showV_ref, cr, tyf, nrm, tynrm, g11, d20, w21, g23, H28, H29, q30, q31, d33, w34, d42, e54, e55, e56, e57, e58, e59, d60, implies_true, Nat.reduceAdd, Nat.reduceMul, Nat.reduceEqDiff, Nat.reduceLeDiff, reduceIte, reduceCtorEq]; done) | (simp only [outV, upd_apply, updH_apply, without_apply, showV_ref, cr, tyf, nrm, tynrm, g11, d20, w21, g23, H28, H29, q30, q31, d33, w34, d42, e54, e55, e56, e57, e58, e59, d60, implies_true, Nat.reduceAdd, Nat.reduceMul, Nat.reduceEqDiff, Nat.reduceLeDiff, reduceIte, reduceCtorEq]; rfl)
                · simp only [tre, tytre, Bool.and_self]

end Go.V
end
section
namespace Go.V
open Go
/-! Letters that fall; words that are mistaken for each other. -/
def fallFrom (x : Int) : Int → List Int → List Int
  | _, [] => []
  | i, e :: p => if i = x then fallFrom x (i + 1) p else e :: fallFrom x (i + 1) p
theorem fallen_l0_eq (x : Int) : ∀ (p : List Int) (i : Int) (acc : List Int), acc.length + p.length ≤ 100 → g_ref01_Fallen_l0 x p i acc = some (.go (acc ++ fallFrom x i p))
  | [], _, acc, _ => by simp [g_ref01_Fallen_l0, fallFrom]
  | e :: p, i, acc, h => by
    simp only [List.length_cons] at h
    have hr : roomOk 8 (acc ++ [e]).length = true := by simp [roomOk]; omega
    have h1 := fallen_l0_eq x p (i + 1) (acc ++ [e]) (by simp; omega)
    have h2 := fallen_l0_eq x p (i + 1) acc (by omega)
    simp only [g_ref01_Fallen_l0, hr, h1, h2, cond_true, fallFrom]
    by_cases hx : i = x
    · have : (i != x) = false := by simp [hx]
      simp only [this, cond_false, if_pos hx]
    · have : (i != x) = true := by simp [hx]
      simp only [this, cond_true, if_neg hx, List.append_assoc, List.singleton_append]
theorem fallFrom_lt (x : Int) : ∀ (p : List Int) (i : Int), x < i → fallFrom x i p = p
  | [], _, _ => rfl
  | e :: p, i, h => by
    rw [fallFrom, if_neg (by omega), fallFrom_lt x p (i + 1) (by omega)]
theorem fallFrom_eq (x : Int) : ∀ (p : List Int) (i : Int) (k : Nat), x = i + k → fallFrom x i p = p.eraseIdx k
  | [], _, _, _ => rfl
  | e :: p, i, 0, h => by
    rw [fallFrom, if_pos (by omega), fallFrom_lt x p (i + 1) (by omega)]
    rfl
  | e :: p, i, k + 1, h => by
    rw [fallFrom, if_neg (by omega), fallFrom_eq x p (i + 1) k (by omega)]
    rfl
theorem fallen_eq (w : GLetterWord) (x : Int) (h : w.Signs.length ≤ 6) : g_ref01_Fallen w x = some (fallFrom x 0 w.Signs) := by
  have hl : lenOk w.Signs = true := lenOk_of (by omega)
  simp only [g_ref01_Fallen, hl, cond_true, fallen_l0_eq x w.Signs 0 [] (by simp; omega), lbind, List.nil_append]
theorem same_l0_eq (b : List Int) : ∀ (p r : List Int) (i : Int), 0 ≤ i → b.drop i.toNat = r → p.length = r.length → g_ref01_Same_l0 b p i = goB (p == r)
  | [], [], _, _, _, _ => rfl
  | [], _ :: _, _, _, _, hl => by simp at hl
  | _ :: _, [], _, _, _, hl => by simp at hl
  | e :: p, q :: r, i, h0, h, hl => by
    have := same_l0_eq b p r (i + 1) (by omega) (drop_next h0 h) (by simpa using hl)
    simp only [g_ref01_Same_l0, getI_of_drop h0 h, Option.bind_some, this, List.cons_beq_cons, goB_and, bne, cnot]
theorem same_eq (a b : List Int) (h : lenOk a = true) : g_ref01_Same a b = some (a == b) := by
  unfold g_ref01_Same
  by_cases hl : a.length = b.length
  · have : ((a.length : Int) != (b.length : Int)) = false := by simp [hl]
    simp only [this, cond_false, h, cond_true, same_l0_eq b a b 0 (by omega) rfl hl, goB_lbind]
    cases a == b <;> rfl
  · have : ((a.length : Int) != (b.length : Int)) = true := by simp; omega
    have h2 : (a == b) = false := by
      simp only [beq_eq_false_iff_ne, ne_eq]
      intro hh; exact hl (by rw [hh])
    simp only [this, cond_true, h2]
theorem equal_l0_eq (b : List Int) : ∀ (p r : List Int) (i : Int), 0 ≤ i → b.drop i.toNat = r → p.length = r.length → g_slices_Equal_int_int_l0 b p i = goB (p == r)
  | [], [], _, _, _, _ => rfl
  | [], _ :: _, _, _, _, hl => by simp at hl
  | _ :: _, [], _, _, _, hl => by simp at hl
  | e :: p, q :: r, i, h0, h, hl => by
    have := equal_l0_eq b p r (i + 1) (by omega) (drop_next h0 h) (by simpa using hl)
    simp only [g_slices_Equal_int_int_l0, getI_of_drop h0 h, Option.bind_some, this, List.cons_beq_cons, goB_and, bne, cnot]
theorem equal_eq (a b : List Int) (h : lenOk a = true) : g_slices_Equal_int_int a b = some (a == b) := by
  unfold g_slices_Equal_int_int
  by_cases hl : a.length = b.length
  · have : ((a.length : Int) != (b.length : Int)) = false := by simp [hl]
    simp only [this, cond_false, h, cond_true, equal_l0_eq b a b 0 (by omega) rfl hl, goB_lbind]
    cases a == b <;> rfl
  · have : ((a.length : Int) != (b.length : Int)) = true := by simp; omega
    have h2 : (a == b) = false := by
      simp only [beq_eq_false_iff_ne, ne_eq]
      intro hh; exact hl (by rw [hh])
    simp only [this, cond_true, h2]
/-- A loop that gives true at once, or goes through. -/
def goT (b : Bool) : Option (LOut Bool Unit) := cond b (some (.ret true)) (some (.go ()))
theorem goT_lbind {X : Type} (b : Bool) (kr : Bool → Option X) (kg : Unit → Option X) (kb : Nat → Unit → Option X) : lbind (goT b) kr kg kb = cond b (kr true) (kg ()) := by cases b <;> rfl
theorem goT_or (a b : Bool) : goT (a || b) = cond a (some (.ret true)) (goT b) := by cases a <;> rfl
theorem letmist_l1_eq (e : List Int) (he : lenOk e = true) : ∀ (p : List (List Int)) (i : Int), g_letter_mistaken_l1 e p i = goT (p.any (fun y => e == y))
  | [], _ => rfl
  | y :: p, i => by
    simp only [g_letter_mistaken_l1, equal_eq _ _ he, Option.bind_some, letmist_l1_eq e he p, List.any_cons, goT_or]
theorem letmist_l0_eq (b : List Int) (h1 : 1 ≤ b.length) (h6 : b.length ≤ 6) : ∀ (p : List (List Int)) (i : Int), (∀ e ∈ p, lenOk e = true) → g_letter_mistaken_l0 b p i = goT (p.any (fun x => (looksF b).any (fun y => x == y)))
  | [], _, _ => rfl
  | e :: p, i, h => by
    have hk : lenOk (looksF b) = true := lenOk_of (by unfold looksF; split <;> simp <;> omega)
    simp only [g_letter_mistaken_l0, g_letter_looks, if_pos (And.intro h1 h6), Option.bind_some, hk, cond_true, letmist_l1_eq e (h e (List.mem_cons_self ..)), goT_lbind, letmist_l0_eq b h1 h6 p _ (fun x hx => h x (List.mem_cons_of_mem _ hx)), List.any_cons, goT_or]
theorem looks_mem {xs e : List Int} (h1 : 1 ≤ xs.length) (h : e ∈ looksF xs) : 1 ≤ e.length ∧ e.length ≤ xs.length := by
  unfold looksF at h
  split at h
  · simp only [List.mem_singleton] at h
    subst h; omega
  · simp only [List.mem_cons, List.mem_map, List.mem_range] at h
    rcases h with h | ⟨k, hk, h⟩
    · subst h; omega
    · subst h
      rw [List.length_eraseIdx_of_lt hk]; omega
def mistB (a b : List Int) : Bool := (looksF a).any (fun x => (looksF b).any (fun y => x == y))
theorem letmist_eq (a b : List Int) (ha : 1 ≤ a.length) (ha' : a.length ≤ 6) (hb : 1 ≤ b.length) (hb' : b.length ≤ 6) : g_letter_mistaken a b = some (mistB a b) := by
  have hk : lenOk (looksF a) = true := lenOk_of (by unfold looksF; split <;> simp <;> omega)
  simp only [g_letter_mistaken, g_letter_looks, if_pos (And.intro ha ha'), Option.bind_some, hk, cond_true, letmist_l0_eq b hb hb' _ 0 (fun e he => lenOk_of (by have := looks_mem ha he; omega)), goT_lbind, mistB]
  cases List.any _ _ <;> rfl
def anyI : Nat → Int → (Int → Bool) → Bool
  | 0, _, _ => false
  | k + 1, c, f => f c || anyI k (c + 1) f
theorem anyI_range : ∀ (n : Nat) (c : Int) (f : Int → Bool), anyI n c f = (List.range n).any (fun k => f (c + k))
  | 0, _, _ => rfl
  | n + 1, c, f => by
    rw [anyI, anyI_range n (c + 1) f, List.range_succ_eq_map]
    simp only [List.any_cons, List.any_map, Int.natCast_zero, Int.add_zero]
    congr 1
    congr 1
    funext k
    show f (c + 1 + k) = f (c + ((k + 1 : Nat) : Int))
    congr 1
    omega
theorem refmist_l1_eq (a b : GLetterWord) (ha : a.Signs.length ≤ 6) (hb : b.Signs.length ≤ 6) (x : Int) : ∀ (k : Nat) (c : Int),
    g_ref01_mistaken_l1 a b x k c = goT (anyI k c (fun j => decide (0 < (fallFrom x 0 a.Signs).length) && (fallFrom x 0 a.Signs == fallFrom j 0 b.Signs)))
  | 0, _ => rfl
  | k + 1, c => by
    have hl : lenOk (fallFrom x 0 a.Signs) = true := by
      have : ∀ (p : List Int) (i : Int), (fallFrom x i p).length ≤ p.length := by
        intro p
        induction p with
        | nil => intro i; exact Nat.le_refl _
        | cons e p ih =>
          intro i
          rw [fallFrom]
          have := ih (i + 1)
          split
          · simp only [List.length_cons]; omega
          · simp only [List.length_cons]; omega
      have := this a.Signs 0
      exact lenOk_of (by omega)
    have hd : decide (((fallFrom x 0 a.Signs).length : Int) > 0) = decide (0 < (fallFrom x 0 a.Signs).length) := by
      by_cases h : 0 < (fallFrom x 0 a.Signs).length
      · have : ((fallFrom x 0 a.Signs).length : Int) > 0 := by omega
        simp only [h, this, decide_true]
      · have : ¬ ((fallFrom x 0 a.Signs).length : Int) > 0 := by omega
        simp only [h, this, decide_false]
    simp only [g_ref01_mistaken_l1, fallen_eq a x ha, fallen_eq b c hb, same_eq _ _ hl, Option.bind_some, refmist_l1_eq a b ha hb x k (c + 1), anyI, goT_or, cand, hd]
theorem refmist_l0_eq (a b : GLetterWord) (ha : a.Signs.length ≤ 6) (hb : b.Signs.length ≤ 6) : ∀ (k : Nat) (c : Int),
    g_ref01_mistaken_l0 a b k c = goT (anyI k c (fun i => anyI (b.Signs.length + 1) (-1) (fun j => decide (0 < (fallFrom i 0 a.Signs).length) && (fallFrom i 0 a.Signs == fallFrom j 0 b.Signs))))
  | 0, _ => rfl
  | k + 1, c => by
    have hk : boundOk (b.Signs.length : Int) = true := by simp [boundOk]; omega
    have hn : Int.toNat ((b.Signs.length : Int) - (-1)) = b.Signs.length + 1 := by omega
    have e : ∀ f, anyI (k + 1) c f = (f c || anyI k (c + 1) f) := fun _ => rfl
    rw [e]
    simp only [g_ref01_mistaken_l0, hk, cond_true, hn, refmist_l1_eq a b ha hb, goT_lbind, refmist_l0_eq a b ha hb k, goT_or]
theorem anyI_fall (xs : List Int) (F : List Int → Bool) : anyI (xs.length + 1) (-1) (fun i => F (fallFrom i 0 xs)) = (xs :: (List.range xs.length).map xs.eraseIdx).any F := by
  rw [anyI, anyI_range, List.any_cons, List.any_map, fallFrom_lt _ _ _ (by omega)]
  congr 1
  congr 1
  funext k
  show F _ = F _
  rw [fallFrom_eq _ xs 0 k (by omega)]
theorem looks_any (xs : List Int) (h1 : 1 ≤ xs.length) (F G : List Int → Bool) (h0 : F [] = false) (hF : ∀ e, 1 ≤ e.length → F e = G e) : (xs :: (List.range xs.length).map xs.eraseIdx).any F = (looksF xs).any G := by
  have he : (looksF xs).any G = (looksF xs).any F := by
    rw [Bool.eq_iff_iff, List.any_eq_true, List.any_eq_true]
    constructor
    · rintro ⟨e, he, h⟩; exact ⟨e, he, by rw [hF e (looks_mem h1 he).1]; exact h⟩
    · rintro ⟨e, he, h⟩; exact ⟨e, he, by rw [← hF e (looks_mem h1 he).1]; exact h⟩
  rw [he]
  unfold looksF
  split
  · rename_i h
    match xs, h with
    | [x], _ => simp [h0]
  · rfl
theorem refmist_eq (a b : GLetterWord) (ha : 1 ≤ a.Signs.length) (ha' : a.Signs.length ≤ 6) (hb : 1 ≤ b.Signs.length) (hb' : b.Signs.length ≤ 6) : g_ref01_mistaken a b = some (mistB a.Signs b.Signs) := by
  have hk : boundOk (a.Signs.length : Int) = true := by simp [boundOk]; omega
  have hn : Int.toNat ((a.Signs.length : Int) - (-1)) = a.Signs.length + 1 := by omega
  simp only [g_ref01_mistaken, hk, cond_true, hn, refmist_l0_eq a b ha' hb', goT_lbind]
  have e : anyI (a.Signs.length + 1) (-1) (fun i => anyI (b.Signs.length + 1) (-1) (fun j => decide (0 < (fallFrom i 0 a.Signs).length) && (fallFrom i 0 a.Signs == fallFrom j 0 b.Signs))) = mistB a.Signs b.Signs := by
    rw [anyI_fall a.Signs (fun x => anyI (b.Signs.length + 1) (-1) (fun j => decide (0 < x.length) && (x == fallFrom j 0 b.Signs)))]
    refine looks_any a.Signs ha _ _ ?_ ?_
    · rw [anyI_range]; simp
    · intro x hx
      show anyI (b.Signs.length + 1) (-1) _ = _
      rw [anyI_fall b.Signs (fun y => decide (0 < x.length) && (x == y))]
      have hd : decide (0 < x.length) = true := by simp; omega
      refine looks_any b.Signs hb _ _ ?_ ?_
      · simp only [hd, Bool.true_and, beq_eq_false_iff_ne, ne_eq]
        intro hh; subst hh; simp at hx
      · intro y _
        show (decide (0 < x.length) && (x == y)) = _
        rw [hd, Bool.true_and]
  rw [e]
  cases mistB a.Signs b.Signs <;> rfl
end Go.V
end
section
namespace Go.V
open Go Go.Proofs
set_option linter.unusedSimpArgs false
set_option linter.unusedVariables false
set_option maxRecDepth 4000
set_option maxHeartbeats 4000000
def g_ref01_Alike_l1 (c0_5 : Int) (e0 : GLetterWord) : List GLetterWord → Int → Option (LOut (Int × Int × Bool) (Unit))
  | [], c1_6 => some (.go ())
  | e1 :: p1, c1_6 => Option.bind (g_ref01_mistaken e0 e1) (fun r2 => cond (r2) (some (.ret (c0_5, c1_6, true))) (g_ref01_Alike_l1 c0_5 e0 p1 (c1_6 + 1)))
def g_ref01_Alike_l0 (x0_s : GLetterSheet) : List GLetterWord → Int → Option (LOut (Int × Int × Bool) (Unit))
  | [], c0_5 => some (.go ())
  | e0 :: p0, c0_5 => cond (lenOk x0_s.Words) (cond (leB 0 (IntKind.i64.wrap (c0_5 + 1))) (lbind (g_ref01_Alike_l1 c0_5 e0 (List.drop (Int.toNat (IntKind.i64.wrap (c0_5 + 1))) x0_s.Words) (IntKind.i64.wrap (c0_5 + 1))) (fun r => some (.ret r)) (fun c3 => g_ref01_Alike_l0 x0_s p0 (c0_5 + 1)) (fun _ _ => none)) none) none
def g_ref01_Alike (x0_s : GLetterSheet) : Option (Int × Int × Bool) := cond (lenOk x0_s.Words) (lbind (g_ref01_Alike_l0 x0_s x0_s.Words 0) (fun r => some r) (fun c4 => some (0, 0, false)) (fun _ _ => none)) none
theorem g_ref01_Alike_ok (x0_s : GLetterSheet) (R : Int × Int × Bool) (h : g_ref01_Alike x0_s = some R) : VPure Tryz.prog G0 51 [.agg (cGLetterSheet x0_s)] (.tree (.tup [.lit (.int .i64 R.1), .lit (.int .i64 R.2.1), .lit (.bool R.2.2)])) := by
  refine VPure.runT mixed Tryz.call51 Tryz.func51 rfl (by simp [Tryz.ntmps51]; kernel_rfl) ?_
  obtain ⟨KF, h, kF, kN⟩ := fun_intro h
  simp only [g_ref01_Alike] at h
  cases g7 : (lenOk x0_s.Words)
  · simp only [g7, cond_true, cond_false, lbind_go, lbind_ret, lbind_brk, lbind_none, Option.bind_some, Option.bind_none, Bool.not_true, Bool.not_false, reduceCtorEq] at h
    exact absurd h kN
  simp only [g7, cond_true, cond_false, lbind_go, lbind_ret, lbind_brk, lbind_none, Option.bind_some, Option.bind_none, Bool.not_true, Bool.not_false, reduceCtorEq] at h
  simp only [vs, cwp_label, ng_normal, ng_ret, ng_exit, cr, tyf, g7, implies_true, Nat.reduceAdd, Nat.reduceMul, Nat.reduceEqDiff, Nat.reduceLeDiff, reduceIte, reduceCtorEq]
  obtain ⟨K6, h, kR6, kG6, kB6, kN6⟩ := lbind_intro h kN
  obtain ⟨f6, hf6, h⟩ := call2 h
  obtain ⟨I6, hI6⟩ : ∃ I : Nat → St → Prop, I = (fun m st => ∃ (p6 : List GLetterWord) (c6_5 : Int), m = List.length p6 ∧ 0 ≤ c6_5 ∧ List.drop (Int.toNat c6_5) x0_s.Words = p6 ∧ st.df = [] ∧ 1 ≤ st.nx ∧ st.H 0 = some (.cells (some 28) (cGLetterSheet x0_s)) ∧ st.tm 1 = .ptr 0 0 ∧ st.tm 5 = .lit (.int .i64 c6_5) ∧ K6 (f6 p6 c6_5)) := ⟨_, rfl⟩
  refine loopK mixed (by kernel_rfl) I6 (List.length x0_s.Words) (by rw [hI6]; refine ⟨x0_s.Words, 0, rfl, Int.le_refl _, rfl, rfl, (show 1 ≤ 5 by decide), ?_, ?_, ?_, h⟩ <;> first | (simp only [upd_apply, updH_apply, without_apply, implies_true, Nat.reduceAdd, Nat.reduceMul, Nat.reduceEqDiff, Nat.reduceLeDiff, reduceIte, reduceCtorEq]; done) | (simp only [upd_apply, updH_apply, without_apply, implies_true, Nat.reduceAdd, Nat.reduceMul, Nat.reduceEqDiff, Nat.reduceLeDiff, reduceIte, reduceCtorEq]; rfl) | rfl) ?_
  rintro m ⟨tm, H, nx, df⟩ hinv
  rw [hI6] at hinv
  obtain ⟨p6, c6_5, rfl, hi6, hp6, hdf, hn6, H10, e8, e9, h⟩ := hinv
  simp only at hdf hn6 H10 e8 e9
  have q11 := fresh_ne (n := 0) (B := 1) (by decide) hn6
  subst hdf hf6
  cases p6 with
  | nil =>
    have d12 : (decide (c6_5 < (List.length x0_s.Words : Int))) = false := not_lt_of_drop hi6 hp6
    simp only [g_ref01_Alike_l0, cond_true, cond_false, lbind_go, lbind_ret, lbind_brk, lbind_none, Option.bind_some, Option.bind_none, Bool.not_true, Bool.not_false, reduceCtorEq] at h
    replace h := kG6 _ h
    try dsimp only at h
    try simp only [cond_true, cond_false, lbind_go, lbind_ret, lbind_brk, lbind_none, Option.bind_some, Option.bind_none, Bool.not_true, Bool.not_false] at h
    simp only [vs, cwp_label, ng_normal, ng_ret, ng_exit, cr, tyf, g7, e8, e9, H10, q11, d12, implies_true, Nat.reduceAdd, Nat.reduceMul, Nat.reduceEqDiff, Nat.reduceLeDiff, reduceIte, reduceCtorEq]
    obtain rfl := kF _ h
    refine ret3 Tryz.results51 ?_ ?_
    · first | (simp only [outV, upd_apply, updH_apply, without_apply, showV_ref, cr, tyf, nrm, tynrm, g7, e8, e9, H10, q11, d12, implies_true, Nat.reduceAdd, Nat.reduceMul, Nat.reduceEqDiff, Nat.reduceLeDiff, reduceIte, reduceCtorEq]; done) | (simp only [outV, upd_apply, updH_apply, without_apply, showV_ref, cr, tyf, nrm, tynrm, g7, e8, e9, H10, q11, d12, implies_true, Nat.reduceAdd, Nat.reduceMul, Nat.reduceEqDiff, Nat.reduceLeDiff, reduceIte, reduceCtorEq]; rfl)
    · simp only [tre, tytre, Bool.and_self]
  | cons e6 p6 =>
    have d13 : (decide (c6_5 < (List.length x0_s.Words : Int))) = true := lt_of_drop hi6 hp6
    have o15 := getI_of_drop hi6 hp6
    have w14 := wrap_next hi6 hp6 g7
    simp only [g_ref01_Alike_l0, cond_true, cond_false, lbind_go, lbind_ret, lbind_brk, lbind_none, Option.bind_some, Option.bind_none, Bool.not_true, Bool.not_false, reduceCtorEq] at h
    cases g17 : (lenOk x0_s.Words)
    · simp only [g17, cond_true, cond_false, lbind_go, lbind_ret, lbind_brk, lbind_none, Option.bind_some, Option.bind_none, Bool.not_true, Bool.not_false, reduceCtorEq] at h
      exact absurd h kN6
    simp only [g17, cond_true, cond_false, lbind_go, lbind_ret, lbind_brk, lbind_none, Option.bind_some, Option.bind_none, Bool.not_true, Bool.not_false, reduceCtorEq] at h
    cases g18 : (leB 0 (IntKind.i64.wrap (c6_5 + 1)))
    · simp only [g18, cond_true, cond_false, lbind_go, lbind_ret, lbind_brk, lbind_none, Option.bind_some, Option.bind_none, Bool.not_true, Bool.not_false, reduceCtorEq] at h
      exact absurd h kN6
    simp only [g18, cond_true, cond_false, lbind_go, lbind_ret, lbind_brk, lbind_none, Option.bind_some, Option.bind_none, Bool.not_true, Bool.not_false, reduceCtorEq] at h
    simp only [vs, cwp_label, ng_normal, ng_ret, ng_exit, cr, tyf, g7, e8, e9, H10, q11, d13, (ix26 o15), w14, g17, g18, implies_true, Nat.reduceAdd, Nat.reduceMul, Nat.reduceEqDiff, Nat.reduceLeDiff, reduceIte, reduceCtorEq]
    obtain ⟨K16, h, kR16, kG16, kB16, kN16⟩ := lbind_intro h kN6
    obtain ⟨f16, hf16, h⟩ := call2 h
    obtain ⟨I16, hI16⟩ : ∃ I : Nat → St → Prop, I = (fun m st => ∃ (p16 : List GLetterWord) (c16_6 : Int), m = List.length p16 ∧ 0 ≤ c16_6 ∧ List.drop (Int.toNat c16_6) x0_s.Words = p16 ∧ st.df = [] ∧ 1 ≤ st.nx ∧ st.H 0 = some (.cells (some 28) (cGLetterSheet x0_s)) ∧ st.tm 1 = .ptr 0 0 ∧ st.tm 5 = .lit (.int .i64 c6_5) ∧ st.tm 6 = .lit (.int .i64 c16_6) ∧ K16 (f16 p16 c16_6)) := ⟨_, rfl⟩
    refine loopK mixed (by kernel_rfl) I16 (List.length (List.drop (Int.toNat (IntKind.i64.wrap (c6_5 + 1))) x0_s.Words)) (by rw [hI16]; refine ⟨List.drop (Int.toNat (IntKind.i64.wrap (c6_5 + 1))) x0_s.Words, IntKind.i64.wrap (c6_5 + 1), rfl, of_decide_eq_true g18, rfl, rfl, (show 1 ≤ nx + 8 by omega), ?_, e8, e9, ?_, h⟩ <;> first | (simp only [upd_apply, updH_apply, without_apply, e8, e9, H10, q11, d13, w14, implies_true, Nat.reduceAdd, Nat.reduceMul, Nat.reduceEqDiff, Nat.reduceLeDiff, reduceIte, reduceCtorEq]; done) | (simp only [upd_apply, updH_apply, without_apply, e8, e9, H10, q11, d13, w14, implies_true, Nat.reduceAdd, Nat.reduceMul, Nat.reduceEqDiff, Nat.reduceLeDiff, reduceIte, reduceCtorEq]; rfl) | rfl) ?_
    rintro m ⟨tm, H, nx, df⟩ hinv
    rw [hI16] at hinv
    obtain ⟨p16, c16_6, rfl, hi16, hp16, hdf, hn16, H22, e19, e20, e21, h⟩ := hinv
    simp only at hdf hn16 H22 e19 e20 e21
    have q23 := fresh_ne (n := 0) (B := 1) (by decide) hn16
    subst hdf hf16
    cases p16 with
    | nil =>
      have d24 : (decide (c16_6 < (List.length x0_s.Words : Int))) = false := not_lt_of_drop hi16 hp16
      simp only [g_ref01_Alike_l1, cond_true, cond_false, lbind_go, lbind_ret, lbind_brk, lbind_none, Option.bind_some, Option.bind_none, Bool.not_true, Bool.not_false, reduceCtorEq] at h
      replace h := kG16 _ h
      try dsimp only at h
      try simp only [cond_true, cond_false, lbind_go, lbind_ret, lbind_brk, lbind_none, Option.bind_some, Option.bind_none, Bool.not_true, Bool.not_false] at h
      simp only [vs, cwp_label, ng_normal, ng_ret, ng_exit, cr, tyf, g7, d13, (ix26 o15), w14, g17, g18, e19, e20, e21, H22, q23, d24, implies_true, Nat.reduceAdd, Nat.reduceMul, Nat.reduceEqDiff, Nat.reduceLeDiff, reduceIte, reduceCtorEq]
      exact ⟨List.length p6, Nat.lt_succ_self _, by rw [hI6]; refine ⟨p6, c6_5 + 1, rfl, Int.le_trans hi6 (Int.le_add_one (Int.le_refl _)), drop_next hi6 hp6, rfl, (show 1 ≤ nx + 8 by omega), ?_, e19, ?_, h⟩ <;> first | (simp only [upd_apply, updH_apply, without_apply, d13, w14, e19, e20, e21, H22, q23, d24, implies_true, Nat.reduceAdd, Nat.reduceMul, Nat.reduceEqDiff, Nat.reduceLeDiff, reduceIte, reduceCtorEq]; done) | (simp only [upd_apply, updH_apply, without_apply, d13, w14, e19, e20, e21, H22, q23, d24, implies_true, Nat.reduceAdd, Nat.reduceMul, Nat.reduceEqDiff, Nat.reduceLeDiff, reduceIte, reduceCtorEq]; rfl) | rfl⟩
    | cons e16 p16 =>
      have d25 : (decide (c16_6 < (List.length x0_s.Words : Int))) = true := lt_of_drop hi16 hp16
      have o27 := getI_of_drop hi16 hp16
      have w26 := wrap_next hi16 hp16 g17
      simp only [g_ref01_Alike_l1, cond_true, cond_false, lbind_go, lbind_ret, lbind_brk, lbind_none, Option.bind_some, Option.bind_none, Bool.not_true, Bool.not_false, reduceCtorEq] at h
      simp only [vs, cwp_label, ng_normal, ng_ret, ng_exit, cr, tyf, g7, d13, (ix26 o15), w14, g17, g18, e19, e20, e21, H22, q23, d25, (ix26 o27), w26, implies_true, Nat.reduceAdd, Nat.reduceMul, Nat.reduceEqDiff, Nat.reduceLeDiff, reduceIte, reduceCtorEq]
      refine cwp_drwQF (fun tm => tm 1 = .ptr 0 0 ∧ tm 5 = .lit (.int .i64 c6_5) ∧ tm 6 = .lit (.int .i64 c16_6) ∧ True) (by refine ⟨e19, e20, e21, trivial⟩ <;> first | (simp only [upd_apply, updH_apply, without_apply, d13, w14, e19, e20, e21, H22, q23, d25, w26, implies_true, Nat.reduceAdd, Nat.reduceMul, Nat.reduceEqDiff, Nat.reduceLeDiff, reduceIte, reduceCtorEq]; done) | (simp only [upd_apply, updH_apply, without_apply, d13, w14, e19, e20, e21, H22, q23, d25, w26, implies_true, Nat.reduceAdd, Nat.reduceMul, Nat.reduceEqDiff, Nat.reduceLeDiff, reduceIte, reduceCtorEq]; rfl) | rfl) ?_
      rintro tm ⟨e28, e29, e30, _⟩
      cases o32 : (g_ref01_mistaken e6 e16) with
      | none =>
        simp only [o32, cond_true, cond_false, lbind_go, lbind_ret, lbind_brk, lbind_none, Option.bind_some, Option.bind_none, Bool.not_true, Bool.not_false, reduceCtorEq] at h
        exact absurd h kN16
      | some r31 =>
        simp only [o32, cond_true, cond_false, lbind_go, lbind_ret, lbind_brk, lbind_none, Option.bind_some, Option.bind_none, Bool.not_true, Bool.not_false, reduceCtorEq] at h
        simp only [vs, cwp_label, ng_normal, ng_ret, ng_exit, cr, tyf, g7, d13, (ix26 o15), w14, g17, g18, H22, q23, d25, (ix26 o27), w26, e28, e29, e30, implies_true, Nat.reduceAdd, Nat.reduceMul, Nat.reduceEqDiff, Nat.reduceLeDiff, reduceIte, reduceCtorEq]
        refine dktree (args0 := [.agg (cGLetterWord e6), .agg (cGLetterWord e16)]) (by first | (simp only [nrm, tynrm]; done) | (simp only [nrm, tynrm]; rfl) | rfl) (by simp only [tre, tytre, Bool.and_self]) (g_ref01_mistaken_ok _ _ _ o32) ?_
        refine fin_cut (fun tm => tm 1 = .ptr 0 0 ∧ tm 5 = .lit (.int .i64 c6_5) ∧ tm 6 = .lit (.int .i64 c16_6) ∧ tm 33 = .lit (.bool r31) ∧ True) (by refine ⟨e28, e29, e30, ?_, trivial⟩ <;> first | (simp only [upd_apply, updH_apply, without_apply, d13, w14, H22, q23, d25, w26, e28, e29, e30, implies_true, Nat.reduceAdd, Nat.reduceMul, Nat.reduceEqDiff, Nat.reduceLeDiff, reduceIte, reduceCtorEq]; done) | (simp only [upd_apply, updH_apply, without_apply, d13, w14, H22, q23, d25, w26, e28, e29, e30, implies_true, Nat.reduceAdd, Nat.reduceMul, Nat.reduceEqDiff, Nat.reduceLeDiff, reduceIte, reduceCtorEq]; rfl) | rfl) ?_
        rintro tm ⟨e33, e34, e35, e36, _⟩
        cases d37 : (r31)
        · simp only [d37, cond_true, cond_false, lbind_go, lbind_ret, lbind_brk, lbind_none, Option.bind_some, Option.bind_none, Bool.not_true, Bool.not_false, reduceCtorEq] at h
          simp only [vs, cwp_label, ng_normal, ng_ret, ng_exit, cr, tyf, g7, d13, (ix26 o15), w14, g17, g18, H22, q23, d25, (ix26 o27), w26, e33, e34, e35, e36, d37, implies_true, Nat.reduceAdd, Nat.reduceMul, Nat.reduceEqDiff, Nat.reduceLeDiff, reduceIte, reduceCtorEq]
          exact ⟨List.length p16, Nat.lt_succ_self _, by rw [hI16]; refine ⟨p16, c16_6 + 1, rfl, Int.le_trans hi16 (Int.le_add_one (Int.le_refl _)), drop_next hi16 hp16, rfl, (show 1 ≤ nx + 19 by omega), ?_, e33, e34, ?_, h⟩ <;> first | (simp only [upd_apply, updH_apply, without_apply, d13, w14, H22, q23, d25, w26, e33, e34, e35, e36, d37, implies_true, Nat.reduceAdd, Nat.reduceMul, Nat.reduceEqDiff, Nat.reduceLeDiff, reduceIte, reduceCtorEq]; done) | (simp only [upd_apply, updH_apply, without_apply, d13, w14, H22, q23, d25, w26, e33, e34, e35, e36, d37, implies_true, Nat.reduceAdd, Nat.reduceMul, Nat.reduceEqDiff, Nat.reduceLeDiff, reduceIte, reduceCtorEq]; rfl) | rfl⟩
        · simp only [d37, cond_true, cond_false, lbind_go, lbind_ret, lbind_brk, lbind_none, Option.bind_some, Option.bind_none, Bool.not_true, Bool.not_false, reduceCtorEq] at h
          simp only [vs, cwp_label, ng_normal, ng_ret, ng_exit, cr, tyf, g7, d13, (ix26 o15), w14, g17, g18, H22, q23, d25, (ix26 o27), w26, e33, e34, e35, e36, d37, implies_true, Nat.reduceAdd, Nat.reduceMul, Nat.reduceEqDiff, Nat.reduceLeDiff, reduceIte, reduceCtorEq]
          replace h := kR16 _ h
          try dsimp only at h
          replace h := kR6 _ h
          try dsimp only at h
          obtain rfl := kF _ h
          refine ret3 Tryz.results51 ?_ ?_
          · first | (simp only [outV, upd_apply, updH_apply, without_apply, showV_ref, cr, tyf, nrm, tynrm, g7, d13, (ix26 o15), w14, g17, g18, H22, q23, d25, (ix26 o27), w26, e33, e34, e35, e36, d37, implies_true, Nat.reduceAdd, Nat.reduceMul, Nat.reduceEqDiff, Nat.reduceLeDiff, reduceIte, reduceCtorEq]; done) | (simp only [outV, upd_apply, updH_apply, without_apply, showV_ref, cr, tyf, nrm, tynrm, g7, d13, (ix26 o15), w14, g17, g18, H22, q23, d25, (ix26 o27), w26, e33, e34, e35, e36, d37, implies_true, Nat.reduceAdd, Nat.reduceMul, Nat.reduceEqDiff, Nat.reduceLeDiff, reduceIte, reduceCtorEq]; rfl)
          · simp only [tre, tytre, Bool.and_self]

end Go.V
end
