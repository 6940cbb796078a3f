/- Part of the proof of a statement of YtgjcaeapffpamaaGreatDoor: a logic of values by content, the lifted functions, and what follows. -/
import Derived.Test.YtgjcaeapffpamaaGreatDoorMbf
import Derived.Test.YtgjcaeapffpamaaGreatDoorMbl
import Derived.Test.YtgjcaeapffpamaaGreatDoorMbi
import Derived.Test.YtgjcaeapffpamaaGreatDoorMaz
import Derived.Test.YtgjcaeapffpamaaGreatDoorProg
import Derived.Test.YtgjcaeapffpamaaGreatDoorMbm
set_option linter.unusedVariables false
set_option linter.unusedSimpArgs false
set_option linter.unusedSectionVars false
set_option linter.constructorNameAsVariable false
section
namespace Go.V
open Go Go.Proofs
set_option linter.unusedSimpArgs false
set_option linter.unusedVariables false
set_option maxRecDepth 4000
set_option maxHeartbeats 4000000
def g_letter_Alike_l1 (c0_16 : Int) (e0 : GLetterWord) : List GLetterWord → Int → Int → Int → Int → Option (LOut (Int × Int × Int) (Int × Int × Int))
  | [], c1_9, c1_5, c1_6, c1_7 => some (.go (c1_5, c1_6, c1_7))
  | e1 :: p1, c1_9, c1_5, c1_6, c1_7 => Option.bind (g_letter_mistaken e0.Signs e1.Signs) (fun r3 => cond (r3) (some (.brk 0 (c0_16, c1_9, 0))) (g_letter_Alike_l1 c0_16 e0 p1 (c1_9 + 1) c1_5 c1_6 c1_7))
def g_letter_Alike_l0 (x0_s : GLetterSheet) : List GLetterWord → Int → Int → Int → Int → Option (LOut (Int × Int × Int) (Int × Int × Int))
  | [], c0_16, c0_5, c0_6, c0_7 => some (.go (c0_5, c0_6, c0_7))
  | e0 :: p0, c0_16, c0_5, c0_6, c0_7 => cond (lenOk x0_s.Words) (cond (leB 0 (IntKind.i64.wrap (c0_16 + 1))) (lbind (g_letter_Alike_l1 c0_16 e0 (List.drop (Int.toNat (IntKind.i64.wrap (c0_16 + 1))) x0_s.Words) (IntKind.i64.wrap (c0_16 + 1)) c0_5 c0_6 c0_7) (fun r => some (.ret r)) (fun c4 => g_letter_Alike_l0 x0_s p0 (c0_16 + 1) c4.1 c4.2.1 c4.2.2) (fun _ c5 => some (.go (c5.1, c5.2.1, c5.2.2)))) none) none
def g_letter_Alike (x0_s : GLetterSheet) : Option (Int × Int × Int) := Option.bind (g_letter_isSheet x0_s) (fun r2 => cond (r2) (cond (lenOk x0_s.Words) (lbind (g_letter_Alike_l0 x0_s x0_s.Words 0 0 0 5) (fun r => some r) (fun c6 => some (c6.1, c6.2.1, c6.2.2)) (fun _ _ => none)) none) (some (0, 0, 2)))
theorem g_letter_Alike_ok (x0_s : GLetterSheet) (R : Int × Int × Int) (h : g_letter_Alike x0_s = some R) : VPure Tryz.prog G0 50 [.agg (cGLetterSheet x0_s)] (.tree (.tup [.lit (.int .i64 R.1), .lit (.int .i64 R.2.1), .lit (.int .i64 R.2.2)])) := by
  refine VPure.runT mixed Tryz.call50 Tryz.func50 rfl (by simp [Tryz.ntmps50]; kernel_rfl) ?_
  obtain ⟨KF, h, kF, kN⟩ := fun_intro h
  simp only [g_letter_Alike] at h
  simp only [vs, cwp_label, ng_normal, ng_ret, ng_exit, cr, tyf, implies_true, Nat.reduceAdd, Nat.reduceMul, Nat.reduceEqDiff, Nat.reduceLeDiff, reduceIte, reduceCtorEq]
  refine cwp_scope mixed (by kernel_rfl) ?_
  cases o9 : (g_letter_isSheet x0_s) with
  | none =>
    simp only [o9, cond_true, cond_false, lbind_go, lbind_ret, lbind_brk, lbind_none, Option.bind_some, Option.bind_none, Bool.not_true, Bool.not_false, reduceCtorEq] at h
    exact absurd h kN
  | some r8 =>
    simp only [o9, cond_true, cond_false, lbind_go, lbind_ret, lbind_brk, lbind_none, Option.bind_some, Option.bind_none, Bool.not_true, Bool.not_false, reduceCtorEq] at h
    simp only [vs, cwp_label, ng_normal, ng_ret, ng_exit, cr, tyf, implies_true, Nat.reduceAdd, Nat.reduceMul, Nat.reduceEqDiff, Nat.reduceLeDiff, reduceIte, reduceCtorEq]
    refine ktree (args0 := [.agg (cGLetterSheet x0_s)]) (by first | (simp only [nrm, tynrm]; done) | (simp only [nrm, tynrm]; rfl) | rfl) (by simp only [tre, tytre, Bool.and_self]) (g_letter_isSheet_ok _ _ o9) ?_
    refine fin_cut (fun tm => tm 1 = .ptr 0 0 ∧ tm 11 = .lit (.bool r8) ∧ True) (by refine ⟨?_, ?_, trivial⟩ <;> first | (simp only [upd_apply, updH_apply, without_apply, implies_true, Nat.reduceAdd, Nat.reduceMul, Nat.reduceEqDiff, Nat.reduceLeDiff, reduceIte, reduceCtorEq]; done) | (simp only [upd_apply, updH_apply, without_apply, implies_true, Nat.reduceAdd, Nat.reduceMul, Nat.reduceEqDiff, Nat.reduceLeDiff, reduceIte, reduceCtorEq]; rfl) | rfl) ?_
    rintro tm ⟨e10, e11, _⟩
    cases d12 : (r8)
    · simp only [d12, cond_true, cond_false, lbind_go, lbind_ret, lbind_brk, lbind_none, Option.bind_some, Option.bind_none, Bool.not_true, Bool.not_false, reduceCtorEq] at h
      simp only [vs, cwp_label, ng_normal, ng_ret, ng_exit, cr, tyf, e10, e11, d12, implies_true, Nat.reduceAdd, Nat.reduceMul, Nat.reduceEqDiff, Nat.reduceLeDiff, reduceIte, reduceCtorEq]
      obtain rfl := kF _ h
      refine ret3 Tryz.results50 ?_ ?_
      · first | (simp only [outV, upd_apply, updH_apply, without_apply, showV_ref, cr, tyf, nrm, tynrm, e10, e11, d12, implies_true, Nat.reduceAdd, Nat.reduceMul, Nat.reduceEqDiff, Nat.reduceLeDiff, reduceIte, reduceCtorEq]; done) | (simp only [outV, upd_apply, updH_apply, without_apply, showV_ref, cr, tyf, nrm, tynrm, e10, e11, d12, implies_true, Nat.reduceAdd, Nat.reduceMul, Nat.reduceEqDiff, Nat.reduceLeDiff, reduceIte, reduceCtorEq]; rfl)
      · simp only [tre, tytre, Bool.and_self]
    · simp only [d12, cond_true, cond_false, lbind_go, lbind_ret, lbind_brk, lbind_none, Option.bind_some, Option.bind_none, Bool.not_true, Bool.not_false, reduceCtorEq] at h
      cases g14 : (lenOk x0_s.Words)
      · simp only [g14, cond_true, cond_false, lbind_go, lbind_ret, lbind_brk, lbind_none, Option.bind_some, Option.bind_none, Bool.not_true, Bool.not_false, reduceCtorEq] at h
        exact absurd h kN
      simp only [g14, cond_true, cond_false, lbind_go, lbind_ret, lbind_brk, lbind_none, Option.bind_some, Option.bind_none, Bool.not_true, Bool.not_false, reduceCtorEq] at h
      simp only [vs, cwp_label, ng_normal, ng_ret, ng_exit, cr, tyf, e10, e11, d12, g14, implies_true, Nat.reduceAdd, Nat.reduceMul, Nat.reduceEqDiff, Nat.reduceLeDiff, reduceIte, reduceCtorEq]
      obtain ⟨K13, h, kR13, kG13, kB13, kN13⟩ := lbind_intro h kN
      obtain ⟨f13, hf13, h⟩ := call5 h
      obtain ⟨I13, hI13⟩ : ∃ I : Nat → St → Prop, I = (fun m st => ∃ (p13 : List GLetterWord) (c13_16 : Int) (c13_5 : Int) (c13_6 : Int) (c13_7 : Int), m = List.length p13 ∧ 0 ≤ c13_16 ∧ List.drop (Int.toNat c13_16) x0_s.Words = p13 ∧ st.df = [] ∧ 1 ≤ st.nx ∧ st.H 0 = some (.cells (some 28) (cGLetterSheet x0_s)) ∧ st.tm 1 = .ptr 0 0 ∧ st.tm 15 = .lit (.int .i64 (List.length x0_s.Words : Int)) ∧ st.tm 5 = .lit (.int .i64 c13_5) ∧ st.tm 6 = .lit (.int .i64 c13_6) ∧ st.tm 7 = .lit (.int .i64 c13_7) ∧ st.tm 16 = .lit (.int .i64 c13_16) ∧ K13 (f13 p13 c13_16 c13_5 c13_6 c13_7)) := ⟨_, rfl⟩
      refine loopK mixed (by kernel_rfl) I13 (List.length x0_s.Words) (by rw [hI13]; refine ⟨x0_s.Words, 0, 0, 0, 5, rfl, Int.le_refl _, rfl, rfl, (show 1 ≤ 14 by decide), ?_, e10, ?_, ?_, ?_, ?_, ?_, h⟩ <;> first | (simp only [upd_apply, updH_apply, without_apply, e10, e11, d12, implies_true, Nat.reduceAdd, Nat.reduceMul, Nat.reduceEqDiff, Nat.reduceLeDiff, reduceIte, reduceCtorEq]; done) | (simp only [upd_apply, updH_apply, without_apply, e10, e11, d12, implies_true, Nat.reduceAdd, Nat.reduceMul, Nat.reduceEqDiff, Nat.reduceLeDiff, reduceIte, reduceCtorEq]; rfl) | rfl) ?_
      rintro m ⟨tm, H, nx, df⟩ hinv
      rw [hI13] at hinv
      obtain ⟨p13, c13_16, c13_5, c13_6, c13_7, rfl, hi13, hp13, hdf, hn13, H21, e15, e16, e17, e18, e19, e20, h⟩ := hinv
      simp only at hdf hn13 H21 e15 e16 e17 e18 e19 e20
      have q22 := fresh_ne (n := 0) (B := 1) (by decide) hn13
      subst hdf hf13
      cases p13 with
      | nil =>
        have d23 : (decide (c13_16 < (List.length x0_s.Words : Int))) = false := not_lt_of_drop hi13 hp13
        simp only [g_letter_Alike_l0, cond_true, cond_false, lbind_go, lbind_ret, lbind_brk, lbind_none, Option.bind_some, Option.bind_none, Bool.not_true, Bool.not_false, reduceCtorEq] at h
        replace h := kG13 _ h
        try dsimp only at h
        try simp only [cond_true, cond_false, lbind_go, lbind_ret, lbind_brk, lbind_none, Option.bind_some, Option.bind_none, Bool.not_true, Bool.not_false] at h
        simp only [vs, cwp_label, ng_normal, ng_ret, ng_exit, cr, tyf, d12, g14, e15, e16, e17, e18, e19, e20, H21, q22, d23, implies_true, Nat.reduceAdd, Nat.reduceMul, Nat.reduceEqDiff, Nat.reduceLeDiff, reduceIte, reduceCtorEq]
        obtain rfl := kF _ h
        refine ret3 Tryz.results50 ?_ ?_
        · first | (simp only [outV, upd_apply, updH_apply, without_apply, showV_ref, cr, tyf, nrm, tynrm, d12, g14, e15, e16, e17, e18, e19, e20, H21, q22, d23, implies_true, Nat.reduceAdd, Nat.reduceMul, Nat.reduceEqDiff, Nat.reduceLeDiff, reduceIte, reduceCtorEq]; done) | (simp only [outV, upd_apply, updH_apply, without_apply, showV_ref, cr, tyf, nrm, tynrm, d12, g14, e15, e16, e17, e18, e19, e20, H21, q22, d23, implies_true, Nat.reduceAdd, Nat.reduceMul, Nat.reduceEqDiff, Nat.reduceLeDiff, reduceIte, reduceCtorEq]; rfl)
        · simp only [tre, tytre, Bool.and_self]
      | cons e13 p13 =>
        have d24 : (decide (c13_16 < (List.length x0_s.Words : Int))) = true := lt_of_drop hi13 hp13
        have o26 := getI_of_drop hi13 hp13
        have w25 := wrap_next hi13 hp13 g14
        simp only [g_letter_Alike_l0, cond_true, cond_false, lbind_go, lbind_ret, lbind_brk, lbind_none, Option.bind_some, Option.bind_none, Bool.not_true, Bool.not_false, reduceCtorEq] at h
        cases g28 : (lenOk x0_s.Words)
        · simp only [g28, cond_true, cond_false, lbind_go, lbind_ret, lbind_brk, lbind_none, Option.bind_some, Option.bind_none, Bool.not_true, Bool.not_false, reduceCtorEq] at h
          exact absurd h kN13
        simp only [g28, cond_true, cond_false, lbind_go, lbind_ret, lbind_brk, lbind_none, Option.bind_some, Option.bind_none, Bool.not_true, Bool.not_false, reduceCtorEq] at h
        cases g29 : (leB 0 (IntKind.i64.wrap (c13_16 + 1)))
        · simp only [g29, cond_true, cond_false, lbind_go, lbind_ret, lbind_brk, lbind_none, Option.bind_some, Option.bind_none, Bool.not_true, Bool.not_false, reduceCtorEq] at h
          exact absurd h kN13
        simp only [g29, cond_true, cond_false, lbind_go, lbind_ret, lbind_brk, lbind_none, Option.bind_some, Option.bind_none, Bool.not_true, Bool.not_false, reduceCtorEq] at h
        simp only [vs, cwp_label, ng_normal, ng_ret, ng_exit, cr, tyf, d12, g14, e15, e16, e17, e18, e19, e20, H21, q22, d24, (ix26 o26), w25, g28, g29, implies_true, Nat.reduceAdd, Nat.reduceMul, Nat.reduceEqDiff, Nat.reduceLeDiff, reduceIte, reduceCtorEq]
        obtain ⟨K27, h, kR27, kG27, kB27, kN27⟩ := lbind_intro h kN13
        obtain ⟨f27, hf27, h⟩ := call5 h
        obtain ⟨I27, hI27⟩ : ∃ I : Nat → St → Prop, I = (fun m st => ∃ (p27 : List GLetterWord) (c27_9 : Int) (c27_5 : Int) (c27_6 : Int) (c27_7 : Int), m = List.length p27 ∧ 0 ≤ c27_9 ∧ List.drop (Int.toNat c27_9) x0_s.Words = p27 ∧ st.df = [] ∧ 1 ≤ st.nx ∧ st.H 0 = some (.cells (some 28) (cGLetterSheet x0_s)) ∧ st.tm 1 = .ptr 0 0 ∧ st.tm 8 = .lit (.int .i64 c13_16) ∧ st.tm 15 = .lit (.int .i64 (List.length x0_s.Words : Int)) ∧ st.tm 16 = .lit (.int .i64 c13_16) ∧ st.tm 5 = .lit (.int .i64 c27_5) ∧ st.tm 6 = .lit (.int .i64 c27_6) ∧ st.tm 7 = .lit (.int .i64 c27_7) ∧ st.tm 9 = .lit (.int .i64 c27_9) ∧ K27 (f27 p27 c27_9 c27_5 c27_6 c27_7)) := ⟨_, rfl⟩
        refine loopK mixed (by kernel_rfl) I27 (List.length (List.drop (Int.toNat (IntKind.i64.wrap (c13_16 + 1))) x0_s.Words)) (by rw [hI27]; refine ⟨List.drop (Int.toNat (IntKind.i64.wrap (c13_16 + 1))) x0_s.Words, IntKind.i64.wrap (c13_16 + 1), c13_5, c13_6, c13_7, rfl, of_decide_eq_true g29, rfl, rfl, (show 1 ≤ nx + 6 by omega), ?_, e15, ?_, e16, e20, e17, e18, e19, ?_, h⟩ <;> first | (simp only [upd_apply, updH_apply, without_apply, d12, e15, e16, e17, e18, e19, e20, H21, q22, d24, w25, implies_true, Nat.reduceAdd, Nat.reduceMul, Nat.reduceEqDiff, Nat.reduceLeDiff, reduceIte, reduceCtorEq]; done) | (simp only [upd_apply, updH_apply, without_apply, d12, e15, e16, e17, e18, e19, e20, H21, q22, d24, w25, implies_true, Nat.reduceAdd, Nat.reduceMul, Nat.reduceEqDiff, Nat.reduceLeDiff, reduceIte, reduceCtorEq]; rfl) | rfl) ?_
        rintro m ⟨tm, H, nx, df⟩ hinv
        rw [hI27] at hinv
        obtain ⟨p27, c27_9, c27_5, c27_6, c27_7, rfl, hi27, hp27, hdf, hn27, H38, e30, e31, e32, e33, e34, e35, e36, e37, h⟩ := hinv
        simp only at hdf hn27 H38 e30 e31 e32 e33 e34 e35 e36 e37
        have q39 := fresh_ne (n := 0) (B := 1) (by decide) hn27
        subst hdf hf27
        cases p27 with
        | nil =>
          have d40 : (decide (c27_9 < (List.length x0_s.Words : Int))) = false := not_lt_of_drop hi27 hp27
          simp only [g_letter_Alike_l1, cond_true, cond_false, lbind_go, lbind_ret, lbind_brk, lbind_none, Option.bind_some, Option.bind_none, Bool.not_true, Bool.not_false, reduceCtorEq] at h
          replace h := kG27 _ h
          try dsimp only at h
          try simp only [cond_true, cond_false, lbind_go, lbind_ret, lbind_brk, lbind_none, Option.bind_some, Option.bind_none, Bool.not_true, Bool.not_false] at h
          simp only [vs, cwp_label, ng_normal, ng_ret, ng_exit, cr, tyf, d12, g14, d24, (ix26 o26), w25, g28, g29, e30, e31, e32, e33, e34, e35, e36, e37, H38, q39, d40, implies_true, Nat.reduceAdd, Nat.reduceMul, Nat.reduceEqDiff, Nat.reduceLeDiff, reduceIte, reduceCtorEq]
          exact ⟨List.length p13, Nat.lt_succ_self _, by rw [hI13]; refine ⟨p13, c13_16 + 1, c27_5, c27_6, c27_7, rfl, Int.le_trans hi13 (Int.le_add_one (Int.le_refl _)), drop_next hi13 hp13, rfl, (show 1 ≤ nx + 7 by omega), ?_, e30, e32, e34, e35, e36, ?_, h⟩ <;> first | (simp only [upd_apply, updH_apply, without_apply, d12, d24, w25, e30, e31, e32, e33, e34, e35, e36, e37, H38, q39, d40, implies_true, Nat.reduceAdd, Nat.reduceMul, Nat.reduceEqDiff, Nat.reduceLeDiff, reduceIte, reduceCtorEq]; done) | (simp only [upd_apply, updH_apply, without_apply, d12, d24, w25, e30, e31, e32, e33, e34, e35, e36, e37, H38, q39, d40, implies_true, Nat.reduceAdd, Nat.reduceMul, Nat.reduceEqDiff, Nat.reduceLeDiff, reduceIte, reduceCtorEq]; rfl) | rfl⟩
        | cons e27 p27 =>
          have d41 : (decide (c27_9 < (List.length x0_s.Words : Int))) = true := lt_of_drop hi27 hp27
          have o43 := getI_of_drop hi27 hp27
          have w42 := wrap_next hi27 hp27 g28
          simp only [g_letter_Alike_l1, cond_true, cond_false, lbind_go, lbind_ret, lbind_brk, lbind_none, Option.bind_some, Option.bind_none, Bool.not_true, Bool.not_false, reduceCtorEq] at h
          simp only [vs, cwp_label, ng_normal, ng_ret, ng_exit, cr, tyf, d12, g14, d24, (ix26 o26), w25, g28, g29, e30, e31, e32, e33, e34, e35, e36, e37, H38, q39, d41, (ix26 o43), w42, implies_true, Nat.reduceAdd, Nat.reduceMul, Nat.reduceEqDiff, Nat.reduceLeDiff, reduceIte, reduceCtorEq]
          refine cwp_drwQF (fun tm => tm 1 = .ptr 0 0 ∧ tm 5 = .lit (.int .i64 c27_5) ∧ tm 6 = .lit (.int .i64 c27_6) ∧ tm 7 = .lit (.int .i64 c27_7) ∧ tm 8 = .lit (.int .i64 c13_16) ∧ tm 9 = .lit (.int .i64 c27_9) ∧ tm 15 = .lit (.int .i64 (List.length x0_s.Words : Int)) ∧ tm 16 = .lit (.int .i64 c13_16) ∧ True) (by refine ⟨e30, e34, e35, e36, e31, e37, e32, e33, trivial⟩ <;> first | (simp only [upd_apply, updH_apply, without_apply, d12, d24, w25, e30, e31, e32, e33, e34, e35, e36, e37, H38, q39, d41, w42, implies_true, Nat.reduceAdd, Nat.reduceMul, Nat.reduceEqDiff, Nat.reduceLeDiff, reduceIte, reduceCtorEq]; done) | (simp only [upd_apply, updH_apply, without_apply, d12, d24, w25, e30, e31, e32, e33, e34, e35, e36, e37, H38, q39, d41, w42, implies_true, Nat.reduceAdd, Nat.reduceMul, Nat.reduceEqDiff, Nat.reduceLeDiff, reduceIte, reduceCtorEq]; rfl) | rfl) ?_
          rintro tm ⟨e44, e45, e46, e47, e48, e49, e50, e51, _⟩
          cases o53 : (g_letter_mistaken e13.Signs e27.Signs) with
          | none =>
            simp only [o53, cond_true, cond_false, lbind_go, lbind_ret, lbind_brk, lbind_none, Option.bind_some, Option.bind_none, Bool.not_true, Bool.not_false, reduceCtorEq] at h
            exact absurd h kN27
          | some r52 =>
            simp only [o53, cond_true, cond_false, lbind_go, lbind_ret, lbind_brk, lbind_none, Option.bind_some, Option.bind_none, Bool.not_true, Bool.not_false, reduceCtorEq] at h
            simp only [vs, cwp_label, ng_normal, ng_ret, ng_exit, cr, tyf, d12, g14, d24, (ix26 o26), w25, g28, g29, H38, q39, d41, (ix26 o43), w42, e44, e45, e46, e47, e48, e49, e50, e51, implies_true, Nat.reduceAdd, Nat.reduceMul, Nat.reduceEqDiff, Nat.reduceLeDiff, reduceIte, reduceCtorEq]
            refine dktree (args0 := [.sl (cellsL eI e13.Signs) (List.length e13.Signs) false, .sl (cellsL eI e27.Signs) (List.length e27.Signs) false]) (by first | (simp only [nrm, tynrm]; done) | (simp only [nrm, tynrm]; rfl) | rfl) (by simp only [tre, tytre, Bool.and_self]) (g_letter_mistaken_ok _ _ _ o53) ?_
            refine fin_cut (fun tm => tm 1 = .ptr 0 0 ∧ tm 5 = .lit (.int .i64 c27_5) ∧ tm 6 = .lit (.int .i64 c27_6) ∧ tm 7 = .lit (.int .i64 c27_7) ∧ tm 8 = .lit (.int .i64 c13_16) ∧ tm 9 = .lit (.int .i64 c27_9) ∧ tm 15 = .lit (.int .i64 (List.length x0_s.Words : Int)) ∧ tm 16 = .lit (.int .i64 c13_16) ∧ tm 40 = .lit (.bool r52) ∧ True) (by refine ⟨e44, e45, e46, e47, e48, e49, e50, e51, ?_, trivial⟩ <;> first | (simp only [upd_apply, updH_apply, without_apply, d12, d24, w25, H38, q39, d41, w42, e44, e45, e46, e47, e48, e49, e50, e51, implies_true, Nat.reduceAdd, Nat.reduceMul, Nat.reduceEqDiff, Nat.reduceLeDiff, reduceIte, reduceCtorEq]; done) | (simp only [upd_apply, updH_apply, without_apply, d12, d24, w25, H38, q39, d41, w42, e44, e45, e46, e47, e48, e49, e50, e51, implies_true, Nat.reduceAdd, Nat.reduceMul, Nat.reduceEqDiff, Nat.reduceLeDiff, reduceIte, reduceCtorEq]; rfl) | rfl) ?_
            rintro tm ⟨e54, e55, e56, e57, e58, e59, e60, e61, e62, _⟩
            cases d63 : (r52)
            · simp only [d63, cond_true, cond_false, lbind_go, lbind_ret, lbind_brk, lbind_none, Option.bind_some, Option.bind_none, Bool.not_true, Bool.not_false, reduceCtorEq] at h
              simp only [vs, cwp_label, ng_normal, ng_ret, ng_exit, cr, tyf, d12, g14, d24, (ix26 o26), w25, g28, g29, H38, q39, d41, (ix26 o43), w42, e54, e55, e56, e57, e58, e59, e60, e61, e62, d63, implies_true, Nat.reduceAdd, Nat.reduceMul, Nat.reduceEqDiff, Nat.reduceLeDiff, reduceIte, reduceCtorEq]
              exact ⟨List.length p27, Nat.lt_succ_self _, by rw [hI27]; refine ⟨p27, c27_9 + 1, c27_5, c27_6, c27_7, rfl, Int.le_trans hi27 (Int.le_add_one (Int.le_refl _)), drop_next hi27 hp27, rfl, (show 1 ≤ nx + 21 by omega), ?_, e54, e58, e60, e61, e55, e56, e57, ?_, h⟩ <;> first | (simp only [upd_apply, updH_apply, without_apply, d12, d24, w25, H38, q39, d41, w42, e54, e55, e56, e57, e58, e59, e60, e61, e62, d63, implies_true, Nat.reduceAdd, Nat.reduceMul, Nat.reduceEqDiff, Nat.reduceLeDiff, reduceIte, reduceCtorEq]; done) | (simp only [upd_apply, updH_apply, without_apply, d12, d24, w25, H38, q39, d41, w42, e54, e55, e56, e57, e58, e59, e60, e61, e62, d63, implies_true, Nat.reduceAdd, Nat.reduceMul, Nat.reduceEqDiff, Nat.reduceLeDiff, reduceIte, reduceCtorEq]; rfl) | rfl⟩
            · simp only [d63, cond_true, cond_false, lbind_go, lbind_ret, lbind_brk, lbind_none, Option.bind_some, Option.bind_none, Bool.not_true, Bool.not_false, reduceCtorEq] at h
              replace h := kB27 _ _ h
              try dsimp only at h
              try simp only [cond_true, cond_false, lbind_go, lbind_ret, lbind_brk, lbind_none, Option.bind_some, Option.bind_none, Bool.not_true, Bool.not_false] at h
              replace h := kG13 _ h
              try dsimp only at h
              try simp only [cond_true, cond_false, lbind_go, lbind_ret, lbind_brk, lbind_none, Option.bind_some, Option.bind_none, Bool.not_true, Bool.not_false] at h
              simp only [vs, cwp_label, ng_normal, ng_ret, ng_exit, cr, tyf, d12, g14, d24, (ix26 o26), w25, g28, g29, H38, q39, d41, (ix26 o43), w42, e54, e55, e56, e57, e58, e59, e60, e61, e62, d63, implies_true, Nat.reduceAdd, Nat.reduceMul, Nat.reduceEqDiff, Nat.reduceLeDiff, reduceIte, reduceCtorEq]
              obtain rfl := kF _ h
              refine ret3 Tryz.results50 ?_ ?_
              · first | (simp only [outV, upd_apply, updH_apply, without_apply, showV_ref, cr, tyf, nrm, tynrm, d12, g14, d24, (ix26 o26), w25, g28, g29, H38, q39, d41, (ix26 o43), w42, e54, e55, e56, e57, e58, e59, e60, e61, e62, d63, implies_true, Nat.reduceAdd, Nat.reduceMul, Nat.reduceEqDiff, Nat.reduceLeDiff, reduceIte, reduceCtorEq]; done) | (simp only [outV, upd_apply, updH_apply, without_apply, showV_ref, cr, tyf, nrm, tynrm, d12, g14, d24, (ix26 o26), w25, g28, g29, H38, q39, d41, (ix26 o43), w42, e54, e55, e56, e57, e58, e59, e60, e61, e62, d63, implies_true, Nat.reduceAdd, Nat.reduceMul, Nat.reduceEqDiff, Nat.reduceLeDiff, reduceIte, reduceCtorEq]; rfl)
              · simp only [tre, tytre, Bool.and_self]

end Go.V
end
section
namespace Go.V
open Go Go.Proofs
set_option linter.unusedSimpArgs false
set_option linter.unusedVariables false
set_option maxRecDepth 4000
set_option maxHeartbeats 4000000
def g_law01_short_l0  : List GLetterWord → Int → Option (LOut (Bool) (Unit))
  | [], c0_3 => some (.go ())
  | e0 :: p0, c0_3 => cond (decide (c0_3 < 6)) (cond (decide ((List.length e0.Signs : Int) > 8)) (some (.ret false)) (cond (decide ((List.length e0.Cuts : Int) > 8)) (some (.ret false)) (g_law01_short_l0 p0 (c0_3 + 1)))) (some (.go ()))
def g_law01_short (x0_s : GLetterSheet) : Option (Bool) := cond (lenOk x0_s.Words) (lbind (g_law01_short_l0 x0_s.Words 0) (fun r => some r) (fun c2 => cond (decide ((List.length x0_s.Widths : Int) ≤ 8)) (cond (decide ((List.length x0_s.Pairs : Int) ≤ 8)) (some (decide ((List.length x0_s.Words : Int) ≤ 6))) (some false)) (some false)) (fun _ _ => none)) none
theorem g_law01_short_ok (x0_s : GLetterSheet) (R : Bool) (h : g_law01_short x0_s = some R) : VPure Tryz.prog G0 15 [.agg (cGLetterSheet x0_s)] (.tree (.lit (.bool R))) := by
  refine VPure.runT mixed Tryz.call15 Tryz.func15 rfl (by simp [Tryz.ntmps15]; kernel_rfl) ?_
  obtain ⟨KF, h, kF, kN⟩ := fun_intro h
  simp only [g_law01_short] at h
  cases g5 : (lenOk x0_s.Words)
  · simp only [g5, cond_true, cond_false, lbind_go, lbind_ret, lbind_brk, lbind_none, Option.bind_some, Option.bind_none, Bool.not_true, Bool.not_false, reduceCtorEq] at h
    exact absurd h kN
  simp only [g5, cond_true, cond_false, lbind_go, lbind_ret, lbind_brk, lbind_none, Option.bind_some, Option.bind_none, Bool.not_true, Bool.not_false, reduceCtorEq] at h
  simp only [vs, cwp_label, ng_normal, ng_ret, ng_exit, cr, tyf, g5, implies_true, Nat.reduceAdd, Nat.reduceMul, Nat.reduceEqDiff, Nat.reduceLeDiff, reduceIte, reduceCtorEq]
  obtain ⟨K4, h, kR4, kG4, kB4, kN4⟩ := lbind_intro h kN
  obtain ⟨f4, hf4, h⟩ := call2 h
  obtain ⟨I4, hI4⟩ : ∃ I : Nat → St → Prop, I = (fun m st => ∃ (p4 : List GLetterWord) (c4_3 : Int), m = List.length p4 ∧ 0 ≤ c4_3 ∧ List.drop (Int.toNat c4_3) x0_s.Words = p4 ∧ st.df = [] ∧ 1 ≤ st.nx ∧ st.H 0 = some (.cells (some 28) (cGLetterSheet x0_s)) ∧ st.tm 1 = .ptr 0 0 ∧ st.tm 3 = .lit (.int .i64 c4_3) ∧ K4 (f4 p4 c4_3)) := ⟨_, rfl⟩
  refine loopK mixed (by kernel_rfl) I4 (List.length x0_s.Words) (by rw [hI4]; refine ⟨x0_s.Words, 0, rfl, Int.le_refl _, rfl, rfl, (show 1 ≤ 3 by decide), ?_, ?_, ?_, h⟩ <;> first | (simp only [upd_apply, updH_apply, without_apply, implies_true, Nat.reduceAdd, Nat.reduceMul, Nat.reduceEqDiff, Nat.reduceLeDiff, reduceIte, reduceCtorEq]; done) | (simp only [upd_apply, updH_apply, without_apply, implies_true, Nat.reduceAdd, Nat.reduceMul, Nat.reduceEqDiff, Nat.reduceLeDiff, reduceIte, reduceCtorEq]; rfl) | rfl) ?_
  rintro m ⟨tm, H, nx, df⟩ hinv
  rw [hI4] at hinv
  obtain ⟨p4, c4_3, rfl, hi4, hp4, hdf, hn4, H8, e6, e7, h⟩ := hinv
  simp only at hdf hn4 H8 e6 e7
  have q9 := fresh_ne (n := 0) (B := 1) (by decide) hn4
  subst hdf hf4
  cases p4 with
  | nil =>
    have d10 : (decide (c4_3 < (List.length x0_s.Words : Int))) = false := not_lt_of_drop hi4 hp4
    simp only [g_law01_short_l0, cond_true, cond_false, lbind_go, lbind_ret, lbind_brk, lbind_none, Option.bind_some, Option.bind_none, Bool.not_true, Bool.not_false, reduceCtorEq] at h
    replace h := kG4 _ h
    try dsimp only at h
    try simp only [cond_true, cond_false, lbind_go, lbind_ret, lbind_brk, lbind_none, Option.bind_some, Option.bind_none, Bool.not_true, Bool.not_false] at h
    cases d11 : (decide ((List.length x0_s.Widths : Int) ≤ 8))
    · simp only [d11, cond_true, cond_false, lbind_go, lbind_ret, lbind_brk, lbind_none, Option.bind_some, Option.bind_none, Bool.not_true, Bool.not_false, reduceCtorEq] at h
      simp only [vs, cwp_label, ng_normal, ng_ret, ng_exit, cr, tyf, g5, e6, e7, H8, q9, d10, d11, implies_true, Nat.reduceAdd, Nat.reduceMul, Nat.reduceEqDiff, Nat.reduceLeDiff, reduceIte, reduceCtorEq]
      obtain rfl := kF _ h
      refine ret1 Tryz.results15 ?_ ?_
      · first | (simp only [outV, upd_apply, updH_apply, without_apply, showV_ref, cr, tyf, nrm, tynrm, g5, e6, e7, H8, q9, d10, d11, implies_true, Nat.reduceAdd, Nat.reduceMul, Nat.reduceEqDiff, Nat.reduceLeDiff, reduceIte, reduceCtorEq]; done) | (simp only [outV, upd_apply, updH_apply, without_apply, showV_ref, cr, tyf, nrm, tynrm, g5, e6, e7, H8, q9, d10, d11, implies_true, Nat.reduceAdd, Nat.reduceMul, Nat.reduceEqDiff, Nat.reduceLeDiff, reduceIte, reduceCtorEq]; rfl)
      · simp only [tre, tytre, Bool.and_self]
    · simp only [d11, cond_true, cond_false, lbind_go, lbind_ret, lbind_brk, lbind_none, Option.bind_some, Option.bind_none, Bool.not_true, Bool.not_false, reduceCtorEq] at h
      cases d12 : (decide ((List.length x0_s.Pairs : Int) ≤ 8))
      · simp only [d12, cond_true, cond_false, lbind_go, lbind_ret, lbind_brk, lbind_none, Option.bind_some, Option.bind_none, Bool.not_true, Bool.not_false, reduceCtorEq] at h
        simp only [vs, cwp_label, ng_normal, ng_ret, ng_exit, cr, tyf, g5, e6, e7, H8, q9, d10, d11, d12, implies_true, Nat.reduceAdd, Nat.reduceMul, Nat.reduceEqDiff, Nat.reduceLeDiff, reduceIte, reduceCtorEq]
        obtain rfl := kF _ h
        refine ret1 Tryz.results15 ?_ ?_
        · first | (simp only [outV, upd_apply, updH_apply, without_apply, showV_ref, cr, tyf, nrm, tynrm, g5, e6, e7, H8, q9, d10, d11, d12, implies_true, Nat.reduceAdd, Nat.reduceMul, Nat.reduceEqDiff, Nat.reduceLeDiff, reduceIte, reduceCtorEq]; done) | (simp only [outV, upd_apply, updH_apply, without_apply, showV_ref, cr, tyf, nrm, tynrm, g5, e6, e7, H8, q9, d10, d11, d12, implies_true, Nat.reduceAdd, Nat.reduceMul, Nat.reduceEqDiff, Nat.reduceLeDiff, reduceIte, reduceCtorEq]; rfl)
        · simp only [tre, tytre, Bool.and_self]
      · simp only [d12, cond_true, cond_false, lbind_go, lbind_ret, lbind_brk, lbind_none, Option.bind_some, Option.bind_none, Bool.not_true, Bool.not_false, reduceCtorEq] at h
        simp only [vs, cwp_label, ng_normal, ng_ret, ng_exit, cr, tyf, g5, e6, e7, H8, q9, d10, d11, d12, implies_true, Nat.reduceAdd, Nat.reduceMul, Nat.reduceEqDiff, Nat.reduceLeDiff, reduceIte, reduceCtorEq]
        obtain rfl := kF _ h
        refine ret1 Tryz.results15 ?_ ?_
        · first | (simp only [outV, upd_apply, updH_apply, without_apply, showV_ref, cr, tyf, nrm, tynrm, g5, e6, e7, H8, q9, d10, d11, d12, implies_true, Nat.reduceAdd, Nat.reduceMul, Nat.reduceEqDiff, Nat.reduceLeDiff, reduceIte, reduceCtorEq]; done) | (simp only [outV, upd_apply, updH_apply, without_apply, showV_ref, cr, tyf, nrm, tynrm, g5, e6, e7, H8, q9, d10, d11, d12, implies_true, Nat.reduceAdd, Nat.reduceMul, Nat.reduceEqDiff, Nat.reduceLeDiff, reduceIte, reduceCtorEq]; rfl)
        · simp only [tre, tytre, Bool.and_self]
  | cons e4 p4 =>
    have d13 : (decide (c4_3 < (List.length x0_s.Words : Int))) = true := lt_of_drop hi4 hp4
    have o15 := getI_of_drop hi4 hp4
    have w14 := wrap_next hi4 hp4 g5
    simp only [g_law01_short_l0, cond_true, cond_false, lbind_go, lbind_ret, lbind_brk, lbind_none, Option.bind_some, Option.bind_none, Bool.not_true, Bool.not_false, reduceCtorEq] at h
    cases d16 : (decide (c4_3 < 6))
    · simp only [d16, cond_true, cond_false, lbind_go, lbind_ret, lbind_brk, lbind_none, Option.bind_some, Option.bind_none, Bool.not_true, Bool.not_false, reduceCtorEq] at h
      replace h := kG4 _ h
      try dsimp only at h
      try simp only [cond_true, cond_false, lbind_go, lbind_ret, lbind_brk, lbind_none, Option.bind_some, Option.bind_none, Bool.not_true, Bool.not_false] at h
      cases d17 : (decide ((List.length x0_s.Widths : Int) ≤ 8))
      · simp only [d17, cond_true, cond_false, lbind_go, lbind_ret, lbind_brk, lbind_none, Option.bind_some, Option.bind_none, Bool.not_true, Bool.not_false, reduceCtorEq] at h
        simp only [vs, cwp_label, ng_normal, ng_ret, ng_exit, cr, tyf, g5, e6, e7, H8, q9, d13, (ix26 o15), w14, d16, d17, implies_true, Nat.reduceAdd, Nat.reduceMul, Nat.reduceEqDiff, Nat.reduceLeDiff, reduceIte, reduceCtorEq]
        obtain rfl := kF _ h
        refine ret1 Tryz.results15 ?_ ?_
        · first | (simp only [outV, upd_apply, updH_apply, without_apply, showV_ref, cr, tyf, nrm, tynrm, g5, e6, e7, H8, q9, d13, (ix26 o15), w14, d16, d17, implies_true, Nat.reduceAdd, Nat.reduceMul, Nat.reduceEqDiff, Nat.reduceLeDiff, reduceIte, reduceCtorEq]; done) | (simp only [outV, upd_apply, updH_apply, without_apply, showV_ref, cr, tyf, nrm, tynrm, g5, e6, e7, H8, q9, d13, (ix26 o15), w14, d16, d17, implies_true, Nat.reduceAdd, Nat.reduceMul, Nat.reduceEqDiff, Nat.reduceLeDiff, reduceIte, reduceCtorEq]; rfl)
        · simp only [tre, tytre, Bool.and_self]
      · simp only [d17, cond_true, cond_false, lbind_go, lbind_ret, lbind_brk, lbind_none, Option.bind_some, Option.bind_none, Bool.not_true, Bool.not_false, reduceCtorEq] at h
        cases d18 : (decide ((List.length x0_s.Pairs : Int) ≤ 8))
        · simp only [d18, cond_true, cond_false, lbind_go, lbind_ret, lbind_brk, lbind_none, Option.bind_some, Option.bind_none, Bool.not_true, Bool.not_false, reduceCtorEq] at h
          simp only [vs, cwp_label, ng_normal, ng_ret, ng_exit, cr, tyf, g5, e6, e7, H8, q9, d13, (ix26 o15), w14, d16, d17, d18, implies_true, Nat.reduceAdd, Nat.reduceMul, Nat.reduceEqDiff, Nat.reduceLeDiff, reduceIte, reduceCtorEq]
          obtain rfl := kF _ h
          refine ret1 Tryz.results15 ?_ ?_
          · first | (simp only [outV, upd_apply, updH_apply, without_apply, showV_ref, cr, tyf, nrm, tynrm, g5, e6, e7, H8, q9, d13, (ix26 o15), w14, d16, d17, d18, implies_true, Nat.reduceAdd, Nat.reduceMul, Nat.reduceEqDiff, Nat.reduceLeDiff, reduceIte, reduceCtorEq]; done) | (simp only [outV, upd_apply, updH_apply, without_apply, showV_ref, cr, tyf, nrm, tynrm, g5, e6, e7, H8, q9, d13, (ix26 o15), w14, d16, d17, d18, implies_true, Nat.reduceAdd, Nat.reduceMul, Nat.reduceEqDiff, Nat.reduceLeDiff, reduceIte, reduceCtorEq]; rfl)
          · simp only [tre, tytre, Bool.and_self]
        · simp only [d18, cond_true, cond_false, lbind_go, lbind_ret, lbind_brk, lbind_none, Option.bind_some, Option.bind_none, Bool.not_true, Bool.not_false, reduceCtorEq] at h
          simp only [vs, cwp_label, ng_normal, ng_ret, ng_exit, cr, tyf, g5, e6, e7, H8, q9, d13, (ix26 o15), w14, d16, d17, d18, implies_true, Nat.reduceAdd, Nat.reduceMul, Nat.reduceEqDiff, Nat.reduceLeDiff, reduceIte, reduceCtorEq]
          obtain rfl := kF _ h
          refine ret1 Tryz.results15 ?_ ?_
          · first | (simp only [outV, upd_apply, updH_apply, without_apply, showV_ref, cr, tyf, nrm, tynrm, g5, e6, e7, H8, q9, d13, (ix26 o15), w14, d16, d17, d18, implies_true, Nat.reduceAdd, Nat.reduceMul, Nat.reduceEqDiff, Nat.reduceLeDiff, reduceIte, reduceCtorEq]; done) | (simp only [outV, upd_apply, updH_apply, without_apply, showV_ref, cr, tyf, nrm, tynrm, g5, e6, e7, H8, q9, d13, (ix26 o15), w14, d16, d17, d18, implies_true, Nat.reduceAdd, Nat.reduceMul, Nat.reduceEqDiff, Nat.reduceLeDiff, reduceIte, reduceCtorEq]; rfl)
          · simp only [tre, tytre, Bool.and_self]
    · simp only [d16, cond_true, cond_false, lbind_go, lbind_ret, lbind_brk, lbind_none, Option.bind_some, Option.bind_none, Bool.not_true, Bool.not_false, reduceCtorEq] at h
      cases d19 : (decide ((List.length e4.Signs : Int) > 8))
      · simp only [d19, cond_true, cond_false, lbind_go, lbind_ret, lbind_brk, lbind_none, Option.bind_some, Option.bind_none, Bool.not_true, Bool.not_false, reduceCtorEq] at h
        cases d20 : (decide ((List.length e4.Cuts : Int) > 8))
        · simp only [d20, cond_true, cond_false, lbind_go, lbind_ret, lbind_brk, lbind_none, Option.bind_some, Option.bind_none, Bool.not_true, Bool.not_false, reduceCtorEq] at h
          simp only [vs, cwp_label, ng_normal, ng_ret, ng_exit, cr, tyf, g5, e6, e7, H8, q9, d13, (ix26 o15), w14, d16, d19, d20, implies_true, Nat.reduceAdd, Nat.reduceMul, Nat.reduceEqDiff, Nat.reduceLeDiff, reduceIte, reduceCtorEq]
          exact ⟨List.length p4, Nat.lt_succ_self _, by rw [hI4]; refine ⟨p4, c4_3 + 1, rfl, Int.le_trans hi4 (Int.le_add_one (Int.le_refl _)), drop_next hi4 hp4, rfl, (show 1 ≤ nx + 30 by omega), ?_, e6, ?_, h⟩ <;> first | (simp only [upd_apply, updH_apply, without_apply, e6, e7, H8, q9, d13, w14, d16, d19, d20, implies_true, Nat.reduceAdd, Nat.reduceMul, Nat.reduceEqDiff, Nat.reduceLeDiff, reduceIte, reduceCtorEq]; done) | (simp only [upd_apply, updH_apply, without_apply, e6, e7, H8, q9, d13, w14, d16, d19, d20, implies_true, Nat.reduceAdd, Nat.reduceMul, Nat.reduceEqDiff, Nat.reduceLeDiff, reduceIte, reduceCtorEq]; rfl) | rfl⟩
        · simp only [d20, cond_true, cond_false, lbind_go, lbind_ret, lbind_brk, lbind_none, Option.bind_some, Option.bind_none, Bool.not_true, Bool.not_false, reduceCtorEq] at h
          simp only [vs, cwp_label, ng_normal, ng_ret, ng_exit, cr, tyf, g5, e6, e7, H8, q9, d13, (ix26 o15), w14, d16, d19, d20, implies_true, Nat.reduceAdd, Nat.reduceMul, Nat.reduceEqDiff, Nat.reduceLeDiff, reduceIte, reduceCtorEq]
          replace h := kR4 _ h
          try dsimp only at h
          obtain rfl := kF _ h
          refine ret1 Tryz.results15 ?_ ?_
          · first | (simp only [outV, upd_apply, updH_apply, without_apply, showV_ref, cr, tyf, nrm, tynrm, g5, e6, e7, H8, q9, d13, (ix26 o15), w14, d16, d19, d20, implies_true, Nat.reduceAdd, Nat.reduceMul, Nat.reduceEqDiff, Nat.reduceLeDiff, reduceIte, reduceCtorEq]; done) | (simp only [outV, upd_apply, updH_apply, without_apply, showV_ref, cr, tyf, nrm, tynrm, g5, e6, e7, H8, q9, d13, (ix26 o15), w14, d16, d19, d20, implies_true, Nat.reduceAdd, Nat.reduceMul, Nat.reduceEqDiff, Nat.reduceLeDiff, reduceIte, reduceCtorEq]; rfl)
          · simp only [tre, tytre, Bool.and_self]
      · simp only [d19, cond_true, cond_false, lbind_go, lbind_ret, lbind_brk, lbind_none, Option.bind_some, Option.bind_none, Bool.not_true, Bool.not_false, reduceCtorEq] at h
        simp only [vs, cwp_label, ng_normal, ng_ret, ng_exit, cr, tyf, g5, e6, e7, H8, q9, d13, (ix26 o15), w14, d16, d19, implies_true, Nat.reduceAdd, Nat.reduceMul, Nat.reduceEqDiff, Nat.reduceLeDiff, reduceIte, reduceCtorEq]
        replace h := kR4 _ h
        try dsimp only at h
        obtain rfl := kF _ h
        refine ret1 Tryz.results15 ?_ ?_
        · first | (simp only [outV, upd_apply, updH_apply, without_apply, showV_ref, cr, tyf, nrm, tynrm, g5, e6, e7, H8, q9, d13, (ix26 o15), w14, d16, d19, implies_true, Nat.reduceAdd, Nat.reduceMul, Nat.reduceEqDiff, Nat.reduceLeDiff, reduceIte, reduceCtorEq]; done) | (simp only [outV, upd_apply, updH_apply, without_apply, showV_ref, cr, tyf, nrm, tynrm, g5, e6, e7, H8, q9, d13, (ix26 o15), w14, d16, d19, implies_true, Nat.reduceAdd, Nat.reduceMul, Nat.reduceEqDiff, Nat.reduceLeDiff, reduceIte, reduceCtorEq]; rfl)
        · simp only [tre, tytre, Bool.and_self]

end Go.V
end
section
namespace Go.V
open Go Go.Proofs
theorem hmix : Tryz.prog.follows .mixedOrders = true := by kernel_rfl
def kA : VV := (Go.V.VV.agg [(Go.V.VV.sl [(Go.V.VV.lit (Go.Value.int Go.IntKind.i64 (Int.ofNat 6))), (Go.V.VV.lit (Go.Value.int Go.IntKind.i64 (Int.ofNat 4))), (Go.V.VV.lit (Go.Value.int Go.IntKind.i64 (Int.ofNat 8)))] 3 Bool.false), (Go.V.VV.sl [(Go.V.VV.lit (Go.Value.int Go.IntKind.i64 (Int.ofNat 0))), (Go.V.VV.lit (Go.Value.int Go.IntKind.i64 (Int.ofNat 1))), (Go.V.VV.lit (Go.Value.int Go.IntKind.i64 (Int.ofNat 1))), (Go.V.VV.lit (Go.Value.int Go.IntKind.i64 (Int.ofNat 3))), (Go.V.VV.lit (Go.Value.int Go.IntKind.i64 (Int.ofNat 2))), (Go.V.VV.lit (Go.Value.int Go.IntKind.i64 (Int.ofNat 0))), (Go.V.VV.lit (Go.Value.int Go.IntKind.i64 (Int.ofNat 0))), (Go.V.VV.lit (Go.Value.int Go.IntKind.i64 (Int.ofNat 2)))] 2 Bool.false), (Go.V.VV.lit (Go.Value.int Go.IntKind.i64 (Int.ofNat 2))), (Go.V.VV.lit (Go.Value.int Go.IntKind.i64 (Int.ofNat 4))), (Go.V.VV.lit (Go.Value.int Go.IntKind.i64 (Int.ofNat 5))), (Go.V.VV.lit (Go.Value.int Go.IntKind.i64 (Int.ofNat 8))), (Go.V.VV.lit (Go.Value.int Go.IntKind.i64 (Int.ofNat 3))), (Go.V.VV.sl [(Go.V.VV.sl [(Go.V.VV.lit (Go.Value.int Go.IntKind.i64 (Int.ofNat 2))), (Go.V.VV.lit (Go.Value.int Go.IntKind.i64 (Int.ofNat 0))), (Go.V.VV.lit (Go.Value.int Go.IntKind.i64 (Int.ofNat 1)))] 3 Bool.false), (Go.V.VV.lit (Go.Value.slice Option.none 0 0)), (Go.V.VV.lit (Go.Value.bool Bool.false)), (Go.V.VV.sl [(Go.V.VV.lit (Go.Value.int Go.IntKind.i64 (Int.ofNat 0))), (Go.V.VV.lit (Go.Value.int Go.IntKind.i64 (Int.ofNat 2)))] 2 Bool.false), (Go.V.VV.sl [(Go.V.VV.lit (Go.Value.int Go.IntKind.i64 (Int.ofNat 1)))] 1 Bool.false), (Go.V.VV.lit (Go.Value.bool Bool.true))] 2 Bool.false), (Go.V.VV.lit (Go.Value.int Go.IntKind.i64 (Int.ofNat 21))), (Go.V.VV.lit (Go.Value.int Go.IntKind.i64 (Int.ofNat 2)))])
def kX : VV := (Go.V.VV.agg [(Go.V.VV.lit (Go.Value.slice Option.none 0 0)), (Go.V.VV.sl [(Go.V.VV.lit (Go.Value.int Go.IntKind.i64 (Int.ofNat 0))), (Go.V.VV.lit (Go.Value.int Go.IntKind.i64 (Int.ofNat 3))), (Go.V.VV.lit (Go.Value.int Go.IntKind.i64 (Int.ofNat 1))), (Go.V.VV.lit (Go.Value.int Go.IntKind.i64 (Int.ofNat 2)))] 2 Bool.false)])
def kY : VV := (Go.V.VV.agg [(Go.V.VV.lit (Go.Value.slice Option.none 0 0)), (Go.V.VV.sl [(Go.V.VV.lit (Go.Value.int Go.IntKind.i64 (Int.ofNat 1))), (Go.V.VV.lit (Go.Value.int Go.IntKind.i64 (Int.ofNat 1))), (Go.V.VV.lit (Go.Value.int Go.IntKind.i64 (Int.ofNat 1))), (Go.V.VV.lit (Go.Value.int Go.IntKind.i64 (Int.ofNat 2)))] 2 Bool.false)])
def kB : VV := (Go.V.VV.agg [(Go.V.VV.sl [(Go.V.VV.lit (Go.Value.int Go.IntKind.i64 (Int.ofNat 6))), (Go.V.VV.lit (Go.Value.int Go.IntKind.i64 (Int.ofNat 4))), (Go.V.VV.lit (Go.Value.int Go.IntKind.i64 (Int.ofNat 8)))] 3 Bool.false), (Go.V.VV.sl [(Go.V.VV.lit (Go.Value.int Go.IntKind.i64 (Int.ofNat 0))), (Go.V.VV.lit (Go.Value.int Go.IntKind.i64 (Int.ofNat 1))), (Go.V.VV.lit (Go.Value.int Go.IntKind.i64 (Int.ofNat 1))), (Go.V.VV.lit (Go.Value.int Go.IntKind.i64 (Int.ofNat 3))), (Go.V.VV.lit (Go.Value.int Go.IntKind.i64 (Int.ofNat 2))), (Go.V.VV.lit (Go.Value.int Go.IntKind.i64 (Int.ofNat 0))), (Go.V.VV.lit (Go.Value.int Go.IntKind.i64 (Int.ofNat 0))), (Go.V.VV.lit (Go.Value.int Go.IntKind.i64 (Int.ofNat 2)))] 2 Bool.false), (Go.V.VV.lit (Go.Value.int Go.IntKind.i64 (Int.ofNat 2))), (Go.V.VV.lit (Go.Value.int Go.IntKind.i64 (Int.ofNat 4))), (Go.V.VV.lit (Go.Value.int Go.IntKind.i64 (Int.ofNat 5))), (Go.V.VV.lit (Go.Value.int Go.IntKind.i64 (Int.ofNat 8))), (Go.V.VV.lit (Go.Value.int Go.IntKind.i64 (Int.ofNat 3))), (Go.V.VV.sl [(Go.V.VV.sl [(Go.V.VV.lit (Go.Value.int Go.IntKind.i64 (Int.ofNat 2))), (Go.V.VV.lit (Go.Value.int Go.IntKind.i64 (Int.ofNat 0))), (Go.V.VV.lit (Go.Value.int Go.IntKind.i64 (Int.ofNat 1)))] 3 Bool.false), (Go.V.VV.lit (Go.Value.slice Option.none 0 0)), (Go.V.VV.lit (Go.Value.bool Bool.false)), (Go.V.VV.sl [(Go.V.VV.lit (Go.Value.int Go.IntKind.i64 (Int.ofNat 0))), (Go.V.VV.lit (Go.Value.int Go.IntKind.i64 (Int.ofNat 2)))] 2 Bool.false), (Go.V.VV.sl [(Go.V.VV.lit (Go.Value.int Go.IntKind.i64 (Int.ofNat 1)))] 1 Bool.false), (Go.V.VV.lit (Go.Value.bool Bool.true))] 2 Bool.false), (Go.V.VV.lit (Go.Value.int Go.IntKind.i64 (Int.ofNat 18))), (Go.V.VV.lit (Go.Value.int Go.IntKind.i64 (Int.ofNat 2)))])
def kC : VV := (Go.V.VV.agg [(Go.V.VV.sl [(Go.V.VV.lit (Go.Value.int Go.IntKind.i64 (Int.ofNat 6))), (Go.V.VV.lit (Go.Value.int Go.IntKind.i64 (Int.ofNat 4))), (Go.V.VV.lit (Go.Value.int Go.IntKind.i64 (Int.ofNat 8)))] 3 Bool.false), (Go.V.VV.sl [(Go.V.VV.lit (Go.Value.int Go.IntKind.i64 (Int.ofNat 0))), (Go.V.VV.lit (Go.Value.int Go.IntKind.i64 (Int.ofNat 1))), (Go.V.VV.lit (Go.Value.int Go.IntKind.i64 (Int.ofNat 1))), (Go.V.VV.lit (Go.Value.int Go.IntKind.i64 (Int.ofNat 3))), (Go.V.VV.lit (Go.Value.int Go.IntKind.i64 (Int.ofNat 2))), (Go.V.VV.lit (Go.Value.int Go.IntKind.i64 (Int.ofNat 0))), (Go.V.VV.lit (Go.Value.int Go.IntKind.i64 (Int.ofNat 0))), (Go.V.VV.lit (Go.Value.int Go.IntKind.i64 (Int.ofNat 2)))] 2 Bool.false), (Go.V.VV.lit (Go.Value.int Go.IntKind.i64 (Int.ofNat 2))), (Go.V.VV.lit (Go.Value.int Go.IntKind.i64 (Int.ofNat 4))), (Go.V.VV.lit (Go.Value.int Go.IntKind.i64 (Int.ofNat 5))), (Go.V.VV.lit (Go.Value.int Go.IntKind.i64 (Int.ofNat 8))), (Go.V.VV.lit (Go.Value.int Go.IntKind.i64 (Int.ofNat 3))), (Go.V.VV.sl [(Go.V.VV.sl [(Go.V.VV.lit (Go.Value.int Go.IntKind.i64 (Int.ofNat 2))), (Go.V.VV.lit (Go.Value.int Go.IntKind.i64 (Int.ofNat 0))), (Go.V.VV.lit (Go.Value.int Go.IntKind.i64 (Int.ofNat 1)))] 3 Bool.false), (Go.V.VV.lit (Go.Value.slice Option.none 0 0)), (Go.V.VV.lit (Go.Value.bool Bool.false)), (Go.V.VV.sl [(Go.V.VV.lit (Go.Value.int Go.IntKind.i64 (Int.ofNat 0))), (Go.V.VV.lit (Go.Value.int Go.IntKind.i64 (Int.ofNat 2)))] 2 Bool.false), (Go.V.VV.sl [(Go.V.VV.lit (Go.Value.int Go.IntKind.i64 (Int.ofNat 1)))] 1 Bool.false), (Go.V.VV.lit (Go.Value.bool Bool.true))] 2 Bool.false), (Go.V.VV.lit (Go.Value.int Go.IntKind.i64 (Int.ofNat 21))), (Go.V.VV.lit (Go.Value.int Go.IntKind.i64 (Int.ofNat 1)))])
def kD : VV := (Go.V.VV.agg [(Go.V.VV.sl [(Go.V.VV.lit (Go.Value.int Go.IntKind.i64 (Int.ofNat 6))), (Go.V.VV.lit (Go.Value.int Go.IntKind.i64 (Int.ofNat 4))), (Go.V.VV.lit (Go.Value.int Go.IntKind.i64 (Int.ofNat 8)))] 3 Bool.false), (Go.V.VV.sl [(Go.V.VV.lit (Go.Value.int Go.IntKind.i64 (Int.ofNat 0))), (Go.V.VV.lit (Go.Value.int Go.IntKind.i64 (Int.ofNat 1))), (Go.V.VV.lit (Go.Value.int Go.IntKind.i64 (Int.ofNat 1))), (Go.V.VV.lit (Go.Value.int Go.IntKind.i64 (Int.ofNat 3))), (Go.V.VV.lit (Go.Value.int Go.IntKind.i64 (Int.ofNat 2))), (Go.V.VV.lit (Go.Value.int Go.IntKind.i64 (Int.ofNat 0))), (Go.V.VV.lit (Go.Value.int Go.IntKind.i64 (Int.ofNat 0))), (Go.V.VV.lit (Go.Value.int Go.IntKind.i64 (Int.ofNat 2)))] 2 Bool.false), (Go.V.VV.lit (Go.Value.int Go.IntKind.i64 (Int.ofNat 2))), (Go.V.VV.lit (Go.Value.int Go.IntKind.i64 (Int.ofNat 4))), (Go.V.VV.lit (Go.Value.int Go.IntKind.i64 (Int.ofNat 5))), (Go.V.VV.lit (Go.Value.int Go.IntKind.i64 (Int.ofNat 8))), (Go.V.VV.lit (Go.Value.int Go.IntKind.i64 (Int.ofNat 3))), (Go.V.VV.sl [(Go.V.VV.sl [(Go.V.VV.lit (Go.Value.int Go.IntKind.i64 (Int.ofNat 2))), (Go.V.VV.lit (Go.Value.int Go.IntKind.i64 (Int.ofNat 0))), (Go.V.VV.lit (Go.Value.int Go.IntKind.i64 (Int.ofNat 1)))] 3 Bool.false), (Go.V.VV.lit (Go.Value.slice Option.none 0 0)), (Go.V.VV.lit (Go.Value.bool Bool.false)), (Go.V.VV.sl [(Go.V.VV.lit (Go.Value.int Go.IntKind.i64 (Int.ofNat 0))), (Go.V.VV.lit (Go.Value.int Go.IntKind.i64 (Int.ofNat 1)))] 2 Bool.false), (Go.V.VV.sl [(Go.V.VV.lit (Go.Value.int Go.IntKind.i64 (Int.ofNat 1)))] 1 Bool.false), (Go.V.VV.lit (Go.Value.bool Bool.true))] 2 Bool.false), (Go.V.VV.lit (Go.Value.int Go.IntKind.i64 (Int.ofNat 21))), (Go.V.VV.lit (Go.Value.int Go.IntKind.i64 (Int.ofNat 2)))])
def kWidths : VV := (Go.V.VV.tup [(Go.V.VV.sl [(Go.V.VV.lit (Go.Value.int Go.IntKind.i64 (Int.ofNat 35))), (Go.V.VV.lit (Go.Value.int Go.IntKind.i64 (Int.ofNat 8)))] 2 Bool.false), (Go.V.VV.lit (Go.Value.int Go.IntKind.i64 (Int.ofNat 0)))])
def kFits : VV := (Go.V.VV.tup [(Go.V.VV.lit (Go.Value.bool Bool.true)), (Go.V.VV.lit (Go.Value.int Go.IntKind.i64 (Int.ofNat 0)))])
def kStretch : VV := (Go.V.VV.tup [(Go.V.VV.lit (Go.Value.int Go.IntKind.i64 (Int.ofNat 9))), (Go.V.VV.lit (Go.Value.int Go.IntKind.i64 (Int.ofNat 0)))])
def kPlaces : VV := (Go.V.VV.tup [(Go.V.VV.sl [(Go.V.VV.sl [(Go.V.VV.lit (Go.Value.int Go.IntKind.i64 (Int.ofNat 0))), (Go.V.VV.lit (Go.Value.int Go.IntKind.i64 (Int.ofNat 9))), (Go.V.VV.lit (Go.Value.int Go.IntKind.i64 (Int.ofNat 17)))] 3 Bool.false), (Go.V.VV.sl [(Go.V.VV.lit (Go.Value.int Go.IntKind.i64 (Int.ofNat 0))), (Go.V.VV.lit (Go.Value.int Go.IntKind.i64 (Int.ofNat 9)))] 2 Bool.false)] 2 Bool.false), (Go.V.VV.lit (Go.Value.int Go.IntKind.i64 (Int.ofNat 0)))])
def kRows : VV := (Go.V.VV.tup [(Go.V.VV.lit (Go.Value.int Go.IntKind.i64 (Int.ofNat 2))), (Go.V.VV.lit (Go.Value.int Go.IntKind.i64 (Int.ofNat 0)))])
def kSet : VV := (Go.V.VV.tup [(Go.V.VV.agg [(Go.V.VV.lit (Go.Value.slice Option.none 0 0)), (Go.V.VV.sl [(Go.V.VV.lit (Go.Value.int Go.IntKind.i64 (Int.ofNat 0))), (Go.V.VV.lit (Go.Value.int Go.IntKind.i64 (Int.ofNat 3))), (Go.V.VV.lit (Go.Value.int Go.IntKind.i64 (Int.ofNat 1))), (Go.V.VV.lit (Go.Value.int Go.IntKind.i64 (Int.ofNat 2)))] 2 Bool.false)]), (Go.V.VV.lit (Go.Value.int Go.IntKind.i64 (Int.ofNat 9))), (Go.V.VV.lit (Go.Value.int Go.IntKind.i64 (Int.ofNat 0)))])
def kCount : VV := (Go.V.VV.tup [(Go.V.VV.lit (Go.Value.int Go.IntKind.i64 (Int.ofNat 1))), (Go.V.VV.lit (Go.Value.int Go.IntKind.i64 (Int.ofNat 0)))])
def kNarrow : VV := (Go.V.VV.tup [(Go.V.VV.lit (Go.Value.int Go.IntKind.i64 (Int.ofNat 40))), (Go.V.VV.lit (Go.Value.int Go.IntKind.i64 (Int.ofNat 0)))])
def kDrop : VV := (Go.V.VV.tup [(Go.V.VV.sl [(Go.V.VV.lit (Go.Value.int Go.IntKind.i64 (Int.ofNat 1)))] 1 Bool.false), (Go.V.VV.lit (Go.Value.int Go.IntKind.i64 (Int.ofNat 0)))])
def kOver : VV := (Go.V.VV.tup [(Go.V.VV.lit (Go.Value.int Go.IntKind.i64 (Int.ofNat 3))), (Go.V.VV.lit (Go.Value.int Go.IntKind.i64 (Int.ofNat 0)))])
def kAlike : VV := (Go.V.VV.tup [(Go.V.VV.lit (Go.Value.int Go.IntKind.i64 (Int.ofNat 0))), (Go.V.VV.lit (Go.Value.int Go.IntKind.i64 (Int.ofNat 1))), (Go.V.VV.lit (Go.Value.int Go.IntKind.i64 (Int.ofNat 0)))])
def kRead : VV := (Go.V.VV.tup [(Go.V.VV.agg [(Go.V.VV.sl [(Go.V.VV.lit (Go.Value.int Go.IntKind.i64 (Int.ofNat 1)))] 1 Bool.false), (Go.V.VV.lit (Go.Value.slice Option.none 0 0)), (Go.V.VV.lit (Go.Value.int Go.IntKind.i64 (Int.ofNat 0))), (Go.V.VV.lit (Go.Value.int Go.IntKind.i64 (Int.ofNat 0))), (Go.V.VV.lit (Go.Value.int Go.IntKind.i64 (Int.ofNat 0))), (Go.V.VV.lit (Go.Value.int Go.IntKind.i64 (Int.ofNat 0))), (Go.V.VV.lit (Go.Value.int Go.IntKind.i64 (Int.ofNat 1))), (Go.V.VV.sl [(Go.V.VV.sl [(Go.V.VV.lit (Go.Value.int Go.IntKind.i64 (Int.ofNat 0)))] 1 Bool.false), (Go.V.VV.lit (Go.Value.slice Option.none 0 0)), (Go.V.VV.lit (Go.Value.bool Bool.false))] 1 Bool.false), (Go.V.VV.lit (Go.Value.int Go.IntKind.i64 (Int.ofNat 1))), (Go.V.VV.lit (Go.Value.int Go.IntKind.i64 (Int.ofNat 1)))]), (Go.V.VV.lit (Go.Value.int Go.IntKind.i64 (Int.ofNat 0)))])
end Go.V
end
section
namespace Go.V
open Go Go.Proofs
theorem pA : VPure Tryz.prog G0 53 [] (.tree kA) := VPure.closedB hmix 1000 (by kernel_rfl)
theorem pX : VPure Tryz.prog G0 55 [] (.tree kX) := VPure.closedB hmix 1000 (by kernel_rfl)
theorem pY : VPure Tryz.prog G0 54 [] (.tree kY) := VPure.closedB hmix 1000 (by kernel_rfl)
theorem pB : VPure Tryz.prog G0 57 [] (.tree kB) := VPure.closedB hmix 1000 (by kernel_rfl)
theorem pC : VPure Tryz.prog G0 56 [] (.tree kC) := VPure.closedB hmix 1000 (by kernel_rfl)
theorem pD : VPure Tryz.prog G0 58 [] (.tree kD) := VPure.closedB hmix 1000 (by kernel_rfl)
theorem pWidths : VPure Tryz.prog G0 19 [kA, kY, .lit (.int .i64 (0))] (.tree kWidths) := VPure.closedB hmix 1000 (by kernel_rfl)
theorem pFits : VPure Tryz.prog G0 29 [kA, kX, .lit (.int .i64 (9))] (.tree kFits) := VPure.closedB hmix 1000 (by kernel_rfl)
theorem pPlaces : VPure Tryz.prog G0 26 [kA, kX, .lit (.int .i64 (9))] (.tree kPlaces) := VPure.closedB hmix 1000 (by kernel_rfl)
theorem pAlike : VPure Tryz.prog G0 50 [kD] (.tree kAlike) := VPure.closedB hmix 1000 (by kernel_rfl)
end Go.V
end
section
namespace Go.V
open Go Go.Proofs
theorem pStretch : VPure Tryz.prog G0 30 [kA, kX] (.tree kStretch) := VPure.closedB hmix 1000 (by kernel_rfl)
theorem pRows : VPure Tryz.prog G0 35 [kA] (.tree kRows) := VPure.closedB hmix 1000 (by kernel_rfl)
theorem pNarrow : VPure Tryz.prog G0 42 [kC] (.tree kNarrow) := VPure.closedB hmix 1000 (by kernel_rfl)
end Go.V
end
section
namespace Go.V
open Go Go.Proofs
theorem pSet : VPure Tryz.prog G0 36 [kA] (.tree kSet) := VPure.closedB hmix 1000 (by kernel_rfl)
theorem pCount : VPure Tryz.prog G0 41 [kA] (.tree kCount) := VPure.closedB hmix 1000 (by kernel_rfl)
end Go.V
end
section
namespace Go.V
open Go Go.Proofs
theorem pDrop : VPure Tryz.prog G0 46 [kC] (.tree kDrop) := VPure.closedB hmix 1000 (by kernel_rfl)
theorem pOver : VPure Tryz.prog G0 48 [kB] (.tree kOver) := VPure.closedB hmix 1000 (by kernel_rfl)
end Go.V
end
section
namespace Go.V
open Go Go.Proofs
theorem pRead : VPure Tryz.prog G0 59 [.lit (.string ⟨⟨[102, 114, 111, 110, 116, 32, 49, 32, 49, 10, 115, 112, 97, 99, 101, 115, 32, 48, 32, 48, 32, 48, 32, 48, 32, 49, 10, 115, 105, 103, 110, 32, 49, 10, 119, 111, 114, 100, 32, 110, 111, 32, 48, 32, 45, 10, 101, 110, 100, 32, 48, 57, 56, 10]⟩⟩)] (.tree kRead) := VPure.closedB hmix 1000 (by kernel_rfl)
end Go.V
end
section
namespace Go.V
open Go Go.Proofs
def kTab : KTab := [
  (53, [], kA),
  (55, [], kX),
  (54, [], kY),
  (57, [], kB),
  (56, [], kC),
  (58, [], kD),
  (19, [kA, kY, .lit (.int .i64 (0))], kWidths),
  (29, [kA, kX, .lit (.int .i64 (9))], kFits),
  (26, [kA, kX, .lit (.int .i64 (9))], kPlaces),
  (50, [kD], kAlike),
  (30, [kA, kX], kStretch),
  (35, [kA], kRows),
  (42, [kC], kNarrow),
  (36, [kA], kSet),
  (41, [kA], kCount),
  (46, [kC], kDrop),
  (48, [kB], kOver),
  (59, [.lit (.string ⟨⟨[102, 114, 111, 110, 116, 32, 49, 32, 49, 10, 115, 112, 97, 99, 101, 115, 32, 48, 32, 48, 32, 48, 32, 48, 32, 49, 10, 115, 105, 103, 110, 32, 49, 10, 119, 111, 114, 100, 32, 110, 111, 32, 48, 32, 45, 10, 101, 110, 100, 32, 48, 57, 56, 10]⟩⟩)], kRead)]
theorem kTabOk : KTabOk Tryz.prog G0 kTab := ⟨⟨by kernel_rfl, pA⟩, ⟨⟨by kernel_rfl, pX⟩, ⟨⟨by kernel_rfl, pY⟩, ⟨⟨by kernel_rfl, pB⟩, ⟨⟨by kernel_rfl, pC⟩, ⟨⟨by kernel_rfl, pD⟩, ⟨⟨by kernel_rfl, pWidths⟩, ⟨⟨by kernel_rfl, pFits⟩, ⟨⟨by kernel_rfl, pPlaces⟩, ⟨⟨by kernel_rfl, pAlike⟩, ⟨⟨by kernel_rfl, pStretch⟩, ⟨⟨by kernel_rfl, pRows⟩, ⟨⟨by kernel_rfl, pNarrow⟩, ⟨⟨by kernel_rfl, pSet⟩, ⟨⟨by kernel_rfl, pCount⟩, ⟨⟨by kernel_rfl, pDrop⟩, ⟨⟨by kernel_rfl, pOver⟩, ⟨⟨by kernel_rfl, pRead⟩, trivial⟩⟩⟩⟩⟩⟩⟩⟩⟩⟩⟩⟩⟩⟩⟩⟩⟩⟩
theorem pKnown : VPure Tryz.prog G0 17 [] (.tree (.lit (.bool true))) := VPure.closedT hmix kTabOk 1000 (by kernel_rfl)
#print axioms pKnown
end Go.V
end
section
namespace Go.V
open Go Go.Proofs
def g_law01_known : Option Bool := some true
theorem g_law01_known_ok (R : Bool) (h : g_law01_known = some R) : VPure Tryz.prog G0 17 [] (.tree (.lit (.bool R))) := by
  cases h
  exact pKnown
end Go.V
end
section
namespace Go.V
open Go
/-! The law LetterAlikes, for all sheets whose lists are short enough. -/
def findL (f : GLetterWord → Bool) : List GLetterWord → Int → Option Int
  | [], _ => none
  | e :: p, i => cond (f e) (some i) (findL f p (i + 1))
def MB (a b : GLetterWord) : Bool := mistB a.Signs b.Signs
def Good (w : GLetterWord) : Prop := 1 ≤ w.Signs.length ∧ w.Signs.length ≤ 6
def oL : Option Int → Int → Int → Int → Int → Option (LOut (Int × Int × Int) (Int × Int × Int))
  | some j, i, _, _, _ => some (.brk 0 (i, j, 0))
  | none, _, a, b, c => some (.go (a, b, c))
def oR : Option Int → Int → Option (LOut (Int × Int × Bool) Unit)
  | some j, i => some (.ret (i, j, true))
  | none, _ => some (.go ())
theorem letAlike_l1_eq (i : Int) (e : GLetterWord) (he : Good e) (a b c : Int) : ∀ (p : List GLetterWord) (j : Int), (∀ w ∈ p, Good w) → g_letter_Alike_l1 i e p j a b c = oL (findL (MB e) p j) i a b c
  | [], _, _ => rfl
  | w :: p, j, h => by
    have hw := h w (List.mem_cons_self ..)
    simp only [g_letter_Alike_l1, letmist_eq _ _ he.1 he.2 hw.1 hw.2, Option.bind_some, letAlike_l1_eq i e he a b c p (j + 1) (fun x hx => h x (List.mem_cons_of_mem _ hx)), findL, MB]
    cases mistB e.Signs w.Signs <;> rfl
theorem refAlike_l1_eq (i : Int) (e : GLetterWord) (he : Good e) : ∀ (p : List GLetterWord) (j : Int), (∀ w ∈ p, Good w) → g_ref01_Alike_l1 i e p j = oR (findL (MB e) p j) i
  | [], _, _ => rfl
  | w :: p, j, h => by
    have hw := h w (List.mem_cons_self ..)
    simp only [g_ref01_Alike_l1, refmist_eq _ _ he.1 he.2 hw.1 hw.2, Option.bind_some, refAlike_l1_eq i e he p (j + 1) (fun x hx => h x (List.mem_cons_of_mem _ hx)), findL, MB]
    cases mistB e.Signs w.Signs <;> rfl
def find2 (ws : List GLetterWord) : List GLetterWord → Int → Option (Int × Int)
  | [], _ => none
  | e :: p, i => match findL (MB e) (ws.drop (i + 1).toNat) (i + 1) with
    | some j => some (i, j)
    | none => find2 ws p (i + 1)
def oL2 : Option (Int × Int) → Option (LOut (Int × Int × Int) (Int × Int × Int))
  | some x => some (.go (x.1, x.2, 0))
  | none => some (.go (0, 0, 5))
def oR2 : Option (Int × Int) → Option (LOut (Int × Int × Bool) Unit)
  | some x => some (.ret (x.1, x.2, true))
  | none => some (.go ())
theorem letAlike_l0_eq (s : GLetterSheet) (hl : lenOk s.Words = true) (hg : ∀ w ∈ s.Words, Good w) : ∀ (p : List GLetterWord) (i : Int), 0 ≤ i → i.toNat + p.length ≤ s.Words.length → (∀ w ∈ p, Good w) → g_letter_Alike_l0 s p i 0 0 5 = oL2 (find2 s.Words p i)
  | [], _, _, _, _ => rfl
  | e :: p, i, h0, hp, h => by
    have hb := lenOk_lt hl
    simp only [List.length_cons] at hp
    have hw : IntKind.i64.wrap (i + 1) = i + 1 := wrap_eq (by omega) (by omega)
    have h1 : leB 0 (i + 1) = true := by unfold leB; exact decide_eq_true (by omega)
    simp only [g_letter_Alike_l0, hl, cond_true, hw, h1, letAlike_l1_eq i e (h e (List.mem_cons_self ..)) 0 0 5 _ (i + 1) (fun w hx => hg w (List.mem_of_mem_drop hx)), find2]
    cases findL (MB e) (List.drop (i + 1).toNat s.Words) (i + 1) with
    | some j => rfl
    | none =>
      simp only [oL, lbind]
      exact letAlike_l0_eq s hl hg p (i + 1) (by omega) (by omega) (fun x hx => h x (List.mem_cons_of_mem _ hx))
theorem refAlike_l0_eq (s : GLetterSheet) (hl : lenOk s.Words = true) (hg : ∀ w ∈ s.Words, Good w) : ∀ (p : List GLetterWord) (i : Int), 0 ≤ i → i.toNat + p.length ≤ s.Words.length → (∀ w ∈ p, Good w) → g_ref01_Alike_l0 s p i = oR2 (find2 s.Words p i)
  | [], _, _, _, _ => rfl
  | e :: p, i, h0, hp, h => by
    have hb := lenOk_lt hl
    simp only [List.length_cons] at hp
    have hw : IntKind.i64.wrap (i + 1) = i + 1 := wrap_eq (by omega) (by omega)
    have h1 : leB 0 (i + 1) = true := by unfold leB; exact decide_eq_true (by omega)
    simp only [g_ref01_Alike_l0, hl, cond_true, hw, h1, refAlike_l1_eq i e (h e (List.mem_cons_self ..)) _ (i + 1) (fun w hx => hg w (List.mem_of_mem_drop hx)), find2]
    cases findL (MB e) (List.drop (i + 1).toNat s.Words) (i + 1) with
    | some j => rfl
    | none =>
      simp only [oR, lbind]
      exact refAlike_l0_eq s hl hg p (i + 1) (by omega) (by omega) (fun x hx => h x (List.mem_cons_of_mem _ hx))
theorem good_of (s : GLetterSheet) (h : sheetB s = true) : ∀ w ∈ s.Words, Good w := by
  intro w hw
  simp only [sheetB, Bool.and_eq_true, List.all_eq_true] at h
  have := h.1.1.2.2 w hw
  simp only [wordB, inB, Bool.and_eq_true, decide_eq_true_eq] at this
  exact ⟨by omega, by omega⟩
theorem letAlike_eq (s : GLetterSheet) (h : FineS s) : g_letter_Alike s = some (cond (sheetB s) (match find2 s.Words s.Words 0 with | some x => (x.1, x.2, 0) | none => (0, 0, 5) : Int × Int × Int) (0, 0, 2)) := by
  simp only [g_letter_Alike, isSheet_eq s h, Option.bind_some, h.2.2.1, cond_true]
  cases hs : sheetB s
  · rfl
  · have hg := good_of s hs
    simp only [cond_true, letAlike_l0_eq s h.2.2.1 hg s.Words 0 (by omega) (by simp) hg]
    cases find2 s.Words s.Words 0 <;> rfl
theorem refAlike_eq (s : GLetterSheet) (h : FineS s) (hs : sheetB s = true) : g_ref01_Alike s = some (match find2 s.Words s.Words 0 with | some x => (x.1, x.2, true) | none => (0, 0, false)) := by
  have hg := good_of s hs
  simp only [g_ref01_Alike, h.2.2.1, cond_true, refAlike_l0_eq s h.2.2.1 hg s.Words 0 (by omega) (by simp) hg]
  cases find2 s.Words s.Words 0 <;> rfl
theorem short_l0_some : ∀ (p : List GLetterWord) (i : Int), ∃ r, g_law01_short_l0 p i = some r ∧ (∀ k c, r ≠ .brk k c)
  | [], _ => ⟨_, rfl, by intro _ _ h; cases h⟩
  | e :: p, i => by
    obtain ⟨r, hr, h⟩ := short_l0_some p (i + 1)
    simp only [g_law01_short_l0, hr]
    cases decide (i < 6)
    · exact ⟨_, rfl, by intro _ _ h; cases h⟩
    · cases decide ((e.Signs.length : Int) > 8)
      · cases decide ((e.Cuts.length : Int) > 8)
        · exact ⟨_, rfl, h⟩
        · exact ⟨_, rfl, by intro _ _ h; cases h⟩
      · exact ⟨_, rfl, by intro _ _ h; cases h⟩
theorem short_some (s : GLetterSheet) (h : lenOk s.Words = true) : ∃ b, g_law01_short s = some b := by
  obtain ⟨r, hr, hk⟩ := short_l0_some s.Words 0
  simp only [g_law01_short, h, cond_true, hr]
  match r, hk with
  | .ret b, _ => exact ⟨_, rfl⟩
  | .go _, _ =>
    simp only [lbind]
    cases decide ((s.Widths.length : Int) ≤ 8)
    · exact ⟨_, rfl⟩
    · cases decide ((s.Pairs.length : Int) ≤ 8)
      · exact ⟨_, rfl⟩
      · exact ⟨_, rfl⟩
  | .brk k c, hk => exact absurd rfl (hk k c)
end Go.V
end
