/- Part of the proof of a statement of YtljphegpidbnjaaGreatDoor: a logic of values by content, the lifted functions, and what follows. -/
import Derived.Test.YtljphegpidbnjaaGreatDoorMbf
import Derived.Test.YtljphegpidbnjaaGreatDoorMbm
import Derived.Test.YtljphegpidbnjaaGreatDoorMbg
import Derived.Test.YtljphegpidbnjaaGreatDoorMbi
import Derived.Test.YtljphegpidbnjaaGreatDoorMbj
set_option linter.unusedVariables false
set_option linter.unusedSimpArgs false
set_option linter.unusedSectionVars false
set_option linter.constructorNameAsVariable false
section
namespace Go.V
open Go Go.Proofs
set_option linter.unusedSimpArgs false
set_option linter.unusedVariables false
set_option maxRecDepth 4000
def g_letter_Alike_l1 (c0_16 : Int) (e0 : GLetterWord) : List GLetterWord → Int → Int → Int → Int → Option (LOut (Int × Int × Int) (Int × Int × Int))
  | [], c1_9, c1_5, c1_6, c1_7 => some (.go (c1_5, c1_6, c1_7))
  | e1 :: p1, c1_9, c1_5, c1_6, c1_7 => Option.bind (g_letter_mistaken e0.Signs e1.Signs) (fun r3 => cond (r3) (some (.brk 0 (c0_16, c1_9, 0))) (g_letter_Alike_l1 c0_16 e0 p1 (c1_9 + 1) c1_5 c1_6 c1_7))
def g_letter_Alike_l0 (x0_s : GLetterSheet) : List GLetterWord → Int → Int → Int → Int → Option (LOut (Int × Int × Int) (Int × Int × Int))
  | [], c0_16, c0_5, c0_6, c0_7 => some (.go (c0_5, c0_6, c0_7))
  | e0 :: p0, c0_16, c0_5, c0_6, c0_7 => cond (lenOk x0_s.Words) (cond (leB 0 (IntKind.i64.wrap (c0_16 + 1))) (lbind (g_letter_Alike_l1 c0_16 e0 (List.drop (Int.toNat (IntKind.i64.wrap (c0_16 + 1))) x0_s.Words) (IntKind.i64.wrap (c0_16 + 1)) c0_5 c0_6 c0_7) (fun r => some (.ret r)) (fun c4 => g_letter_Alike_l0 x0_s p0 (c0_16 + 1) c4.1 c4.2.1 c4.2.2) (fun _ c5 => some (.go (c5.1, c5.2.1, c5.2.2)))) none) none
def g_letter_Alike (x0_s : GLetterSheet) : Option (Int × Int × Int) := Option.bind (g_letter_isSheet x0_s) (fun r2 => cond (r2) (cond (lenOk x0_s.Words) (lbind (g_letter_Alike_l0 x0_s x0_s.Words 0 0 0 5) (fun r => some r) (fun c6 => some (c6.1, c6.2.1, c6.2.2)) (fun _ _ => none)) none) (some (0, 0, 2)))
theorem g_letter_Alike_ok (x0_s : GLetterSheet) (R : Int × Int × Int) (h : g_letter_Alike x0_s = some R) : VPure Tryz.prog G0 16 [.agg (cGLetterSheet x0_s)] (.tree (.tup [.lit (.int .i64 R.1), .lit (.int .i64 R.2.1), .lit (.int .i64 R.2.2)])) := by
  refine VPure.runT mixed Tryz.call16 Tryz.func16 rfl (by simp [Tryz.ntmps16]; kernel_rfl) ?_
  obtain ⟨KF, h, kF, kN⟩ := fun_intro h
  simp only [g_letter_Alike] at h
  simp only [vs, cwp_label, ng_normal, ng_ret, ng_exit, cr, tyf, implies_true, Nat.reduceAdd, Nat.reduceMul, Nat.reduceEqDiff, Nat.reduceLeDiff, reduceIte, reduceCtorEq]
  refine cwp_scope mixed (by kernel_rfl) ?_
  cases o9 : (g_letter_isSheet x0_s) with
  | none =>
    simp only [o9, cond_true, cond_false, lbind_go, lbind_ret, lbind_brk, lbind_none, Option.bind_some, Option.bind_none, Bool.not_true, Bool.not_false, reduceCtorEq] at h
    exact absurd h kN
  | some r8 =>
    simp only [o9, cond_true, cond_false, lbind_go, lbind_ret, lbind_brk, lbind_none, Option.bind_some, Option.bind_none, Bool.not_true, Bool.not_false, reduceCtorEq] at h
    simp only [vs, cwp_label, ng_normal, ng_ret, ng_exit, cr, tyf, implies_true, Nat.reduceAdd, Nat.reduceMul, Nat.reduceEqDiff, Nat.reduceLeDiff, reduceIte, reduceCtorEq]
    refine ktree (args0 := [.agg (cGLetterSheet x0_s)]) (by first | (simp only [nrm, tynrm]; done) | (simp only [nrm, tynrm]; rfl) | rfl) (by simp only [tre, tytre, Bool.and_self]) (g_letter_isSheet_ok _ _ o9) ?_
    refine fin_cut (fun tm => tm 1 = .ptr 0 0 ∧ tm 11 = .lit (.bool r8) ∧ True) (by refine ⟨?_, ?_, trivial⟩ <;> first | (simp only [upd_apply, updH_apply, without_apply, implies_true, Nat.reduceAdd, Nat.reduceMul, Nat.reduceEqDiff, Nat.reduceLeDiff, reduceIte, reduceCtorEq]; done) | (simp only [upd_apply, updH_apply, without_apply, implies_true, Nat.reduceAdd, Nat.reduceMul, Nat.reduceEqDiff, Nat.reduceLeDiff, reduceIte, reduceCtorEq]; rfl) | rfl) ?_
    rintro tm ⟨e10, e11, _⟩
    cases d12 : (r8)
    · simp only [d12, cond_true, cond_false, lbind_go, lbind_ret, lbind_brk, lbind_none, Option.bind_some, Option.bind_none, Bool.not_true, Bool.not_false, reduceCtorEq] at h
      simp only [vs, cwp_label, ng_normal, ng_ret, ng_exit, cr, tyf, e10, e11, d12, implies_true, Nat.reduceAdd, Nat.reduceMul, Nat.reduceEqDiff, Nat.reduceLeDiff, reduceIte, reduceCtorEq]
      obtain rfl := kF _ h
      refine ret3 Tryz.results16 ?_ ?_
      · first | (simp only [outV, upd_apply, updH_apply, without_apply, showV_ref, cr, tyf, nrm, tynrm, e10, e11, d12, implies_true, Nat.reduceAdd, Nat.reduceMul, Nat.reduceEqDiff, Nat.reduceLeDiff, reduceIte, reduceCtorEq]; done) | (simp only [outV, upd_apply, updH_apply, without_apply, showV_ref, cr, tyf, nrm, tynrm, e10, e11, d12, implies_true, Nat.reduceAdd, Nat.reduceMul, Nat.reduceEqDiff, Nat.reduceLeDiff, reduceIte, reduceCtorEq]; rfl)
      · simp only [tre, tytre, Bool.and_self]
    · simp only [d12, cond_true, cond_false, lbind_go, lbind_ret, lbind_brk, lbind_none, Option.bind_some, Option.bind_none, Bool.not_true, Bool.not_false, reduceCtorEq] at h
      cases g14 : (lenOk x0_s.Words)
      · simp only [g14, cond_true, cond_false, lbind_go, lbind_ret, lbind_brk, lbind_none, Option.bind_some, Option.bind_none, Bool.not_true, Bool.not_false, reduceCtorEq] at h
        exact absurd h kN
      simp only [g14, cond_true, cond_false, lbind_go, lbind_ret, lbind_brk, lbind_none, Option.bind_some, Option.bind_none, Bool.not_true, Bool.not_false, reduceCtorEq] at h
      simp only [vs, cwp_label, ng_normal, ng_ret, ng_exit, cr, tyf, e10, e11, d12, g14, implies_true, Nat.reduceAdd, Nat.reduceMul, Nat.reduceEqDiff, Nat.reduceLeDiff, reduceIte, reduceCtorEq]
      obtain ⟨K13, h, kR13, kG13, kB13, kN13⟩ := lbind_intro h kN
      obtain ⟨f13, hf13, h⟩ := call5 h
      obtain ⟨I13, hI13⟩ : ∃ I : Nat → St → Prop, I = (fun m st => ∃ (p13 : List GLetterWord) (c13_16 : Int) (c13_5 : Int) (c13_6 : Int) (c13_7 : Int), m = List.length p13 ∧ 0 ≤ c13_16 ∧ List.drop (Int.toNat c13_16) x0_s.Words = p13 ∧ st.df = [] ∧ 1 ≤ st.nx ∧ st.H 0 = some (.cells (some 28) (cGLetterSheet x0_s)) ∧ st.tm 1 = .ptr 0 0 ∧ st.tm 15 = .lit (.int .i64 (List.length x0_s.Words : Int)) ∧ st.tm 5 = .lit (.int .i64 c13_5) ∧ st.tm 6 = .lit (.int .i64 c13_6) ∧ st.tm 7 = .lit (.int .i64 c13_7) ∧ st.tm 16 = .lit (.int .i64 c13_16) ∧ K13 (f13 p13 c13_16 c13_5 c13_6 c13_7)) := ⟨_, rfl⟩
      refine loopK mixed (by kernel_rfl) I13 (List.length x0_s.Words) (by rw [hI13]; refine ⟨x0_s.Words, 0, 0, 0, 5, rfl, Int.le_refl _, rfl, rfl, (show 1 ≤ 14 by decide), ?_, e10, ?_, ?_, ?_, ?_, ?_, h⟩ <;> first | (simp only [upd_apply, updH_apply, without_apply, e10, e11, d12, implies_true, Nat.reduceAdd, Nat.reduceMul, Nat.reduceEqDiff, Nat.reduceLeDiff, reduceIte, reduceCtorEq]; done) | (simp only [upd_apply, updH_apply, without_apply, e10, e11, d12, implies_true, Nat.reduceAdd, Nat.reduceMul, Nat.reduceEqDiff, Nat.reduceLeDiff, reduceIte, reduceCtorEq]; rfl) | rfl) ?_
      rintro m ⟨tm, H, nx, df⟩ hinv
      rw [hI13] at hinv
      obtain ⟨p13, c13_16, c13_5, c13_6, c13_7, rfl, hi13, hp13, hdf, hn13, H21, e15, e16, e17, e18, e19, e20, h⟩ := hinv
      simp only at hdf hn13 H21 e15 e16 e17 e18 e19 e20
      have q22 := fresh_ne (n := 0) (B := 1) (by decide) hn13
      subst hdf hf13
      cases p13 with
      | nil =>
        have d23 : (decide (c13_16 < (List.length x0_s.Words : Int))) = false := not_lt_of_drop hi13 hp13
        simp only [g_letter_Alike_l0, cond_true, cond_false, lbind_go, lbind_ret, lbind_brk, lbind_none, Option.bind_some, Option.bind_none, Bool.not_true, Bool.not_false, reduceCtorEq] at h
        replace h := kG13 _ h
        try dsimp only at h
        try simp only [cond_true, cond_false, lbind_go, lbind_ret, lbind_brk, lbind_none, Option.bind_some, Option.bind_none, Bool.not_true, Bool.not_false] at h
        simp only [vs, cwp_label, ng_normal, ng_ret, ng_exit, cr, tyf, d12, g14, e15, e16, e17, e18, e19, e20, H21, q22, d23, implies_true, Nat.reduceAdd, Nat.reduceMul, Nat.reduceEqDiff, Nat.reduceLeDiff, reduceIte, reduceCtorEq]
        obtain rfl := kF _ h
        refine ret3 Tryz.results16 ?_ ?_
        · first | (simp only [outV, upd_apply, updH_apply, without_apply, showV_ref, cr, tyf, nrm, tynrm, d12, g14, e15, e16, e17, e18, e19, e20, H21, q22, d23, implies_true, Nat.reduceAdd, Nat.reduceMul, Nat.reduceEqDiff, Nat.reduceLeDiff, reduceIte, reduceCtorEq]; done) | (simp only [outV, upd_apply, updH_apply, without_apply, showV_ref, cr, tyf, nrm, tynrm, d12, g14, e15, e16, e17, e18, e19, e20, H21, q22, d23, implies_true, Nat.reduceAdd, Nat.reduceMul, Nat.reduceEqDiff, Nat.reduceLeDiff, reduceIte, reduceCtorEq]; rfl)
        · simp only [tre, tytre, Bool.and_self]
      | cons e13 p13 =>
        have d24 : (decide (c13_16 < (List.length x0_s.Words : Int))) = true := lt_of_drop hi13 hp13
        have o26 := getI_of_drop hi13 hp13
        have w25 := wrap_next hi13 hp13 g14
        simp only [g_letter_Alike_l0, cond_true, cond_false, lbind_go, lbind_ret, lbind_brk, lbind_none, Option.bind_some, Option.bind_none, Bool.not_true, Bool.not_false, reduceCtorEq] at h
        cases g28 : (lenOk x0_s.Words)
        · simp only [g28, cond_true, cond_false, lbind_go, lbind_ret, lbind_brk, lbind_none, Option.bind_some, Option.bind_none, Bool.not_true, Bool.not_false, reduceCtorEq] at h
          exact absurd h kN13
        simp only [g28, cond_true, cond_false, lbind_go, lbind_ret, lbind_brk, lbind_none, Option.bind_some, Option.bind_none, Bool.not_true, Bool.not_false, reduceCtorEq] at h
        cases g29 : (leB 0 (IntKind.i64.wrap (c13_16 + 1)))
        · simp only [g29, cond_true, cond_false, lbind_go, lbind_ret, lbind_brk, lbind_none, Option.bind_some, Option.bind_none, Bool.not_true, Bool.not_false, reduceCtorEq] at h
          exact absurd h kN13
        simp only [g29, cond_true, cond_false, lbind_go, lbind_ret, lbind_brk, lbind_none, Option.bind_some, Option.bind_none, Bool.not_true, Bool.not_false, reduceCtorEq] at h
        simp only [vs, cwp_label, ng_normal, ng_ret, ng_exit, cr, tyf, d12, g14, e15, e16, e17, e18, e19, e20, H21, q22, d24, (ix26 o26), w25, g28, g29, implies_true, Nat.reduceAdd, Nat.reduceMul, Nat.reduceEqDiff, Nat.reduceLeDiff, reduceIte, reduceCtorEq]
        obtain ⟨K27, h, kR27, kG27, kB27, kN27⟩ := lbind_intro h kN13
        obtain ⟨f27, hf27, h⟩ := call5 h
        obtain ⟨I27, hI27⟩ : ∃ I : Nat → St → Prop, I = (fun m st => ∃ (p27 : List GLetterWord) (c27_9 : Int) (c27_5 : Int) (c27_6 : Int) (c27_7 : Int), m = List.length p27 ∧ 0 ≤ c27_9 ∧ List.drop (Int.toNat c27_9) x0_s.Words = p27 ∧ st.df = [] ∧ 1 ≤ st.nx ∧ st.H 0 = some (.cells (some 28) (cGLetterSheet x0_s)) ∧ st.tm 1 = .ptr 0 0 ∧ st.tm 8 = .lit (.int .i64 c13_16) ∧ st.tm 15 = .lit (.int .i64 (List.length x0_s.Words : Int)) ∧ st.tm 16 = .lit (.int .i64 c13_16) ∧ st.tm 5 = .lit (.int .i64 c27_5) ∧ st.tm 6 = .lit (.int .i64 c27_6) ∧ st.tm 7 = .lit (.int .i64 c27_7) ∧ st.tm 9 = .lit (.int .i64 c27_9) ∧ K27 (f27 p27 c27_9 c27_5 c27_6 c27_7)) := ⟨_, rfl⟩
        refine loopK mixed (by kernel_rfl) I27 (List.length (List.drop (Int.toNat (IntKind.i64.wrap (c13_16 + 1))) x0_s.Words)) (by rw [hI27]; refine ⟨List.drop (Int.toNat (IntKind.i64.wrap (c13_16 + 1))) x0_s.Words, IntKind.i64.wrap (c13_16 + 1), c13_5, c13_6, c13_7, rfl, of_decide_eq_true g29, rfl, rfl, (show 1 ≤ nx + 6 by omega), ?_, e15, ?_, e16, e20, e17, e18, e19, ?_, h⟩ <;> first | (simp only [upd_apply, updH_apply, without_apply, d12, e15, e16, e17, e18, e19, e20, H21, q22, d24, w25, implies_true, Nat.reduceAdd, Nat.reduceMul, Nat.reduceEqDiff, Nat.reduceLeDiff, reduceIte, reduceCtorEq]; done) | (simp only [upd_apply, updH_apply, without_apply, d12, e15, e16, e17, e18, e19, e20, H21, q22, d24, w25, implies_true, Nat.reduceAdd, Nat.reduceMul, Nat.reduceEqDiff, Nat.reduceLeDiff, reduceIte, reduceCtorEq]; rfl) | rfl) ?_
        rintro m ⟨tm, H, nx, df⟩ hinv
        rw [hI27] at hinv
        obtain ⟨p27, c27_9, c27_5, c27_6, c27_7, rfl, hi27, hp27, hdf, hn27, H38, e30, e31, e32, e33, e34, e35, e36, e37, h⟩ := hinv
        simp only at hdf hn27 H38 e30 e31 e32 e33 e34 e35 e36 e37
        have q39 := fresh_ne (n := 0) (B := 1) (by decide) hn27
        subst hdf hf27
        cases p27 with
        | nil =>
          have d40 : (decide (c27_9 < (List.length x0_s.Words : Int))) = false := not_lt_of_drop hi27 hp27
          simp only [g_letter_Alike_l1, cond_true, cond_false, lbind_go, lbind_ret, lbind_brk, lbind_none, Option.bind_some, Option.bind_none, Bool.not_true, Bool.not_false, reduceCtorEq] at h
          replace h := kG27 _ h
          try dsimp only at h
          try simp only [cond_true, cond_false, lbind_go, lbind_ret, lbind_brk, lbind_none, Option.bind_some, Option.bind_none, Bool.not_true, Bool.not_false] at h
          simp only [vs, cwp_label, ng_normal, ng_ret, ng_exit, cr, tyf, d12, g14, d24, (ix26 o26), w25, g28, g29, e30, e31, e32, e33, e34, e35, e36, e37, H38, q39, d40, implies_true, Nat.reduceAdd, Nat.reduceMul, Nat.reduceEqDiff, Nat.reduceLeDiff, reduceIte, reduceCtorEq]
          exact ⟨List.length p13, Nat.lt_succ_self _, by rw [hI13]; refine ⟨p13, c13_16 + 1, c27_5, c27_6, c27_7, rfl, Int.le_trans hi13 (Int.le_add_one (Int.le_refl _)), drop_next hi13 hp13, rfl, (show 1 ≤ nx + 7 by omega), ?_, e30, e32, e34, e35, e36, ?_, h⟩ <;> first | (simp only [upd_apply, updH_apply, without_apply, d12, d24, w25, e30, e31, e32, e33, e34, e35, e36, e37, H38, q39, d40, implies_true, Nat.reduceAdd, Nat.reduceMul, Nat.reduceEqDiff, Nat.reduceLeDiff, reduceIte, reduceCtorEq]; done) | (simp only [upd_apply, updH_apply, without_apply, d12, d24, w25, e30, e31, e32, e33, e34, e35, e36, e37, H38, q39, d40, implies_true, Nat.reduceAdd, Nat.reduceMul, Nat.reduceEqDiff, Nat.reduceLeDiff, reduceIte, reduceCtorEq]; rfl) | rfl⟩
        | cons e27 p27 =>
          have d41 : (decide (c27_9 < (List.length x0_s.Words : Int))) = true := lt_of_drop hi27 hp27
          have o43 := getI_of_drop hi27 hp27
          have w42 := wrap_next hi27 hp27 g28
          simp only [g_letter_Alike_l1, cond_true, cond_false, lbind_go, lbind_ret, lbind_brk, lbind_none, Option.bind_some, Option.bind_none, Bool.not_true, Bool.not_false, reduceCtorEq] at h
          simp only [vs, cwp_label, ng_normal, ng_ret, ng_exit, cr, tyf, d12, g14, d24, (ix26 o26), w25, g28, g29, e30, e31, e32, e33, e34, e35, e36, e37, H38, q39, d41, (ix26 o43), w42, implies_true, Nat.reduceAdd, Nat.reduceMul, Nat.reduceEqDiff, Nat.reduceLeDiff, reduceIte, reduceCtorEq]
          refine cwp_drwQF (fun tm => tm 1 = .ptr 0 0 ∧ tm 5 = .lit (.int .i64 c27_5) ∧ tm 6 = .lit (.int .i64 c27_6) ∧ tm 7 = .lit (.int .i64 c27_7) ∧ tm 8 = .lit (.int .i64 c13_16) ∧ tm 9 = .lit (.int .i64 c27_9) ∧ tm 15 = .lit (.int .i64 (List.length x0_s.Words : Int)) ∧ tm 16 = .lit (.int .i64 c13_16) ∧ True) (by refine ⟨e30, e34, e35, e36, e31, e37, e32, e33, trivial⟩ <;> first | (simp only [upd_apply, updH_apply, without_apply, d12, d24, w25, e30, e31, e32, e33, e34, e35, e36, e37, H38, q39, d41, w42, implies_true, Nat.reduceAdd, Nat.reduceMul, Nat.reduceEqDiff, Nat.reduceLeDiff, reduceIte, reduceCtorEq]; done) | (simp only [upd_apply, updH_apply, without_apply, d12, d24, w25, e30, e31, e32, e33, e34, e35, e36, e37, H38, q39, d41, w42, implies_true, Nat.reduceAdd, Nat.reduceMul, Nat.reduceEqDiff, Nat.reduceLeDiff, reduceIte, reduceCtorEq]; rfl) | rfl) ?_
          rintro tm ⟨e44, e45, e46, e47, e48, e49, e50, e51, _⟩
          cases o53 : (g_letter_mistaken e13.Signs e27.Signs) with
          | none =>
            simp only [o53, cond_true, cond_false, lbind_go, lbind_ret, lbind_brk, lbind_none, Option.bind_some, Option.bind_none, Bool.not_true, Bool.not_false, reduceCtorEq] at h
            exact absurd h kN27
          | some r52 =>
            simp only [o53, cond_true, cond_false, lbind_go, lbind_ret, lbind_brk, lbind_none, Option.bind_some, Option.bind_none, Bool.not_true, Bool.not_false, reduceCtorEq] at h
            simp only [vs, cwp_label, ng_normal, ng_ret, ng_exit, cr, tyf, d12, g14, d24, (ix26 o26), w25, g28, g29, H38, q39, d41, (ix26 o43), w42, e44, e45, e46, e47, e48, e49, e50, e51, implies_true, Nat.reduceAdd, Nat.reduceMul, Nat.reduceEqDiff, Nat.reduceLeDiff, reduceIte, reduceCtorEq]
            refine dktree (args0 := [.sl (cellsL eI e13.Signs) (List.length e13.Signs) false, .sl (cellsL eI e27.Signs) (List.length e27.Signs) false]) (by first | (simp only [nrm, tynrm]; done) | (simp only [nrm, tynrm]; rfl) | rfl) (by simp only [tre, tytre, Bool.and_self]) (g_letter_mistaken_ok _ _ _ o53) ?_
            refine fin_cut (fun tm => tm 1 = .ptr 0 0 ∧ tm 5 = .lit (.int .i64 c27_5) ∧ tm 6 = .lit (.int .i64 c27_6) ∧ tm 7 = .lit (.int .i64 c27_7) ∧ tm 8 = .lit (.int .i64 c13_16) ∧ tm 9 = .lit (.int .i64 c27_9) ∧ tm 15 = .lit (.int .i64 (List.length x0_s.Words : Int)) ∧ tm 16 = .lit (.int .i64 c13_16) ∧ tm 40 = .lit (.bool r52) ∧ True) (by refine ⟨e44, e45, e46, e47, e48, e49, e50, e51, ?_, trivial⟩ <;> first | (simp only [upd_apply, updH_apply, without_apply, d12, d24, w25, H38, q39, d41, w42, e44, e45, e46, e47, e48, e49, e50, e51, implies_true, Nat.reduceAdd, Nat.reduceMul, Nat.reduceEqDiff, Nat.reduceLeDiff, reduceIte, reduceCtorEq]; done) | (simp only [upd_apply, updH_apply, without_apply, d12, d24, w25, H38, q39, d41, w42, e44, e45, e46, e47, e48, e49, e50, e51, implies_true, Nat.reduceAdd, Nat.reduceMul, Nat.reduceEqDiff, Nat.reduceLeDiff, reduceIte, reduceCtorEq]; rfl) | rfl) ?_
            rintro tm ⟨e54, e55, e56, e57, e58, e59, e60, e61, e62, _⟩
            cases d63 : (r52)
            · simp only [d63, cond_true, cond_false, lbind_go, lbind_ret, lbind_brk, lbind_none, Option.bind_some, Option.bind_none, Bool.not_true, Bool.not_false, reduceCtorEq] at h
              simp only [vs, cwp_label, ng_normal, ng_ret, ng_exit, cr, tyf, d12, g14, d24, (ix26 o26), w25, g28, g29, H38, q39, d41, (ix26 o43), w42, e54, e55, e56, e57, e58, e59, e60, e61, e62, d63, implies_true, Nat.reduceAdd, Nat.reduceMul, Nat.reduceEqDiff, Nat.reduceLeDiff, reduceIte, reduceCtorEq]
              exact ⟨List.length p27, Nat.lt_succ_self _, by rw [hI27]; refine ⟨p27, c27_9 + 1, c27_5, c27_6, c27_7, rfl, Int.le_trans hi27 (Int.le_add_one (Int.le_refl _)), drop_next hi27 hp27, rfl, (show 1 ≤ nx + 21 by omega), ?_, e54, e58, e60, e61, e55, e56, e57, ?_, h⟩ <;> first | (simp only [upd_apply, updH_apply, without_apply, d12, d24, w25, H38, q39, d41, w42, e54, e55, e56, e57, e58, e59, e60, e61, e62, d63, implies_true, Nat.reduceAdd, Nat.reduceMul, Nat.reduceEqDiff, Nat.reduceLeDiff, reduceIte, reduceCtorEq]; done) | (simp only [upd_apply, updH_apply, without_apply, d12, d24, w25, H38, q39, d41, w42, e54, e55, e56, e57, e58, e59, e60, e61, e62, d63, implies_true, Nat.reduceAdd, Nat.reduceMul, Nat.reduceEqDiff, Nat.reduceLeDiff, reduceIte, reduceCtorEq]; rfl) | rfl⟩
            · simp only [d63, cond_true, cond_false, lbind_go, lbind_ret, lbind_brk, lbind_none, Option.bind_some, Option.bind_none, Bool.not_true, Bool.not_false, reduceCtorEq] at h
              replace h := kB27 _ _ h
              try dsimp only at h
              try simp only [cond_true, cond_false, lbind_go, lbind_ret, lbind_brk, lbind_none, Option.bind_some, Option.bind_none, Bool.not_true, Bool.not_false] at h
              replace h := kG13 _ h
              try dsimp only at h
              try simp only [cond_true, cond_false, lbind_go, lbind_ret, lbind_brk, lbind_none, Option.bind_some, Option.bind_none, Bool.not_true, Bool.not_false] at h
              simp only [vs, cwp_label, ng_normal, ng_ret, ng_exit, cr, tyf, d12, g14, d24, (ix26 o26), w25, g28, g29, H38, q39, d41, (ix26 o43), w42, e54, e55, e56, e57, e58, e59, e60, e61, e62, d63, implies_true, Nat.reduceAdd, Nat.reduceMul, Nat.reduceEqDiff, Nat.reduceLeDiff, reduceIte, reduceCtorEq]
              obtain rfl := kF _ h
              refine ret3 Tryz.results16 ?_ ?_
              · first | (simp only [outV, upd_apply, updH_apply, without_apply, showV_ref, cr, tyf, nrm, tynrm, d12, g14, d24, (ix26 o26), w25, g28, g29, H38, q39, d41, (ix26 o43), w42, e54, e55, e56, e57, e58, e59, e60, e61, e62, d63, implies_true, Nat.reduceAdd, Nat.reduceMul, Nat.reduceEqDiff, Nat.reduceLeDiff, reduceIte, reduceCtorEq]; done) | (simp only [outV, upd_apply, updH_apply, without_apply, showV_ref, cr, tyf, nrm, tynrm, d12, g14, d24, (ix26 o26), w25, g28, g29, H38, q39, d41, (ix26 o43), w42, e54, e55, e56, e57, e58, e59, e60, e61, e62, d63, implies_true, Nat.reduceAdd, Nat.reduceMul, Nat.reduceEqDiff, Nat.reduceLeDiff, reduceIte, reduceCtorEq]; rfl)
              · simp only [tre, tytre, Bool.and_self]

end Go.V
end
section
namespace Go.V
open Go Go.Proofs
set_option linter.unusedSimpArgs false
set_option linter.unusedVariables false
set_option maxRecDepth 4000
def g_law01_LetterAlikes (x0_s : GLetterSheet) : Option (Bool) := Option.bind (g_law01_short x0_s) (fun r2 => cond (r2) (Option.bind (g_letter_Alike x0_s) (fun r3 => Option.bind (g_ref01_Sheet x0_s) (fun r4 => cond (r4) (Option.bind (g_ref01_Alike x0_s) (fun r5 => cond (r5.2.2) (cond (r3.2.2 == 0) (cond (r3.1 == r5.1) (cond (r3.2.1 == r5.2.1) (Option.bind (g_law01_known ) (fun r6 => some r6)) (some false)) (some false)) (some false)) (cond (r3.2.2 == 5) (cond (r3.1 == 0) (cond (r3.2.1 == 0) (Option.bind (g_law01_known ) (fun r7 => some r7)) (some false)) (some false)) (some false)))) (cond (r3.2.2 == 2) (cond (r3.1 == 0) (cond (r3.2.1 == 0) (Option.bind (g_law01_known ) (fun r8 => some r8)) (some false)) (some false)) (some false))))) (Option.bind (g_law01_known ) (fun r9 => some r9)))
theorem g_law01_LetterAlikes_ok (x0_s : GLetterSheet) (R : Bool) (h : g_law01_LetterAlikes x0_s = some R) : VPure Tryz.prog G0 4 [.agg (cGLetterSheet x0_s)] (.tree (.lit (.bool R))) := by
  refine VPure.runT mixed Tryz.call4 Tryz.func4 rfl (by simp [Tryz.ntmps4]; kernel_rfl) ?_
  obtain ⟨KF, h, kF, kN⟩ := fun_intro h
  simp only [g_law01_LetterAlikes] at h
  cases o12 : (g_law01_short x0_s) with
  | none =>
    simp only [o12, cond_true, cond_false, lbind_go, lbind_ret, lbind_brk, lbind_none, Option.bind_some, Option.bind_none, Bool.not_true, Bool.not_false, reduceCtorEq] at h
    exact absurd h kN
  | some r11 =>
    simp only [o12, cond_true, cond_false, lbind_go, lbind_ret, lbind_brk, lbind_none, Option.bind_some, Option.bind_none, Bool.not_true, Bool.not_false, reduceCtorEq] at h
    simp only [vs, cwp_label, ng_normal, ng_ret, ng_exit, cr, tyf, implies_true, Nat.reduceAdd, Nat.reduceMul, Nat.reduceEqDiff, Nat.reduceLeDiff, reduceIte, reduceCtorEq]
    refine ktree (args0 := [.agg (cGLetterSheet x0_s)]) (by first | (simp only [nrm, tynrm]; done) | (simp only [nrm, tynrm]; rfl) | rfl) (by simp only [tre, tytre, Bool.and_self]) (g_law01_short_ok _ _ o12) ?_
    refine fin_cut (fun tm => tm 1 = .ptr 0 0 ∧ tm 10 = .lit (.bool r11) ∧ True) (by refine ⟨?_, ?_, trivial⟩ <;> first | (simp only [upd_apply, updH_apply, without_apply, implies_true, Nat.reduceAdd, Nat.reduceMul, Nat.reduceEqDiff, Nat.reduceLeDiff, reduceIte, reduceCtorEq]; done) | (simp only [upd_apply, updH_apply, without_apply, implies_true, Nat.reduceAdd, Nat.reduceMul, Nat.reduceEqDiff, Nat.reduceLeDiff, reduceIte, reduceCtorEq]; rfl) | rfl) ?_
    rintro tm ⟨e13, e14, _⟩
    cases d15 : (r11)
    · simp only [d15, cond_true, cond_false, lbind_go, lbind_ret, lbind_brk, lbind_none, Option.bind_some, Option.bind_none, Bool.not_true, Bool.not_false, reduceCtorEq] at h
      cases o17 : (g_law01_known ) with
      | none =>
        simp only [o17, cond_true, cond_false, lbind_go, lbind_ret, lbind_brk, lbind_none, Option.bind_some, Option.bind_none, Bool.not_true, Bool.not_false, reduceCtorEq] at h
        exact absurd h kN
      | some r16 =>
        simp only [o17, cond_true, cond_false, lbind_go, lbind_ret, lbind_brk, lbind_none, Option.bind_some, Option.bind_none, Bool.not_true, Bool.not_false, reduceCtorEq] at h
        simp only [vs, cwp_label, ng_normal, ng_ret, ng_exit, cr, tyf, e13, e14, d15, implies_true, Nat.reduceAdd, Nat.reduceMul, Nat.reduceEqDiff, Nat.reduceLeDiff, reduceIte, reduceCtorEq]
        refine ktree (args0 := []) (by first | (simp only [nrm, tynrm]; done) | (simp only [nrm, tynrm]; rfl) | rfl) (by simp only [tre, tytre, Bool.and_self]) (g_law01_known_ok  _ o17) ?_
        refine fin_cut (fun tm => tm 12 = .lit (.bool r16) ∧ True) (by refine ⟨?_, trivial⟩ <;> first | (simp only [upd_apply, updH_apply, without_apply, e13, e14, d15, implies_true, Nat.reduceAdd, Nat.reduceMul, Nat.reduceEqDiff, Nat.reduceLeDiff, reduceIte, reduceCtorEq]; done) | (simp only [upd_apply, updH_apply, without_apply, e13, e14, d15, implies_true, Nat.reduceAdd, Nat.reduceMul, Nat.reduceEqDiff, Nat.reduceLeDiff, reduceIte, reduceCtorEq]; rfl) | rfl) ?_
        rintro tm ⟨e18, _⟩
        simp only [vs, cwp_label, ng_normal, ng_ret, ng_exit, cr, tyf, d15, e18, implies_true, Nat.reduceAdd, Nat.reduceMul, Nat.reduceEqDiff, Nat.reduceLeDiff, reduceIte, reduceCtorEq]
        obtain rfl := kF _ h
        refine ret1 Tryz.results4 ?_ ?_
        · first | (simp only [outV, upd_apply, updH_apply, without_apply, showV_ref, cr, tyf, nrm, tynrm, d15, e18, implies_true, Nat.reduceAdd, Nat.reduceMul, Nat.reduceEqDiff, Nat.reduceLeDiff, reduceIte, reduceCtorEq]; done) | (simp only [outV, upd_apply, updH_apply, without_apply, showV_ref, cr, tyf, nrm, tynrm, d15, e18, implies_true, Nat.reduceAdd, Nat.reduceMul, Nat.reduceEqDiff, Nat.reduceLeDiff, reduceIte, reduceCtorEq]; rfl)
        · simp only [tre, tytre, Bool.and_self]
    · simp only [d15, cond_true, cond_false, lbind_go, lbind_ret, lbind_brk, lbind_none, Option.bind_some, Option.bind_none, Bool.not_true, Bool.not_false, reduceCtorEq] at h
      cases o20 : (g_letter_Alike x0_s) with
      | none =>
        simp only [o20, cond_true, cond_false, lbind_go, lbind_ret, lbind_brk, lbind_none, Option.bind_some, Option.bind_none, Bool.not_true, Bool.not_false, reduceCtorEq] at h
        exact absurd h kN
      | some r19 =>
        simp only [o20, cond_true, cond_false, lbind_go, lbind_ret, lbind_brk, lbind_none, Option.bind_some, Option.bind_none, Bool.not_true, Bool.not_false, reduceCtorEq] at h
        simp only [vs, cwp_label, ng_normal, ng_ret, ng_exit, cr, tyf, e13, e14, d15, implies_true, Nat.reduceAdd, Nat.reduceMul, Nat.reduceEqDiff, Nat.reduceLeDiff, reduceIte, reduceCtorEq]
        refine ktree (args0 := [.agg (cGLetterSheet x0_s)]) (by first | (simp only [nrm, tynrm]; done) | (simp only [nrm, tynrm]; rfl) | rfl) (by simp only [tre, tytre, Bool.and_self]) (g_letter_Alike_ok _ _ o20) ?_
        refine fin_cut (fun tm => tm 1 = .ptr 0 0 ∧ tm 15 = .tup [.lit (.int .i64 r19.1), .lit (.int .i64 r19.2.1), .lit (.int .i64 r19.2.2)] ∧ True) (by refine ⟨e13, ?_, trivial⟩ <;> first | (simp only [upd_apply, updH_apply, without_apply, e13, e14, d15, implies_true, Nat.reduceAdd, Nat.reduceMul, Nat.reduceEqDiff, Nat.reduceLeDiff, reduceIte, reduceCtorEq]; done) | (simp only [upd_apply, updH_apply, without_apply, e13, e14, d15, implies_true, Nat.reduceAdd, Nat.reduceMul, Nat.reduceEqDiff, Nat.reduceLeDiff, reduceIte, reduceCtorEq]; rfl) | rfl) ?_
        rintro tm ⟨e21, e22, _⟩
        cases o24 : (g_ref01_Sheet x0_s) with
        | none =>
          simp only [o24, cond_true, cond_false, lbind_go, lbind_ret, lbind_brk, lbind_none, Option.bind_some, Option.bind_none, Bool.not_true, Bool.not_false, reduceCtorEq] at h
          exact absurd h kN
        | some r23 =>
          simp only [o24, cond_true, cond_false, lbind_go, lbind_ret, lbind_brk, lbind_none, Option.bind_some, Option.bind_none, Bool.not_true, Bool.not_false, reduceCtorEq] at h
          simp only [vs, cwp_label, ng_normal, ng_ret, ng_exit, cr, tyf, d15, e21, e22, implies_true, Nat.reduceAdd, Nat.reduceMul, Nat.reduceEqDiff, Nat.reduceLeDiff, reduceIte, reduceCtorEq]
          refine ktree (args0 := [.agg (cGLetterSheet x0_s)]) (by first | (simp only [nrm, tynrm]; done) | (simp only [nrm, tynrm]; rfl) | rfl) (by simp only [tre, tytre, Bool.and_self]) (g_ref01_Sheet_ok _ _ o24) ?_
          refine fin_cut (fun tm => tm 1 = .ptr 0 0 ∧ tm 3 = .lit (.int .i64 r19.1) ∧ tm 4 = .lit (.int .i64 r19.2.1) ∧ tm 5 = .lit (.int .i64 r19.2.2) ∧ tm 20 = .lit (.bool r23) ∧ True) (by refine ⟨e21, ?_, ?_, ?_, ?_, trivial⟩ <;> first | (simp only [upd_apply, updH_apply, without_apply, d15, e21, e22, implies_true, Nat.reduceAdd, Nat.reduceMul, Nat.reduceEqDiff, Nat.reduceLeDiff, reduceIte, reduceCtorEq]; done) | (simp only [upd_apply, updH_apply, without_apply, d15, e21, e22, implies_true, Nat.reduceAdd, Nat.reduceMul, Nat.reduceEqDiff, Nat.reduceLeDiff, reduceIte, reduceCtorEq]; rfl) | rfl) ?_
          rintro tm ⟨e25, e26, e27, e28, e29, _⟩
          cases d30 : (r23)
          · simp only [d30, cond_true, cond_false, lbind_go, lbind_ret, lbind_brk, lbind_none, Option.bind_some, Option.bind_none, Bool.not_true, Bool.not_false, reduceCtorEq] at h
            cases d31 : (r19.2.2 == 2)
            · simp only [d31, cond_true, cond_false, lbind_go, lbind_ret, lbind_brk, lbind_none, Option.bind_some, Option.bind_none, Bool.not_true, Bool.not_false, reduceCtorEq] at h
              simp only [vs, cwp_label, ng_normal, ng_ret, ng_exit, cr, tyf, d15, e25, e26, e27, e28, e29, d30, d31, implies_true, Nat.reduceAdd, Nat.reduceMul, Nat.reduceEqDiff, Nat.reduceLeDiff, reduceIte, reduceCtorEq]
              obtain rfl := kF _ h
              refine ret1 Tryz.results4 ?_ ?_
              · first | (simp only [outV, upd_apply, updH_apply, without_apply, showV_ref, cr, tyf, nrm, tynrm, d15, e25, e26, e27, e28, e29, d30, d31, implies_true, Nat.reduceAdd, Nat.reduceMul, Nat.reduceEqDiff, Nat.reduceLeDiff, reduceIte, reduceCtorEq]; done) | (simp only [outV, upd_apply, updH_apply, without_apply, showV_ref, cr, tyf, nrm, tynrm, d15, e25, e26, e27, e28, e29, d30, d31, implies_true, Nat.reduceAdd, Nat.reduceMul, Nat.reduceEqDiff, Nat.reduceLeDiff, reduceIte, reduceCtorEq]; rfl)
              · simp only [tre, tytre, Bool.and_self]
            · simp only [d31, cond_true, cond_false, lbind_go, lbind_ret, lbind_brk, lbind_none, Option.bind_some, Option.bind_none, Bool.not_true, Bool.not_false, reduceCtorEq] at h
              cases d32 : (r19.1 == 0)
              · simp only [d32, cond_true, cond_false, lbind_go, lbind_ret, lbind_brk, lbind_none, Option.bind_some, Option.bind_none, Bool.not_true, Bool.not_false, reduceCtorEq] at h
                simp only [vs, cwp_label, ng_normal, ng_ret, ng_exit, cr, tyf, d15, e25, e26, e27, e28, e29, d30, d31, d32, implies_true, Nat.reduceAdd, Nat.reduceMul, Nat.reduceEqDiff, Nat.reduceLeDiff, reduceIte, reduceCtorEq]
                obtain rfl := kF _ h
                refine ret1 Tryz.results4 ?_ ?_
                · first | (simp only [outV, upd_apply, updH_apply, without_apply, showV_ref, cr, tyf, nrm, tynrm, d15, e25, e26, e27, e28, e29, d30, d31, d32, implies_true, Nat.reduceAdd, Nat.reduceMul, Nat.reduceEqDiff, Nat.reduceLeDiff, reduceIte, reduceCtorEq]; done) | (simp only [outV, upd_apply, updH_apply, without_apply, showV_ref, cr, tyf, nrm, tynrm, d15, e25, e26, e27, e28, e29, d30, d31, d32, implies_true, Nat.reduceAdd, Nat.reduceMul, Nat.reduceEqDiff, Nat.reduceLeDiff, reduceIte, reduceCtorEq]; rfl)
                · simp only [tre, tytre, Bool.and_self]
              · simp only [d32, cond_true, cond_false, lbind_go, lbind_ret, lbind_brk, lbind_none, Option.bind_some, Option.bind_none, Bool.not_true, Bool.not_false, reduceCtorEq] at h
                cases d33 : (r19.2.1 == 0)
                · simp only [d33, cond_true, cond_false, lbind_go, lbind_ret, lbind_brk, lbind_none, Option.bind_some, Option.bind_none, Bool.not_true, Bool.not_false, reduceCtorEq] at h
                  simp only [vs, cwp_label, ng_normal, ng_ret, ng_exit, cr, tyf, d15, e25, e26, e27, e28, e29, d30, d31, d32, d33, implies_true, Nat.reduceAdd, Nat.reduceMul, Nat.reduceEqDiff, Nat.reduceLeDiff, reduceIte, reduceCtorEq]
                  obtain rfl := kF _ h
                  refine ret1 Tryz.results4 ?_ ?_
                  · first | (simp only [outV, upd_apply, updH_apply, without_apply, showV_ref, cr, tyf, nrm, tynrm, d15, e25, e26, e27, e28, e29, d30, d31, d32, d33, implies_true, Nat.reduceAdd, Nat.reduceMul, Nat.reduceEqDiff, Nat.reduceLeDiff, reduceIte, reduceCtorEq]; done) | (simp only [outV, upd_apply, updH_apply, without_apply, showV_ref, cr, tyf, nrm, tynrm, d15, e25, e26, e27, e28, e29, d30, d31, d32, d33, implies_true, Nat.reduceAdd, Nat.reduceMul, Nat.reduceEqDiff, Nat.reduceLeDiff, reduceIte, reduceCtorEq]; rfl)
                  · simp only [tre, tytre, Bool.and_self]
                · simp only [d33, cond_true, cond_false, lbind_go, lbind_ret, lbind_brk, lbind_none, Option.bind_some, Option.bind_none, Bool.not_true, Bool.not_false, reduceCtorEq] at h
                  cases o35 : (g_law01_known ) with
                  | none =>
                    simp only [o35, cond_true, cond_false, lbind_go, lbind_ret, lbind_brk, lbind_none, Option.bind_some, Option.bind_none, Bool.not_true, Bool.not_false, reduceCtorEq] at h
                    exact absurd h kN
                  | some r34 =>
                    simp only [o35, cond_true, cond_false, lbind_go, lbind_ret, lbind_brk, lbind_none, Option.bind_some, Option.bind_none, Bool.not_true, Bool.not_false, reduceCtorEq] at h
                    simp only [vs, cwp_label, ng_normal, ng_ret, ng_exit, cr, tyf, d15, e25, e26, e27, e28, e29, d30, d31, d32, d33, implies_true, Nat.reduceAdd, Nat.reduceMul, Nat.reduceEqDiff, Nat.reduceLeDiff, reduceIte, reduceCtorEq]
                    refine ktree (args0 := []) (by first | (simp only [nrm, tynrm]; done) | (simp only [nrm, tynrm]; rfl) | rfl) (by simp only [tre, tytre, Bool.and_self]) (g_law01_known_ok  _ o35) ?_
                    refine fin_cut (fun tm => tm 32 = .lit (.bool true) ∧ tm 33 = .lit (.bool r34) ∧ True) (by refine ⟨?_, ?_, trivial⟩ <;> first | (simp only [upd_apply, updH_apply, without_apply, d15, e25, e26, e27, e28, e29, d30, d31, d32, d33, implies_true, Nat.reduceAdd, Nat.reduceMul, Nat.reduceEqDiff, Nat.reduceLeDiff, reduceIte, reduceCtorEq]; done) | (simp only [upd_apply, updH_apply, without_apply, d15, e25, e26, e27, e28, e29, d30, d31, d32, d33, implies_true, Nat.reduceAdd, Nat.reduceMul, Nat.reduceEqDiff, Nat.reduceLeDiff, reduceIte, reduceCtorEq]; rfl) | rfl) ?_
                    rintro tm ⟨e36, e37, _⟩
                    simp only [vs, cwp_label, ng_normal, ng_ret, ng_exit, cr, tyf, d15, d30, d31, d32, d33, e36, e37, implies_true, Nat.reduceAdd, Nat.reduceMul, Nat.reduceEqDiff, Nat.reduceLeDiff, reduceIte, reduceCtorEq]
                    obtain rfl := kF _ h
                    refine ret1 Tryz.results4 ?_ ?_
                    · first | (simp only [outV, upd_apply, updH_apply, without_apply, showV_ref, cr, tyf, nrm, tynrm, d15, d30, d31, d32, d33, e36, e37, implies_true, Nat.reduceAdd, Nat.reduceMul, Nat.reduceEqDiff, Nat.reduceLeDiff, reduceIte, reduceCtorEq]; done) | (simp only [outV, upd_apply, updH_apply, without_apply, showV_ref, cr, tyf, nrm, tynrm, d15, d30, d31, d32, d33, e36, e37, implies_true, Nat.reduceAdd, Nat.reduceMul, Nat.reduceEqDiff, Nat.reduceLeDiff, reduceIte, reduceCtorEq]; rfl)
                    · simp only [tre, tytre, Bool.and_self]
          · simp only [d30, cond_true, cond_false, lbind_go, lbind_ret, lbind_brk, lbind_none, Option.bind_some, Option.bind_none, Bool.not_true, Bool.not_false, reduceCtorEq] at h
            cases o39 : (g_ref01_Alike x0_s) with
            | none =>
              simp only [o39, cond_true, cond_false, lbind_go, lbind_ret, lbind_brk, lbind_none, Option.bind_some, Option.bind_none, Bool.not_true, Bool.not_false, reduceCtorEq] at h
              exact absurd h kN
            | some r38 =>
              simp only [o39, cond_true, cond_false, lbind_go, lbind_ret, lbind_brk, lbind_none, Option.bind_some, Option.bind_none, Bool.not_true, Bool.not_false, reduceCtorEq] at h
              simp only [vs, cwp_label, ng_normal, ng_ret, ng_exit, cr, tyf, d15, e25, e26, e27, e28, e29, d30, implies_true, Nat.reduceAdd, Nat.reduceMul, Nat.reduceEqDiff, Nat.reduceLeDiff, reduceIte, reduceCtorEq]
              refine ktree (args0 := [.agg (cGLetterSheet x0_s)]) (by first | (simp only [nrm, tynrm]; done) | (simp only [nrm, tynrm]; rfl) | rfl) (by simp only [tre, tytre, Bool.and_self]) (g_ref01_Alike_ok _ _ o39) ?_
              refine fin_cut (fun tm => tm 3 = .lit (.int .i64 r19.1) ∧ tm 4 = .lit (.int .i64 r19.2.1) ∧ tm 5 = .lit (.int .i64 r19.2.2) ∧ tm 37 = .tup [.lit (.int .i64 r38.1), .lit (.int .i64 r38.2.1), .lit (.bool r38.2.2)] ∧ True) (by refine ⟨e26, e27, e28, ?_, trivial⟩ <;> first | (simp only [upd_apply, updH_apply, without_apply, d15, e25, e26, e27, e28, e29, d30, implies_true, Nat.reduceAdd, Nat.reduceMul, Nat.reduceEqDiff, Nat.reduceLeDiff, reduceIte, reduceCtorEq]; done) | (simp only [upd_apply, updH_apply, without_apply, d15, e25, e26, e27, e28, e29, d30, implies_true, Nat.reduceAdd, Nat.reduceMul, Nat.reduceEqDiff, Nat.reduceLeDiff, reduceIte, reduceCtorEq]; rfl) | rfl) ?_
              rintro tm ⟨e40, e41, e42, e43, _⟩
              cases d44 : (r38.2.2)
              · simp only [d44, cond_true, cond_false, lbind_go, lbind_ret, lbind_brk, lbind_none, Option.bind_some, Option.bind_none, Bool.not_true, Bool.not_false, reduceCtorEq] at h
                cases d45 : (r19.2.2 == 5)
                · simp only [d45, cond_true, cond_false, lbind_go, lbind_ret, lbind_brk, lbind_none, Option.bind_some, Option.bind_none, Bool.not_true, Bool.not_false, reduceCtorEq] at h
                  simp only [vs, cwp_label, ng_normal, ng_ret, ng_exit, cr, tyf, d15, d30, e40, e41, e42, e43, d44, d45, implies_true, Nat.reduceAdd, Nat.reduceMul, Nat.reduceEqDiff, Nat.reduceLeDiff, reduceIte, reduceCtorEq]
                  obtain rfl := kF _ h
                  refine ret1 Tryz.results4 ?_ ?_
                  · first | (simp only [outV, upd_apply, updH_apply, without_apply, showV_ref, cr, tyf, nrm, tynrm, d15, d30, e40, e41, e42, e43, d44, d45, implies_true, Nat.reduceAdd, Nat.reduceMul, Nat.reduceEqDiff, Nat.reduceLeDiff, reduceIte, reduceCtorEq]; done) | (simp only [outV, upd_apply, updH_apply, without_apply, showV_ref, cr, tyf, nrm, tynrm, d15, d30, e40, e41, e42, e43, d44, d45, implies_true, Nat.reduceAdd, Nat.reduceMul, Nat.reduceEqDiff, Nat.reduceLeDiff, reduceIte, reduceCtorEq]; rfl)
                  · simp only [tre, tytre, Bool.and_self]
                · simp only [d45, cond_true, cond_false, lbind_go, lbind_ret, lbind_brk, lbind_none, Option.bind_some, Option.bind_none, Bool.not_true, Bool.not_false, reduceCtorEq] at h
                  cases d46 : (r19.1 == 0)
                  · simp only [d46, cond_true, cond_false, lbind_go, lbind_ret, lbind_brk, lbind_none, Option.bind_some, Option.bind_none, Bool.not_true, Bool.not_false, reduceCtorEq] at h
                    simp only [vs, cwp_label, ng_normal, ng_ret, ng_exit, cr, tyf, d15, d30, e40, e41, e42, e43, d44, d45, d46, implies_true, Nat.reduceAdd, Nat.reduceMul, Nat.reduceEqDiff, Nat.reduceLeDiff, reduceIte, reduceCtorEq]
                    obtain rfl := kF _ h
                    refine ret1 Tryz.results4 ?_ ?_
                    · first | (simp only [outV, upd_apply, updH_apply, without_apply, showV_ref, cr, tyf, nrm, tynrm, d15, d30, e40, e41, e42, e43, d44, d45, d46, implies_true, Nat.reduceAdd, Nat.reduceMul, Nat.reduceEqDiff, Nat.reduceLeDiff, reduceIte, reduceCtorEq]; done) | (simp only [outV, upd_apply, updH_apply, without_apply, showV_ref, cr, tyf, nrm, tynrm, d15, d30, e40, e41, e42, e43, d44, d45, d46, implies_true, Nat.reduceAdd, Nat.reduceMul, Nat.reduceEqDiff, Nat.reduceLeDiff, reduceIte, reduceCtorEq]; rfl)
                    · simp only [tre, tytre, Bool.and_self]
                  · simp only [d46, cond_true, cond_false, lbind_go, lbind_ret, lbind_brk, lbind_none, Option.bind_some, Option.bind_none, Bool.not_true, Bool.not_false, reduceCtorEq] at h
                    cases d47 : (r19.2.1 == 0)
                    · simp only [d47, cond_true, cond_false, lbind_go, lbind_ret, lbind_brk, lbind_none, Option.bind_some, Option.bind_none, Bool.not_true, Bool.not_false, reduceCtorEq] at h
                      simp only [vs, cwp_label, ng_normal, ng_ret, ng_exit, cr, tyf, d15, d30, e40, e41, e42, e43, d44, d45, d46, d47, implies_true, Nat.reduceAdd, Nat.reduceMul, Nat.reduceEqDiff, Nat.reduceLeDiff, reduceIte, reduceCtorEq]
                      obtain rfl := kF _ h
                      refine ret1 Tryz.results4 ?_ ?_
                      · first | (simp only [outV, upd_apply, updH_apply, without_apply, showV_ref, cr, tyf, nrm, tynrm, d15, d30, e40, e41, e42, e43, d44, d45, d46, d47, implies_true, Nat.reduceAdd, Nat.reduceMul, Nat.reduceEqDiff, Nat.reduceLeDiff, reduceIte, reduceCtorEq]; done) | (simp only [outV, upd_apply, updH_apply, without_apply, showV_ref, cr, tyf, nrm, tynrm, d15, d30, e40, e41, e42, e43, d44, d45, d46, d47, implies_true, Nat.reduceAdd, Nat.reduceMul, Nat.reduceEqDiff, Nat.reduceLeDiff, reduceIte, reduceCtorEq]; rfl)
                      · simp only [tre, tytre, Bool.and_self]
                    · simp only [d47, cond_true, cond_false, lbind_go, lbind_ret, lbind_brk, lbind_none, Option.bind_some, Option.bind_none, Bool.not_true, Bool.not_false, reduceCtorEq] at h
                      cases o49 : (g_law01_known ) with
                      | none =>
                        simp only [o49, cond_true, cond_false, lbind_go, lbind_ret, lbind_brk, lbind_none, Option.bind_some, Option.bind_none, Bool.not_true, Bool.not_false, reduceCtorEq] at h
                        exact absurd h kN
                      | some r48 =>
                        simp only [o49, cond_true, cond_false, lbind_go, lbind_ret, lbind_brk, lbind_none, Option.bind_some, Option.bind_none, Bool.not_true, Bool.not_false, reduceCtorEq] at h
                        simp only [vs, cwp_label, ng_normal, ng_ret, ng_exit, cr, tyf, d15, d30, e40, e41, e42, e43, d44, d45, d46, d47, implies_true, Nat.reduceAdd, Nat.reduceMul, Nat.reduceEqDiff, Nat.reduceLeDiff, reduceIte, reduceCtorEq]
                        refine ktree (args0 := []) (by first | (simp only [nrm, tynrm]; done) | (simp only [nrm, tynrm]; rfl) | rfl) (by simp only [tre, tytre, Bool.and_self]) (g_law01_known_ok  _ o49) ?_
                        refine fin_cut (fun tm => tm 53 = .lit (.bool true) ∧ tm 54 = .lit (.bool r48) ∧ True) (by refine ⟨?_, ?_, trivial⟩ <;> first | (simp only [upd_apply, updH_apply, without_apply, d15, d30, e40, e41, e42, e43, d44, d45, d46, d47, implies_true, Nat.reduceAdd, Nat.reduceMul, Nat.reduceEqDiff, Nat.reduceLeDiff, reduceIte, reduceCtorEq]; done) | (simp only [upd_apply, updH_apply, without_apply, d15, d30, e40, e41, e42, e43, d44, d45, d46, d47, implies_true, Nat.reduceAdd, Nat.reduceMul, Nat.reduceEqDiff, Nat.reduceLeDiff, reduceIte, reduceCtorEq]; rfl) | rfl) ?_
                        rintro tm ⟨e50, e51, _⟩
                        simp only [vs, cwp_label, ng_normal, ng_ret, ng_exit, cr, tyf, d15, d30, d44, d45, d46, d47, e50, e51, implies_true, Nat.reduceAdd, Nat.reduceMul, Nat.reduceEqDiff, Nat.reduceLeDiff, reduceIte, reduceCtorEq]
                        obtain rfl := kF _ h
                        refine ret1 Tryz.results4 ?_ ?_
                        · first | (simp only [outV, upd_apply, updH_apply, without_apply, showV_ref, cr, tyf, nrm, tynrm, d15, d30, d44, d45, d46, d47, e50, e51, implies_true, Nat.reduceAdd, Nat.reduceMul, Nat.reduceEqDiff, Nat.reduceLeDiff, reduceIte, reduceCtorEq]; done) | (simp only [outV, upd_apply, updH_apply, without_apply, showV_ref, cr, tyf, nrm, tynrm, d15, d30, d44, d45, d46, d47, e50, e51, implies_true, Nat.reduceAdd, Nat.reduceMul, Nat.reduceEqDiff, Nat.reduceLeDiff, reduceIte, reduceCtorEq]; rfl)
                        · simp only [tre, tytre, Bool.and_self]
              · simp only [d44, cond_true, cond_false, lbind_go, lbind_ret, lbind_brk, lbind_none, Option.bind_some, Option.bind_none, Bool.not_true, Bool.not_false, reduceCtorEq] at h
                cases d52 : (r19.2.2 == 0)
                · simp only [d52, cond_true, cond_false, lbind_go, lbind_ret, lbind_brk, lbind_none, Option.bind_some, Option.bind_none, Bool.not_true, Bool.not_false, reduceCtorEq] at h
                  simp only [vs, cwp_label, ng_normal, ng_ret, ng_exit, cr, tyf, d15, d30, e40, e41, e42, e43, d44, d52, implies_true, Nat.reduceAdd, Nat.reduceMul, Nat.reduceEqDiff, Nat.reduceLeDiff, reduceIte, reduceCtorEq]
                  obtain rfl := kF _ h
                  refine ret1 Tryz.results4 ?_ ?_
                  · first | (simp only [outV, upd_apply, updH_apply, without_apply, showV_ref, cr, tyf, nrm, tynrm, d15, d30, e40, e41, e42, e43, d44, d52, implies_true, Nat.reduceAdd, Nat.reduceMul, Nat.reduceEqDiff, Nat.reduceLeDiff, reduceIte, reduceCtorEq]; done) | (simp only [outV, upd_apply, updH_apply, without_apply, showV_ref, cr, tyf, nrm, tynrm, d15, d30, e40, e41, e42, e43, d44, d52, implies_true, Nat.reduceAdd, Nat.reduceMul, Nat.reduceEqDiff, Nat.reduceLeDiff, reduceIte, reduceCtorEq]; rfl)
                  · simp only [tre, tytre, Bool.and_self]
                · simp only [d52, cond_true, cond_false, lbind_go, lbind_ret, lbind_brk, lbind_none, Option.bind_some, Option.bind_none, Bool.not_true, Bool.not_false, reduceCtorEq] at h
                  cases d53 : (r19.1 == r38.1)
                  · simp only [d53, cond_true, cond_false, lbind_go, lbind_ret, lbind_brk, lbind_none, Option.bind_some, Option.bind_none, Bool.not_true, Bool.not_false, reduceCtorEq] at h
                    simp only [vs, cwp_label, ng_normal, ng_ret, ng_exit, cr, tyf, d15, d30, e40, e41, e42, e43, d44, d52, d53, implies_true, Nat.reduceAdd, Nat.reduceMul, Nat.reduceEqDiff, Nat.reduceLeDiff, reduceIte, reduceCtorEq]
                    obtain rfl := kF _ h
                    refine ret1 Tryz.results4 ?_ ?_
                    · first | (simp only [outV, upd_apply, updH_apply, without_apply, showV_ref, cr, tyf, nrm, tynrm, d15, d30, e40, e41, e42, e43, d44, d52, d53, implies_true, Nat.reduceAdd, Nat.reduceMul, Nat.reduceEqDiff, Nat.reduceLeDiff, reduceIte, reduceCtorEq]; done) | (simp only [outV, upd_apply, updH_apply, without_apply, showV_ref, cr, tyf, nrm, tynrm, d15, d30, e40, e41, e42, e43, d44, d52, d53, implies_true, Nat.reduceAdd, Nat.reduceMul, Nat.reduceEqDiff, Nat.reduceLeDiff, reduceIte, reduceCtorEq]; rfl)
                    · simp only [tre, tytre, Bool.and_self]
                  · simp only [d53, cond_true, cond_false, lbind_go, lbind_ret, lbind_brk, lbind_none, Option.bind_some, Option.bind_none, Bool.not_true, Bool.not_false, reduceCtorEq] at h
                    cases d54 : (r19.2.1 == r38.2.1)
                    · simp only [d54, cond_true, cond_false, lbind_go, lbind_ret, lbind_brk, lbind_none, Option.bind_some, Option.bind_none, Bool.not_true, Bool.not_false, reduceCtorEq] at h
                      simp only [vs, cwp_label, ng_normal, ng_ret, ng_exit, cr, tyf, d15, d30, e40, e41, e42, e43, d44, d52, d53, d54, implies_true, Nat.reduceAdd, Nat.reduceMul, Nat.reduceEqDiff, Nat.reduceLeDiff, reduceIte, reduceCtorEq]
                      obtain rfl := kF _ h
                      refine ret1 Tryz.results4 ?_ ?_
                      · first | (simp only [outV, upd_apply, updH_apply, without_apply, showV_ref, cr, tyf, nrm, tynrm, d15, d30, e40, e41, e42, e43, d44, d52, d53, d54, implies_true, Nat.reduceAdd, Nat.reduceMul, Nat.reduceEqDiff, Nat.reduceLeDiff, reduceIte, reduceCtorEq]; done) | (simp only [outV, upd_apply, updH_apply, without_apply, showV_ref, cr, tyf, nrm, tynrm, d15, d30, e40, e41, e42, e43, d44, d52, d53, d54, implies_true, Nat.reduceAdd, Nat.reduceMul, Nat.reduceEqDiff, Nat.reduceLeDiff, reduceIte, reduceCtorEq]; rfl)
                      · simp only [tre, tytre, Bool.and_self]
                    · simp only [d54, cond_true, cond_false, lbind_go, lbind_ret, lbind_brk, lbind_none, Option.bind_some, Option.bind_none, Bool.not_true, Bool.not_false, reduceCtorEq] at h
                      cases o56 : (g_law01_known ) with
                      | none =>
                        simp only [o56, cond_true, cond_false, lbind_go, lbind_ret, lbind_brk, lbind_none, Option.bind_some, Option.bind_none, Bool.not_true, Bool.not_false, reduceCtorEq] at h
                        exact absurd h kN
                      | some r55 =>
                        simp only [o56, cond_true, cond_false, lbind_go, lbind_ret, lbind_brk, lbind_none, Option.bind_some, Option.bind_none, Bool.not_true, Bool.not_false, reduceCtorEq] at h
                        simp only [vs, cwp_label, ng_normal, ng_ret, ng_exit, cr, tyf, d15, d30, e40, e41, e42, e43, d44, d52, d53, d54, implies_true, Nat.reduceAdd, Nat.reduceMul, Nat.reduceEqDiff, Nat.reduceLeDiff, reduceIte, reduceCtorEq]
                        refine ktree (args0 := []) (by first | (simp only [nrm, tynrm]; done) | (simp only [nrm, tynrm]; rfl) | rfl) (by simp only [tre, tytre, Bool.and_self]) (g_law01_known_ok  _ o56) ?_
                        refine fin_cut (fun tm => tm 68 = .lit (.bool true) ∧ tm 69 = .lit (.bool r55) ∧ True) (by refine ⟨?_, ?_, trivial⟩ <;> first | (simp only [upd_apply, updH_apply, without_apply, d15, d30, e40, e41, e42, e43, d44, d52, d53, d54, implies_true, Nat.reduceAdd, Nat.reduceMul, Nat.reduceEqDiff, Nat.reduceLeDiff, reduceIte, reduceCtorEq]; done) | (simp only [upd_apply, updH_apply, without_apply, d15, d30, e40, e41, e42, e43, d44, d52, d53, d54, implies_true, Nat.reduceAdd, Nat.reduceMul, Nat.reduceEqDiff, Nat.reduceLeDiff, reduceIte, reduceCtorEq]; rfl) | rfl) ?_
                        rintro tm ⟨e57, e58, _⟩
                        simp only [vs, cwp_label, ng_normal, ng_ret, ng_exit, cr, tyf, d15, d30, d44, d52, d53, d54, e57, e58, implies_true, Nat.reduceAdd, Nat.reduceMul, Nat.reduceEqDiff, Nat.reduceLeDiff, reduceIte, reduceCtorEq]
                        obtain rfl := kF _ h
                        refine ret1 Tryz.results4 ?_ ?_
                        · first | (simp only [outV, upd_apply, updH_apply, without_apply, showV_ref, cr, tyf, nrm, tynrm, d15, d30, d44, d52, d53, d54, e57, e58, implies_true, Nat.reduceAdd, Nat.reduceMul, Nat.reduceEqDiff, Nat.reduceLeDiff, reduceIte, reduceCtorEq]; done) | (simp only [outV, upd_apply, updH_apply, without_apply, showV_ref, cr, tyf, nrm, tynrm, d15, d30, d44, d52, d53, d54, e57, e58, implies_true, Nat.reduceAdd, Nat.reduceMul, Nat.reduceEqDiff, Nat.reduceLeDiff, reduceIte, reduceCtorEq]; rfl)
                        · simp only [tre, tytre, Bool.and_self]

end Go.V
end
section
namespace Go.V
open Go
/-! Plain facts on the lifted functions: what a sheet is. -/
/-- A loop that goes through, or gives false at once. -/
def goB (b : Bool) : Option (LOut Bool Unit) := cond b (some (.go ())) (some (.ret false))
theorem goB_and (a b : Bool) : goB (a && b) = cond a (goB b) (some (.ret false)) := by cases a <;> rfl
theorem cnot {α : Type} (a : Bool) (x y : α) : cond (!a) x y = cond a y x := by cases a <;> rfl
theorem cand {α : Type} (a b : Bool) (x y : α) : cond (a && b) x y = cond a (cond b x y) y := by cases a <;> rfl
def inB (a b n : Int) : Bool := decide (a ≤ n) && decide (n ≤ b)
theorem isFrom_eq (a n b : Int) : g_limits_IsFrom a n b = some (inB a b n) := by
  unfold g_limits_IsFrom inB
  cases decide (a ≤ n) <;> rfl
theorem in_eq (n a b : Int) : g_ref01_in n a b = some (inB a b n) := by
  unfold g_ref01_in inB
  show cond (decide (a ≤ n)) _ _ = _
  cases decide (a ≤ n) <;> rfl
def spanB (m : Int) (x : GSpan) : Bool := decide (0 ≤ x.Low) && (decide (x.Low ≤ x.High) && decide (x.High ≤ m))
theorem isSpan_eq (x : GSpan) (m : Int) : g_limits_IsSpan 0 x m = some (spanB m x) := by
  unfold g_limits_IsSpan spanB
  cases decide (0 ≤ x.Low) <;> cases decide (x.Low ≤ x.High) <;> rfl
theorem span_eq (x : GSpan) (m : Int) : g_ref01_span x m = some (spanB m x) := by
  unfold g_ref01_span
  simp only [in_eq, Option.bind_some]
  by_cases h1 : 0 ≤ x.Low <;> by_cases h2 : x.Low ≤ x.High <;> by_cases h3 : x.High ≤ m <;> by_cases h4 : x.Low ≤ m <;> simp [inB, spanB, h1, h2, h3, h4] <;> omega
theorem wrap_eq {n : Int} (h1 : -9223372036854775808 ≤ n) (h2 : n < 9223372036854775808) : IntKind.i64.wrap n = n := IntWalk.i64_in _ (by omega)
theorem areFrom_l0_eq (a b : Int) : ∀ (p : List Int) (i : Int), g_limits_AreFrom_l0 a b p i = goB (p.all (inB a b))
  | [], _ => rfl
  | e :: p, i => by
    simp only [g_limits_AreFrom_l0, goB_and, cnot, cand, isFrom_eq, Option.bind_some, areFrom_l0_eq a b p, List.all_cons]
theorem areFrom_eq (a b : Int) (xs : List Int) (h : lenOk xs = true) : g_limits_AreFrom a xs b = some (xs.all (inB a b)) := by
  simp only [g_limits_AreFrom, h, cond_true, areFrom_l0_eq]
  cases xs.all (inB a b) <;> rfl
def incr : Int → List Int → Bool
  | _, [] => true
  | q, e :: p => !decide (e ≤ q) && incr e p
def incrL : List Int → Bool
  | [] => true
  | e :: p => incr e p
theorem lenOk_lt {α : Type} {xs : List α} (h : lenOk xs = true) : xs.length < 9223372036854775808 := by simpa [lenOk] using h
theorem lenOk_of {α : Type} {xs : List α} (h : xs.length < 9223372036854775808) : lenOk xs = true := by simpa [lenOk] using h
/-- The one before. -/
theorem getI_prev {α : Type} {xs p : List α} {q : α} {i : Int} (h0 : 1 ≤ i) (hi : i < 9223372036854775808) (h : xs.drop (i - 1).toNat = q :: p) : getI xs (IntKind.i64.wrap (i - 1)) = some q := by
  rw [wrap_eq (by omega) (by omega)]
  exact getI_of_drop (by omega) h
theorem drop_le {α : Type} {xs p : List α} {n : Nat} (h : xs.drop n = p) : n + p.length ≤ xs.length ∨ p = [] := by
  subst h
  by_cases hn : n ≤ xs.length
  · left; simp; omega
  · right; exact List.drop_eq_nil_of_le (by omega)
theorem areIncreasing_l0_eq (xs : List Int) (hl : lenOk xs = true) : ∀ (p : List Int) (q i : Int), 1 ≤ i → xs.drop (i - 1).toNat = q :: p → g_limits_AreIncreasing_l0 xs p i = goB (incr q p)
  | [], _, _, _, _ => rfl
  | e :: p, q, i, h0, h => by
    have hb := lenOk_lt hl
    have hle := drop_le h
    simp only [List.length_cons] at hle
    have hi : i < 9223372036854775808 := by
      rcases hle with hle | hle
      · omega
      · cases hle
    have hn : xs.drop (i + 1 - 1).toNat = e :: p := by
      have := drop_next (i := i - 1) (by omega) h
      rwa [show i - 1 + 1 = i + 1 - 1 by omega] at this
    simp only [g_limits_AreIncreasing_l0, goB_and, cnot, cand, getI_prev h0 hi h, Option.bind_some, areIncreasing_l0_eq xs hl p e (i + 1) (by omega) hn, incr]
theorem areIncreasing_eq (a b : Int) (xs : List Int) (h : lenOk xs = true) : g_limits_AreIncreasing a xs b = some (incrL xs && xs.all (inB a b)) := by
  have h1 : leB 0 1 = true := rfl
  simp only [g_limits_AreIncreasing, h, h1, cond_true, areFrom_eq a b xs h]
  cases xs with
  | nil => rfl
  | cons e p =>
    have := areIncreasing_l0_eq (e :: p) h p e 1 (by omega) (by rfl)
    rw [show List.drop (Int.toNat 1) (e :: p) = p from rfl, this]
    simp only [incrL]
    cases incr e p <;> rfl
/-- Cuts, as the document's own answer takes them. -/
def cutsB (hi : Int) : Option Int → List Int → Bool
  | _, [] => true
  | none, e :: p => inB 1 hi e && cutsB hi (some e) p
  | some q, e :: p => inB 1 hi e && (!decide (e ≤ q) && cutsB hi (some e) p)
theorem cutsB_some (hi : Int) : ∀ (p : List Int) (q : Int), cutsB hi (some q) p = (incr q p && p.all (inB 1 hi))
  | [], _ => rfl
  | e :: p, q => by
    simp only [cutsB, cutsB_some hi p e, incr, List.all_cons]
    cases h1 : inB 1 hi e <;> cases h2 : decide (e ≤ q) <;> cases h3 : incr e p <;> simp [h1, h2, h3]
theorem cutsB_none (hi : Int) : ∀ (p : List Int), cutsB hi none p = (incrL p && p.all (inB 1 hi))
  | [] => rfl
  | e :: p => by
    simp only [cutsB, cutsB_some, incrL, List.all_cons]
    cases h1 : inB 1 hi e <;> cases h2 : incr e p <;> simp [h1, h2]
theorem word_l1_eq (w : GLetterWord) (hl : lenOk w.Cuts = true) : ∀ (p : List Int) (q : Int) (i : Int), 1 ≤ i → w.Cuts.drop (i - 1).toNat = q :: p →
    g_ref01_word_l1 w p i = goB (cutsB (IntKind.i64.wrap ((w.Signs.length : Int) - 1)) (some q) p)
  | [], _, _, _, _ => rfl
  | e :: p, q, i, h0, h => by
    have hb := lenOk_lt hl
    have hle := drop_le h
    simp only [List.length_cons] at hle
    have hi : i < 9223372036854775808 := by
      rcases hle with hle | hle
      · omega
      · cases hle
    have hn : w.Cuts.drop (i + 1 - 1).toNat = e :: p := by
      have := drop_next (i := i - 1) (by omega) h
      rwa [show i - 1 + 1 = i + 1 - 1 by omega] at this
    have hp : decide (i > 0) = true := by simp; omega
    simp only [g_ref01_word_l1, goB_and, cnot, cand, in_eq, getI_prev h0 hi h, hp, Option.bind_some, word_l1_eq w hl p e (i + 1) (by omega) hn, cutsB, cond_true]
theorem word_l1_eq0 (w : GLetterWord) (hl : lenOk w.Cuts = true) : g_ref01_word_l1 w w.Cuts 0 = goB (cutsB (IntKind.i64.wrap ((w.Signs.length : Int) - 1)) none w.Cuts) := by
  generalize hc : w.Cuts = cs
  cases cs with
  | nil => rfl
  | cons e p =>
    have := word_l1_eq w hl p e (0 + 1) (by omega) (by rw [hc]; rfl)
    simp only [g_ref01_word_l1, goB_and, cnot, cand, in_eq, Option.bind_some, this, cutsB, show decide ((0 : Int) > 0) = false from rfl, cond_false]
theorem sign_eq (s : GLetterSheet) (n : Int) : g_ref01_sign s n = some (inB 0 (IntKind.i64.wrap ((s.Widths.length : Int) - 1)) n) := by
  simp only [g_ref01_sign, in_eq, Option.bind_some]
theorem word_l0_eq (s : GLetterSheet) : ∀ (p : List Int) (i : Int), g_ref01_word_l0 s p i = goB (p.all (inB 0 (IntKind.i64.wrap ((s.Widths.length : Int) - 1))))
  | [], _ => rfl
  | e :: p, i => by
    simp only [g_ref01_word_l0, goB_and, cnot, cand, sign_eq, Option.bind_some, word_l0_eq s p, List.all_cons]
/-- A word, as defined. -/
def wordB (n : Int) (w : GLetterWord) : Bool := inB 1 6 w.Signs.length && (w.Signs.all (inB 0 n) && (incrL w.Cuts && w.Cuts.all (inB 1 (IntKind.i64.wrap ((w.Signs.length : Int) - 1)))))
theorem word_eq (s : GLetterSheet) (w : GLetterWord) (h1 : lenOk w.Signs = true) (h2 : lenOk w.Cuts = true) : g_ref01_word s w = some (wordB (IntKind.i64.wrap ((s.Widths.length : Int) - 1)) w) := by
  simp only [g_ref01_word, h1, h2, cond_true, word_l0_eq, word_l1_eq0 w h2, in_eq, Option.bind_some, cutsB_none, wordB]
  cases w.Signs.all _ <;> cases (incrL w.Cuts && w.Cuts.all _) <;> cases inB 1 6 _ <;> rfl
def Fine (w : GLetterWord) : Prop := lenOk w.Signs = true ∧ lenOk w.Cuts = true
theorem sheet_l1_eq (s : GLetterSheet) : ∀ (p : List GLetterWord) (i : Int), (∀ w ∈ p, Fine w) → g_ref01_Sheet_l1 s p i = goB (p.all (wordB (IntKind.i64.wrap ((s.Widths.length : Int) - 1))))
  | [], _, _ => rfl
  | e :: p, i, h => by
    have he := h e (List.mem_cons_self ..)
    simp only [g_ref01_Sheet_l1, goB_and, cnot, cand, word_eq s e he.1 he.2, Option.bind_some, sheet_l1_eq s p (i + 1) (fun w hw => h w (List.mem_cons_of_mem _ hw)), List.all_cons]
theorem areWords_l0_eq (n : Int) : ∀ (p : List GLetterWord) (i : Int), (∀ w ∈ p, Fine w) → g_letter_areWords_l0 n p i = goB (p.all (wordB (IntKind.i64.wrap (n - 1))))
  | [], _, _ => rfl
  | e :: p, i, h => by
    have he := h e (List.mem_cons_self ..)
    simp only [g_letter_areWords_l0, goB_and, cnot, cand, isFrom_eq, areFrom_eq _ _ _ he.1, areIncreasing_eq _ _ _ he.2, Option.bind_some, areWords_l0_eq n p (i + 1) (fun w hw => h w (List.mem_cons_of_mem _ hw)), List.all_cons, wordB]
theorem sheet_l0_eq : ∀ (p : List Int) (i : Int), g_ref01_Sheet_l0 p i = goB (p.all (inB 1 20))
  | [], _ => rfl
  | e :: p, i => by
    simp only [g_ref01_Sheet_l0, goB_and, cnot, cand, in_eq, Option.bind_some, sheet_l0_eq p, List.all_cons]
end Go.V
end
