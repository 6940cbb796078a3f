/- Part of the proof of a statement of YtljphegpidbnjaaGreatDoor: a logic of values by content, the lifted functions, and what follows. -/
import Derived.Test.YtljphegpidbnjaaGreatDoorMax
import Derived.Test.YtljphegpidbnjaaGreatDoorMbc
set_option linter.unusedVariables false
set_option linter.unusedSimpArgs false
set_option linter.unusedSectionVars false
set_option linter.constructorNameAsVariable false
section
namespace Go.V
open Go Go.Proofs
set_option linter.unusedSimpArgs false
set_option linter.unusedVariables false
set_option maxRecDepth 4000
def g_ref01_Alike_l1 (c0_5 : Int) (e0 : GLetterWord) : List GLetterWord → Int → Option (LOut (Int × Int × Bool) (Unit))
  | [], c1_6 => some (.go ())
  | e1 :: p1, c1_6 => Option.bind (g_ref01_mistaken e0 e1) (fun r2 => cond (r2) (some (.ret (c0_5, c1_6, true))) (g_ref01_Alike_l1 c0_5 e0 p1 (c1_6 + 1)))
def g_ref01_Alike_l0 (x0_s : GLetterSheet) : List GLetterWord → Int → Option (LOut (Int × Int × Bool) (Unit))
  | [], c0_5 => some (.go ())
  | e0 :: p0, c0_5 => cond (lenOk x0_s.Words) (cond (leB 0 (IntKind.i64.wrap (c0_5 + 1))) (lbind (g_ref01_Alike_l1 c0_5 e0 (List.drop (Int.toNat (IntKind.i64.wrap (c0_5 + 1))) x0_s.Words) (IntKind.i64.wrap (c0_5 + 1))) (fun r => some (.ret r)) (fun c3 => g_ref01_Alike_l0 x0_s p0 (c0_5 + 1)) (fun _ _ => none)) none) none
def g_ref01_Alike (x0_s : GLetterSheet) : Option (Int × Int × Bool) := cond (lenOk x0_s.Words) (lbind (g_ref01_Alike_l0 x0_s x0_s.Words 0) (fun r => some r) (fun c4 => some (0, 0, false)) (fun _ _ => none)) none
theorem g_ref01_Alike_ok (x0_s : GLetterSheet) (R : Int × Int × Bool) (h : g_ref01_Alike x0_s = some R) : VPure Tryz.prog G0 17 [.agg (cGLetterSheet x0_s)] (.tree (.tup [.lit (.int .i64 R.1), .lit (.int .i64 R.2.1), .lit (.bool R.2.2)])) := by
  refine VPure.runT mixed Tryz.call17 Tryz.func17 rfl (by simp [Tryz.ntmps17]; kernel_rfl) ?_
  obtain ⟨KF, h, kF, kN⟩ := fun_intro h
  simp only [g_ref01_Alike] at h
  cases g7 : (lenOk x0_s.Words)
  · simp only [g7, cond_true, cond_false, lbind_go, lbind_ret, lbind_brk, lbind_none, Option.bind_some, Option.bind_none, Bool.not_true, Bool.not_false, reduceCtorEq] at h
    exact absurd h kN
  simp only [g7, cond_true, cond_false, lbind_go, lbind_ret, lbind_brk, lbind_none, Option.bind_some, Option.bind_none, Bool.not_true, Bool.not_false, reduceCtorEq] at h
  simp only [vs, cwp_label, ng_normal, ng_ret, ng_exit, cr, tyf, g7, implies_true, Nat.reduceAdd, Nat.reduceMul, Nat.reduceEqDiff, Nat.reduceLeDiff, reduceIte, reduceCtorEq]
  obtain ⟨K6, h, kR6, kG6, kB6, kN6⟩ := lbind_intro h kN
  obtain ⟨f6, hf6, h⟩ := call2 h
  obtain ⟨I6, hI6⟩ : ∃ I : Nat → St → Prop, I = (fun m st => ∃ (p6 : List GLetterWord) (c6_5 : Int), m = List.length p6 ∧ 0 ≤ c6_5 ∧ List.drop (Int.toNat c6_5) x0_s.Words = p6 ∧ st.df = [] ∧ 1 ≤ st.nx ∧ st.H 0 = some (.cells (some 28) (cGLetterSheet x0_s)) ∧ st.tm 1 = .ptr 0 0 ∧ st.tm 5 = .lit (.int .i64 c6_5) ∧ K6 (f6 p6 c6_5)) := ⟨_, rfl⟩
  refine loopK mixed (by kernel_rfl) I6 (List.length x0_s.Words) (by rw [hI6]; refine ⟨x0_s.Words, 0, rfl, Int.le_refl _, rfl, rfl, (show 1 ≤ 5 by decide), ?_, ?_, ?_, h⟩ <;> first | (simp only [upd_apply, updH_apply, without_apply, implies_true, Nat.reduceAdd, Nat.reduceMul, Nat.reduceEqDiff, Nat.reduceLeDiff, reduceIte, reduceCtorEq]; done) | (simp only [upd_apply, updH_apply, without_apply, implies_true, Nat.reduceAdd, Nat.reduceMul, Nat.reduceEqDiff, Nat.reduceLeDiff, reduceIte, reduceCtorEq]; rfl) | rfl) ?_
  rintro m ⟨tm, H, nx, df⟩ hinv
  rw [hI6] at hinv
  obtain ⟨p6, c6_5, rfl, hi6, hp6, hdf, hn6, H10, e8, e9, h⟩ := hinv
  simp only at hdf hn6 H10 e8 e9
  have q11 := fresh_ne (n := 0) (B := 1) (by decide) hn6
  subst hdf hf6
  cases p6 with
  | nil =>
    have d12 : (decide (c6_5 < (List.length x0_s.Words : Int))) = false := not_lt_of_drop hi6 hp6
    simp only [g_ref01_Alike_l0, cond_true, cond_false, lbind_go, lbind_ret, lbind_brk, lbind_none, Option.bind_some, Option.bind_none, Bool.not_true, Bool.not_false, reduceCtorEq] at h
    replace h := kG6 _ h
    try dsimp only at h
    try simp only [cond_true, cond_false, lbind_go, lbind_ret, lbind_brk, lbind_none, Option.bind_some, Option.bind_none, Bool.not_true, Bool.not_false] at h
    simp only [vs, cwp_label, ng_normal, ng_ret, ng_exit, cr, tyf, g7, e8, e9, H10, q11, d12, implies_true, Nat.reduceAdd, Nat.reduceMul, Nat.reduceEqDiff, Nat.reduceLeDiff, reduceIte, reduceCtorEq]
    obtain rfl := kF _ h
    refine ret3 Tryz.results17 ?_ ?_
    · first | (simp only [outV, upd_apply, updH_apply, without_apply, showV_ref, cr, tyf, nrm, tynrm, g7, e8, e9, H10, q11, d12, implies_true, Nat.reduceAdd, Nat.reduceMul, Nat.reduceEqDiff, Nat.reduceLeDiff, reduceIte, reduceCtorEq]; done) | (simp only [outV, upd_apply, updH_apply, without_apply, showV_ref, cr, tyf, nrm, tynrm, g7, e8, e9, H10, q11, d12, implies_true, Nat.reduceAdd, Nat.reduceMul, Nat.reduceEqDiff, Nat.reduceLeDiff, reduceIte, reduceCtorEq]; rfl)
    · simp only [tre, tytre, Bool.and_self]
  | cons e6 p6 =>
    have d13 : (decide (c6_5 < (List.length x0_s.Words : Int))) = true := lt_of_drop hi6 hp6
    have o15 := getI_of_drop hi6 hp6
    have w14 := wrap_next hi6 hp6 g7
    simp only [g_ref01_Alike_l0, cond_true, cond_false, lbind_go, lbind_ret, lbind_brk, lbind_none, Option.bind_some, Option.bind_none, Bool.not_true, Bool.not_false, reduceCtorEq] at h
    cases g17 : (lenOk x0_s.Words)
    · simp only [g17, cond_true, cond_false, lbind_go, lbind_ret, lbind_brk, lbind_none, Option.bind_some, Option.bind_none, Bool.not_true, Bool.not_false, reduceCtorEq] at h
      exact absurd h kN6
    simp only [g17, cond_true, cond_false, lbind_go, lbind_ret, lbind_brk, lbind_none, Option.bind_some, Option.bind_none, Bool.not_true, Bool.not_false, reduceCtorEq] at h
    cases g18 : (leB 0 (IntKind.i64.wrap (c6_5 + 1)))
    · simp only [g18, cond_true, cond_false, lbind_go, lbind_ret, lbind_brk, lbind_none, Option.bind_some, Option.bind_none, Bool.not_true, Bool.not_false, reduceCtorEq] at h
      exact absurd h kN6
    simp only [g18, cond_true, cond_false, lbind_go, lbind_ret, lbind_brk, lbind_none, Option.bind_some, Option.bind_none, Bool.not_true, Bool.not_false, reduceCtorEq] at h
    simp only [vs, cwp_label, ng_normal, ng_ret, ng_exit, cr, tyf, g7, e8, e9, H10, q11, d13, (ix26 o15), w14, g17, g18, implies_true, Nat.reduceAdd, Nat.reduceMul, Nat.reduceEqDiff, Nat.reduceLeDiff, reduceIte, reduceCtorEq]
    obtain ⟨K16, h, kR16, kG16, kB16, kN16⟩ := lbind_intro h kN6
    obtain ⟨f16, hf16, h⟩ := call2 h
    obtain ⟨I16, hI16⟩ : ∃ I : Nat → St → Prop, I = (fun m st => ∃ (p16 : List GLetterWord) (c16_6 : Int), m = List.length p16 ∧ 0 ≤ c16_6 ∧ List.drop (Int.toNat c16_6) x0_s.Words = p16 ∧ st.df = [] ∧ 1 ≤ st.nx ∧ st.H 0 = some (.cells (some 28) (cGLetterSheet x0_s)) ∧ st.tm 1 = .ptr 0 0 ∧ st.tm 5 = .lit (.int .i64 c6_5) ∧ st.tm 6 = .lit (.int .i64 c16_6) ∧ K16 (f16 p16 c16_6)) := ⟨_, rfl⟩
    refine loopK mixed (by kernel_rfl) I16 (List.length (List.drop (Int.toNat (IntKind.i64.wrap (c6_5 + 1))) x0_s.Words)) (by rw [hI16]; refine ⟨List.drop (Int.toNat (IntKind.i64.wrap (c6_5 + 1))) x0_s.Words, IntKind.i64.wrap (c6_5 + 1), rfl, of_decide_eq_true g18, rfl, rfl, (show 1 ≤ nx + 8 by omega), ?_, e8, e9, ?_, h⟩ <;> first | (simp only [upd_apply, updH_apply, without_apply, e8, e9, H10, q11, d13, w14, implies_true, Nat.reduceAdd, Nat.reduceMul, Nat.reduceEqDiff, Nat.reduceLeDiff, reduceIte, reduceCtorEq]; done) | (simp only [upd_apply, updH_apply, without_apply, e8, e9, H10, q11, d13, w14, implies_true, Nat.reduceAdd, Nat.reduceMul, Nat.reduceEqDiff, Nat.reduceLeDiff, reduceIte, reduceCtorEq]; rfl) | rfl) ?_
    rintro m ⟨tm, H, nx, df⟩ hinv
    rw [hI16] at hinv
    obtain ⟨p16, c16_6, rfl, hi16, hp16, hdf, hn16, H22, e19, e20, e21, h⟩ := hinv
    simp only at hdf hn16 H22 e19 e20 e21
    have q23 := fresh_ne (n := 0) (B := 1) (by decide) hn16
    subst hdf hf16
    cases p16 with
    | nil =>
      have d24 : (decide (c16_6 < (List.length x0_s.Words : Int))) = false := not_lt_of_drop hi16 hp16
      simp only [g_ref01_Alike_l1, cond_true, cond_false, lbind_go, lbind_ret, lbind_brk, lbind_none, Option.bind_some, Option.bind_none, Bool.not_true, Bool.not_false, reduceCtorEq] at h
      replace h := kG16 _ h
      try dsimp only at h
      try simp only [cond_true, cond_false, lbind_go, lbind_ret, lbind_brk, lbind_none, Option.bind_some, Option.bind_none, Bool.not_true, Bool.not_false] at h
      simp only [vs, cwp_label, ng_normal, ng_ret, ng_exit, cr, tyf, g7, d13, (ix26 o15), w14, g17, g18, e19, e20, e21, H22, q23, d24, implies_true, Nat.reduceAdd, Nat.reduceMul, Nat.reduceEqDiff, Nat.reduceLeDiff, reduceIte, reduceCtorEq]
      exact ⟨List.length p6, Nat.lt_succ_self _, by rw [hI6]; refine ⟨p6, c6_5 + 1, rfl, Int.le_trans hi6 (Int.le_add_one (Int.le_refl _)), drop_next hi6 hp6, rfl, (show 1 ≤ nx + 8 by omega), ?_, e19, ?_, h⟩ <;> first | (simp only [upd_apply, updH_apply, without_apply, d13, w14, e19, e20, e21, H22, q23, d24, implies_true, Nat.reduceAdd, Nat.reduceMul, Nat.reduceEqDiff, Nat.reduceLeDiff, reduceIte, reduceCtorEq]; done) | (simp only [upd_apply, updH_apply, without_apply, d13, w14, e19, e20, e21, H22, q23, d24, implies_true, Nat.reduceAdd, Nat.reduceMul, Nat.reduceEqDiff, Nat.reduceLeDiff, reduceIte, reduceCtorEq]; rfl) | rfl⟩
    | cons e16 p16 =>
      have d25 : (decide (c16_6 < (List.length x0_s.Words : Int))) = true := lt_of_drop hi16 hp16
      have o27 := getI_of_drop hi16 hp16
      have w26 := wrap_next hi16 hp16 g17
      simp only [g_ref01_Alike_l1, cond_true, cond_false, lbind_go, lbind_ret, lbind_brk, lbind_none, Option.bind_some, Option.bind_none, Bool.not_true, Bool.not_false, reduceCtorEq] at h
      simp only [vs, cwp_label, ng_normal, ng_ret, ng_exit, cr, tyf, g7, d13, (ix26 o15), w14, g17, g18, e19, e20, e21, H22, q23, d25, (ix26 o27), w26, implies_true, Nat.reduceAdd, Nat.reduceMul, Nat.reduceEqDiff, Nat.reduceLeDiff, reduceIte, reduceCtorEq]
      refine cwp_drwQF (fun tm => tm 1 = .ptr 0 0 ∧ tm 5 = .lit (.int .i64 c6_5) ∧ tm 6 = .lit (.int .i64 c16_6) ∧ True) (by refine ⟨e19, e20, e21, trivial⟩ <;> first | (simp only [upd_apply, updH_apply, without_apply, d13, w14, e19, e20, e21, H22, q23, d25, w26, implies_true, Nat.reduceAdd, Nat.reduceMul, Nat.reduceEqDiff, Nat.reduceLeDiff, reduceIte, reduceCtorEq]; done) | (simp only [upd_apply, updH_apply, without_apply, d13, w14, e19, e20, e21, H22, q23, d25, w26, implies_true, Nat.reduceAdd, Nat.reduceMul, Nat.reduceEqDiff, Nat.reduceLeDiff, reduceIte, reduceCtorEq]; rfl) | rfl) ?_
      rintro tm ⟨e28, e29, e30, _⟩
      cases o32 : (g_ref01_mistaken e6 e16) with
      | none =>
        simp only [o32, cond_true, cond_false, lbind_go, lbind_ret, lbind_brk, lbind_none, Option.bind_some, Option.bind_none, Bool.not_true, Bool.not_false, reduceCtorEq] at h
        exact absurd h kN16
      | some r31 =>
        simp only [o32, cond_true, cond_false, lbind_go, lbind_ret, lbind_brk, lbind_none, Option.bind_some, Option.bind_none, Bool.not_true, Bool.not_false, reduceCtorEq] at h
        simp only [vs, cwp_label, ng_normal, ng_ret, ng_exit, cr, tyf, g7, d13, (ix26 o15), w14, g17, g18, H22, q23, d25, (ix26 o27), w26, e28, e29, e30, implies_true, Nat.reduceAdd, Nat.reduceMul, Nat.reduceEqDiff, Nat.reduceLeDiff, reduceIte, reduceCtorEq]
        refine dktree (args0 := [.agg (cGLetterWord e6), .agg (cGLetterWord e16)]) (by first | (simp only [nrm, tynrm]; done) | (simp only [nrm, tynrm]; rfl) | rfl) (by simp only [tre, tytre, Bool.and_self]) (g_ref01_mistaken_ok _ _ _ o32) ?_
        refine fin_cut (fun tm => tm 1 = .ptr 0 0 ∧ tm 5 = .lit (.int .i64 c6_5) ∧ tm 6 = .lit (.int .i64 c16_6) ∧ tm 33 = .lit (.bool r31) ∧ True) (by refine ⟨e28, e29, e30, ?_, trivial⟩ <;> first | (simp only [upd_apply, updH_apply, without_apply, d13, w14, H22, q23, d25, w26, e28, e29, e30, implies_true, Nat.reduceAdd, Nat.reduceMul, Nat.reduceEqDiff, Nat.reduceLeDiff, reduceIte, reduceCtorEq]; done) | (simp only [upd_apply, updH_apply, without_apply, d13, w14, H22, q23, d25, w26, e28, e29, e30, implies_true, Nat.reduceAdd, Nat.reduceMul, Nat.reduceEqDiff, Nat.reduceLeDiff, reduceIte, reduceCtorEq]; rfl) | rfl) ?_
        rintro tm ⟨e33, e34, e35, e36, _⟩
        cases d37 : (r31)
        · simp only [d37, cond_true, cond_false, lbind_go, lbind_ret, lbind_brk, lbind_none, Option.bind_some, Option.bind_none, Bool.not_true, Bool.not_false, reduceCtorEq] at h
          simp only [vs, cwp_label, ng_normal, ng_ret, ng_exit, cr, tyf, g7, d13, (ix26 o15), w14, g17, g18, H22, q23, d25, (ix26 o27), w26, e33, e34, e35, e36, d37, implies_true, Nat.reduceAdd, Nat.reduceMul, Nat.reduceEqDiff, Nat.reduceLeDiff, reduceIte, reduceCtorEq]
          exact ⟨List.length p16, Nat.lt_succ_self _, by rw [hI16]; refine ⟨p16, c16_6 + 1, rfl, Int.le_trans hi16 (Int.le_add_one (Int.le_refl _)), drop_next hi16 hp16, rfl, (show 1 ≤ nx + 19 by omega), ?_, e33, e34, ?_, h⟩ <;> first | (simp only [upd_apply, updH_apply, without_apply, d13, w14, H22, q23, d25, w26, e33, e34, e35, e36, d37, implies_true, Nat.reduceAdd, Nat.reduceMul, Nat.reduceEqDiff, Nat.reduceLeDiff, reduceIte, reduceCtorEq]; done) | (simp only [upd_apply, updH_apply, without_apply, d13, w14, H22, q23, d25, w26, e33, e34, e35, e36, d37, implies_true, Nat.reduceAdd, Nat.reduceMul, Nat.reduceEqDiff, Nat.reduceLeDiff, reduceIte, reduceCtorEq]; rfl) | rfl⟩
        · simp only [d37, cond_true, cond_false, lbind_go, lbind_ret, lbind_brk, lbind_none, Option.bind_some, Option.bind_none, Bool.not_true, Bool.not_false, reduceCtorEq] at h
          simp only [vs, cwp_label, ng_normal, ng_ret, ng_exit, cr, tyf, g7, d13, (ix26 o15), w14, g17, g18, H22, q23, d25, (ix26 o27), w26, e33, e34, e35, e36, d37, implies_true, Nat.reduceAdd, Nat.reduceMul, Nat.reduceEqDiff, Nat.reduceLeDiff, reduceIte, reduceCtorEq]
          replace h := kR16 _ h
          try dsimp only at h
          replace h := kR6 _ h
          try dsimp only at h
          obtain rfl := kF _ h
          refine ret3 Tryz.results17 ?_ ?_
          · first | (simp only [outV, upd_apply, updH_apply, without_apply, showV_ref, cr, tyf, nrm, tynrm, g7, d13, (ix26 o15), w14, g17, g18, H22, q23, d25, (ix26 o27), w26, e33, e34, e35, e36, d37, implies_true, Nat.reduceAdd, Nat.reduceMul, Nat.reduceEqDiff, Nat.reduceLeDiff, reduceIte, reduceCtorEq]; done) | (simp only [outV, upd_apply, updH_apply, without_apply, showV_ref, cr, tyf, nrm, tynrm, g7, d13, (ix26 o15), w14, g17, g18, H22, q23, d25, (ix26 o27), w26, e33, e34, e35, e36, d37, implies_true, Nat.reduceAdd, Nat.reduceMul, Nat.reduceEqDiff, Nat.reduceLeDiff, reduceIte, reduceCtorEq]; rfl)
          · simp only [tre, tytre, Bool.and_self]

end Go.V
end
section
namespace Go.V
open Go Go.Proofs
set_option linter.unusedSimpArgs false
set_option linter.unusedVariables false
set_option maxRecDepth 4000
def g_limits_IsFrom (x0_least : Int) (x1_n : Int) (x2_most : Int) : Option (Bool) := cond (decide (x0_least ≤ x1_n)) (some (decide (x1_n ≤ x2_most))) (some false)
theorem g_limits_IsFrom_ok (x0_least : Int) (x1_n : Int) (x2_most : Int) (R : Bool) (h : g_limits_IsFrom x0_least x1_n x2_most = some R) : VPure Tryz.prog G0 81 [.lit (.int .i64 x0_least), .lit (.int .i64 x1_n), .lit (.int .i64 x2_most)] (.tree (.lit (.bool R))) := by
  refine VPure.runT mixed Tryz.call81 Tryz.func81 rfl (by simp [Tryz.ntmps81]; kernel_rfl) ?_
  obtain ⟨KF, h, kF, kN⟩ := fun_intro h
  simp only [g_limits_IsFrom] at h
  cases d1 : (decide (x0_least ≤ x1_n))
  · simp only [d1, cond_true, cond_false, lbind_go, lbind_ret, lbind_brk, lbind_none, Option.bind_some, Option.bind_none, Bool.not_true, Bool.not_false, reduceCtorEq] at h
    simp only [vs, cwp_label, ng_normal, ng_ret, ng_exit, cr, tyf, d1, implies_true, Nat.reduceAdd, Nat.reduceMul, Nat.reduceEqDiff, Nat.reduceLeDiff, reduceIte, reduceCtorEq]
    obtain rfl := kF _ h
    refine ret1 Tryz.results81 ?_ ?_
    · first | (simp only [outV, upd_apply, updH_apply, without_apply, showV_ref, cr, tyf, nrm, tynrm, d1, implies_true, Nat.reduceAdd, Nat.reduceMul, Nat.reduceEqDiff, Nat.reduceLeDiff, reduceIte, reduceCtorEq]; done) | (simp only [outV, upd_apply, updH_apply, without_apply, showV_ref, cr, tyf, nrm, tynrm, d1, implies_true, Nat.reduceAdd, Nat.reduceMul, Nat.reduceEqDiff, Nat.reduceLeDiff, reduceIte, reduceCtorEq]; rfl)
    · simp only [tre, tytre, Bool.and_self]
  · simp only [d1, cond_true, cond_false, lbind_go, lbind_ret, lbind_brk, lbind_none, Option.bind_some, Option.bind_none, Bool.not_true, Bool.not_false, reduceCtorEq] at h
    simp only [vs, cwp_label, ng_normal, ng_ret, ng_exit, cr, tyf, d1, implies_true, Nat.reduceAdd, Nat.reduceMul, Nat.reduceEqDiff, Nat.reduceLeDiff, reduceIte, reduceCtorEq]
    obtain rfl := kF _ h
    refine ret1 Tryz.results81 ?_ ?_
    · first | (simp only [outV, upd_apply, updH_apply, without_apply, showV_ref, cr, tyf, nrm, tynrm, d1, implies_true, Nat.reduceAdd, Nat.reduceMul, Nat.reduceEqDiff, Nat.reduceLeDiff, reduceIte, reduceCtorEq]; done) | (simp only [outV, upd_apply, updH_apply, without_apply, showV_ref, cr, tyf, nrm, tynrm, d1, implies_true, Nat.reduceAdd, Nat.reduceMul, Nat.reduceEqDiff, Nat.reduceLeDiff, reduceIte, reduceCtorEq]; rfl)
    · simp only [tre, tytre, Bool.and_self]

end Go.V
end
section
namespace Go.V
open Go Go.Proofs
set_option linter.unusedSimpArgs false
set_option linter.unusedVariables false
set_option maxRecDepth 4000
def g_limits_IsSpan (x0_least : Int) (x1_x : GSpan) (x2_most : Int) : Option (Bool) := cond (decide (x0_least ≤ x1_x.Low)) (cond (decide (x1_x.Low ≤ x1_x.High)) (some (decide (x1_x.High ≤ x2_most))) (some false)) (some false)
theorem g_limits_IsSpan_ok (x0_least : Int) (x1_x : GSpan) (x2_most : Int) (R : Bool) (h : g_limits_IsSpan x0_least x1_x x2_most = some R) : VPure Tryz.prog G0 80 [.lit (.int .i64 x0_least), .agg (cGSpan x1_x), .lit (.int .i64 x2_most)] (.tree (.lit (.bool R))) := by
  refine VPure.runT mixed Tryz.call80 Tryz.func80 rfl (by simp [Tryz.ntmps80]; kernel_rfl) ?_
  obtain ⟨KF, h, kF, kN⟩ := fun_intro h
  simp only [g_limits_IsSpan] at h
  cases d3 : (decide (x0_least ≤ x1_x.Low))
  · simp only [d3, cond_true, cond_false, lbind_go, lbind_ret, lbind_brk, lbind_none, Option.bind_some, Option.bind_none, Bool.not_true, Bool.not_false, reduceCtorEq] at h
    simp only [vs, cwp_label, ng_normal, ng_ret, ng_exit, cr, tyf, d3, implies_true, Nat.reduceAdd, Nat.reduceMul, Nat.reduceEqDiff, Nat.reduceLeDiff, reduceIte, reduceCtorEq]
    obtain rfl := kF _ h
    refine ret1 Tryz.results80 ?_ ?_
    · first | (simp only [outV, upd_apply, updH_apply, without_apply, showV_ref, cr, tyf, nrm, tynrm, d3, implies_true, Nat.reduceAdd, Nat.reduceMul, Nat.reduceEqDiff, Nat.reduceLeDiff, reduceIte, reduceCtorEq]; done) | (simp only [outV, upd_apply, updH_apply, without_apply, showV_ref, cr, tyf, nrm, tynrm, d3, implies_true, Nat.reduceAdd, Nat.reduceMul, Nat.reduceEqDiff, Nat.reduceLeDiff, reduceIte, reduceCtorEq]; rfl)
    · simp only [tre, tytre, Bool.and_self]
  · simp only [d3, cond_true, cond_false, lbind_go, lbind_ret, lbind_brk, lbind_none, Option.bind_some, Option.bind_none, Bool.not_true, Bool.not_false, reduceCtorEq] at h
    cases d4 : (decide (x1_x.Low ≤ x1_x.High))
    · simp only [d4, cond_true, cond_false, lbind_go, lbind_ret, lbind_brk, lbind_none, Option.bind_some, Option.bind_none, Bool.not_true, Bool.not_false, reduceCtorEq] at h
      simp only [vs, cwp_label, ng_normal, ng_ret, ng_exit, cr, tyf, d3, d4, implies_true, Nat.reduceAdd, Nat.reduceMul, Nat.reduceEqDiff, Nat.reduceLeDiff, reduceIte, reduceCtorEq]
      obtain rfl := kF _ h
      refine ret1 Tryz.results80 ?_ ?_
      · first | (simp only [outV, upd_apply, updH_apply, without_apply, showV_ref, cr, tyf, nrm, tynrm, d3, d4, implies_true, Nat.reduceAdd, Nat.reduceMul, Nat.reduceEqDiff, Nat.reduceLeDiff, reduceIte, reduceCtorEq]; done) | (simp only [outV, upd_apply, updH_apply, without_apply, showV_ref, cr, tyf, nrm, tynrm, d3, d4, implies_true, Nat.reduceAdd, Nat.reduceMul, Nat.reduceEqDiff, Nat.reduceLeDiff, reduceIte, reduceCtorEq]; rfl)
      · simp only [tre, tytre, Bool.and_self]
    · simp only [d4, cond_true, cond_false, lbind_go, lbind_ret, lbind_brk, lbind_none, Option.bind_some, Option.bind_none, Bool.not_true, Bool.not_false, reduceCtorEq] at h
      simp only [vs, cwp_label, ng_normal, ng_ret, ng_exit, cr, tyf, d3, d4, implies_true, Nat.reduceAdd, Nat.reduceMul, Nat.reduceEqDiff, Nat.reduceLeDiff, reduceIte, reduceCtorEq]
      obtain rfl := kF _ h
      refine ret1 Tryz.results80 ?_ ?_
      · first | (simp only [outV, upd_apply, updH_apply, without_apply, showV_ref, cr, tyf, nrm, tynrm, d3, d4, implies_true, Nat.reduceAdd, Nat.reduceMul, Nat.reduceEqDiff, Nat.reduceLeDiff, reduceIte, reduceCtorEq]; done) | (simp only [outV, upd_apply, updH_apply, without_apply, showV_ref, cr, tyf, nrm, tynrm, d3, d4, implies_true, Nat.reduceAdd, Nat.reduceMul, Nat.reduceEqDiff, Nat.reduceLeDiff, reduceIte, reduceCtorEq]; rfl)
      · simp only [tre, tytre, Bool.and_self]

end Go.V
end
section
namespace Go.V
open Go Go.Proofs
set_option linter.unusedSimpArgs false
set_option linter.unusedVariables false
set_option maxRecDepth 4000
def g_limits_AreFrom_l0 (x0_least : Int) (x2_most : Int) : List Int → Int → Option (LOut (Bool) (Unit))
  | [], c0_11 => some (.go ())
  | e0 :: p0, c0_11 => Option.bind (g_limits_IsFrom x0_least e0 x2_most) (fun r1 => cond (r1) (g_limits_AreFrom_l0 x0_least x2_most p0 (c0_11 + 1)) (some (.ret false)))
def g_limits_AreFrom (x0_least : Int) (x1_numbers : List Int) (x2_most : Int) : Option (Bool) := cond (lenOk x1_numbers) (lbind (g_limits_AreFrom_l0 x0_least x2_most x1_numbers 0) (fun r => some r) (fun c2 => some true) (fun _ _ => none)) none
theorem g_limits_AreFrom_ok (x0_least : Int) (x1_numbers : List Int) (x2_most : Int) (R : Bool) (h : g_limits_AreFrom x0_least x1_numbers x2_most = some R) : VPure Tryz.prog G0 115 [.lit (.int .i64 x0_least), .sl (cellsL eI x1_numbers) (List.length x1_numbers) false, .lit (.int .i64 x2_most)] (.tree (.lit (.bool R))) := by
  refine VPure.runT mixed Tryz.call115 Tryz.func115 rfl (by simp [Tryz.ntmps115]; kernel_rfl) ?_
  obtain ⟨KF, h, kF, kN⟩ := fun_intro h
  simp only [g_limits_AreFrom] at h
  cases g4 : (lenOk x1_numbers)
  · simp only [g4, cond_true, cond_false, lbind_go, lbind_ret, lbind_brk, lbind_none, Option.bind_some, Option.bind_none, Bool.not_true, Bool.not_false, reduceCtorEq] at h
    exact absurd h kN
  simp only [g4, cond_true, cond_false, lbind_go, lbind_ret, lbind_brk, lbind_none, Option.bind_some, Option.bind_none, Bool.not_true, Bool.not_false, reduceCtorEq] at h
  simp only [vs, cwp_label, ng_normal, ng_ret, ng_exit, cr, tyf, g4, implies_true, Nat.reduceAdd, Nat.reduceMul, Nat.reduceEqDiff, Nat.reduceLeDiff, reduceIte, reduceCtorEq]
  obtain ⟨K3, h, kR3, kG3, kB3, kN3⟩ := lbind_intro h kN
  obtain ⟨f3, hf3, h⟩ := call2 h
  obtain ⟨I3, hI3⟩ : ∃ I : Nat → St → Prop, I = (fun m st => ∃ (p3 : List Int) (c3_11 : Int), m = List.length p3 ∧ 0 ≤ c3_11 ∧ List.drop (Int.toNat c3_11) x1_numbers = p3 ∧ st.df = [] ∧ st.tm 0 = .lit (.int .i64 x0_least) ∧ st.tm 2 = .lit (.int .i64 x2_most) ∧ st.tm 9 = .sl (cellsL eI x1_numbers) (List.length x1_numbers) false ∧ st.tm 10 = .lit (.int .i64 (List.length x1_numbers : Int)) ∧ st.tm 11 = .lit (.int .i64 c3_11) ∧ K3 (f3 p3 c3_11)) := ⟨_, rfl⟩
  refine loopK mixed (by kernel_rfl) I3 (List.length x1_numbers) (by rw [hI3]; refine ⟨x1_numbers, 0, rfl, Int.le_refl _, rfl, rfl, ?_, ?_, ?_, ?_, ?_, h⟩ <;> first | (simp only [upd_apply, updH_apply, without_apply, implies_true, Nat.reduceAdd, Nat.reduceMul, Nat.reduceEqDiff, Nat.reduceLeDiff, reduceIte, reduceCtorEq]; done) | (simp only [upd_apply, updH_apply, without_apply, implies_true, Nat.reduceAdd, Nat.reduceMul, Nat.reduceEqDiff, Nat.reduceLeDiff, reduceIte, reduceCtorEq]; rfl) | rfl) ?_
  rintro m ⟨tm, H, nx, df⟩ hinv
  rw [hI3] at hinv
  obtain ⟨p3, c3_11, rfl, hi3, hp3, hdf, e5, e6, e7, e8, e9, h⟩ := hinv
  simp only at hdf e5 e6 e7 e8 e9
  subst hdf hf3
  cases p3 with
  | nil =>
    have d10 : (decide (c3_11 < (List.length x1_numbers : Int))) = false := not_lt_of_drop hi3 hp3
    simp only [g_limits_AreFrom_l0, cond_true, cond_false, lbind_go, lbind_ret, lbind_brk, lbind_none, Option.bind_some, Option.bind_none, Bool.not_true, Bool.not_false, reduceCtorEq] at h
    replace h := kG3 _ h
    try dsimp only at h
    try simp only [cond_true, cond_false, lbind_go, lbind_ret, lbind_brk, lbind_none, Option.bind_some, Option.bind_none, Bool.not_true, Bool.not_false] at h
    simp only [vs, cwp_label, ng_normal, ng_ret, ng_exit, cr, tyf, g4, e5, e6, e7, e8, e9, d10, implies_true, Nat.reduceAdd, Nat.reduceMul, Nat.reduceEqDiff, Nat.reduceLeDiff, reduceIte, reduceCtorEq]
    obtain rfl := kF _ h
    refine ret1 Tryz.results115 ?_ ?_
    · first | (simp only [outV, upd_apply, updH_apply, without_apply, showV_ref, cr, tyf, nrm, tynrm, g4, e5, e6, e7, e8, e9, d10, implies_true, Nat.reduceAdd, Nat.reduceMul, Nat.reduceEqDiff, Nat.reduceLeDiff, reduceIte, reduceCtorEq]; done) | (simp only [outV, upd_apply, updH_apply, without_apply, showV_ref, cr, tyf, nrm, tynrm, g4, e5, e6, e7, e8, e9, d10, implies_true, Nat.reduceAdd, Nat.reduceMul, Nat.reduceEqDiff, Nat.reduceLeDiff, reduceIte, reduceCtorEq]; rfl)
    · simp only [tre, tytre, Bool.and_self]
  | cons e3 p3 =>
    have d11 : (decide (c3_11 < (List.length x1_numbers : Int))) = true := lt_of_drop hi3 hp3
    have o13 := getI_of_drop hi3 hp3
    have w12 := wrap_next hi3 hp3 g4
    simp only [g_limits_AreFrom_l0, cond_true, cond_false, lbind_go, lbind_ret, lbind_brk, lbind_none, Option.bind_some, Option.bind_none, Bool.not_true, Bool.not_false, reduceCtorEq] at h
    cases o15 : (g_limits_IsFrom x0_least e3 x2_most) with
    | none =>
      simp only [o15, cond_true, cond_false, lbind_go, lbind_ret, lbind_brk, lbind_none, Option.bind_some, Option.bind_none, Bool.not_true, Bool.not_false, reduceCtorEq] at h
      exact absurd h kN3
    | some r14 =>
      simp only [o15, cond_true, cond_false, lbind_go, lbind_ret, lbind_brk, lbind_none, Option.bind_some, Option.bind_none, Bool.not_true, Bool.not_false, reduceCtorEq] at h
      simp only [vs, cwp_label, ng_normal, ng_ret, ng_exit, cr, tyf, g4, e5, e6, e7, e8, e9, d11, (ix22 o13), w12, implies_true, Nat.reduceAdd, Nat.reduceMul, Nat.reduceEqDiff, Nat.reduceLeDiff, reduceIte, reduceCtorEq]
      refine ktree (args0 := [.lit (.int .i64 x0_least), .lit (.int .i64 e3), .lit (.int .i64 x2_most)]) (by first | (simp only [nrm, tynrm]; done) | (simp only [nrm, tynrm]; rfl) | rfl) (by simp only [tre, tytre, Bool.and_self]) (g_limits_IsFrom_ok _ _ _ _ o15) ?_
      refine fin_cut (fun tm => tm 0 = .lit (.int .i64 x0_least) ∧ tm 2 = .lit (.int .i64 x2_most) ∧ tm 9 = .sl (cellsL eI x1_numbers) (List.length x1_numbers) false ∧ tm 10 = .lit (.int .i64 (List.length x1_numbers : Int)) ∧ tm 11 = .lit (.int .i64 c3_11) ∧ tm 18 = .lit (.bool r14) ∧ True) (by refine ⟨e5, e6, e7, e8, e9, ?_, trivial⟩ <;> first | (simp only [upd_apply, updH_apply, without_apply, e5, e6, e7, e8, e9, d11, w12, implies_true, Nat.reduceAdd, Nat.reduceMul, Nat.reduceEqDiff, Nat.reduceLeDiff, reduceIte, reduceCtorEq]; done) | (simp only [upd_apply, updH_apply, without_apply, e5, e6, e7, e8, e9, d11, w12, implies_true, Nat.reduceAdd, Nat.reduceMul, Nat.reduceEqDiff, Nat.reduceLeDiff, reduceIte, reduceCtorEq]; rfl) | rfl) ?_
      rintro tm ⟨e16, e17, e18, e19, e20, e21, _⟩
      cases d22 : (r14)
      · simp only [d22, cond_true, cond_false, lbind_go, lbind_ret, lbind_brk, lbind_none, Option.bind_some, Option.bind_none, Bool.not_true, Bool.not_false, reduceCtorEq] at h
        simp only [vs, cwp_label, ng_normal, ng_ret, ng_exit, cr, tyf, g4, d11, (ix22 o13), w12, e16, e17, e18, e19, e20, e21, d22, implies_true, Nat.reduceAdd, Nat.reduceMul, Nat.reduceEqDiff, Nat.reduceLeDiff, reduceIte, reduceCtorEq]
        replace h := kR3 _ h
        try dsimp only at h
        obtain rfl := kF _ h
        refine ret1 Tryz.results115 ?_ ?_
        · first | (simp only [outV, upd_apply, updH_apply, without_apply, showV_ref, cr, tyf, nrm, tynrm, g4, d11, (ix22 o13), w12, e16, e17, e18, e19, e20, e21, d22, implies_true, Nat.reduceAdd, Nat.reduceMul, Nat.reduceEqDiff, Nat.reduceLeDiff, reduceIte, reduceCtorEq]; done) | (simp only [outV, upd_apply, updH_apply, without_apply, showV_ref, cr, tyf, nrm, tynrm, g4, d11, (ix22 o13), w12, e16, e17, e18, e19, e20, e21, d22, implies_true, Nat.reduceAdd, Nat.reduceMul, Nat.reduceEqDiff, Nat.reduceLeDiff, reduceIte, reduceCtorEq]; rfl)
        · simp only [tre, tytre, Bool.and_self]
      · simp only [d22, cond_true, cond_false, lbind_go, lbind_ret, lbind_brk, lbind_none, Option.bind_some, Option.bind_none, Bool.not_true, Bool.not_false, reduceCtorEq] at h
        simp only [vs, cwp_label, ng_normal, ng_ret, ng_exit, cr, tyf, g4, d11, (ix22 o13), w12, e16, e17, e18, e19, e20, e21, d22, implies_true, Nat.reduceAdd, Nat.reduceMul, Nat.reduceEqDiff, Nat.reduceLeDiff, reduceIte, reduceCtorEq]
        exact ⟨List.length p3, Nat.lt_succ_self _, by rw [hI3]; refine ⟨p3, c3_11 + 1, rfl, Int.le_trans hi3 (Int.le_add_one (Int.le_refl _)), drop_next hi3 hp3, rfl, e16, e17, e18, e19, ?_, h⟩ <;> first | (simp only [upd_apply, updH_apply, without_apply, d11, w12, e16, e17, e18, e19, e20, e21, d22, implies_true, Nat.reduceAdd, Nat.reduceMul, Nat.reduceEqDiff, Nat.reduceLeDiff, reduceIte, reduceCtorEq]; done) | (simp only [upd_apply, updH_apply, without_apply, d11, w12, e16, e17, e18, e19, e20, e21, d22, implies_true, Nat.reduceAdd, Nat.reduceMul, Nat.reduceEqDiff, Nat.reduceLeDiff, reduceIte, reduceCtorEq]; rfl) | rfl⟩

end Go.V
end
section
namespace Go.V
open Go Go.Proofs
set_option linter.unusedSimpArgs false
set_option linter.unusedVariables false
set_option maxRecDepth 4000
def g_letter_areWidths (x0_widths : List Int) : Option (Bool) := Option.bind (g_limits_IsFrom 1 (List.length x0_widths : Int) 6) (fun r1 => cond (r1) (Option.bind (g_limits_AreFrom 1 x0_widths 20) (fun r2 => some r2)) (some false))
theorem g_letter_areWidths_ok (x0_widths : List Int) (R : Bool) (h : g_letter_areWidths x0_widths = some R) : VPure Tryz.prog G0 78 [.sl (cellsL eI x0_widths) (List.length x0_widths) false] (.tree (.lit (.bool R))) := by
  refine VPure.runT mixed Tryz.call78 Tryz.func78 rfl (by simp [Tryz.ntmps78]; kernel_rfl) ?_
  obtain ⟨KF, h, kF, kN⟩ := fun_intro h
  simp only [g_letter_areWidths] at h
  cases o4 : (g_limits_IsFrom 1 (List.length x0_widths : Int) 6) with
  | none =>
    simp only [o4, cond_true, cond_false, lbind_go, lbind_ret, lbind_brk, lbind_none, Option.bind_some, Option.bind_none, Bool.not_true, Bool.not_false, reduceCtorEq] at h
    exact absurd h kN
  | some r3 =>
    simp only [o4, cond_true, cond_false, lbind_go, lbind_ret, lbind_brk, lbind_none, Option.bind_some, Option.bind_none, Bool.not_true, Bool.not_false, reduceCtorEq] at h
    simp only [vs, cwp_label, ng_normal, ng_ret, ng_exit, cr, tyf, implies_true, Nat.reduceAdd, Nat.reduceMul, Nat.reduceEqDiff, Nat.reduceLeDiff, reduceIte, reduceCtorEq]
    refine ktree (args0 := [.lit (.int .i64 1), .lit (.int .i64 (List.length x0_widths : Int)), .lit (.int .i64 6)]) (by first | (simp only [nrm, tynrm]; done) | (simp only [nrm, tynrm]; rfl) | rfl) (by simp only [tre, tytre, Bool.and_self]) (g_limits_IsFrom_ok _ _ _ _ o4) ?_
    refine fin_cut (fun tm => tm 0 = .sl (cellsL eI x0_widths) (List.length x0_widths) false ∧ tm 5 = .lit (.bool r3) ∧ True) (by refine ⟨?_, ?_, trivial⟩ <;> first | (simp only [upd_apply, updH_apply, without_apply, implies_true, Nat.reduceAdd, Nat.reduceMul, Nat.reduceEqDiff, Nat.reduceLeDiff, reduceIte, reduceCtorEq]; done) | (simp only [upd_apply, updH_apply, without_apply, implies_true, Nat.reduceAdd, Nat.reduceMul, Nat.reduceEqDiff, Nat.reduceLeDiff, reduceIte, reduceCtorEq]; rfl) | rfl) ?_
    rintro tm ⟨e5, e6, _⟩
    cases d7 : (r3)
    · simp only [d7, cond_true, cond_false, lbind_go, lbind_ret, lbind_brk, lbind_none, Option.bind_some, Option.bind_none, Bool.not_true, Bool.not_false, reduceCtorEq] at h
      simp only [vs, cwp_label, ng_normal, ng_ret, ng_exit, cr, tyf, e5, e6, d7, implies_true, Nat.reduceAdd, Nat.reduceMul, Nat.reduceEqDiff, Nat.reduceLeDiff, reduceIte, reduceCtorEq]
      obtain rfl := kF _ h
      refine ret1 Tryz.results78 ?_ ?_
      · first | (simp only [outV, upd_apply, updH_apply, without_apply, showV_ref, cr, tyf, nrm, tynrm, e5, e6, d7, implies_true, Nat.reduceAdd, Nat.reduceMul, Nat.reduceEqDiff, Nat.reduceLeDiff, reduceIte, reduceCtorEq]; done) | (simp only [outV, upd_apply, updH_apply, without_apply, showV_ref, cr, tyf, nrm, tynrm, e5, e6, d7, implies_true, Nat.reduceAdd, Nat.reduceMul, Nat.reduceEqDiff, Nat.reduceLeDiff, reduceIte, reduceCtorEq]; rfl)
      · simp only [tre, tytre, Bool.and_self]
    · simp only [d7, cond_true, cond_false, lbind_go, lbind_ret, lbind_brk, lbind_none, Option.bind_some, Option.bind_none, Bool.not_true, Bool.not_false, reduceCtorEq] at h
      cases o9 : (g_limits_AreFrom 1 x0_widths 20) with
      | none =>
        simp only [o9, cond_true, cond_false, lbind_go, lbind_ret, lbind_brk, lbind_none, Option.bind_some, Option.bind_none, Bool.not_true, Bool.not_false, reduceCtorEq] at h
        exact absurd h kN
      | some r8 =>
        simp only [o9, cond_true, cond_false, lbind_go, lbind_ret, lbind_brk, lbind_none, Option.bind_some, Option.bind_none, Bool.not_true, Bool.not_false, reduceCtorEq] at h
        simp only [vs, cwp_label, ng_normal, ng_ret, ng_exit, cr, tyf, e5, e6, d7, implies_true, Nat.reduceAdd, Nat.reduceMul, Nat.reduceEqDiff, Nat.reduceLeDiff, reduceIte, reduceCtorEq]
        refine ktree (args0 := [.lit (.int .i64 1), .sl (cellsL eI x0_widths) (List.length x0_widths) false, .lit (.int .i64 20)]) (by first | (simp only [nrm, tynrm]; done) | (simp only [nrm, tynrm]; rfl) | rfl) (by simp only [tre, tytre, Bool.and_self]) (g_limits_AreFrom_ok _ _ _ _ o9) ?_
        refine fin_cut (fun tm => tm 6 = .lit (.bool true) ∧ tm 8 = .lit (.bool r8) ∧ True) (by refine ⟨?_, ?_, trivial⟩ <;> first | (simp only [upd_apply, updH_apply, without_apply, e5, e6, d7, implies_true, Nat.reduceAdd, Nat.reduceMul, Nat.reduceEqDiff, Nat.reduceLeDiff, reduceIte, reduceCtorEq]; done) | (simp only [upd_apply, updH_apply, without_apply, e5, e6, d7, implies_true, Nat.reduceAdd, Nat.reduceMul, Nat.reduceEqDiff, Nat.reduceLeDiff, reduceIte, reduceCtorEq]; rfl) | rfl) ?_
        rintro tm ⟨e10, e11, _⟩
        simp only [vs, cwp_label, ng_normal, ng_ret, ng_exit, cr, tyf, d7, e10, e11, implies_true, Nat.reduceAdd, Nat.reduceMul, Nat.reduceEqDiff, Nat.reduceLeDiff, reduceIte, reduceCtorEq]
        obtain rfl := kF _ h
        refine ret1 Tryz.results78 ?_ ?_
        · first | (simp only [outV, upd_apply, updH_apply, without_apply, showV_ref, cr, tyf, nrm, tynrm, d7, e10, e11, implies_true, Nat.reduceAdd, Nat.reduceMul, Nat.reduceEqDiff, Nat.reduceLeDiff, reduceIte, reduceCtorEq]; done) | (simp only [outV, upd_apply, updH_apply, without_apply, showV_ref, cr, tyf, nrm, tynrm, d7, e10, e11, implies_true, Nat.reduceAdd, Nat.reduceMul, Nat.reduceEqDiff, Nat.reduceLeDiff, reduceIte, reduceCtorEq]; rfl)
        · simp only [tre, tytre, Bool.and_self]

end Go.V
end
