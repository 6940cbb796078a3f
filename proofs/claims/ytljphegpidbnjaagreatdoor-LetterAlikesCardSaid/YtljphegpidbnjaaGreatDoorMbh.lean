/- Part of the proof of a statement of YtljphegpidbnjaaGreatDoor: a logic of values by content, the lifted functions, and what follows. -/
import Derived.Test.YtljphegpidbnjaaGreatDoorMbf
import Derived.Test.YtljphegpidbnjaaGreatDoorMbg
set_option linter.unusedVariables false
set_option linter.unusedSimpArgs false
set_option linter.unusedSectionVars false
set_option linter.constructorNameAsVariable false
section
namespace Go.V
open Go Go.Proofs
set_option linter.unusedSimpArgs false
set_option linter.unusedVariables false
set_option maxRecDepth 4000
def g_ref01_word_l1 (x1_w : GLetterWord) : List Int → Int → Option (LOut (Bool) (Unit))
  | [], c1_6 => some (.go ())
  | e1 :: p1, c1_6 => Option.bind (g_ref01_in e1 1 (IntKind.i64.wrap ((List.length x1_w.Signs : Int) - 1))) (fun r5 => cond (r5) (cond (decide (c1_6 > 0)) (Option.bind (getI x1_w.Cuts (IntKind.i64.wrap (c1_6 - 1))) (fun x6 => cond (decide (e1 ≤ x6)) (some (.ret false)) (g_ref01_word_l1 x1_w p1 (c1_6 + 1)))) (g_ref01_word_l1 x1_w p1 (c1_6 + 1))) (some (.ret false)))
def g_ref01_word_l0 (x0_s : GLetterSheet) : List Int → Int → Option (LOut (Bool) (Unit))
  | [], c0_5 => some (.go ())
  | e0 :: p0, c0_5 => Option.bind (g_ref01_sign x0_s e0) (fun r3 => cond (r3) (g_ref01_word_l0 x0_s p0 (c0_5 + 1)) (some (.ret false)))
def g_ref01_word (x0_s : GLetterSheet) (x1_w : GLetterWord) : Option (Bool) := cond (lenOk x1_w.Signs) (lbind (g_ref01_word_l0 x0_s x1_w.Signs 0) (fun r => some r) (fun c4 => cond (lenOk x1_w.Cuts) (lbind (g_ref01_word_l1 x1_w x1_w.Cuts 0) (fun r => some r) (fun c7 => Option.bind (g_ref01_in (List.length x1_w.Signs : Int) 1 6) (fun r8 => some r8)) (fun _ _ => none)) none) (fun _ _ => none)) none
theorem g_ref01_word_ok (x0_s : GLetterSheet) (x1_w : GLetterWord) (R : Bool) (h : g_ref01_word x0_s x1_w = some R) : VPure Tryz.prog G0 44 [.agg (cGLetterSheet x0_s), .agg (cGLetterWord x1_w)] (.tree (.lit (.bool R))) := by
  refine VPure.runT mixed Tryz.call44 Tryz.func44 rfl (by simp [Tryz.ntmps44]; kernel_rfl) ?_
  obtain ⟨KF, h, kF, kN⟩ := fun_intro h
  simp only [g_ref01_word] at h
  cases g12 : (lenOk x1_w.Signs)
  · simp only [g12, cond_true, cond_false, lbind_go, lbind_ret, lbind_brk, lbind_none, Option.bind_some, Option.bind_none, Bool.not_true, Bool.not_false, reduceCtorEq] at h
    exact absurd h kN
  simp only [g12, cond_true, cond_false, lbind_go, lbind_ret, lbind_brk, lbind_none, Option.bind_some, Option.bind_none, Bool.not_true, Bool.not_false, reduceCtorEq] at h
  simp only [vs, cwp_label, ng_normal, ng_ret, ng_exit, cr, tyf, g12, implies_true, Nat.reduceAdd, Nat.reduceMul, Nat.reduceEqDiff, Nat.reduceLeDiff, reduceIte, reduceCtorEq]
  obtain ⟨K11, h, kR11, kG11, kB11, kN11⟩ := lbind_intro h kN
  obtain ⟨f11, hf11, h⟩ := call2 h
  obtain ⟨I11, hI11⟩ : ∃ I : Nat → St → Prop, I = (fun m st => ∃ (p11 : List Int) (c11_5 : Int), m = List.length p11 ∧ 0 ≤ c11_5 ∧ List.drop (Int.toNat c11_5) x1_w.Signs = p11 ∧ st.df = [] ∧ 2 ≤ st.nx ∧ st.H 1 = some (.cells (some 49) (cGLetterWord x1_w)) ∧ st.H 0 = some (.cells (some 28) (cGLetterSheet x0_s)) ∧ st.tm 2 = .ptr 0 0 ∧ st.tm 3 = .ptr 1 0 ∧ st.tm 5 = .lit (.int .i64 c11_5) ∧ K11 (f11 p11 c11_5)) := ⟨_, rfl⟩
  refine loopK mixed (by kernel_rfl) I11 (List.length x1_w.Signs) (by rw [hI11]; refine ⟨x1_w.Signs, 0, rfl, Int.le_refl _, rfl, rfl, (show 2 ≤ 4 by decide), ?_, ?_, ?_, ?_, ?_, h⟩ <;> first | (simp only [upd_apply, updH_apply, without_apply, implies_true, Nat.reduceAdd, Nat.reduceMul, Nat.reduceEqDiff, Nat.reduceLeDiff, reduceIte, reduceCtorEq]; done) | (simp only [upd_apply, updH_apply, without_apply, implies_true, Nat.reduceAdd, Nat.reduceMul, Nat.reduceEqDiff, Nat.reduceLeDiff, reduceIte, reduceCtorEq]; rfl) | rfl) ?_
  rintro m ⟨tm, H, nx, df⟩ hinv
  rw [hI11] at hinv
  obtain ⟨p11, c11_5, rfl, hi11, hp11, hdf, hn11, H16, H17, e13, e14, e15, h⟩ := hinv
  simp only at hdf hn11 H16 H17 e13 e14 e15
  have q18 := fresh_ne (n := 1) (B := 2) (by decide) hn11
  have q19 := fresh_ne (n := 0) (B := 2) (by decide) hn11
  subst hdf hf11
  cases p11 with
  | nil =>
    have d20 : (decide (c11_5 < (List.length x1_w.Signs : Int))) = false := not_lt_of_drop hi11 hp11
    simp only [g_ref01_word_l0, cond_true, cond_false, lbind_go, lbind_ret, lbind_brk, lbind_none, Option.bind_some, Option.bind_none, Bool.not_true, Bool.not_false, reduceCtorEq] at h
    replace h := kG11 _ h
    try dsimp only at h
    try simp only [cond_true, cond_false, lbind_go, lbind_ret, lbind_brk, lbind_none, Option.bind_some, Option.bind_none, Bool.not_true, Bool.not_false] at h
    cases g22 : (lenOk x1_w.Cuts)
    · simp only [g22, cond_true, cond_false, lbind_go, lbind_ret, lbind_brk, lbind_none, Option.bind_some, Option.bind_none, Bool.not_true, Bool.not_false, reduceCtorEq] at h
      exact absurd h kN
    simp only [g22, cond_true, cond_false, lbind_go, lbind_ret, lbind_brk, lbind_none, Option.bind_some, Option.bind_none, Bool.not_true, Bool.not_false, reduceCtorEq] at h
    simp only [vs, cwp_label, ng_normal, ng_ret, ng_exit, cr, tyf, g12, e13, e14, e15, H16, H17, q18, q19, d20, g22, implies_true, Nat.reduceAdd, Nat.reduceMul, Nat.reduceEqDiff, Nat.reduceLeDiff, reduceIte, reduceCtorEq]
    obtain ⟨K21, h, kR21, kG21, kB21, kN21⟩ := lbind_intro h kN
    obtain ⟨f21, hf21, h⟩ := call2 h
    obtain ⟨I21, hI21⟩ : ∃ I : Nat → St → Prop, I = (fun m st => ∃ (p21 : List Int) (c21_6 : Int), m = List.length p21 ∧ 0 ≤ c21_6 ∧ List.drop (Int.toNat c21_6) x1_w.Cuts = p21 ∧ st.df = [] ∧ 2 ≤ st.nx ∧ st.H 1 = some (.cells (some 49) (cGLetterWord x1_w)) ∧ st.tm 3 = .ptr 1 0 ∧ st.tm 6 = .lit (.int .i64 c21_6) ∧ K21 (f21 p21 c21_6)) := ⟨_, rfl⟩
    refine loopK mixed (by kernel_rfl) I21 (List.length x1_w.Cuts) (by rw [hI21]; refine ⟨x1_w.Cuts, 0, rfl, Int.le_refl _, rfl, rfl, (show 2 ≤ nx + 6 by omega), ?_, e14, ?_, h⟩ <;> first | (simp only [upd_apply, updH_apply, without_apply, e13, e14, e15, H16, H17, q18, q19, d20, implies_true, Nat.reduceAdd, Nat.reduceMul, Nat.reduceEqDiff, Nat.reduceLeDiff, reduceIte, reduceCtorEq]; done) | (simp only [upd_apply, updH_apply, without_apply, e13, e14, e15, H16, H17, q18, q19, d20, implies_true, Nat.reduceAdd, Nat.reduceMul, Nat.reduceEqDiff, Nat.reduceLeDiff, reduceIte, reduceCtorEq]; rfl) | rfl) ?_
    rintro m ⟨tm, H, nx, df⟩ hinv
    rw [hI21] at hinv
    obtain ⟨p21, c21_6, rfl, hi21, hp21, hdf, hn21, H25, e23, e24, h⟩ := hinv
    simp only at hdf hn21 H25 e23 e24
    have q26 := fresh_ne (n := 1) (B := 2) (by decide) hn21
    subst hdf hf21
    cases p21 with
    | nil =>
      have d27 : (decide (c21_6 < (List.length x1_w.Cuts : Int))) = false := not_lt_of_drop hi21 hp21
      simp only [g_ref01_word_l1, cond_true, cond_false, lbind_go, lbind_ret, lbind_brk, lbind_none, Option.bind_some, Option.bind_none, Bool.not_true, Bool.not_false, reduceCtorEq] at h
      replace h := kG21 _ h
      try dsimp only at h
      try simp only [cond_true, cond_false, lbind_go, lbind_ret, lbind_brk, lbind_none, Option.bind_some, Option.bind_none, Bool.not_true, Bool.not_false] at h
      cases o29 : (g_ref01_in (List.length x1_w.Signs : Int) 1 6) with
      | none =>
        simp only [o29, cond_true, cond_false, lbind_go, lbind_ret, lbind_brk, lbind_none, Option.bind_some, Option.bind_none, Bool.not_true, Bool.not_false, reduceCtorEq] at h
        exact absurd h kN
      | some r28 =>
        simp only [o29, cond_true, cond_false, lbind_go, lbind_ret, lbind_brk, lbind_none, Option.bind_some, Option.bind_none, Bool.not_true, Bool.not_false, reduceCtorEq] at h
        simp only [vs, cwp_label, ng_normal, ng_ret, ng_exit, cr, tyf, g12, d20, g22, e23, e24, H25, q26, d27, implies_true, Nat.reduceAdd, Nat.reduceMul, Nat.reduceEqDiff, Nat.reduceLeDiff, reduceIte, reduceCtorEq]
        refine ktree (args0 := [.lit (.int .i64 (List.length x1_w.Signs : Int)), .lit (.int .i64 1), .lit (.int .i64 6)]) (by first | (simp only [nrm, tynrm]; done) | (simp only [nrm, tynrm]; rfl) | rfl) (by simp only [tre, tytre, Bool.and_self]) (g_ref01_in_ok _ _ _ _ o29) ?_
        refine fin_cut (fun tm => tm 61 = .lit (.bool r28) ∧ True) (by refine ⟨?_, trivial⟩ <;> first | (simp only [upd_apply, updH_apply, without_apply, d20, e23, e24, H25, q26, d27, implies_true, Nat.reduceAdd, Nat.reduceMul, Nat.reduceEqDiff, Nat.reduceLeDiff, reduceIte, reduceCtorEq]; done) | (simp only [upd_apply, updH_apply, without_apply, d20, e23, e24, H25, q26, d27, implies_true, Nat.reduceAdd, Nat.reduceMul, Nat.reduceEqDiff, Nat.reduceLeDiff, reduceIte, reduceCtorEq]; rfl) | rfl) ?_
        rintro tm ⟨e30, _⟩
        simp only [vs, cwp_label, ng_normal, ng_ret, ng_exit, cr, tyf, g12, d20, g22, H25, q26, d27, e30, implies_true, Nat.reduceAdd, Nat.reduceMul, Nat.reduceEqDiff, Nat.reduceLeDiff, reduceIte, reduceCtorEq]
        obtain rfl := kF _ h
        refine ret1 Tryz.results44 ?_ ?_
        · first | (simp only [outV, upd_apply, updH_apply, without_apply, showV_ref, cr, tyf, nrm, tynrm, g12, d20, g22, H25, q26, d27, e30, implies_true, Nat.reduceAdd, Nat.reduceMul, Nat.reduceEqDiff, Nat.reduceLeDiff, reduceIte, reduceCtorEq]; done) | (simp only [outV, upd_apply, updH_apply, without_apply, showV_ref, cr, tyf, nrm, tynrm, g12, d20, g22, H25, q26, d27, e30, implies_true, Nat.reduceAdd, Nat.reduceMul, Nat.reduceEqDiff, Nat.reduceLeDiff, reduceIte, reduceCtorEq]; rfl)
        · simp only [tre, tytre, Bool.and_self]
    | cons e21 p21 =>
      have d31 : (decide (c21_6 < (List.length x1_w.Cuts : Int))) = true := lt_of_drop hi21 hp21
      have o33 := getI_of_drop hi21 hp21
      have w32 := wrap_next hi21 hp21 g22
      simp only [g_ref01_word_l1, cond_true, cond_false, lbind_go, lbind_ret, lbind_brk, lbind_none, Option.bind_some, Option.bind_none, Bool.not_true, Bool.not_false, reduceCtorEq] at h
      simp only [vs, cwp_label, ng_normal, ng_ret, ng_exit, cr, tyf, g12, d20, g22, e23, e24, H25, q26, d31, (ix22 o33), w32, implies_true, Nat.reduceAdd, Nat.reduceMul, Nat.reduceEqDiff, Nat.reduceLeDiff, reduceIte, reduceCtorEq]
      refine cwp_drwQF (fun tm => tm 3 = .ptr 1 0 ∧ tm 6 = .lit (.int .i64 c21_6) ∧ True) (by refine ⟨e23, e24, trivial⟩ <;> first | (simp only [upd_apply, updH_apply, without_apply, d20, e23, e24, H25, q26, d31, w32, implies_true, Nat.reduceAdd, Nat.reduceMul, Nat.reduceEqDiff, Nat.reduceLeDiff, reduceIte, reduceCtorEq]; done) | (simp only [upd_apply, updH_apply, without_apply, d20, e23, e24, H25, q26, d31, w32, implies_true, Nat.reduceAdd, Nat.reduceMul, Nat.reduceEqDiff, Nat.reduceLeDiff, reduceIte, reduceCtorEq]; rfl) | rfl) ?_
      rintro tm ⟨e34, e35, _⟩
      cases o37 : (g_ref01_in e21 1 (IntKind.i64.wrap ((List.length x1_w.Signs : Int) - 1))) with
      | none =>
        simp only [o37, cond_true, cond_false, lbind_go, lbind_ret, lbind_brk, lbind_none, Option.bind_some, Option.bind_none, Bool.not_true, Bool.not_false, reduceCtorEq] at h
        exact absurd h kN21
      | some r36 =>
        simp only [o37, cond_true, cond_false, lbind_go, lbind_ret, lbind_brk, lbind_none, Option.bind_some, Option.bind_none, Bool.not_true, Bool.not_false, reduceCtorEq] at h
        simp only [vs, cwp_label, ng_normal, ng_ret, ng_exit, cr, tyf, g12, d20, g22, H25, q26, d31, (ix22 o33), w32, e34, e35, implies_true, Nat.reduceAdd, Nat.reduceMul, Nat.reduceEqDiff, Nat.reduceLeDiff, reduceIte, reduceCtorEq]
        refine dktree (args0 := [.lit (.int .i64 e21), .lit (.int .i64 1), .lit (.int .i64 (IntKind.i64.wrap ((List.length x1_w.Signs : Int) - 1)))]) (by first | (simp only [nrm, tynrm]; done) | (simp only [nrm, tynrm]; rfl) | rfl) (by simp only [tre, tytre, Bool.and_self]) (g_ref01_in_ok _ _ _ _ o37) ?_
        refine fin_cut (fun tm => tm 3 = .ptr 1 0 ∧ tm 6 = .lit (.int .i64 c21_6) ∧ tm 38 = .lit (.bool r36) ∧ True) (by refine ⟨e34, e35, ?_, trivial⟩ <;> first | (simp only [upd_apply, updH_apply, without_apply, d20, H25, q26, d31, w32, e34, e35, implies_true, Nat.reduceAdd, Nat.reduceMul, Nat.reduceEqDiff, Nat.reduceLeDiff, reduceIte, reduceCtorEq]; done) | (simp only [upd_apply, updH_apply, without_apply, d20, H25, q26, d31, w32, e34, e35, implies_true, Nat.reduceAdd, Nat.reduceMul, Nat.reduceEqDiff, Nat.reduceLeDiff, reduceIte, reduceCtorEq]; rfl) | rfl) ?_
        rintro tm ⟨e38, e39, e40, _⟩
        cases d41 : (r36)
        · simp only [d41, cond_true, cond_false, lbind_go, lbind_ret, lbind_brk, lbind_none, Option.bind_some, Option.bind_none, Bool.not_true, Bool.not_false, reduceCtorEq] at h
          simp only [vs, cwp_label, ng_normal, ng_ret, ng_exit, cr, tyf, g12, d20, g22, H25, q26, d31, (ix22 o33), w32, e38, e39, e40, d41, implies_true, Nat.reduceAdd, Nat.reduceMul, Nat.reduceEqDiff, Nat.reduceLeDiff, reduceIte, reduceCtorEq]
          replace h := kR21 _ h
          try dsimp only at h
          obtain rfl := kF _ h
          refine ret1 Tryz.results44 ?_ ?_
          · first | (simp only [outV, upd_apply, updH_apply, without_apply, showV_ref, cr, tyf, nrm, tynrm, g12, d20, g22, H25, q26, d31, (ix22 o33), w32, e38, e39, e40, d41, implies_true, Nat.reduceAdd, Nat.reduceMul, Nat.reduceEqDiff, Nat.reduceLeDiff, reduceIte, reduceCtorEq]; done) | (simp only [outV, upd_apply, updH_apply, without_apply, showV_ref, cr, tyf, nrm, tynrm, g12, d20, g22, H25, q26, d31, (ix22 o33), w32, e38, e39, e40, d41, implies_true, Nat.reduceAdd, Nat.reduceMul, Nat.reduceEqDiff, Nat.reduceLeDiff, reduceIte, reduceCtorEq]; rfl)
          · simp only [tre, tytre, Bool.and_self]
        · simp only [d41, cond_true, cond_false, lbind_go, lbind_ret, lbind_brk, lbind_none, Option.bind_some, Option.bind_none, Bool.not_true, Bool.not_false, reduceCtorEq] at h
          cases d42 : (decide (c21_6 > 0))
          · simp only [d42, cond_true, cond_false, lbind_go, lbind_ret, lbind_brk, lbind_none, Option.bind_some, Option.bind_none, Bool.not_true, Bool.not_false, reduceCtorEq] at h
            simp only [vs, cwp_label, ng_normal, ng_ret, ng_exit, cr, tyf, g12, d20, g22, H25, q26, d31, (ix22 o33), w32, e38, e39, e40, d41, d42, implies_true, Nat.reduceAdd, Nat.reduceMul, Nat.reduceEqDiff, Nat.reduceLeDiff, reduceIte, reduceCtorEq]
            exact ⟨List.length p21, Nat.lt_succ_self _, by rw [hI21]; refine ⟨p21, c21_6 + 1, rfl, Int.le_trans hi21 (Int.le_add_one (Int.le_refl _)), drop_next hi21 hp21, rfl, (show 2 ≤ nx + 37 by omega), ?_, e38, ?_, h⟩ <;> first | (simp only [upd_apply, updH_apply, without_apply, d20, H25, q26, d31, w32, e38, e39, e40, d41, d42, implies_true, Nat.reduceAdd, Nat.reduceMul, Nat.reduceEqDiff, Nat.reduceLeDiff, reduceIte, reduceCtorEq]; done) | (simp only [upd_apply, updH_apply, without_apply, d20, H25, q26, d31, w32, e38, e39, e40, d41, d42, implies_true, Nat.reduceAdd, Nat.reduceMul, Nat.reduceEqDiff, Nat.reduceLeDiff, reduceIte, reduceCtorEq]; rfl) | rfl⟩
          · simp only [d42, cond_true, cond_false, lbind_go, lbind_ret, lbind_brk, lbind_none, Option.bind_some, Option.bind_none, Bool.not_true, Bool.not_false, reduceCtorEq] at h
            cases o44 : (getI x1_w.Cuts (IntKind.i64.wrap (c21_6 - 1))) with
            | none =>
              simp only [o44, cond_true, cond_false, lbind_go, lbind_ret, lbind_brk, lbind_none, Option.bind_some, Option.bind_none, Bool.not_true, Bool.not_false, reduceCtorEq] at h
              exact absurd h kN21
            | some x43 =>
              simp only [o44, cond_true, cond_false, lbind_go, lbind_ret, lbind_brk, lbind_none, Option.bind_some, Option.bind_none, Bool.not_true, Bool.not_false, reduceCtorEq] at h
              cases d45 : (decide (e21 ≤ x43))
              · simp only [d45, cond_true, cond_false, lbind_go, lbind_ret, lbind_brk, lbind_none, Option.bind_some, Option.bind_none, Bool.not_true, Bool.not_false, reduceCtorEq] at h
                simp only [vs, cwp_label, ng_normal, ng_ret, ng_exit, cr, tyf, g12, d20, g22, H25, q26, d31, (ix22 o33), w32, e38, e39, e40, d41, d42, (ix22 o44), d45, implies_true, Nat.reduceAdd, Nat.reduceMul, Nat.reduceEqDiff, Nat.reduceLeDiff, reduceIte, reduceCtorEq]
                exact ⟨List.length p21, Nat.lt_succ_self _, by rw [hI21]; refine ⟨p21, c21_6 + 1, rfl, Int.le_trans hi21 (Int.le_add_one (Int.le_refl _)), drop_next hi21 hp21, rfl, (show 2 ≤ nx + 37 by omega), ?_, e38, ?_, h⟩ <;> first | (simp only [upd_apply, updH_apply, without_apply, d20, H25, q26, d31, w32, e38, e39, e40, d41, d42, d45, implies_true, Nat.reduceAdd, Nat.reduceMul, Nat.reduceEqDiff, Nat.reduceLeDiff, reduceIte, reduceCtorEq]; done) | (simp only [upd_apply, updH_apply, without_apply, d20, H25, q26, d31, w32, e38, e39, e40, d41, d42, d45, implies_true, Nat.reduceAdd, Nat.reduceMul, Nat.reduceEqDiff, Nat.reduceLeDiff, reduceIte, reduceCtorEq]; rfl) | rfl⟩
              · simp only [d45, cond_true, cond_false, lbind_go, lbind_ret, lbind_brk, lbind_none, Option.bind_some, Option.bind_none, Bool.not_true, Bool.not_false, reduceCtorEq] at h
                simp only [vs, cwp_label, ng_normal, ng_ret, ng_exit, cr, tyf, g12, d20, g22, H25, q26, d31, (ix22 o33), w32, e38, e39, e40, d41, d42, (ix22 o44), d45, implies_true, Nat.reduceAdd, Nat.reduceMul, Nat.reduceEqDiff, Nat.reduceLeDiff, reduceIte, reduceCtorEq]
                replace h := kR21 _ h
                try dsimp only at h
                obtain rfl := kF _ h
                refine ret1 Tryz.results44 ?_ ?_
                · first | (simp only [outV, upd_apply, updH_apply, without_apply, showV_ref, cr, tyf, nrm, tynrm, g12, d20, g22, H25, q26, d31, (ix22 o33), w32, e38, e39, e40, d41, d42, (ix22 o44), d45, implies_true, Nat.reduceAdd, Nat.reduceMul, Nat.reduceEqDiff, Nat.reduceLeDiff, reduceIte, reduceCtorEq]; done) | (simp only [outV, upd_apply, updH_apply, without_apply, showV_ref, cr, tyf, nrm, tynrm, g12, d20, g22, H25, q26, d31, (ix22 o33), w32, e38, e39, e40, d41, d42, (ix22 o44), d45, implies_true, Nat.reduceAdd, Nat.reduceMul, Nat.reduceEqDiff, Nat.reduceLeDiff, reduceIte, reduceCtorEq]; rfl)
                · simp only [tre, tytre, Bool.and_self]
  | cons e11 p11 =>
    have d46 : (decide (c11_5 < (List.length x1_w.Signs : Int))) = true := lt_of_drop hi11 hp11
    have o48 := getI_of_drop hi11 hp11
    have w47 := wrap_next hi11 hp11 g12
    simp only [g_ref01_word_l0, cond_true, cond_false, lbind_go, lbind_ret, lbind_brk, lbind_none, Option.bind_some, Option.bind_none, Bool.not_true, Bool.not_false, reduceCtorEq] at h
    simp only [vs, cwp_label, ng_normal, ng_ret, ng_exit, cr, tyf, g12, e13, e14, e15, H16, H17, q18, q19, d46, (ix22 o48), w47, implies_true, Nat.reduceAdd, Nat.reduceMul, Nat.reduceEqDiff, Nat.reduceLeDiff, reduceIte, reduceCtorEq]
    refine cwp_drwQF (fun tm => tm 2 = .ptr 0 0 ∧ tm 3 = .ptr 1 0 ∧ tm 5 = .lit (.int .i64 c11_5) ∧ True) (by refine ⟨e13, e14, e15, trivial⟩ <;> first | (simp only [upd_apply, updH_apply, without_apply, e13, e14, e15, H16, H17, q18, q19, d46, w47, implies_true, Nat.reduceAdd, Nat.reduceMul, Nat.reduceEqDiff, Nat.reduceLeDiff, reduceIte, reduceCtorEq]; done) | (simp only [upd_apply, updH_apply, without_apply, e13, e14, e15, H16, H17, q18, q19, d46, w47, implies_true, Nat.reduceAdd, Nat.reduceMul, Nat.reduceEqDiff, Nat.reduceLeDiff, reduceIte, reduceCtorEq]; rfl) | rfl) ?_
    rintro tm ⟨e49, e50, e51, _⟩
    cases o53 : (g_ref01_sign x0_s e11) with
    | none =>
      simp only [o53, cond_true, cond_false, lbind_go, lbind_ret, lbind_brk, lbind_none, Option.bind_some, Option.bind_none, Bool.not_true, Bool.not_false, reduceCtorEq] at h
      exact absurd h kN11
    | some r52 =>
      simp only [o53, cond_true, cond_false, lbind_go, lbind_ret, lbind_brk, lbind_none, Option.bind_some, Option.bind_none, Bool.not_true, Bool.not_false, reduceCtorEq] at h
      simp only [vs, cwp_label, ng_normal, ng_ret, ng_exit, cr, tyf, g12, H16, H17, q18, q19, d46, (ix22 o48), w47, e49, e50, e51, implies_true, Nat.reduceAdd, Nat.reduceMul, Nat.reduceEqDiff, Nat.reduceLeDiff, reduceIte, reduceCtorEq]
      refine dktree (args0 := [.agg (cGLetterSheet x0_s), .lit (.int .i64 e11)]) (by first | (simp only [nrm, tynrm]; done) | (simp only [nrm, tynrm]; rfl) | rfl) (by simp only [tre, tytre, Bool.and_self]) (g_ref01_sign_ok _ _ _ o53) ?_
      refine fin_cut (fun tm => tm 2 = .ptr 0 0 ∧ tm 3 = .ptr 1 0 ∧ tm 5 = .lit (.int .i64 c11_5) ∧ tm 20 = .lit (.bool r52) ∧ True) (by refine ⟨e49, e50, e51, ?_, trivial⟩ <;> first | (simp only [upd_apply, updH_apply, without_apply, H16, H17, q18, q19, d46, w47, e49, e50, e51, implies_true, Nat.reduceAdd, Nat.reduceMul, Nat.reduceEqDiff, Nat.reduceLeDiff, reduceIte, reduceCtorEq]; done) | (simp only [upd_apply, updH_apply, without_apply, H16, H17, q18, q19, d46, w47, e49, e50, e51, implies_true, Nat.reduceAdd, Nat.reduceMul, Nat.reduceEqDiff, Nat.reduceLeDiff, reduceIte, reduceCtorEq]; rfl) | rfl) ?_
      rintro tm ⟨e54, e55, e56, e57, _⟩
      cases d58 : (r52)
      · simp only [d58, cond_true, cond_false, lbind_go, lbind_ret, lbind_brk, lbind_none, Option.bind_some, Option.bind_none, Bool.not_true, Bool.not_false, reduceCtorEq] at h
        simp only [vs, cwp_label, ng_normal, ng_ret, ng_exit, cr, tyf, g12, H16, H17, q18, q19, d46, (ix22 o48), w47, e54, e55, e56, e57, d58, implies_true, Nat.reduceAdd, Nat.reduceMul, Nat.reduceEqDiff, Nat.reduceLeDiff, reduceIte, reduceCtorEq]
        replace h := kR11 _ h
        try dsimp only at h
        obtain rfl := kF _ h
        refine ret1 Tryz.results44 ?_ ?_
        · first | (simp only [outV, upd_apply, updH_apply, without_apply, showV_ref, cr, tyf, nrm, tynrm, g12, H16, H17, q18, q19, d46, (ix22 o48), w47, e54, e55, e56, e57, d58, implies_true, Nat.reduceAdd, Nat.reduceMul, Nat.reduceEqDiff, Nat.reduceLeDiff, reduceIte, reduceCtorEq]; done) | (simp only [outV, upd_apply, updH_apply, without_apply, showV_ref, cr, tyf, nrm, tynrm, g12, H16, H17, q18, q19, d46, (ix22 o48), w47, e54, e55, e56, e57, d58, implies_true, Nat.reduceAdd, Nat.reduceMul, Nat.reduceEqDiff, Nat.reduceLeDiff, reduceIte, reduceCtorEq]; rfl)
        · simp only [tre, tytre, Bool.and_self]
      · simp only [d58, cond_true, cond_false, lbind_go, lbind_ret, lbind_brk, lbind_none, Option.bind_some, Option.bind_none, Bool.not_true, Bool.not_false, reduceCtorEq] at h
        simp only [vs, cwp_label, ng_normal, ng_ret, ng_exit, cr, tyf, g12, H16, H17, q18, q19, d46, (ix22 o48), w47, e54, e55, e56, e57, d58, implies_true, Nat.reduceAdd, Nat.reduceMul, Nat.reduceEqDiff, Nat.reduceLeDiff, reduceIte, reduceCtorEq]
        exact ⟨List.length p11, Nat.lt_succ_self _, by rw [hI11]; refine ⟨p11, c11_5 + 1, rfl, Int.le_trans hi11 (Int.le_add_one (Int.le_refl _)), drop_next hi11 hp11, rfl, (show 2 ≤ nx + 16 by omega), ?_, ?_, e54, e55, ?_, h⟩ <;> first | (simp only [upd_apply, updH_apply, without_apply, H16, H17, q18, q19, d46, w47, e54, e55, e56, e57, d58, implies_true, Nat.reduceAdd, Nat.reduceMul, Nat.reduceEqDiff, Nat.reduceLeDiff, reduceIte, reduceCtorEq]; done) | (simp only [upd_apply, updH_apply, without_apply, H16, H17, q18, q19, d46, w47, e54, e55, e56, e57, d58, implies_true, Nat.reduceAdd, Nat.reduceMul, Nat.reduceEqDiff, Nat.reduceLeDiff, reduceIte, reduceCtorEq]; rfl) | rfl⟩

end Go.V
end
section
namespace Go.V
open Go Go.Proofs
set_option linter.unusedSimpArgs false
set_option linter.unusedVariables false
set_option maxRecDepth 4000
def g_ref01_pairs_l0 (x0_s : GLetterSheet) : List GLetterPair → Int → Option (LOut (Bool) (Unit))
  | [], c0_3 => some (.go ())
  | e0 :: p0, c0_3 => Option.bind (g_ref01_sign x0_s e0.Left) (fun r3 => cond (r3) (Option.bind (g_ref01_sign x0_s e0.Right) (fun r4 => cond (r4) (Option.bind (g_ref01_span e0.Space 9) (fun r5 => cond (r5) (cond (decide (c0_3 > 0)) (Option.bind (getI x0_s.Pairs (IntKind.i64.wrap (c0_3 - 1))) (fun x6 => cond (decide (x6.Left > e0.Left)) (some (.ret false)) (cond (x6.Left == e0.Left) (cond (decide (x6.Right ≥ e0.Right)) (some (.ret false)) (g_ref01_pairs_l0 x0_s p0 (c0_3 + 1))) (g_ref01_pairs_l0 x0_s p0 (c0_3 + 1))))) (g_ref01_pairs_l0 x0_s p0 (c0_3 + 1))) (some (.ret false)))) (some (.ret false)))) (some (.ret false)))
def g_ref01_pairs (x0_s : GLetterSheet) : Option (Bool) := cond (lenOk x0_s.Pairs) (lbind (g_ref01_pairs_l0 x0_s x0_s.Pairs 0) (fun r => some r) (fun c7 => some (decide ((List.length x0_s.Pairs : Int) ≤ 6))) (fun _ _ => none)) none
theorem g_ref01_pairs_ok (x0_s : GLetterSheet) (R : Bool) (h : g_ref01_pairs x0_s = some R) : VPure Tryz.prog G0 45 [.agg (cGLetterSheet x0_s)] (.tree (.lit (.bool R))) := by
  refine VPure.runT mixed Tryz.call45 Tryz.func45 rfl (by simp [Tryz.ntmps45]; kernel_rfl) ?_
  obtain ⟨KF, h, kF, kN⟩ := fun_intro h
  simp only [g_ref01_pairs] at h
  cases g10 : (lenOk x0_s.Pairs)
  · simp only [g10, cond_true, cond_false, lbind_go, lbind_ret, lbind_brk, lbind_none, Option.bind_some, Option.bind_none, Bool.not_true, Bool.not_false, reduceCtorEq] at h
    exact absurd h kN
  simp only [g10, cond_true, cond_false, lbind_go, lbind_ret, lbind_brk, lbind_none, Option.bind_some, Option.bind_none, Bool.not_true, Bool.not_false, reduceCtorEq] at h
  simp only [vs, cwp_label, ng_normal, ng_ret, ng_exit, cr, tyf, g10, implies_true, Nat.reduceAdd, Nat.reduceMul, Nat.reduceEqDiff, Nat.reduceLeDiff, reduceIte, reduceCtorEq]
  obtain ⟨K9, h, kR9, kG9, kB9, kN9⟩ := lbind_intro h kN
  obtain ⟨f9, hf9, h⟩ := call2 h
  obtain ⟨I9, hI9⟩ : ∃ I : Nat → St → Prop, I = (fun m st => ∃ (p9 : List GLetterPair) (c9_3 : Int), m = List.length p9 ∧ 0 ≤ c9_3 ∧ List.drop (Int.toNat c9_3) x0_s.Pairs = p9 ∧ st.df = [] ∧ 1 ≤ st.nx ∧ st.H 0 = some (.cells (some 28) (cGLetterSheet x0_s)) ∧ st.tm 1 = .ptr 0 0 ∧ st.tm 3 = .lit (.int .i64 c9_3) ∧ K9 (f9 p9 c9_3)) := ⟨_, rfl⟩
  refine loopK mixed (by kernel_rfl) I9 (List.length x0_s.Pairs) (by rw [hI9]; refine ⟨x0_s.Pairs, 0, rfl, Int.le_refl _, rfl, rfl, (show 1 ≤ 3 by decide), ?_, ?_, ?_, h⟩ <;> first | (simp only [upd_apply, updH_apply, without_apply, implies_true, Nat.reduceAdd, Nat.reduceMul, Nat.reduceEqDiff, Nat.reduceLeDiff, reduceIte, reduceCtorEq]; done) | (simp only [upd_apply, updH_apply, without_apply, implies_true, Nat.reduceAdd, Nat.reduceMul, Nat.reduceEqDiff, Nat.reduceLeDiff, reduceIte, reduceCtorEq]; rfl) | rfl) ?_
  rintro m ⟨tm, H, nx, df⟩ hinv
  rw [hI9] at hinv
  obtain ⟨p9, c9_3, rfl, hi9, hp9, hdf, hn9, H13, e11, e12, h⟩ := hinv
  simp only at hdf hn9 H13 e11 e12
  have q14 := fresh_ne (n := 0) (B := 1) (by decide) hn9
  subst hdf hf9
  cases p9 with
  | nil =>
    have d15 : (decide (c9_3 < (List.length x0_s.Pairs : Int))) = false := not_lt_of_drop hi9 hp9
    simp only [g_ref01_pairs_l0, cond_true, cond_false, lbind_go, lbind_ret, lbind_brk, lbind_none, Option.bind_some, Option.bind_none, Bool.not_true, Bool.not_false, reduceCtorEq] at h
    replace h := kG9 _ h
    try dsimp only at h
    try simp only [cond_true, cond_false, lbind_go, lbind_ret, lbind_brk, lbind_none, Option.bind_some, Option.bind_none, Bool.not_true, Bool.not_false] at h
    simp only [vs, cwp_label, ng_normal, ng_ret, ng_exit, cr, tyf, g10, e11, e12, H13, q14, d15, implies_true, Nat.reduceAdd, Nat.reduceMul, Nat.reduceEqDiff, Nat.reduceLeDiff, reduceIte, reduceCtorEq]
    obtain rfl := kF _ h
    refine ret1 Tryz.results45 ?_ ?_
    · first | (simp only [outV, upd_apply, updH_apply, without_apply, showV_ref, cr, tyf, nrm, tynrm, g10, e11, e12, H13, q14, d15, implies_true, Nat.reduceAdd, Nat.reduceMul, Nat.reduceEqDiff, Nat.reduceLeDiff, reduceIte, reduceCtorEq]; done) | (simp only [outV, upd_apply, updH_apply, without_apply, showV_ref, cr, tyf, nrm, tynrm, g10, e11, e12, H13, q14, d15, implies_true, Nat.reduceAdd, Nat.reduceMul, Nat.reduceEqDiff, Nat.reduceLeDiff, reduceIte, reduceCtorEq]; rfl)
    · simp only [tre, tytre, Bool.and_self]
  | cons e9 p9 =>
    have d16 : (decide (c9_3 < (List.length x0_s.Pairs : Int))) = true := lt_of_drop hi9 hp9
    have o18 := getI_of_drop hi9 hp9
    have w17 := wrap_next hi9 hp9 g10
    simp only [g_ref01_pairs_l0, cond_true, cond_false, lbind_go, lbind_ret, lbind_brk, lbind_none, Option.bind_some, Option.bind_none, Bool.not_true, Bool.not_false, reduceCtorEq] at h
    cases o21 : (g_ref01_sign x0_s e9.Left) with
    | none =>
      simp only [o21, cond_true, cond_false, lbind_go, lbind_ret, lbind_brk, lbind_none, Option.bind_some, Option.bind_none, Bool.not_true, Bool.not_false, reduceCtorEq] at h
      exact absurd h kN9
    | some r20 =>
      simp only [o21, cond_true, cond_false, lbind_go, lbind_ret, lbind_brk, lbind_none, Option.bind_some, Option.bind_none, Bool.not_true, Bool.not_false, reduceCtorEq] at h
      simp only [vs, cwp_label, ng_normal, ng_ret, ng_exit, cr, tyf, g10, e11, e12, H13, q14, d16, (ix23 o18), w17, implies_true, Nat.reduceAdd, Nat.reduceMul, Nat.reduceEqDiff, Nat.reduceLeDiff, reduceIte, reduceCtorEq]
      refine ktree (args0 := [.agg (cGLetterSheet x0_s), .lit (.int .i64 e9.Left)]) (by first | (simp only [nrm, tynrm]; done) | (simp only [nrm, tynrm]; rfl) | rfl) (by simp only [tre, tytre, Bool.and_self]) (g_ref01_sign_ok _ _ _ o21) ?_
      refine fin_cut (fun tm => tm 1 = .ptr 0 0 ∧ tm 3 = .lit (.int .i64 c9_3) ∧ tm 4 = .ptr (nx + 10) 0 ∧ tm 20 = .lit (.bool r20) ∧ True) (by refine ⟨e11, e12, ?_, ?_, trivial⟩ <;> first | (simp only [upd_apply, updH_apply, without_apply, e11, e12, H13, q14, d16, w17, implies_true, Nat.reduceAdd, Nat.reduceMul, Nat.reduceEqDiff, Nat.reduceLeDiff, reduceIte, reduceCtorEq]; done) | (simp only [upd_apply, updH_apply, without_apply, e11, e12, H13, q14, d16, w17, implies_true, Nat.reduceAdd, Nat.reduceMul, Nat.reduceEqDiff, Nat.reduceLeDiff, reduceIte, reduceCtorEq]; rfl) | rfl) ?_
      rintro tm ⟨e22, e23, e24, e25, _⟩
      cases d26 : (r20)
      · simp only [d26, cond_true, cond_false, lbind_go, lbind_ret, lbind_brk, lbind_none, Option.bind_some, Option.bind_none, Bool.not_true, Bool.not_false, reduceCtorEq] at h
        simp only [vs, cwp_label, ng_normal, ng_ret, ng_exit, cr, tyf, g10, H13, q14, d16, (ix23 o18), w17, e22, e23, e24, e25, d26, implies_true, Nat.reduceAdd, Nat.reduceMul, Nat.reduceEqDiff, Nat.reduceLeDiff, reduceIte, reduceCtorEq]
        replace h := kR9 _ h
        try dsimp only at h
        obtain rfl := kF _ h
        refine ret1 Tryz.results45 ?_ ?_
        · first | (simp only [outV, upd_apply, updH_apply, without_apply, showV_ref, cr, tyf, nrm, tynrm, g10, H13, q14, d16, (ix23 o18), w17, e22, e23, e24, e25, d26, implies_true, Nat.reduceAdd, Nat.reduceMul, Nat.reduceEqDiff, Nat.reduceLeDiff, reduceIte, reduceCtorEq]; done) | (simp only [outV, upd_apply, updH_apply, without_apply, showV_ref, cr, tyf, nrm, tynrm, g10, H13, q14, d16, (ix23 o18), w17, e22, e23, e24, e25, d26, implies_true, Nat.reduceAdd, Nat.reduceMul, Nat.reduceEqDiff, Nat.reduceLeDiff, reduceIte, reduceCtorEq]; rfl)
        · simp only [tre, tytre, Bool.and_self]
      · simp only [d26, cond_true, cond_false, lbind_go, lbind_ret, lbind_brk, lbind_none, Option.bind_some, Option.bind_none, Bool.not_true, Bool.not_false, reduceCtorEq] at h
        cases o28 : (g_ref01_sign x0_s e9.Right) with
        | none =>
          simp only [o28, cond_true, cond_false, lbind_go, lbind_ret, lbind_brk, lbind_none, Option.bind_some, Option.bind_none, Bool.not_true, Bool.not_false, reduceCtorEq] at h
          exact absurd h kN9
        | some r27 =>
          simp only [o28, cond_true, cond_false, lbind_go, lbind_ret, lbind_brk, lbind_none, Option.bind_some, Option.bind_none, Bool.not_true, Bool.not_false, reduceCtorEq] at h
          simp only [vs, cwp_label, ng_normal, ng_ret, ng_exit, cr, tyf, g10, H13, q14, d16, (ix23 o18), w17, e22, e23, e24, e25, d26, implies_true, Nat.reduceAdd, Nat.reduceMul, Nat.reduceEqDiff, Nat.reduceLeDiff, reduceIte, reduceCtorEq]
          refine ktree (args0 := [.agg (cGLetterSheet x0_s), .lit (.int .i64 e9.Right)]) (by first | (simp only [nrm, tynrm]; done) | (simp only [nrm, tynrm]; rfl) | rfl) (by simp only [tre, tytre, Bool.and_self]) (g_ref01_sign_ok _ _ _ o28) ?_
          refine fin_cut (fun tm => tm 1 = .ptr 0 0 ∧ tm 3 = .lit (.int .i64 c9_3) ∧ tm 4 = .ptr (nx + 10) 0 ∧ tm 22 = .lit (.bool false) ∧ tm 26 = .lit (.bool r27) ∧ True) (by refine ⟨e22, e23, e24, ?_, ?_, trivial⟩ <;> first | (simp only [upd_apply, updH_apply, without_apply, H13, q14, d16, w17, e22, e23, e24, e25, d26, implies_true, Nat.reduceAdd, Nat.reduceMul, Nat.reduceEqDiff, Nat.reduceLeDiff, reduceIte, reduceCtorEq]; done) | (simp only [upd_apply, updH_apply, without_apply, H13, q14, d16, w17, e22, e23, e24, e25, d26, implies_true, Nat.reduceAdd, Nat.reduceMul, Nat.reduceEqDiff, Nat.reduceLeDiff, reduceIte, reduceCtorEq]; rfl) | rfl) ?_
          rintro tm ⟨e29, e30, e31, e32, e33, _⟩
          cases d34 : (r27)
          · simp only [d34, cond_true, cond_false, lbind_go, lbind_ret, lbind_brk, lbind_none, Option.bind_some, Option.bind_none, Bool.not_true, Bool.not_false, reduceCtorEq] at h
            simp only [vs, cwp_label, ng_normal, ng_ret, ng_exit, cr, tyf, g10, H13, q14, d16, (ix23 o18), w17, d26, e29, e30, e31, e32, e33, d34, implies_true, Nat.reduceAdd, Nat.reduceMul, Nat.reduceEqDiff, Nat.reduceLeDiff, reduceIte, reduceCtorEq]
            replace h := kR9 _ h
            try dsimp only at h
            obtain rfl := kF _ h
            refine ret1 Tryz.results45 ?_ ?_
            · first | (simp only [outV, upd_apply, updH_apply, without_apply, showV_ref, cr, tyf, nrm, tynrm, g10, H13, q14, d16, (ix23 o18), w17, d26, e29, e30, e31, e32, e33, d34, implies_true, Nat.reduceAdd, Nat.reduceMul, Nat.reduceEqDiff, Nat.reduceLeDiff, reduceIte, reduceCtorEq]; done) | (simp only [outV, upd_apply, updH_apply, without_apply, showV_ref, cr, tyf, nrm, tynrm, g10, H13, q14, d16, (ix23 o18), w17, d26, e29, e30, e31, e32, e33, d34, implies_true, Nat.reduceAdd, Nat.reduceMul, Nat.reduceEqDiff, Nat.reduceLeDiff, reduceIte, reduceCtorEq]; rfl)
            · simp only [tre, tytre, Bool.and_self]
          · simp only [d34, cond_true, cond_false, lbind_go, lbind_ret, lbind_brk, lbind_none, Option.bind_some, Option.bind_none, Bool.not_true, Bool.not_false, reduceCtorEq] at h
            cases o36 : (g_ref01_span e9.Space 9) with
            | none =>
              simp only [o36, cond_true, cond_false, lbind_go, lbind_ret, lbind_brk, lbind_none, Option.bind_some, Option.bind_none, Bool.not_true, Bool.not_false, reduceCtorEq] at h
              exact absurd h kN9
            | some r35 =>
              simp only [o36, cond_true, cond_false, lbind_go, lbind_ret, lbind_brk, lbind_none, Option.bind_some, Option.bind_none, Bool.not_true, Bool.not_false, reduceCtorEq] at h
              simp only [vs, cwp_label, ng_normal, ng_ret, ng_exit, cr, tyf, g10, H13, q14, d16, (ix23 o18), w17, d26, e29, e30, e31, e32, e33, d34, implies_true, Nat.reduceAdd, Nat.reduceMul, Nat.reduceEqDiff, Nat.reduceLeDiff, reduceIte, reduceCtorEq]
              refine ktree (args0 := [.agg (cGSpan e9.Space), .lit (.int .i64 9)]) (by first | (simp only [nrm, tynrm]; done) | (simp only [nrm, tynrm]; rfl) | rfl) (by simp only [tre, tytre, Bool.and_self]) (g_ref01_span_ok _ _ _ o36) ?_
              refine fin_cut (fun tm => tm 1 = .ptr 0 0 ∧ tm 3 = .lit (.int .i64 c9_3) ∧ tm 4 = .ptr (nx + 10) 0 ∧ tm 29 = .lit (.bool false) ∧ tm 32 = .lit (.bool r35) ∧ True) (by refine ⟨e29, e30, e31, ?_, ?_, trivial⟩ <;> first | (simp only [upd_apply, updH_apply, without_apply, H13, q14, d16, w17, d26, e29, e30, e31, e32, e33, d34, implies_true, Nat.reduceAdd, Nat.reduceMul, Nat.reduceEqDiff, Nat.reduceLeDiff, reduceIte, reduceCtorEq]; done) | (simp only [upd_apply, updH_apply, without_apply, H13, q14, d16, w17, d26, e29, e30, e31, e32, e33, d34, implies_true, Nat.reduceAdd, Nat.reduceMul, Nat.reduceEqDiff, Nat.reduceLeDiff, reduceIte, reduceCtorEq]; rfl) | rfl) ?_
              rintro tm ⟨e37, e38, e39, e40, e41, _⟩
              cases d42 : (r35)
              · simp only [d42, cond_true, cond_false, lbind_go, lbind_ret, lbind_brk, lbind_none, Option.bind_some, Option.bind_none, Bool.not_true, Bool.not_false, reduceCtorEq] at h
                simp only [vs, cwp_label, ng_normal, ng_ret, ng_exit, cr, tyf, g10, H13, q14, d16, (ix23 o18), w17, d26, d34, e37, e38, e39, e40, e41, d42, implies_true, Nat.reduceAdd, Nat.reduceMul, Nat.reduceEqDiff, Nat.reduceLeDiff, reduceIte, reduceCtorEq]
                replace h := kR9 _ h
                try dsimp only at h
                obtain rfl := kF _ h
                refine ret1 Tryz.results45 ?_ ?_
                · first | (simp only [outV, upd_apply, updH_apply, without_apply, showV_ref, cr, tyf, nrm, tynrm, g10, H13, q14, d16, (ix23 o18), w17, d26, d34, e37, e38, e39, e40, e41, d42, implies_true, Nat.reduceAdd, Nat.reduceMul, Nat.reduceEqDiff, Nat.reduceLeDiff, reduceIte, reduceCtorEq]; done) | (simp only [outV, upd_apply, updH_apply, without_apply, showV_ref, cr, tyf, nrm, tynrm, g10, H13, q14, d16, (ix23 o18), w17, d26, d34, e37, e38, e39, e40, e41, d42, implies_true, Nat.reduceAdd, Nat.reduceMul, Nat.reduceEqDiff, Nat.reduceLeDiff, reduceIte, reduceCtorEq]; rfl)
                · simp only [tre, tytre, Bool.and_self]
              · simp only [d42, cond_true, cond_false, lbind_go, lbind_ret, lbind_brk, lbind_none, Option.bind_some, Option.bind_none, Bool.not_true, Bool.not_false, reduceCtorEq] at h
                simp only [vs, cwp_label, ng_normal, ng_ret, ng_exit, cr, tyf, g10, H13, q14, d16, (ix23 o18), w17, d26, d34, e37, e38, e39, e40, e41, d42, implies_true, Nat.reduceAdd, Nat.reduceMul, Nat.reduceEqDiff, Nat.reduceLeDiff, reduceIte, reduceCtorEq]
                refine cwp_drwQF (fun tm => tm 1 = .ptr 0 0 ∧ tm 3 = .lit (.int .i64 c9_3) ∧ tm 4 = .ptr (nx + 10) 0 ∧ True) (by refine ⟨e37, e38, e39, trivial⟩ <;> first | (simp only [upd_apply, updH_apply, without_apply, H13, q14, d16, w17, d26, d34, e37, e38, e39, e40, e41, d42, implies_true, Nat.reduceAdd, Nat.reduceMul, Nat.reduceEqDiff, Nat.reduceLeDiff, reduceIte, reduceCtorEq]; done) | (simp only [upd_apply, updH_apply, without_apply, H13, q14, d16, w17, d26, d34, e37, e38, e39, e40, e41, d42, implies_true, Nat.reduceAdd, Nat.reduceMul, Nat.reduceEqDiff, Nat.reduceLeDiff, reduceIte, reduceCtorEq]; rfl) | rfl) ?_
                rintro tm ⟨e43, e44, e45, _⟩
                cases d46 : (decide (c9_3 > 0))
                · simp only [d46, cond_true, cond_false, lbind_go, lbind_ret, lbind_brk, lbind_none, Option.bind_some, Option.bind_none, Bool.not_true, Bool.not_false, reduceCtorEq] at h
                  simp only [vs, cwp_label, ng_normal, ng_ret, ng_exit, cr, tyf, g10, H13, q14, d16, (ix23 o18), w17, d26, d34, d42, e43, e44, e45, d46, implies_true, Nat.reduceAdd, Nat.reduceMul, Nat.reduceEqDiff, Nat.reduceLeDiff, reduceIte, reduceCtorEq]
                  exact ⟨List.length p9, Nat.lt_succ_self _, by rw [hI9]; refine ⟨p9, c9_3 + 1, rfl, Int.le_trans hi9 (Int.le_add_one (Int.le_refl _)), drop_next hi9 hp9, rfl, (show 1 ≤ nx + 71 by omega), ?_, e43, ?_, h⟩ <;> first | (simp only [upd_apply, updH_apply, without_apply, H13, q14, d16, w17, d26, d34, d42, e43, e44, e45, d46, implies_true, Nat.reduceAdd, Nat.reduceMul, Nat.reduceEqDiff, Nat.reduceLeDiff, reduceIte, reduceCtorEq]; done) | (simp only [upd_apply, updH_apply, without_apply, H13, q14, d16, w17, d26, d34, d42, e43, e44, e45, d46, implies_true, Nat.reduceAdd, Nat.reduceMul, Nat.reduceEqDiff, Nat.reduceLeDiff, reduceIte, reduceCtorEq]; rfl) | rfl⟩
                · simp only [d46, cond_true, cond_false, lbind_go, lbind_ret, lbind_brk, lbind_none, Option.bind_some, Option.bind_none, Bool.not_true, Bool.not_false, reduceCtorEq] at h
                  cases o48 : (getI x0_s.Pairs (IntKind.i64.wrap (c9_3 - 1))) with
                  | none =>
                    simp only [o48, cond_true, cond_false, lbind_go, lbind_ret, lbind_brk, lbind_none, Option.bind_some, Option.bind_none, Bool.not_true, Bool.not_false, reduceCtorEq] at h
                    exact absurd h kN9
                  | some x47 =>
                    simp only [o48, cond_true, cond_false, lbind_go, lbind_ret, lbind_brk, lbind_none, Option.bind_some, Option.bind_none, Bool.not_true, Bool.not_false, reduceCtorEq] at h
                    cases d49 : (decide (x47.Left > e9.Left))
                    · simp only [d49, cond_true, cond_false, lbind_go, lbind_ret, lbind_brk, lbind_none, Option.bind_some, Option.bind_none, Bool.not_true, Bool.not_false, reduceCtorEq] at h
                      cases d50 : (x47.Left == e9.Left)
                      · simp only [d50, cond_true, cond_false, lbind_go, lbind_ret, lbind_brk, lbind_none, Option.bind_some, Option.bind_none, Bool.not_true, Bool.not_false, reduceCtorEq] at h
                        simp only [vs, cwp_label, ng_normal, ng_ret, ng_exit, cr, tyf, g10, H13, q14, d16, (ix23 o18), w17, d26, d34, d42, e43, e44, e45, d46, (ix23 o48), d49, d50, implies_true, Nat.reduceAdd, Nat.reduceMul, Nat.reduceEqDiff, Nat.reduceLeDiff, reduceIte, reduceCtorEq]
                        exact ⟨List.length p9, Nat.lt_succ_self _, by rw [hI9]; refine ⟨p9, c9_3 + 1, rfl, Int.le_trans hi9 (Int.le_add_one (Int.le_refl _)), drop_next hi9 hp9, rfl, (show 1 ≤ nx + 71 by omega), ?_, e43, ?_, h⟩ <;> first | (simp only [upd_apply, updH_apply, without_apply, H13, q14, d16, w17, d26, d34, d42, e43, e44, e45, d46, d49, d50, implies_true, Nat.reduceAdd, Nat.reduceMul, Nat.reduceEqDiff, Nat.reduceLeDiff, reduceIte, reduceCtorEq]; done) | (simp only [upd_apply, updH_apply, without_apply, H13, q14, d16, w17, d26, d34, d42, e43, e44, e45, d46, d49, d50, implies_true, Nat.reduceAdd, Nat.reduceMul, Nat.reduceEqDiff, Nat.reduceLeDiff, reduceIte, reduceCtorEq]; rfl) | rfl⟩
                      · simp only [d50, cond_true, cond_false, lbind_go, lbind_ret, lbind_brk, lbind_none, Option.bind_some, Option.bind_none, Bool.not_true, Bool.not_false, reduceCtorEq] at h
                        cases d51 : (decide (x47.Right ≥ e9.Right))
                        · simp only [d51, cond_true, cond_false, lbind_go, lbind_ret, lbind_brk, lbind_none, Option.bind_some, Option.bind_none, Bool.not_true, Bool.not_false, reduceCtorEq] at h
                          simp only [vs, cwp_label, ng_normal, ng_ret, ng_exit, cr, tyf, g10, H13, q14, d16, (ix23 o18), w17, d26, d34, d42, e43, e44, e45, d46, (ix23 o48), d49, d50, d51, implies_true, Nat.reduceAdd, Nat.reduceMul, Nat.reduceEqDiff, Nat.reduceLeDiff, reduceIte, reduceCtorEq]
                          exact ⟨List.length p9, Nat.lt_succ_self _, by rw [hI9]; refine ⟨p9, c9_3 + 1, rfl, Int.le_trans hi9 (Int.le_add_one (Int.le_refl _)), drop_next hi9 hp9, rfl, (show 1 ≤ nx + 71 by omega), ?_, e43, ?_, h⟩ <;> first | (simp only [upd_apply, updH_apply, without_apply, H13, q14, d16, w17, d26, d34, d42, e43, e44, e45, d46, d49, d50, d51, implies_true, Nat.reduceAdd, Nat.reduceMul, Nat.reduceEqDiff, Nat.reduceLeDiff, reduceIte, reduceCtorEq]; done) | (simp only [upd_apply, updH_apply, without_apply, H13, q14, d16, w17, d26, d34, d42, e43, e44, e45, d46, d49, d50, d51, implies_true, Nat.reduceAdd, Nat.reduceMul, Nat.reduceEqDiff, Nat.reduceLeDiff, reduceIte, reduceCtorEq]; rfl) | rfl⟩
                        · simp only [d51, cond_true, cond_false, lbind_go, lbind_ret, lbind_brk, lbind_none, Option.bind_some, Option.bind_none, Bool.not_true, Bool.not_false, reduceCtorEq] at h
                          simp only [vs, cwp_label, ng_normal, ng_ret, ng_exit, cr, tyf, g10, H13, q14, d16, (ix23 o18), w17, d26, d34, d42, e43, e44, e45, d46, (ix23 o48), d49, d50, d51, implies_true, Nat.reduceAdd, Nat.reduceMul, Nat.reduceEqDiff, Nat.reduceLeDiff, reduceIte, reduceCtorEq]
                          replace h := kR9 _ h
                          try dsimp only at h
                          obtain rfl := kF _ h
                          refine ret1 Tryz.results45 ?_ ?_
                          · first | (simp only [outV, upd_apply, updH_apply, without_apply, showV_ref, cr, tyf, nrm, tynrm, g10, H13, q14, d16, (ix23 o18), w17, d26, d34, d42, e43, e44, e45, d46, (ix23 o48), d49, d50, d51, implies_true, Nat.reduceAdd, Nat.reduceMul, Nat.reduceEqDiff, Nat.reduceLeDiff, reduceIte, reduceCtorEq]; done) | (simp only [outV, upd_apply, updH_apply, without_apply, showV_ref, cr, tyf, nrm, tynrm, g10, H13, q14, d16, (ix23 o18), w17, d26, d34, d42, e43, e44, e45, d46, (ix23 o48), d49, d50, d51, implies_true, Nat.reduceAdd, Nat.reduceMul, Nat.reduceEqDiff, Nat.reduceLeDiff, reduceIte, reduceCtorEq]; rfl)
                          · simp only [tre, tytre, Bool.and_self]
                    · simp only [d49, cond_true, cond_false, lbind_go, lbind_ret, lbind_brk, lbind_none, Option.bind_some, Option.bind_none, Bool.not_true, Bool.not_false, reduceCtorEq] at h
                      simp only [vs, cwp_label, ng_normal, ng_ret, ng_exit, cr, tyf, g10, H13, q14, d16, (ix23 o18), w17, d26, d34, d42, e43, e44, e45, d46, (ix23 o48), d49, implies_true, Nat.reduceAdd, Nat.reduceMul, Nat.reduceEqDiff, Nat.reduceLeDiff, reduceIte, reduceCtorEq]
                      replace h := kR9 _ h
                      try dsimp only at h
                      obtain rfl := kF _ h
                      refine ret1 Tryz.results45 ?_ ?_
                      · first | (simp only [outV, upd_apply, updH_apply, without_apply, showV_ref, cr, tyf, nrm, tynrm, g10, H13, q14, d16, (ix23 o18), w17, d26, d34, d42, e43, e44, e45, d46, (ix23 o48), d49, implies_true, Nat.reduceAdd, Nat.reduceMul, Nat.reduceEqDiff, Nat.reduceLeDiff, reduceIte, reduceCtorEq]; done) | (simp only [outV, upd_apply, updH_apply, without_apply, showV_ref, cr, tyf, nrm, tynrm, g10, H13, q14, d16, (ix23 o18), w17, d26, d34, d42, e43, e44, e45, d46, (ix23 o48), d49, implies_true, Nat.reduceAdd, Nat.reduceMul, Nat.reduceEqDiff, Nat.reduceLeDiff, reduceIte, reduceCtorEq]; rfl)
                      · simp only [tre, tytre, Bool.and_self]

end Go.V
end
section
namespace Go.V
open Go Go.Proofs
set_option linter.unusedSimpArgs false
set_option linter.unusedVariables false
set_option maxRecDepth 4000
def g_ref01_Front (x0_n : Int) : Option (Bool) := Option.bind (g_ref01_in x0_n 1 400) (fun r1 => some r1)
theorem g_ref01_Front_ok (x0_n : Int) (R : Bool) (h : g_ref01_Front x0_n = some R) : VPure Tryz.prog G0 47 [.lit (.int .i64 x0_n)] (.tree (.lit (.bool R))) := by
  refine VPure.runT mixed Tryz.call47 Tryz.func47 rfl (by simp [Tryz.ntmps47]; kernel_rfl) ?_
  obtain ⟨KF, h, kF, kN⟩ := fun_intro h
  simp only [g_ref01_Front] at h
  cases o3 : (g_ref01_in x0_n 1 400) with
  | none =>
    simp only [o3, cond_true, cond_false, lbind_go, lbind_ret, lbind_brk, lbind_none, Option.bind_some, Option.bind_none, Bool.not_true, Bool.not_false, reduceCtorEq] at h
    exact absurd h kN
  | some r2 =>
    simp only [o3, cond_true, cond_false, lbind_go, lbind_ret, lbind_brk, lbind_none, Option.bind_some, Option.bind_none, Bool.not_true, Bool.not_false, reduceCtorEq] at h
    simp only [vs, cwp_label, ng_normal, ng_ret, ng_exit, cr, tyf, implies_true, Nat.reduceAdd, Nat.reduceMul, Nat.reduceEqDiff, Nat.reduceLeDiff, reduceIte, reduceCtorEq]
    refine ktree (args0 := [.lit (.int .i64 x0_n), .lit (.int .i64 1), .lit (.int .i64 400)]) (by first | (simp only [nrm, tynrm]; done) | (simp only [nrm, tynrm]; rfl) | rfl) (by simp only [tre, tytre, Bool.and_self]) (g_ref01_in_ok _ _ _ _ o3) ?_
    refine fin_cut (fun tm => tm 4 = .lit (.bool r2) ∧ True) (by refine ⟨?_, trivial⟩ <;> first | (simp only [upd_apply, updH_apply, without_apply, implies_true, Nat.reduceAdd, Nat.reduceMul, Nat.reduceEqDiff, Nat.reduceLeDiff, reduceIte, reduceCtorEq]; done) | (simp only [upd_apply, updH_apply, without_apply, implies_true, Nat.reduceAdd, Nat.reduceMul, Nat.reduceEqDiff, Nat.reduceLeDiff, reduceIte, reduceCtorEq]; rfl) | rfl) ?_
    rintro tm ⟨e4, _⟩
    simp only [vs, cwp_label, ng_normal, ng_ret, ng_exit, cr, tyf, e4, implies_true, Nat.reduceAdd, Nat.reduceMul, Nat.reduceEqDiff, Nat.reduceLeDiff, reduceIte, reduceCtorEq]
    obtain rfl := kF _ h
    refine ret1 Tryz.results47 ?_ ?_
    · first | (simp only [outV, upd_apply, updH_apply, without_apply, showV_ref, cr, tyf, nrm, tynrm, e4, implies_true, Nat.reduceAdd, Nat.reduceMul, Nat.reduceEqDiff, Nat.reduceLeDiff, reduceIte, reduceCtorEq]; done) | (simp only [outV, upd_apply, updH_apply, without_apply, showV_ref, cr, tyf, nrm, tynrm, e4, implies_true, Nat.reduceAdd, Nat.reduceMul, Nat.reduceEqDiff, Nat.reduceLeDiff, reduceIte, reduceCtorEq]; rfl)
    · simp only [tre, tytre, Bool.and_self]

end Go.V
end
