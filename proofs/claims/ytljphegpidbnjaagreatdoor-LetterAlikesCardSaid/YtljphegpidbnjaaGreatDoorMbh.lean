/- Part of the proof of a statement of YtljphegpidbnjaaGreatDoor: a logic of values by content, the lifted functions, and what follows. -/
import Derived.Test.YtljphegpidbnjaaGreatDoorMax
import Derived.Test.YtljphegpidbnjaaGreatDoorMbg
set_option linter.unusedVariables false
set_option linter.unusedSimpArgs false
set_option linter.unusedSectionVars false
set_option linter.constructorNameAsVariable false
section
namespace Go.V
open Go Go.Proofs
set_option linter.unusedSimpArgs false
set_option linter.unusedVariables false
set_option maxRecDepth 4000
def g_letter_mistaken_l1 (e0 : List Int) : List (List Int) → Int → Option (LOut (Bool) (Unit))
  | [], c1_19 => some (.go ())
  | e1 :: p1, c1_19 => Option.bind (g_slices_Equal_int_int e0 e1) (fun r3 => cond (r3) (some (.ret true)) (g_letter_mistaken_l1 e0 p1 (c1_19 + 1)))
def g_letter_mistaken_l0 (x1_other : List Int) : List (List Int) → Int → Option (LOut (Bool) (Unit))
  | [], c0_12 => some (.go ())
  | e0 :: p0, c0_12 => Option.bind (g_letter_looks x1_other) (fun r2 => cond (lenOk r2) (lbind (g_letter_mistaken_l1 e0 r2 0) (fun r => some (.ret r)) (fun c4 => g_letter_mistaken_l0 x1_other p0 (c0_12 + 1)) (fun _ _ => none)) none)
def g_letter_mistaken (x0_one : List Int) (x1_other : List Int) : Option (Bool) := Option.bind (g_letter_looks x0_one) (fun r1 => cond (lenOk r1) (lbind (g_letter_mistaken_l0 x1_other r1 0) (fun r => some r) (fun c5 => some false) (fun _ _ => none)) none)
theorem g_letter_mistaken_ok (x0_one : List Int) (x1_other : List Int) (R : Bool) (h : g_letter_mistaken x0_one x1_other = some R) : VPure Tryz.prog G0 54 [.sl (cellsL eI x0_one) (List.length x0_one) false, .sl (cellsL eI x1_other) (List.length x1_other) false] (.tree (.lit (.bool R))) := by
  refine VPure.runT mixed Tryz.call54 Tryz.func54 rfl (by simp [Tryz.ntmps54]; kernel_rfl) ?_
  obtain ⟨KF, h, kF, kN⟩ := fun_intro h
  simp only [g_letter_mistaken] at h
  cases o7 : (g_letter_looks x0_one) with
  | none =>
    simp only [o7, cond_true, cond_false, lbind_go, lbind_ret, lbind_brk, lbind_none, Option.bind_some, Option.bind_none, Bool.not_true, Bool.not_false, reduceCtorEq] at h
    exact absurd h kN
  | some r6 =>
    simp only [o7, cond_true, cond_false, lbind_go, lbind_ret, lbind_brk, lbind_none, Option.bind_some, Option.bind_none, Bool.not_true, Bool.not_false, reduceCtorEq] at h
    simp only [vs, cwp_label, ng_normal, ng_ret, ng_exit, cr, tyf, implies_true, Nat.reduceAdd, Nat.reduceMul, Nat.reduceEqDiff, Nat.reduceLeDiff, reduceIte, reduceCtorEq]
    refine ktree (args0 := [.sl (cellsL eI x0_one) (List.length x0_one) false]) (by first | (simp only [nrm, tynrm]; done) | (simp only [nrm, tynrm]; rfl) | rfl) (by simp only [tre, tytre, Bool.and_self]) (g_letter_looks_ok _ _ o7) ?_
    refine fin_cut (fun tm => tm 1 = .sl (cellsL eI x1_other) (List.length x1_other) false ∧ tm 10 = .sl (cellsL (eSl eI) r6) (List.length r6) false ∧ True) (by refine ⟨?_, ?_, trivial⟩ <;> first | (simp only [upd_apply, updH_apply, without_apply, implies_true, Nat.reduceAdd, Nat.reduceMul, Nat.reduceEqDiff, Nat.reduceLeDiff, reduceIte, reduceCtorEq]; done) | (simp only [upd_apply, updH_apply, without_apply, implies_true, Nat.reduceAdd, Nat.reduceMul, Nat.reduceEqDiff, Nat.reduceLeDiff, reduceIte, reduceCtorEq]; rfl) | rfl) ?_
    rintro tm ⟨e8, e9, _⟩
    cases g11 : (lenOk r6)
    · simp only [g11, cond_true, cond_false, lbind_go, lbind_ret, lbind_brk, lbind_none, Option.bind_some, Option.bind_none, Bool.not_true, Bool.not_false, reduceCtorEq] at h
      exact absurd h kN
    simp only [g11, cond_true, cond_false, lbind_go, lbind_ret, lbind_brk, lbind_none, Option.bind_some, Option.bind_none, Bool.not_true, Bool.not_false, reduceCtorEq] at h
    simp only [vs, cwp_label, ng_normal, ng_ret, ng_exit, cr, tyf, e8, e9, g11, implies_true, Nat.reduceAdd, Nat.reduceMul, Nat.reduceEqDiff, Nat.reduceLeDiff, reduceIte, reduceCtorEq]
    obtain ⟨K10, h, kR10, kG10, kB10, kN10⟩ := lbind_intro h kN
    obtain ⟨f10, hf10, h⟩ := call2 h
    obtain ⟨I10, hI10⟩ : ∃ I : Nat → St → Prop, I = (fun m st => ∃ (p10 : List (List Int)) (c10_12 : Int), m = List.length p10 ∧ 0 ≤ c10_12 ∧ List.drop (Int.toNat c10_12) r6 = p10 ∧ st.df = [] ∧ st.tm 1 = .sl (cellsL eI x1_other) (List.length x1_other) false ∧ st.tm 10 = .sl (cellsL (eSl eI) r6) (List.length r6) false ∧ st.tm 11 = .lit (.int .i64 (List.length r6 : Int)) ∧ st.tm 12 = .lit (.int .i64 c10_12) ∧ K10 (f10 p10 c10_12)) := ⟨_, rfl⟩
    refine loopK mixed (by kernel_rfl) I10 (List.length r6) (by rw [hI10]; refine ⟨r6, 0, rfl, Int.le_refl _, rfl, rfl, e8, e9, ?_, ?_, h⟩ <;> first | (simp only [upd_apply, updH_apply, without_apply, e8, e9, implies_true, Nat.reduceAdd, Nat.reduceMul, Nat.reduceEqDiff, Nat.reduceLeDiff, reduceIte, reduceCtorEq]; done) | (simp only [upd_apply, updH_apply, without_apply, e8, e9, implies_true, Nat.reduceAdd, Nat.reduceMul, Nat.reduceEqDiff, Nat.reduceLeDiff, reduceIte, reduceCtorEq]; rfl) | rfl) ?_
    rintro m ⟨tm, H, nx, df⟩ hinv
    rw [hI10] at hinv
    obtain ⟨p10, c10_12, rfl, hi10, hp10, hdf, e12, e13, e14, e15, h⟩ := hinv
    simp only at hdf e12 e13 e14 e15
    subst hdf hf10
    cases p10 with
    | nil =>
      have d16 : (decide (c10_12 < (List.length r6 : Int))) = false := not_lt_of_drop hi10 hp10
      simp only [g_letter_mistaken_l0, cond_true, cond_false, lbind_go, lbind_ret, lbind_brk, lbind_none, Option.bind_some, Option.bind_none, Bool.not_true, Bool.not_false, reduceCtorEq] at h
      replace h := kG10 _ h
      try dsimp only at h
      try simp only [cond_true, cond_false, lbind_go, lbind_ret, lbind_brk, lbind_none, Option.bind_some, Option.bind_none, Bool.not_true, Bool.not_false] at h
      simp only [vs, cwp_label, ng_normal, ng_ret, ng_exit, cr, tyf, g11, e12, e13, e14, e15, d16, implies_true, Nat.reduceAdd, Nat.reduceMul, Nat.reduceEqDiff, Nat.reduceLeDiff, reduceIte, reduceCtorEq]
      obtain rfl := kF _ h
      refine ret1 Tryz.results54 ?_ ?_
      · first | (simp only [outV, upd_apply, updH_apply, without_apply, showV_ref, cr, tyf, nrm, tynrm, g11, e12, e13, e14, e15, d16, implies_true, Nat.reduceAdd, Nat.reduceMul, Nat.reduceEqDiff, Nat.reduceLeDiff, reduceIte, reduceCtorEq]; done) | (simp only [outV, upd_apply, updH_apply, without_apply, showV_ref, cr, tyf, nrm, tynrm, g11, e12, e13, e14, e15, d16, implies_true, Nat.reduceAdd, Nat.reduceMul, Nat.reduceEqDiff, Nat.reduceLeDiff, reduceIte, reduceCtorEq]; rfl)
      · simp only [tre, tytre, Bool.and_self]
    | cons e10 p10 =>
      have d17 : (decide (c10_12 < (List.length r6 : Int))) = true := lt_of_drop hi10 hp10
      have o19 := getI_of_drop hi10 hp10
      have w18 := wrap_next hi10 hp10 g11
      simp only [g_letter_mistaken_l0, cond_true, cond_false, lbind_go, lbind_ret, lbind_brk, lbind_none, Option.bind_some, Option.bind_none, Bool.not_true, Bool.not_false, reduceCtorEq] at h
      cases o21 : (g_letter_looks x1_other) with
      | none =>
        simp only [o21, cond_true, cond_false, lbind_go, lbind_ret, lbind_brk, lbind_none, Option.bind_some, Option.bind_none, Bool.not_true, Bool.not_false, reduceCtorEq] at h
        exact absurd h kN10
      | some r20 =>
        simp only [o21, cond_true, cond_false, lbind_go, lbind_ret, lbind_brk, lbind_none, Option.bind_some, Option.bind_none, Bool.not_true, Bool.not_false, reduceCtorEq] at h
        simp only [vs, cwp_label, ng_normal, ng_ret, ng_exit, cr, tyf, g11, e12, e13, e14, e15, d17, (ix58 o19), w18, implies_true, Nat.reduceAdd, Nat.reduceMul, Nat.reduceEqDiff, Nat.reduceLeDiff, reduceIte, reduceCtorEq]
        refine ktree (args0 := [.sl (cellsL eI x1_other) (List.length x1_other) false]) (by first | (simp only [nrm, tynrm]; done) | (simp only [nrm, tynrm]; rfl) | rfl) (by simp only [tre, tytre, Bool.and_self]) (g_letter_looks_ok _ _ o21) ?_
        refine fin_cut (fun tm => tm 1 = .sl (cellsL eI x1_other) (List.length x1_other) false ∧ tm 6 = .sl (cellsL eI e10) (List.length e10) false ∧ tm 10 = .sl (cellsL (eSl eI) r6) (List.length r6) false ∧ tm 11 = .lit (.int .i64 (List.length r6 : Int)) ∧ tm 12 = .lit (.int .i64 c10_12) ∧ tm 17 = .sl (cellsL (eSl eI) r20) (List.length r20) false ∧ True) (by refine ⟨e12, ?_, e13, e14, e15, ?_, trivial⟩ <;> first | (simp only [upd_apply, updH_apply, without_apply, e12, e13, e14, e15, d17, w18, implies_true, Nat.reduceAdd, Nat.reduceMul, Nat.reduceEqDiff, Nat.reduceLeDiff, reduceIte, reduceCtorEq]; done) | (simp only [upd_apply, updH_apply, without_apply, e12, e13, e14, e15, d17, w18, implies_true, Nat.reduceAdd, Nat.reduceMul, Nat.reduceEqDiff, Nat.reduceLeDiff, reduceIte, reduceCtorEq]; rfl) | rfl) ?_
        rintro tm ⟨e22, e23, e24, e25, e26, e27, _⟩
        cases g29 : (lenOk r20)
        · simp only [g29, cond_true, cond_false, lbind_go, lbind_ret, lbind_brk, lbind_none, Option.bind_some, Option.bind_none, Bool.not_true, Bool.not_false, reduceCtorEq] at h
          exact absurd h kN10
        simp only [g29, cond_true, cond_false, lbind_go, lbind_ret, lbind_brk, lbind_none, Option.bind_some, Option.bind_none, Bool.not_true, Bool.not_false, reduceCtorEq] at h
        simp only [vs, cwp_label, ng_normal, ng_ret, ng_exit, cr, tyf, g11, d17, (ix58 o19), w18, e22, e23, e24, e25, e26, e27, g29, implies_true, Nat.reduceAdd, Nat.reduceMul, Nat.reduceEqDiff, Nat.reduceLeDiff, reduceIte, reduceCtorEq]
        obtain ⟨K28, h, kR28, kG28, kB28, kN28⟩ := lbind_intro h kN10
        obtain ⟨f28, hf28, h⟩ := call2 h
        obtain ⟨I28, hI28⟩ : ∃ I : Nat → St → Prop, I = (fun m st => ∃ (p28 : List (List Int)) (c28_19 : Int), m = List.length p28 ∧ 0 ≤ c28_19 ∧ List.drop (Int.toNat c28_19) r20 = p28 ∧ st.df = [] ∧ st.tm 1 = .sl (cellsL eI x1_other) (List.length x1_other) false ∧ st.tm 6 = .sl (cellsL eI e10) (List.length e10) false ∧ st.tm 10 = .sl (cellsL (eSl eI) r6) (List.length r6) false ∧ st.tm 11 = .lit (.int .i64 (List.length r6 : Int)) ∧ st.tm 12 = .lit (.int .i64 c10_12) ∧ st.tm 17 = .sl (cellsL (eSl eI) r20) (List.length r20) false ∧ st.tm 18 = .lit (.int .i64 (List.length r20 : Int)) ∧ st.tm 19 = .lit (.int .i64 c28_19) ∧ K28 (f28 p28 c28_19)) := ⟨_, rfl⟩
        refine loopK mixed (by kernel_rfl) I28 (List.length r20) (by rw [hI28]; refine ⟨r20, 0, rfl, Int.le_refl _, rfl, rfl, e22, e23, e24, e25, e26, e27, ?_, ?_, h⟩ <;> first | (simp only [upd_apply, updH_apply, without_apply, d17, w18, e22, e23, e24, e25, e26, e27, implies_true, Nat.reduceAdd, Nat.reduceMul, Nat.reduceEqDiff, Nat.reduceLeDiff, reduceIte, reduceCtorEq]; done) | (simp only [upd_apply, updH_apply, without_apply, d17, w18, e22, e23, e24, e25, e26, e27, implies_true, Nat.reduceAdd, Nat.reduceMul, Nat.reduceEqDiff, Nat.reduceLeDiff, reduceIte, reduceCtorEq]; rfl) | rfl) ?_
        rintro m ⟨tm, H, nx, df⟩ hinv
        rw [hI28] at hinv
        obtain ⟨p28, c28_19, rfl, hi28, hp28, hdf, e30, e31, e32, e33, e34, e35, e36, e37, h⟩ := hinv
        simp only at hdf e30 e31 e32 e33 e34 e35 e36 e37
        subst hdf hf28
        cases p28 with
        | nil =>
          have d38 : (decide (c28_19 < (List.length r20 : Int))) = false := not_lt_of_drop hi28 hp28
          simp only [g_letter_mistaken_l1, cond_true, cond_false, lbind_go, lbind_ret, lbind_brk, lbind_none, Option.bind_some, Option.bind_none, Bool.not_true, Bool.not_false, reduceCtorEq] at h
          replace h := kG28 _ h
          try dsimp only at h
          try simp only [cond_true, cond_false, lbind_go, lbind_ret, lbind_brk, lbind_none, Option.bind_some, Option.bind_none, Bool.not_true, Bool.not_false] at h
          simp only [vs, cwp_label, ng_normal, ng_ret, ng_exit, cr, tyf, g11, d17, (ix58 o19), w18, g29, e30, e31, e32, e33, e34, e35, e36, e37, d38, implies_true, Nat.reduceAdd, Nat.reduceMul, Nat.reduceEqDiff, Nat.reduceLeDiff, reduceIte, reduceCtorEq]
          exact ⟨List.length p10, Nat.lt_succ_self _, by rw [hI10]; refine ⟨p10, c10_12 + 1, rfl, Int.le_trans hi10 (Int.le_add_one (Int.le_refl _)), drop_next hi10 hp10, rfl, e30, e32, e33, ?_, h⟩ <;> first | (simp only [upd_apply, updH_apply, without_apply, d17, w18, e30, e31, e32, e33, e34, e35, e36, e37, d38, implies_true, Nat.reduceAdd, Nat.reduceMul, Nat.reduceEqDiff, Nat.reduceLeDiff, reduceIte, reduceCtorEq]; done) | (simp only [upd_apply, updH_apply, without_apply, d17, w18, e30, e31, e32, e33, e34, e35, e36, e37, d38, implies_true, Nat.reduceAdd, Nat.reduceMul, Nat.reduceEqDiff, Nat.reduceLeDiff, reduceIte, reduceCtorEq]; rfl) | rfl⟩
        | cons e28 p28 =>
          have d39 : (decide (c28_19 < (List.length r20 : Int))) = true := lt_of_drop hi28 hp28
          have o41 := getI_of_drop hi28 hp28
          have w40 := wrap_next hi28 hp28 g29
          simp only [g_letter_mistaken_l1, cond_true, cond_false, lbind_go, lbind_ret, lbind_brk, lbind_none, Option.bind_some, Option.bind_none, Bool.not_true, Bool.not_false, reduceCtorEq] at h
          cases o43 : (g_slices_Equal_int_int e10 e28) with
          | none =>
            simp only [o43, cond_true, cond_false, lbind_go, lbind_ret, lbind_brk, lbind_none, Option.bind_some, Option.bind_none, Bool.not_true, Bool.not_false, reduceCtorEq] at h
            exact absurd h kN28
          | some r42 =>
            simp only [o43, cond_true, cond_false, lbind_go, lbind_ret, lbind_brk, lbind_none, Option.bind_some, Option.bind_none, Bool.not_true, Bool.not_false, reduceCtorEq] at h
            simp only [vs, cwp_label, ng_normal, ng_ret, ng_exit, cr, tyf, g11, d17, (ix58 o19), w18, g29, e30, e31, e32, e33, e34, e35, e36, e37, d39, (ix58 o41), w40, implies_true, Nat.reduceAdd, Nat.reduceMul, Nat.reduceEqDiff, Nat.reduceLeDiff, reduceIte, reduceCtorEq]
            refine ktree (args0 := [.sl (cellsL eI e10) (List.length e10) false, .sl (cellsL eI e28) (List.length e28) false]) (by first | (simp only [nrm, tynrm]; done) | (simp only [nrm, tynrm]; rfl) | rfl) (by simp only [tre, tytre, Bool.and_self]) (g_slices_Equal_int_int_ok _ _ _ o43) ?_
            refine fin_cut (fun tm => tm 1 = .sl (cellsL eI x1_other) (List.length x1_other) false ∧ tm 6 = .sl (cellsL eI e10) (List.length e10) false ∧ tm 10 = .sl (cellsL (eSl eI) r6) (List.length r6) false ∧ tm 11 = .lit (.int .i64 (List.length r6 : Int)) ∧ tm 12 = .lit (.int .i64 c10_12) ∧ tm 17 = .sl (cellsL (eSl eI) r20) (List.length r20) false ∧ tm 18 = .lit (.int .i64 (List.length r20 : Int)) ∧ tm 19 = .lit (.int .i64 c28_19) ∧ tm 25 = .lit (.bool r42) ∧ True) (by refine ⟨e30, e31, e32, e33, e34, e35, e36, e37, ?_, trivial⟩ <;> first | (simp only [upd_apply, updH_apply, without_apply, d17, w18, e30, e31, e32, e33, e34, e35, e36, e37, d39, w40, implies_true, Nat.reduceAdd, Nat.reduceMul, Nat.reduceEqDiff, Nat.reduceLeDiff, reduceIte, reduceCtorEq]; done) | (simp only [upd_apply, updH_apply, without_apply, d17, w18, e30, e31, e32, e33, e34, e35, e36, e37, d39, w40, implies_true, Nat.reduceAdd, Nat.reduceMul, Nat.reduceEqDiff, Nat.reduceLeDiff, reduceIte, reduceCtorEq]; rfl) | rfl) ?_
            rintro tm ⟨e44, e45, e46, e47, e48, e49, e50, e51, e52, _⟩
            cases d53 : (r42)
            · simp only [d53, cond_true, cond_false, lbind_go, lbind_ret, lbind_brk, lbind_none, Option.bind_some, Option.bind_none, Bool.not_true, Bool.not_false, reduceCtorEq] at h
              simp only [vs, cwp_label, ng_normal, ng_ret, ng_exit, cr, tyf, g11, d17, (ix58 o19), w18, g29, d39, (ix58 o41), w40, e44, e45, e46, e47, e48, e49, e50, e51, e52, d53, implies_true, Nat.reduceAdd, Nat.reduceMul, Nat.reduceEqDiff, Nat.reduceLeDiff, reduceIte, reduceCtorEq]
              exact ⟨List.length p28, Nat.lt_succ_self _, by rw [hI28]; refine ⟨p28, c28_19 + 1, rfl, Int.le_trans hi28 (Int.le_add_one (Int.le_refl _)), drop_next hi28 hp28, rfl, e44, e45, e46, e47, e48, e49, e50, ?_, h⟩ <;> first | (simp only [upd_apply, updH_apply, without_apply, d17, w18, d39, w40, e44, e45, e46, e47, e48, e49, e50, e51, e52, d53, implies_true, Nat.reduceAdd, Nat.reduceMul, Nat.reduceEqDiff, Nat.reduceLeDiff, reduceIte, reduceCtorEq]; done) | (simp only [upd_apply, updH_apply, without_apply, d17, w18, d39, w40, e44, e45, e46, e47, e48, e49, e50, e51, e52, d53, implies_true, Nat.reduceAdd, Nat.reduceMul, Nat.reduceEqDiff, Nat.reduceLeDiff, reduceIte, reduceCtorEq]; rfl) | rfl⟩
            · simp only [d53, cond_true, cond_false, lbind_go, lbind_ret, lbind_brk, lbind_none, Option.bind_some, Option.bind_none, Bool.not_true, Bool.not_false, reduceCtorEq] at h
              simp only [vs, cwp_label, ng_normal, ng_ret, ng_exit, cr, tyf, g11, d17, (ix58 o19), w18, g29, d39, (ix58 o41), w40, e44, e45, e46, e47, e48, e49, e50, e51, e52, d53, implies_true, Nat.reduceAdd, Nat.reduceMul, Nat.reduceEqDiff, Nat.reduceLeDiff, reduceIte, reduceCtorEq]
              replace h := kR28 _ h
              try dsimp only at h
              replace h := kR10 _ h
              try dsimp only at h
              obtain rfl := kF _ h
              refine ret1 Tryz.results54 ?_ ?_
              · first | (simp only [outV, upd_apply, updH_apply, without_apply, showV_ref, cr, tyf, nrm, tynrm, g11, d17, (ix58 o19), w18, g29, d39, (ix58 o41), w40, e44, e45, e46, e47, e48, e49, e50, e51, e52, d53, implies_true, Nat.reduceAdd, Nat.reduceMul, Nat.reduceEqDiff, Nat.reduceLeDiff, reduceIte, reduceCtorEq]; done) | (simp only [outV, upd_apply, updH_apply, without_apply, showV_ref, cr, tyf, nrm, tynrm, g11, d17, (ix58 o19), w18, g29, d39, (ix58 o41), w40, e44, e45, e46, e47, e48, e49, e50, e51, e52, d53, implies_true, Nat.reduceAdd, Nat.reduceMul, Nat.reduceEqDiff, Nat.reduceLeDiff, reduceIte, reduceCtorEq]; rfl)
              · simp only [tre, tytre, Bool.and_self]

end Go.V
end
section
namespace Go.V
open Go Go.Proofs
set_option linter.unusedSimpArgs false
set_option linter.unusedVariables false
set_option maxRecDepth 4000
def g_letter_Alike_l1 (c0_16 : Int) (e0 : GLetterWord) : List GLetterWord → Int → Int → Int → Int → Option (LOut (Int × Int × Int) (Int × Int × Int))
  | [], c1_9, c1_5, c1_6, c1_7 => some (.go (c1_5, c1_6, c1_7))
  | e1 :: p1, c1_9, c1_5, c1_6, c1_7 => Option.bind (g_letter_mistaken e0.Signs e1.Signs) (fun r3 => cond (r3) (some (.brk 0 (c0_16, c1_9, 0))) (g_letter_Alike_l1 c0_16 e0 p1 (c1_9 + 1) c1_5 c1_6 c1_7))
def g_letter_Alike_l0 (x0_s : GLetterSheet) : List GLetterWord → Int → Int → Int → Int → Option (LOut (Int × Int × Int) (Int × Int × Int))
  | [], c0_16, c0_5, c0_6, c0_7 => some (.go (c0_5, c0_6, c0_7))
  | e0 :: p0, c0_16, c0_5, c0_6, c0_7 => cond (lenOk x0_s.Words) (cond (leB 0 (IntKind.i64.wrap (c0_16 + 1))) (lbind (g_letter_Alike_l1 c0_16 e0 (List.drop (Int.toNat (IntKind.i64.wrap (c0_16 + 1))) x0_s.Words) (IntKind.i64.wrap (c0_16 + 1)) c0_5 c0_6 c0_7) (fun r => some (.ret r)) (fun c4 => g_letter_Alike_l0 x0_s p0 (c0_16 + 1) c4.1 c4.2.1 c4.2.2) (fun _ c5 => some (.go (c5.1, c5.2.1, c5.2.2)))) none) none
def g_letter_Alike (x0_s : GLetterSheet) : Option (Int × Int × Int) := Option.bind (g_letter_isSheet x0_s) (fun r2 => cond (r2) (cond (lenOk x0_s.Words) (lbind (g_letter_Alike_l0 x0_s x0_s.Words 0 0 0 5) (fun r => some r) (fun c6 => some (c6.1, c6.2.1, c6.2.2)) (fun _ _ => none)) none) (some (0, 0, 2)))
theorem g_letter_Alike_ok (x0_s : GLetterSheet) (R : Int × Int × Int) (h : g_letter_Alike x0_s = some R) : VPure Tryz.prog G0 16 [.agg (cGLetterSheet x0_s)] (.tree (.tup [.lit (.int .i64 R.1), .lit (.int .i64 R.2.1), .lit (.int .i64 R.2.2)])) := by
  refine VPure.runT mixed Tryz.call16 Tryz.func16 rfl (by simp [Tryz.ntmps16]; kernel_rfl) ?_
  obtain ⟨KF, h, kF, kN⟩ := fun_intro h
  simp only [g_letter_Alike] at h
  simp only [vs, cwp_label, ng_normal, ng_ret, ng_exit, cr, tyf, implies_true, Nat.reduceAdd, Nat.reduceMul, Nat.reduceEqDiff, Nat.reduceLeDiff, reduceIte, reduceCtorEq]
  refine cwp_scope mixed (by kernel_rfl) ?_
  cases o9 : (g_letter_isSheet x0_s) with
  | none =>
    simp only [o9, cond_true, cond_false, lbind_go, lbind_ret, lbind_brk, lbind_none, Option.bind_some, Option.bind_none, Bool.not_true, Bool.not_false, reduceCtorEq] at h
    exact absurd h kN
  | some r8 =>
    simp only [o9, cond_true, cond_false, lbind_go, lbind_ret, lbind_brk, lbind_none, Option.bind_some, Option.bind_none, Bool.not_true, Bool.not_false, reduceCtorEq] at h
    simp only [vs, cwp_label, ng_normal, ng_ret, ng_exit, cr, tyf, implies_true, Nat.reduceAdd, Nat.reduceMul, Nat.reduceEqDiff, Nat.reduceLeDiff, reduceIte, reduceCtorEq]
    refine ktree (args0 := [.agg (cGLetterSheet x0_s)]) (by first | (simp only [nrm, tynrm]; done) | (simp only [nrm, tynrm]; rfl) | rfl) (by simp only [tre, tytre, Bool.and_self]) (g_letter_isSheet_ok _ _ o9) ?_
    refine fin_cut (fun tm => tm 1 = .ptr 0 0 ∧ tm 11 = .lit (.bool r8) ∧ True) (by refine ⟨?_, ?_, trivial⟩ <;> first | (simp only [upd_apply, updH_apply, without_apply, implies_true, Nat.reduceAdd, Nat.reduceMul, Nat.reduceEqDiff, Nat.reduceLeDiff, reduceIte, reduceCtorEq]; done) | (simp only [upd_apply, updH_apply, without_apply, implies_true, Nat.reduceAdd, Nat.reduceMul, Nat.reduceEqDiff, Nat.reduceLeDiff, reduceIte, reduceCtorEq]; rfl) | rfl) ?_
    rintro tm ⟨e10, e11, _⟩
    cases d12 : (r8)
    · simp only [d12, cond_true, cond_false, lbind_go, lbind_ret, lbind_brk, lbind_none, Option.bind_some, Option.bind_none, Bool.not_true, Bool.not_false, reduceCtorEq] at h
      simp only [vs, cwp_label, ng_normal, ng_ret, ng_exit, cr, tyf, e10, e11, d12, implies_true, Nat.reduceAdd, Nat.reduceMul, Nat.reduceEqDiff, Nat.reduceLeDiff, reduceIte, reduceCtorEq]
      obtain rfl := kF _ h
      refine ret3 Tryz.results16 ?_ ?_
      · first | (simp only [outV, upd_apply, updH_apply, without_apply, showV_ref, cr, tyf, nrm, tynrm, e10, e11, d12, implies_true, Nat.reduceAdd, Nat.reduceMul, Nat.reduceEqDiff, Nat.reduceLeDiff, reduceIte, reduceCtorEq]; done) | (simp only [outV, upd_apply, updH_apply, without_apply, showV_ref, cr, tyf, nrm, tynrm, e10, e11, d12, implies_true, Nat.reduceAdd, Nat.reduceMul, Nat.reduceEqDiff, Nat.reduceLeDiff, reduceIte, reduceCtorEq]; rfl)
      · simp only [tre, tytre, Bool.and_self]
    · simp only [d12, cond_true, cond_false, lbind_go, lbind_ret, lbind_brk, lbind_none, Option.bind_some, Option.bind_none, Bool.not_true, Bool.not_false, reduceCtorEq] at h
      cases g14 : (lenOk x0_s.Words)
      · simp only [g14, cond_true, cond_false, lbind_go, lbind_ret, lbind_brk, lbind_none, Option.bind_some, Option.bind_none, Bool.not_true, Bool.not_false, reduceCtorEq] at h
        exact absurd h kN
      simp only [g14, cond_true, cond_false, lbind_go, lbind_ret, lbind_brk, lbind_none, Option.bind_some, Option.bind_none, Bool.not_true, Bool.not_false, reduceCtorEq] at h
      simp only [vs, cwp_label, ng_normal, ng_ret, ng_exit, cr, tyf, e10, e11, d12, g14, implies_true, Nat.reduceAdd, Nat.reduceMul, Nat.reduceEqDiff, Nat.reduceLeDiff, reduceIte, reduceCtorEq]
      obtain ⟨K13, h, kR13, kG13, kB13, kN13⟩ := lbind_intro h kN
      obtain ⟨f13, hf13, h⟩ := call5 h
      obtain ⟨I13, hI13⟩ : ∃ I : Nat → St → Prop, I = (fun m st => ∃ (p13 : List GLetterWord) (c13_16 : Int) (c13_5 : Int) (c13_6 : Int) (c13_7 : Int), m = List.length p13 ∧ 0 ≤ c13_16 ∧ List.drop (Int.toNat c13_16) x0_s.Words = p13 ∧ st.df = [] ∧ 1 ≤ st.nx ∧ st.H 0 = some (.cells (some 28) (cGLetterSheet x0_s)) ∧ st.tm 1 = .ptr 0 0 ∧ st.tm 15 = .lit (.int .i64 (List.length x0_s.Words : Int)) ∧ st.tm 5 = .lit (.int .i64 c13_5) ∧ st.tm 6 = .lit (.int .i64 c13_6) ∧ st.tm 7 = .lit (.int .i64 c13_7) ∧ st.tm 16 = .lit (.int .i64 c13_16) ∧ K13 (f13 p13 c13_16 c13_5 c13_6 c13_7)) := ⟨_, rfl⟩
      refine loopK mixed (by kernel_rfl) I13 (List.length x0_s.Words) (by rw [hI13]; refine ⟨x0_s.Words, 0, 0, 0, 5, rfl, Int.le_refl _, rfl, rfl, (show 1 ≤ 14 by decide), ?_, e10, ?_, ?_, ?_, ?_, ?_, h⟩ <;> first | (simp only [upd_apply, updH_apply, without_apply, e10, e11, d12, implies_true, Nat.reduceAdd, Nat.reduceMul, Nat.reduceEqDiff, Nat.reduceLeDiff, reduceIte, reduceCtorEq]; done) | (simp only [upd_apply, updH_apply, without_apply, e10, e11, d12, implies_true, Nat.reduceAdd, Nat.reduceMul, Nat.reduceEqDiff, Nat.reduceLeDiff, reduceIte, reduceCtorEq]; rfl) | rfl) ?_
      rintro m ⟨tm, H, nx, df⟩ hinv
      rw [hI13] at hinv
      obtain ⟨p13, c13_16, c13_5, c13_6, c13_7, rfl, hi13, hp13, hdf, hn13, H21, e15, e16, e17, e18, e19, e20, h⟩ := hinv
      simp only at hdf hn13 H21 e15 e16 e17 e18 e19 e20
      have q22 := fresh_ne (n := 0) (B := 1) (by decide) hn13
      subst hdf hf13
      cases p13 with
      | nil =>
        have d23 : (decide (c13_16 < (List.length x0_s.Words : Int))) = false := not_lt_of_drop hi13 hp13
        simp only [g_letter_Alike_l0, cond_true, cond_false, lbind_go, lbind_ret, lbind_brk, lbind_none, Option.bind_some, Option.bind_none, Bool.not_true, Bool.not_false, reduceCtorEq] at h
        replace h := kG13 _ h
        try dsimp only at h
        try simp only [cond_true, cond_false, lbind_go, lbind_ret, lbind_brk, lbind_none, Option.bind_some, Option.bind_none, Bool.not_true, Bool.not_false] at h
        simp only [vs, cwp_label, ng_normal, ng_ret, ng_exit, cr, tyf, d12, g14, e15, e16, e17, e18, e19, e20, H21, q22, d23, implies_true, Nat.reduceAdd, Nat.reduceMul, Nat.reduceEqDiff, Nat.reduceLeDiff, reduceIte, reduceCtorEq]
        obtain rfl := kF _ h
        refine ret3 Tryz.results16 ?_ ?_
        · first | (simp only [outV, upd_apply, updH_apply, without_apply, showV_ref, cr, tyf, nrm, tynrm, d12, g14, e15, e16, e17, e18, e19, e20, H21, q22, d23, implies_true, Nat.reduceAdd, Nat.reduceMul, Nat.reduceEqDiff, Nat.reduceLeDiff, reduceIte, reduceCtorEq]; done) | (simp only [outV, upd_apply, updH_apply, without_apply, showV_ref, cr, tyf, nrm, tynrm, d12, g14, e15, e16, e17, e18, e19, e20, H21, q22, d23, implies_true, Nat.reduceAdd, Nat.reduceMul, Nat.reduceEqDiff, Nat.reduceLeDiff, reduceIte, reduceCtorEq]; rfl)
        · simp only [tre, tytre, Bool.and_self]
      | cons e13 p13 =>
        have d24 : (decide (c13_16 < (List.length x0_s.Words : Int))) = true := lt_of_drop hi13 hp13
        have o26 := getI_of_drop hi13 hp13
        have w25 := wrap_next hi13 hp13 g14
        simp only [g_letter_Alike_l0, cond_true, cond_false, lbind_go, lbind_ret, lbind_brk, lbind_none, Option.bind_some, Option.bind_none, Bool.not_true, Bool.not_false, reduceCtorEq] at h
        cases g28 : (lenOk x0_s.Words)
        · simp only [g28, cond_true, cond_false, lbind_go, lbind_ret, lbind_brk, lbind_none, Option.bind_some, Option.bind_none, Bool.not_true, Bool.not_false, reduceCtorEq] at h
          exact absurd h kN13
        simp only [g28, cond_true, cond_false, lbind_go, lbind_ret, lbind_brk, lbind_none, Option.bind_some, Option.bind_none, Bool.not_true, Bool.not_false, reduceCtorEq] at h
        cases g29 : (leB 0 (IntKind.i64.wrap (c13_16 + 1)))
        · simp only [g29, cond_true, cond_false, lbind_go, lbind_ret, lbind_brk, lbind_none, Option.bind_some, Option.bind_none, Bool.not_true, Bool.not_false, reduceCtorEq] at h
          exact absurd h kN13
        simp only [g29, cond_true, cond_false, lbind_go, lbind_ret, lbind_brk, lbind_none, Option.bind_some, Option.bind_none, Bool.not_true, Bool.not_false, reduceCtorEq] at h
        simp only [vs, cwp_label, ng_normal, ng_ret, ng_exit, cr, tyf, d12, g14, e15, e16, e17, e18, e19, e20, H21, q22, d24, (ix26 o26), w25, g28, g29, implies_true, Nat.reduceAdd, Nat.reduceMul, Nat.reduceEqDiff, Nat.reduceLeDiff, reduceIte, reduceCtorEq]
        obtain ⟨K27, h, kR27, kG27, kB27, kN27⟩ := lbind_intro h kN13
        obtain ⟨f27, hf27, h⟩ := call5 h
        obtain ⟨I27, hI27⟩ : ∃ I : Nat → St → Prop, I = (fun m st => ∃ (p27 : List GLetterWord) (c27_9 : Int) (c27_5 : Int) (c27_6 : Int) (c27_7 : Int), m = List.length p27 ∧ 0 ≤ c27_9 ∧ List.drop (Int.toNat c27_9) x0_s.Words = p27 ∧ st.df = [] ∧ 1 ≤ st.nx ∧ st.H 0 = some (.cells (some 28) (cGLetterSheet x0_s)) ∧ st.tm 1 = .ptr 0 0 ∧ st.tm 8 = .lit (.int .i64 c13_16) ∧ st.tm 15 = .lit (.int .i64 (List.length x0_s.Words : Int)) ∧ st.tm 16 = .lit (.int .i64 c13_16) ∧ st.tm 5 = .lit (.int .i64 c27_5) ∧ st.tm 6 = .lit (.int .i64 c27_6) ∧ st.tm 7 = .lit (.int .i64 c27_7) ∧ st.tm 9 = .lit (.int .i64 c27_9) ∧ K27 (f27 p27 c27_9 c27_5 c27_6 c27_7)) := ⟨_, rfl⟩
        refine loopK mixed (by kernel_rfl) I27 (List.length (List.drop (Int.toNat (IntKind.i64.wrap (c13_16 + 1))) x0_s.Words)) (by rw [hI27]; refine ⟨List.drop (Int.toNat (IntKind.i64.wrap (c13_16 + 1))) x0_s.Words, IntKind.i64.wrap (c13_16 + 1), c13_5, c13_6, c13_7, rfl, of_decide_eq_true g29, rfl, rfl, (show 1 ≤ nx + 6 by omega), ?_, e15, ?_, e16, e20, e17, e18, e19, ?_, h⟩ <;> first | (simp only [upd_apply, updH_apply, without_apply, d12, e15, e16, e17, e18, e19, e20, H21, q22, d24, w25, implies_true, Nat.reduceAdd, Nat.reduceMul, Nat.reduceEqDiff, Nat.reduceLeDiff, reduceIte, reduceCtorEq]; done) | (simp only [upd_apply, updH_apply, without_apply, d12, e15, e16, e17, e18, e19, e20, H21, q22, d24, w25, implies_true, Nat.reduceAdd, Nat.reduceMul, Nat.reduceEqDiff, Nat.reduceLeDiff, reduceIte, reduceCtorEq]; rfl) | rfl) ?_
        rintro m ⟨tm, H, nx, df⟩ hinv
        rw [hI27] at hinv
        obtain ⟨p27, c27_9, c27_5, c27_6, c27_7, rfl, hi27, hp27, hdf, hn27, H38, e30, e31, e32, e33, e34, e35, e36, e37, h⟩ := hinv
        simp only at hdf hn27 H38 e30 e31 e32 e33 e34 e35 e36 e37
        have q39 := fresh_ne (n := 0) (B := 1) (by decide) hn27
        subst hdf hf27
        cases p27 with
        | nil =>
          have d40 : (decide (c27_9 < (List.length x0_s.Words : Int))) = false := not_lt_of_drop hi27 hp27
          simp only [g_letter_Alike_l1, cond_true, cond_false, lbind_go, lbind_ret, lbind_brk, lbind_none, Option.bind_some, Option.bind_none, Bool.not_true, Bool.not_false, reduceCtorEq] at h
          replace h := kG27 _ h
          try dsimp only at h
          try simp only [cond_true, cond_false, lbind_go, lbind_ret, lbind_brk, lbind_none, Option.bind_some, Option.bind_none, Bool.not_true, Bool.not_false] at h
          simp only [vs, cwp_label, ng_normal, ng_ret, ng_exit, cr, tyf, d12, g14, d24, (ix26 o26), w25, g28, g29, e30, e31, e32, e33, e34, e35, e36, e37, H38, q39, d40, implies_true, Nat.reduceAdd, Nat.reduceMul, Nat.reduceEqDiff, Nat.reduceLeDiff, reduceIte, reduceCtorEq]
          exact ⟨List.length p13, Nat.lt_succ_self _, by rw [hI13]; refine ⟨p13, c13_16 + 1, c27_5, c27_6, c27_7, rfl, Int.le_trans hi13 (Int.le_add_one (Int.le_refl _)), drop_next hi13 hp13, rfl, (show 1 ≤ nx + 7 by omega), ?_, e30, e32, e34, e35, e36, ?_, h⟩ <;> first | (simp only [upd_apply, updH_apply, without_apply, d12, d24, w25, e30, e31, e32, e33, e34, e35, e36, e37, H38, q39, d40, implies_true, Nat.reduceAdd, Nat.reduceMul, Nat.reduceEqDiff, Nat.reduceLeDiff, reduceIte, reduceCtorEq]; done) | (simp only [upd_apply, updH_apply, without_apply, d12, d24, w25, e30, e31, e32, e33, e34, e35, e36, e37, H38, q39, d40, implies_true, Nat.reduceAdd, Nat.reduceMul, Nat.reduceEqDiff, Nat.reduceLeDiff, reduceIte, reduceCtorEq]; rfl) | rfl⟩
        | cons e27 p27 =>
          have d41 : (decide (c27_9 < (List.length x0_s.Words : Int))) = true := lt_of_drop hi27 hp27
          have o43 := getI_of_drop hi27 hp27
          have w42 := wrap_next hi27 hp27 g28
          simp only [g_letter_Alike_l1, cond_true, cond_false, lbind_go, lbind_ret, lbind_brk, lbind_none, Option.bind_some, Option.bind_none, Bool.not_true, Bool.not_false, reduceCtorEq] at h
          simp only [vs, cwp_label, ng_normal, ng_ret, ng_exit, cr, tyf, d12, g14, d24, (ix26 o26), w25, g28, g29, e30, e31, e32, e33, e34, e35, e36, e37, H38, q39, d41, (ix26 o43), w42, implies_true, Nat.reduceAdd, Nat.reduceMul, Nat.reduceEqDiff, Nat.reduceLeDiff, reduceIte, reduceCtorEq]
          refine cwp_drwQF (fun tm => tm 1 = .ptr 0 0 ∧ tm 5 = .lit (.int .i64 c27_5) ∧ tm 6 = .lit (.int .i64 c27_6) ∧ tm 7 = .lit (.int .i64 c27_7) ∧ tm 8 = .lit (.int .i64 c13_16) ∧ tm 9 = .lit (.int .i64 c27_9) ∧ tm 15 = .lit (.int .i64 (List.length x0_s.Words : Int)) ∧ tm 16 = .lit (.int .i64 c13_16) ∧ True) (by refine ⟨e30, e34, e35, e36, e31, e37, e32, e33, trivial⟩ <;> first | (simp only [upd_apply, updH_apply, without_apply, d12, d24, w25, e30, e31, e32, e33, e34, e35, e36, e37, H38, q39, d41, w42, implies_true, Nat.reduceAdd, Nat.reduceMul, Nat.reduceEqDiff, Nat.reduceLeDiff, reduceIte, reduceCtorEq]; done) | (simp only [upd_apply, updH_apply, without_apply, d12, d24, w25, e30, e31, e32, e33, e34, e35, e36, e37, H38, q39, d41, w42, implies_true, Nat.reduceAdd, Nat.reduceMul, Nat.reduceEqDiff, Nat.reduceLeDiff, reduceIte, reduceCtorEq]; rfl) | rfl) ?_
          rintro tm ⟨e44, e45, e46, e47, e48, e49, e50, e51, _⟩
          cases o53 : (g_letter_mistaken e13.Signs e27.Signs) with
          | none =>
            simp only [o53, cond_true, cond_false, lbind_go, lbind_ret, lbind_brk, lbind_none, Option.bind_some, Option.bind_none, Bool.not_true, Bool.not_false, reduceCtorEq] at h
            exact absurd h kN27
          | some r52 =>
            simp only [o53, cond_true, cond_false, lbind_go, lbind_ret, lbind_brk, lbind_none, Option.bind_some, Option.bind_none, Bool.not_true, Bool.not_false, reduceCtorEq] at h
            simp only [vs, cwp_label, ng_normal, ng_ret, ng_exit, cr, tyf, d12, g14, d24, (ix26 o26), w25, g28, g29, H38, q39, d41, (ix26 o43), w42, e44, e45, e46, e47, e48, e49, e50, e51, implies_true, Nat.reduceAdd, Nat.reduceMul, Nat.reduceEqDiff, Nat.reduceLeDiff, reduceIte, reduceCtorEq]
            refine dktree (args0 := [.sl (cellsL eI e13.Signs) (List.length e13.Signs) false, .sl (cellsL eI e27.Signs) (List.length e27.Signs) false]) (by first | (simp only [nrm, tynrm]; done) | (simp only [nrm, tynrm]; rfl) | rfl) (by simp only [tre, tytre, Bool.and_self]) (g_letter_mistaken_ok _ _ _ o53) ?_
            refine fin_cut (fun tm => tm 1 = .ptr 0 0 ∧ tm 5 = .lit (.int .i64 c27_5) ∧ tm 6 = .lit (.int .i64 c27_6) ∧ tm 7 = .lit (.int .i64 c27_7) ∧ tm 8 = .lit (.int .i64 c13_16) ∧ tm 9 = .lit (.int .i64 c27_9) ∧ tm 15 = .lit (.int .i64 (List.length x0_s.Words : Int)) ∧ tm 16 = .lit (.int .i64 c13_16) ∧ tm 40 = .lit (.bool r52) ∧ True) (by refine ⟨e44, e45, e46, e47, e48, e49, e50, e51, ?_, trivial⟩ <;> first | (simp only [upd_apply, updH_apply, without_apply, d12, d24, w25, H38, q39, d41, w42, e44, e45, e46, e47, e48, e49, e50, e51, implies_true, Nat.reduceAdd, Nat.reduceMul, Nat.reduceEqDiff, Nat.reduceLeDiff, reduceIte, reduceCtorEq]; done) | (simp only [upd_apply, updH_apply, without_apply, d12, d24, w25, H38, q39, d41, w42, e44, e45, e46, e47, e48, e49, e50, e51, implies_true, Nat.reduceAdd, Nat.reduceMul, Nat.reduceEqDiff, Nat.reduceLeDiff, reduceIte, reduceCtorEq]; rfl) | rfl) ?_
            rintro tm ⟨e54, e55, e56, e57, e58, e59, e60, e61, e62, _⟩
            cases d63 : (r52)
            · simp only [d63, cond_true, cond_false, lbind_go, lbind_ret, lbind_brk, lbind_none, Option.bind_some, Option.bind_none, Bool.not_true, Bool.not_false, reduceCtorEq] at h
              simp only [vs, cwp_label, ng_normal, ng_ret, ng_exit, cr, tyf, d12, g14, d24, (ix26 o26), w25, g28, g29, H38, q39, d41, (ix26 o43), w42, e54, e55, e56, e57, e58, e59, e60, e61, e62, d63, implies_true, Nat.reduceAdd, Nat.reduceMul, Nat.reduceEqDiff, Nat.reduceLeDiff, reduceIte, reduceCtorEq]
              exact ⟨List.length p27, Nat.lt_succ_self _, by rw [hI27]; refine ⟨p27, c27_9 + 1, c27_5, c27_6, c27_7, rfl, Int.le_trans hi27 (Int.le_add_one (Int.le_refl _)), drop_next hi27 hp27, rfl, (show 1 ≤ nx + 21 by omega), ?_, e54, e58, e60, e61, e55, e56, e57, ?_, h⟩ <;> first | (simp only [upd_apply, updH_apply, without_apply, d12, d24, w25, H38, q39, d41, w42, e54, e55, e56, e57, e58, e59, e60, e61, e62, d63, implies_true, Nat.reduceAdd, Nat.reduceMul, Nat.reduceEqDiff, Nat.reduceLeDiff, reduceIte, reduceCtorEq]; done) | (simp only [upd_apply, updH_apply, without_apply, d12, d24, w25, H38, q39, d41, w42, e54, e55, e56, e57, e58, e59, e60, e61, e62, d63, implies_true, Nat.reduceAdd, Nat.reduceMul, Nat.reduceEqDiff, Nat.reduceLeDiff, reduceIte, reduceCtorEq]; rfl) | rfl⟩
            · simp only [d63, cond_true, cond_false, lbind_go, lbind_ret, lbind_brk, lbind_none, Option.bind_some, Option.bind_none, Bool.not_true, Bool.not_false, reduceCtorEq] at h
              replace h := kB27 _ _ h
              try dsimp only at h
              try simp only [cond_true, cond_false, lbind_go, lbind_ret, lbind_brk, lbind_none, Option.bind_some, Option.bind_none, Bool.not_true, Bool.not_false] at h
              replace h := kG13 _ h
              try dsimp only at h
              try simp only [cond_true, cond_false, lbind_go, lbind_ret, lbind_brk, lbind_none, Option.bind_some, Option.bind_none, Bool.not_true, Bool.not_false] at h
              simp only [vs, cwp_label, ng_normal, ng_ret, ng_exit, cr, tyf, d12, g14, d24, (ix26 o26), w25, g28, g29, H38, q39, d41, (ix26 o43), w42, e54, e55, e56, e57, e58, e59, e60, e61, e62, d63, implies_true, Nat.reduceAdd, Nat.reduceMul, Nat.reduceEqDiff, Nat.reduceLeDiff, reduceIte, reduceCtorEq]
              obtain rfl := kF _ h
              refine ret3 Tryz.results16 ?_ ?_
              · first | (simp only [outV, upd_apply, updH_apply, without_apply, showV_ref, cr, tyf, nrm, tynrm, d12, g14, d24, (ix26 o26), w25, g28, g29, H38, q39, d41, (ix26 o43), w42, e54, e55, e56, e57, e58, e59, e60, e61, e62, d63, implies_true, Nat.reduceAdd, Nat.reduceMul, Nat.reduceEqDiff, Nat.reduceLeDiff, reduceIte, reduceCtorEq]; done) | (simp only [outV, upd_apply, updH_apply, without_apply, showV_ref, cr, tyf, nrm, tynrm, d12, g14, d24, (ix26 o26), w25, g28, g29, H38, q39, d41, (ix26 o43), w42, e54, e55, e56, e57, e58, e59, e60, e61, e62, d63, implies_true, Nat.reduceAdd, Nat.reduceMul, Nat.reduceEqDiff, Nat.reduceLeDiff, reduceIte, reduceCtorEq]; rfl)
              · simp only [tre, tytre, Bool.and_self]

end Go.V
end
