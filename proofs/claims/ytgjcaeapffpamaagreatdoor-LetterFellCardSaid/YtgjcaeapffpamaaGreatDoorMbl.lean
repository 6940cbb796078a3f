/- Part of the proof of a statement of YtgjcaeapffpamaaGreatDoor: a logic of values by content, the lifted functions, and what follows. -/
import Derived.Test.YtgjcaeapffpamaaGreatDoorMbf
import Derived.Test.YtgjcaeapffpamaaGreatDoorMaz
set_option linter.unusedVariables false
set_option linter.unusedSimpArgs false
set_option linter.unusedSectionVars false
set_option linter.constructorNameAsVariable false
section
namespace Go.V
open Go Go.Proofs
theorem looks1 (x0 : Int) : VPure Tryz.prog G0 134 [.sl [vi x0] 1 false] (.own [.sl [vi x0] 1 false] 1 1) := VPure.closedB mixed 1000 (by kernel_rfl)
theorem looks2 (x0 x1 : Int) : VPure Tryz.prog G0 134 [.sl [vi x0, vi x1] 2 false] (.own [.sl [vi x0, vi x1] 2 false, .sl [vi x1] 1 false, .sl [vi x0] 1 false] 3 1) := VPure.closedB mixed 1000 (by kernel_rfl)
theorem looks3 (x0 x1 x2 : Int) : VPure Tryz.prog G0 134 [.sl [vi x0, vi x1, vi x2] 3 false] (.own [.sl [vi x0, vi x1, vi x2] 3 false, .sl [vi x1, vi x2] 2 false, .sl [vi x0, vi x2] 2 false, .sl [vi x0, vi x1] 2 false] 4 1) := VPure.closedB mixed 1000 (by kernel_rfl)
theorem looks4 (x0 x1 x2 x3 : Int) : VPure Tryz.prog G0 134 [.sl [vi x0, vi x1, vi x2, vi x3] 4 false] (.own [.sl [vi x0, vi x1, vi x2, vi x3] 4 false, .sl [vi x1, vi x2, vi x3] 3 false, .sl [vi x0, vi x2, vi x3] 3 false, .sl [vi x0, vi x1, vi x3] 3 false, .sl [vi x0, vi x1, vi x2] 3 false] 5 1) := VPure.closedB mixed 1000 (by kernel_rfl)
theorem looks5 (x0 x1 x2 x3 x4 : Int) : VPure Tryz.prog G0 134 [.sl [vi x0, vi x1, vi x2, vi x3, vi x4] 5 false] (.own [.sl [vi x0, vi x1, vi x2, vi x3, vi x4] 5 false, .sl [vi x1, vi x2, vi x3, vi x4] 4 false, .sl [vi x0, vi x2, vi x3, vi x4] 4 false, .sl [vi x0, vi x1, vi x3, vi x4] 4 false, .sl [vi x0, vi x1, vi x2, vi x4] 4 false, .sl [vi x0, vi x1, vi x2, vi x3] 4 false] 6 1) := VPure.closedB mixed 1000 (by kernel_rfl)
theorem looks6 (x0 x1 x2 x3 x4 x5 : Int) : VPure Tryz.prog G0 134 [.sl [vi x0, vi x1, vi x2, vi x3, vi x4, vi x5] 6 false] (.own [.sl [vi x0, vi x1, vi x2, vi x3, vi x4, vi x5] 6 false, .sl [vi x1, vi x2, vi x3, vi x4, vi x5] 5 false, .sl [vi x0, vi x2, vi x3, vi x4, vi x5] 5 false, .sl [vi x0, vi x1, vi x3, vi x4, vi x5] 5 false, .sl [vi x0, vi x1, vi x2, vi x4, vi x5] 5 false, .sl [vi x0, vi x1, vi x2, vi x3, vi x5] 5 false, .sl [vi x0, vi x1, vi x2, vi x3, vi x4] 5 false] 7 1) := VPure.closedB mixed 1000 (by kernel_rfl)

def looksF (xs : List Int) : List (List Int) := if xs.length = 1 then [xs] else xs :: (List.range xs.length).map xs.eraseIdx
def g_letter_looks (xs : List Int) : Option (List (List Int)) := if 1 ≤ xs.length ∧ xs.length ≤ 6 then some (looksF xs) else none
theorem g_letter_looks_ok (xs : List Int) (R : List (List Int)) (h : g_letter_looks xs = some R) : VPure Tryz.prog G0 134 [.sl (cellsL eI xs) (List.length xs) false] (.tree (.sl (cellsL (eSl eI) R) (List.length R) false)) := by
  unfold g_letter_looks at h
  split at h
  · rename_i hl
    cases h
    match xs, hl with
    | [x0], _ => exact (looks1 x0).ofOwn (Nat.le_refl _)
    | [x0, x1], _ => exact (looks2 x0 x1).ofOwn (Nat.le_refl _)
    | [x0, x1, x2], _ => exact (looks3 x0 x1 x2).ofOwn (Nat.le_refl _)
    | [x0, x1, x2, x3], _ => exact (looks4 x0 x1 x2 x3).ofOwn (Nat.le_refl _)
    | [x0, x1, x2, x3, x4], _ => exact (looks5 x0 x1 x2 x3 x4).ofOwn (Nat.le_refl _)
    | [x0, x1, x2, x3, x4, x5], _ => exact (looks6 x0 x1 x2 x3 x4 x5).ofOwn (Nat.le_refl _)
    | _ :: _ :: _ :: _ :: _ :: _ :: _ :: _, hl => simp only [List.length_cons] at hl; omega
    | [], hl => simp at hl
  · cases h
end Go.V
end
section
namespace Go.V
open Go Go.Proofs
set_option linter.unusedSimpArgs false
set_option linter.unusedVariables false
set_option maxRecDepth 4000
set_option maxHeartbeats 4000000
def g_slices_Equal_int_int_l0 (x1_s2 : List Int) : List Int → Int → Option (LOut (Bool) (Unit))
  | [], c0_13 => some (.go ())
  | e0 :: p0, c0_13 => Option.bind (getI x1_s2 c0_13) (fun x1 => cond (e0 != x1) (some (.ret false)) (g_slices_Equal_int_int_l0 x1_s2 p0 (c0_13 + 1)))
def g_slices_Equal_int_int (x0_s1 : List Int) (x1_s2 : List Int) : Option (Bool) := cond ((List.length x0_s1 : Int) != (List.length x1_s2 : Int)) (some false) (cond (lenOk x0_s1) (lbind (g_slices_Equal_int_int_l0 x1_s2 x0_s1 0) (fun r => some r) (fun c2 => some true) (fun _ _ => none)) none)
theorem g_slices_Equal_int_int_ok (x0_s1 : List Int) (x1_s2 : List Int) (R : Bool) (h : g_slices_Equal_int_int x0_s1 x1_s2 = some R) : VPure Tryz.prog G0 135 [.sl (cellsL eI x0_s1) (List.length x0_s1) false, .sl (cellsL eI x1_s2) (List.length x1_s2) false] (.tree (.lit (.bool R))) := by
  refine VPure.runT mixed Tryz.call135 Tryz.func135 rfl (by simp [Tryz.ntmps135]; kernel_rfl) ?_
  obtain ⟨KF, h, kF, kN⟩ := fun_intro h
  simp only [g_slices_Equal_int_int] at h
  cases d3 : ((List.length x0_s1 : Int) != (List.length x1_s2 : Int))
  · simp only [d3, cond_true, cond_false, lbind_go, lbind_ret, lbind_brk, lbind_none, Option.bind_some, Option.bind_none, Bool.not_true, Bool.not_false, reduceCtorEq] at h
    cases g5 : (lenOk x0_s1)
    · simp only [g5, cond_true, cond_false, lbind_go, lbind_ret, lbind_brk, lbind_none, Option.bind_some, Option.bind_none, Bool.not_true, Bool.not_false, reduceCtorEq] at h
      exact absurd h kN
    simp only [g5, cond_true, cond_false, lbind_go, lbind_ret, lbind_brk, lbind_none, Option.bind_some, Option.bind_none, Bool.not_true, Bool.not_false, reduceCtorEq] at h
    simp only [vs, cwp_label, ng_normal, ng_ret, ng_exit, cr, tyf, d3, g5, implies_true, Nat.reduceAdd, Nat.reduceMul, Nat.reduceEqDiff, Nat.reduceLeDiff, reduceIte, reduceCtorEq]
    obtain ⟨K4, h, kR4, kG4, kB4, kN4⟩ := lbind_intro h kN
    obtain ⟨f4, hf4, h⟩ := call2 h
    obtain ⟨I4, hI4⟩ : ∃ I : Nat → St → Prop, I = (fun m st => ∃ (p4 : List Int) (c4_13 : Int), m = List.length p4 ∧ 0 ≤ c4_13 ∧ List.drop (Int.toNat c4_13) x0_s1 = p4 ∧ st.df = [] ∧ st.tm 0 = .sl (cellsL eI x0_s1) (List.length x0_s1) false ∧ st.tm 1 = .sl (cellsL eI x1_s2) (List.length x1_s2) false ∧ st.tm 12 = .lit (.int .i64 (List.length x0_s1 : Int)) ∧ st.tm 13 = .lit (.int .i64 c4_13) ∧ K4 (f4 p4 c4_13)) := ⟨_, rfl⟩
    refine loopK mixed (by kernel_rfl) I4 (List.length x0_s1) (by rw [hI4]; refine ⟨x0_s1, 0, rfl, Int.le_refl _, rfl, rfl, ?_, ?_, ?_, ?_, h⟩ <;> first | (simp only [upd_apply, updH_apply, without_apply, d3, implies_true, Nat.reduceAdd, Nat.reduceMul, Nat.reduceEqDiff, Nat.reduceLeDiff, reduceIte, reduceCtorEq]; done) | (simp only [upd_apply, updH_apply, without_apply, d3, implies_true, Nat.reduceAdd, Nat.reduceMul, Nat.reduceEqDiff, Nat.reduceLeDiff, reduceIte, reduceCtorEq]; rfl) | rfl) ?_
    rintro m ⟨tm, H, nx, df⟩ hinv
    rw [hI4] at hinv
    obtain ⟨p4, c4_13, rfl, hi4, hp4, hdf, e6, e7, e8, e9, h⟩ := hinv
    simp only at hdf e6 e7 e8 e9
    subst hdf hf4
    cases p4 with
    | nil =>
      have d10 : (decide (c4_13 < (List.length x0_s1 : Int))) = false := not_lt_of_drop hi4 hp4
      simp only [g_slices_Equal_int_int_l0, cond_true, cond_false, lbind_go, lbind_ret, lbind_brk, lbind_none, Option.bind_some, Option.bind_none, Bool.not_true, Bool.not_false, reduceCtorEq] at h
      replace h := kG4 _ h
      try dsimp only at h
      try simp only [cond_true, cond_false, lbind_go, lbind_ret, lbind_brk, lbind_none, Option.bind_some, Option.bind_none, Bool.not_true, Bool.not_false] at h
      simp only [vs, cwp_label, ng_normal, ng_ret, ng_exit, cr, tyf, d3, g5, e6, e7, e8, e9, d10, implies_true, Nat.reduceAdd, Nat.reduceMul, Nat.reduceEqDiff, Nat.reduceLeDiff, reduceIte, reduceCtorEq]
      obtain rfl := kF _ h
      refine ret1 Tryz.results135 ?_ ?_
      · first | (simp only [outV, upd_apply, updH_apply, without_apply, showV_ref, cr, tyf, nrm, tynrm, d3, g5, e6, e7, e8, e9, d10, implies_true, Nat.reduceAdd, Nat.reduceMul, Nat.reduceEqDiff, Nat.reduceLeDiff, reduceIte, reduceCtorEq]; done) | (simp only [outV, upd_apply, updH_apply, without_apply, showV_ref, cr, tyf, nrm, tynrm, d3, g5, e6, e7, e8, e9, d10, implies_true, Nat.reduceAdd, Nat.reduceMul, Nat.reduceEqDiff, Nat.reduceLeDiff, reduceIte, reduceCtorEq]; rfl)
      · simp only [tre, tytre, Bool.and_self]
    | cons e4 p4 =>
      have d11 : (decide (c4_13 < (List.length x0_s1 : Int))) = true := lt_of_drop hi4 hp4
      have o13 := getI_of_drop hi4 hp4
      have w12 := wrap_next hi4 hp4 g5
      simp only [g_slices_Equal_int_int_l0, cond_true, cond_false, lbind_go, lbind_ret, lbind_brk, lbind_none, Option.bind_some, Option.bind_none, Bool.not_true, Bool.not_false, reduceCtorEq] at h
      simp only [vs, cwp_label, ng_normal, ng_ret, ng_exit, cr, tyf, d3, g5, e6, e7, e8, e9, d11, (ix22 o13), w12, implies_true, Nat.reduceAdd, Nat.reduceMul, Nat.reduceEqDiff, Nat.reduceLeDiff, reduceIte, reduceCtorEq]
      refine cwp_drwQF (fun tm => tm 0 = .sl (cellsL eI x0_s1) (List.length x0_s1) false ∧ tm 1 = .sl (cellsL eI x1_s2) (List.length x1_s2) false ∧ tm 5 = .lit (.int .i64 c4_13) ∧ tm 12 = .lit (.int .i64 (List.length x0_s1 : Int)) ∧ tm 13 = .lit (.int .i64 c4_13) ∧ True) (by refine ⟨e6, e7, ?_, e8, e9, trivial⟩ <;> first | (simp only [upd_apply, updH_apply, without_apply, d3, e6, e7, e8, e9, d11, w12, implies_true, Nat.reduceAdd, Nat.reduceMul, Nat.reduceEqDiff, Nat.reduceLeDiff, reduceIte, reduceCtorEq]; done) | (simp only [upd_apply, updH_apply, without_apply, d3, e6, e7, e8, e9, d11, w12, implies_true, Nat.reduceAdd, Nat.reduceMul, Nat.reduceEqDiff, Nat.reduceLeDiff, reduceIte, reduceCtorEq]; rfl) | rfl) ?_
      rintro tm ⟨e14, e15, e16, e17, e18, _⟩
      cases o20 : (getI x1_s2 c4_13) with
      | none =>
        simp only [o20, cond_true, cond_false, lbind_go, lbind_ret, lbind_brk, lbind_none, Option.bind_some, Option.bind_none, Bool.not_true, Bool.not_false, reduceCtorEq] at h
        exact absurd h kN4
      | some x19 =>
        simp only [o20, cond_true, cond_false, lbind_go, lbind_ret, lbind_brk, lbind_none, Option.bind_some, Option.bind_none, Bool.not_true, Bool.not_false, reduceCtorEq] at h
        cases d21 : (e4 != x19)
        · simp only [d21, cond_true, cond_false, lbind_go, lbind_ret, lbind_brk, lbind_none, Option.bind_some, Option.bind_none, Bool.not_true, Bool.not_false, reduceCtorEq] at h
          simp only [vs, cwp_label, ng_normal, ng_ret, ng_exit, cr, tyf, d3, g5, d11, (ix22 o13), w12, e14, e15, e16, e17, e18, (ix22 o20), d21, implies_true, Nat.reduceAdd, Nat.reduceMul, Nat.reduceEqDiff, Nat.reduceLeDiff, reduceIte, reduceCtorEq]
          exact ⟨List.length p4, Nat.lt_succ_self _, by rw [hI4]; refine ⟨p4, c4_13 + 1, rfl, Int.le_trans hi4 (Int.le_add_one (Int.le_refl _)), drop_next hi4 hp4, rfl, e14, e15, e17, ?_, h⟩ <;> first | (simp only [upd_apply, updH_apply, without_apply, d3, d11, w12, e14, e15, e16, e17, e18, d21, implies_true, Nat.reduceAdd, Nat.reduceMul, Nat.reduceEqDiff, Nat.reduceLeDiff, reduceIte, reduceCtorEq]; done) | (simp only [upd_apply, updH_apply, without_apply, d3, d11, w12, e14, e15, e16, e17, e18, d21, implies_true, Nat.reduceAdd, Nat.reduceMul, Nat.reduceEqDiff, Nat.reduceLeDiff, reduceIte, reduceCtorEq]; rfl) | rfl⟩
        · simp only [d21, cond_true, cond_false, lbind_go, lbind_ret, lbind_brk, lbind_none, Option.bind_some, Option.bind_none, Bool.not_true, Bool.not_false, reduceCtorEq] at h
          simp only [vs, cwp_label, ng_normal, ng_ret, ng_exit, cr, tyf, d3, g5, d11, (ix22 o13), w12, e14, e15, e16, e17, e18, (ix22 o20), d21, implies_true, Nat.reduceAdd, Nat.reduceMul, Nat.reduceEqDiff, Nat.reduceLeDiff, reduceIte, reduceCtorEq]
          replace h := kR4 _ h
          try dsimp only at h
          obtain rfl := kF _ h
          refine ret1 Tryz.results135 ?_ ?_
          · first | (simp only [outV, upd_apply, updH_apply, without_apply, showV_ref, cr, tyf, nrm, tynrm, d3, g5, d11, (ix22 o13), w12, e14, e15, e16, e17, e18, (ix22 o20), d21, implies_true, Nat.reduceAdd, Nat.reduceMul, Nat.reduceEqDiff, Nat.reduceLeDiff, reduceIte, reduceCtorEq]; done) | (simp only [outV, upd_apply, updH_apply, without_apply, showV_ref, cr, tyf, nrm, tynrm, d3, g5, d11, (ix22 o13), w12, e14, e15, e16, e17, e18, (ix22 o20), d21, implies_true, Nat.reduceAdd, Nat.reduceMul, Nat.reduceEqDiff, Nat.reduceLeDiff, reduceIte, reduceCtorEq]; rfl)
          · simp only [tre, tytre, Bool.and_self]
  · simp only [d3, cond_true, cond_false, lbind_go, lbind_ret, lbind_brk, lbind_none, Option.bind_some, Option.bind_none, Bool.not_true, Bool.not_false, reduceCtorEq] at h
    simp only [vs, cwp_label, ng_normal, ng_ret, ng_exit, cr, tyf, d3, implies_true, Nat.reduceAdd, Nat.reduceMul, Nat.reduceEqDiff, Nat.reduceLeDiff, reduceIte, reduceCtorEq]
    obtain rfl := kF _ h
    refine ret1 Tryz.results135 ?_ ?_
    · first | (simp only [outV, upd_apply, updH_apply, without_apply, showV_ref, cr, tyf, nrm, tynrm, d3, implies_true, Nat.reduceAdd, Nat.reduceMul, Nat.reduceEqDiff, Nat.reduceLeDiff, reduceIte, reduceCtorEq]; done) | (simp only [outV, upd_apply, updH_apply, without_apply, showV_ref, cr, tyf, nrm, tynrm, d3, implies_true, Nat.reduceAdd, Nat.reduceMul, Nat.reduceEqDiff, Nat.reduceLeDiff, reduceIte, reduceCtorEq]; rfl)
    · simp only [tre, tytre, Bool.and_self]

end Go.V
end
section
namespace Go.V
open Go Go.Proofs
set_option linter.unusedSimpArgs false
set_option linter.unusedVariables false
set_option maxRecDepth 4000
set_option maxHeartbeats 4000000
def g_letter_mistaken_l1 (e0 : List Int) : List (List Int) → Int → Option (LOut (Bool) (Unit))
  | [], c1_19 => some (.go ())
  | e1 :: p1, c1_19 => Option.bind (g_slices_Equal_int_int e0 e1) (fun r3 => cond (r3) (some (.ret true)) (g_letter_mistaken_l1 e0 p1 (c1_19 + 1)))
def g_letter_mistaken_l0 (x1_other : List Int) : List (List Int) → Int → Option (LOut (Bool) (Unit))
  | [], c0_12 => some (.go ())
  | e0 :: p0, c0_12 => Option.bind (g_letter_looks x1_other) (fun r2 => cond (lenOk r2) (lbind (g_letter_mistaken_l1 e0 r2 0) (fun r => some (.ret r)) (fun c4 => g_letter_mistaken_l0 x1_other p0 (c0_12 + 1)) (fun _ _ => none)) none)
def g_letter_mistaken (x0_one : List Int) (x1_other : List Int) : Option (Bool) := Option.bind (g_letter_looks x0_one) (fun r1 => cond (lenOk r1) (lbind (g_letter_mistaken_l0 x1_other r1 0) (fun r => some r) (fun c5 => some false) (fun _ _ => none)) none)
theorem g_letter_mistaken_ok (x0_one : List Int) (x1_other : List Int) (R : Bool) (h : g_letter_mistaken x0_one x1_other = some R) : VPure Tryz.prog G0 100 [.sl (cellsL eI x0_one) (List.length x0_one) false, .sl (cellsL eI x1_other) (List.length x1_other) false] (.tree (.lit (.bool R))) := by
  refine VPure.runT mixed Tryz.call100 Tryz.func100 rfl (by simp [Tryz.ntmps100]; kernel_rfl) ?_
  obtain ⟨KF, h, kF, kN⟩ := fun_intro h
  simp only [g_letter_mistaken] at h
  cases o7 : (g_letter_looks x0_one) with
  | none =>
    simp only [o7, cond_true, cond_false, lbind_go, lbind_ret, lbind_brk, lbind_none, Option.bind_some, Option.bind_none, Bool.not_true, Bool.not_false, reduceCtorEq] at h
    exact absurd h kN
  | some r6 =>
    simp only [o7, cond_true, cond_false, lbind_go, lbind_ret, lbind_brk, lbind_none, Option.bind_some, Option.bind_none, Bool.not_true, Bool.not_false, reduceCtorEq] at h
    simp only [vs, cwp_label, ng_normal, ng_ret, ng_exit, cr, tyf, implies_true, Nat.reduceAdd, Nat.reduceMul, Nat.reduceEqDiff, Nat.reduceLeDiff, reduceIte, reduceCtorEq]
    refine ktree (args0 := [.sl (cellsL eI x0_one) (List.length x0_one) false]) (by first | (simp only [nrm, tynrm]; done) | (simp only [nrm, tynrm]; rfl) | rfl) (by simp only [tre, tytre, Bool.and_self]) (g_letter_looks_ok _ _ o7) ?_
    refine fin_cut (fun tm => tm 1 = .sl (cellsL eI x1_other) (List.length x1_other) false ∧ tm 10 = .sl (cellsL (eSl eI) r6) (List.length r6) false ∧ True) (by refine ⟨?_, ?_, trivial⟩ <;> first | (simp only [upd_apply, updH_apply, without_apply, implies_true, Nat.reduceAdd, Nat.reduceMul, Nat.reduceEqDiff, Nat.reduceLeDiff, reduceIte, reduceCtorEq]; done) | (simp only [upd_apply, updH_apply, without_apply, implies_true, Nat.reduceAdd, Nat.reduceMul, Nat.reduceEqDiff, Nat.reduceLeDiff, reduceIte, reduceCtorEq]; rfl) | rfl) ?_
    rintro tm ⟨e8, e9, _⟩
    cases g11 : (lenOk r6)
    · simp only [g11, cond_true, cond_false, lbind_go, lbind_ret, lbind_brk, lbind_none, Option.bind_some, Option.bind_none, Bool.not_true, Bool.not_false, reduceCtorEq] at h
      exact absurd h kN
    simp only [g11, cond_true, cond_false, lbind_go, lbind_ret, lbind_brk, lbind_none, Option.bind_some, Option.bind_none, Bool.not_true, Bool.not_false, reduceCtorEq] at h
    simp only [vs, cwp_label, ng_normal, ng_ret, ng_exit, cr, tyf, e8, e9, g11, implies_true, Nat.reduceAdd, Nat.reduceMul, Nat.reduceEqDiff, Nat.reduceLeDiff, reduceIte, reduceCtorEq]
    obtain ⟨K10, h, kR10, kG10, kB10, kN10⟩ := lbind_intro h kN
    obtain ⟨f10, hf10, h⟩ := call2 h
    obtain ⟨I10, hI10⟩ : ∃ I : Nat → St → Prop, I = (fun m st => ∃ (p10 : List (List Int)) (c10_12 : Int), m = List.length p10 ∧ 0 ≤ c10_12 ∧ List.drop (Int.toNat c10_12) r6 = p10 ∧ st.df = [] ∧ st.tm 1 = .sl (cellsL eI x1_other) (List.length x1_other) false ∧ st.tm 10 = .sl (cellsL (eSl eI) r6) (List.length r6) false ∧ st.tm 11 = .lit (.int .i64 (List.length r6 : Int)) ∧ st.tm 12 = .lit (.int .i64 c10_12) ∧ K10 (f10 p10 c10_12)) := ⟨_, rfl⟩
    refine loopK mixed (by kernel_rfl) I10 (List.length r6) (by rw [hI10]; refine ⟨r6, 0, rfl, Int.le_refl _, rfl, rfl, e8, e9, ?_, ?_, h⟩ <;> first | (simp only [upd_apply, updH_apply, without_apply, e8, e9, implies_true, Nat.reduceAdd, Nat.reduceMul, Nat.reduceEqDiff, Nat.reduceLeDiff, reduceIte, reduceCtorEq]; done) | (simp only [upd_apply, updH_apply, without_apply, e8, e9, implies_true, Nat.reduceAdd, Nat.reduceMul, Nat.reduceEqDiff, Nat.reduceLeDiff, reduceIte, reduceCtorEq]; rfl) | rfl) ?_
    rintro m ⟨tm, H, nx, df⟩ hinv
    rw [hI10] at hinv
    obtain ⟨p10, c10_12, rfl, hi10, hp10, hdf, e12, e13, e14, e15, h⟩ := hinv
    simp only at hdf e12 e13 e14 e15
    subst hdf hf10
    cases p10 with
    | nil =>
      have d16 : (decide (c10_12 < (List.length r6 : Int))) = false := not_lt_of_drop hi10 hp10
      simp only [g_letter_mistaken_l0, cond_true, cond_false, lbind_go, lbind_ret, lbind_brk, lbind_none, Option.bind_some, Option.bind_none, Bool.not_true, Bool.not_false, reduceCtorEq] at h
      replace h := kG10 _ h
      try dsimp only at h
      try simp only [cond_true, cond_false, lbind_go, lbind_ret, lbind_brk, lbind_none, Option.bind_some, Option.bind_none, Bool.not_true, Bool.not_false] at h
      simp only [vs, cwp_label, ng_normal, ng_ret, ng_exit, cr, tyf, g11, e12, e13, e14, e15, d16, implies_true, Nat.reduceAdd, Nat.reduceMul, Nat.reduceEqDiff, Nat.reduceLeDiff, reduceIte, reduceCtorEq]
      obtain rfl := kF _ h
      refine ret1 Tryz.results100 ?_ ?_
      · first | (simp only [outV, upd_apply, updH_apply, without_apply, showV_ref, cr, tyf, nrm, tynrm, g11, e12, e13, e14, e15, d16, implies_true, Nat.reduceAdd, Nat.reduceMul, Nat.reduceEqDiff, Nat.reduceLeDiff, reduceIte, reduceCtorEq]; done) | (simp only [outV, upd_apply, updH_apply, without_apply, showV_ref, cr, tyf, nrm, tynrm, g11, e12, e13, e14, e15, d16, implies_true, Nat.reduceAdd, Nat.reduceMul, Nat.reduceEqDiff, Nat.reduceLeDiff, reduceIte, reduceCtorEq]; rfl)
      · simp only [tre, tytre, Bool.and_self]
    | cons e10 p10 =>
      have d17 : (decide (c10_12 < (List.length r6 : Int))) = true := lt_of_drop hi10 hp10
      have o19 := getI_of_drop hi10 hp10
      have w18 := wrap_next hi10 hp10 g11
      simp only [g_letter_mistaken_l0, cond_true, cond_false, lbind_go, lbind_ret, lbind_brk, lbind_none, Option.bind_some, Option.bind_none, Bool.not_true, Bool.not_false, reduceCtorEq] at h
      cases o21 : (g_letter_looks x1_other) with
      | none =>
        simp only [o21, cond_true, cond_false, lbind_go, lbind_ret, lbind_brk, lbind_none, Option.bind_some, Option.bind_none, Bool.not_true, Bool.not_false, reduceCtorEq] at h
        exact absurd h kN10
      | some r20 =>
        simp only [o21, cond_true, cond_false, lbind_go, lbind_ret, lbind_brk, lbind_none, Option.bind_some, Option.bind_none, Bool.not_true, Bool.not_false, reduceCtorEq] at h
        simp only [vs, cwp_label, ng_normal, ng_ret, ng_exit, cr, tyf, g11, e12, e13, e14, e15, d17, (ix44 o19), w18, implies_true, Nat.reduceAdd, Nat.reduceMul, Nat.reduceEqDiff, Nat.reduceLeDiff, reduceIte, reduceCtorEq]
        refine ktree (args0 := [.sl (cellsL eI x1_other) (List.length x1_other) false]) (by first | (simp only [nrm, tynrm]; done) | (simp only [nrm, tynrm]; rfl) | rfl) (by simp only [tre, tytre, Bool.and_self]) (g_letter_looks_ok _ _ o21) ?_
        refine fin_cut (fun tm => tm 1 = .sl (cellsL eI x1_other) (List.length x1_other) false ∧ tm 6 = .sl (cellsL eI e10) (List.length e10) false ∧ tm 10 = .sl (cellsL (eSl eI) r6) (List.length r6) false ∧ tm 11 = .lit (.int .i64 (List.length r6 : Int)) ∧ tm 12 = .lit (.int .i64 c10_12) ∧ tm 17 = .sl (cellsL (eSl eI) r20) (List.length r20) false ∧ True) (by refine ⟨e12, ?_, e13, e14, e15, ?_, trivial⟩ <;> first | (simp only [upd_apply, updH_apply, without_apply, e12, e13, e14, e15, d17, w18, implies_true, Nat.reduceAdd, Nat.reduceMul, Nat.reduceEqDiff, Nat.reduceLeDiff, reduceIte, reduceCtorEq]; done) | (simp only [upd_apply, updH_apply, without_apply, e12, e13, e14, e15, d17, w18, implies_true, Nat.reduceAdd, Nat.reduceMul, Nat.reduceEqDiff, Nat.reduceLeDiff, reduceIte, reduceCtorEq]; rfl) | rfl) ?_
        rintro tm ⟨e22, e23, e24, e25, e26, e27, _⟩
        cases g29 : (lenOk r20)
        · simp only [g29, cond_true, cond_false, lbind_go, lbind_ret, lbind_brk, lbind_none, Option.bind_some, Option.bind_none, Bool.not_true, Bool.not_false, reduceCtorEq] at h
          exact absurd h kN10
        simp only [g29, cond_true, cond_false, lbind_go, lbind_ret, lbind_brk, lbind_none, Option.bind_some, Option.bind_none, Bool.not_true, Bool.not_false, reduceCtorEq] at h
        simp only [vs, cwp_label, ng_normal, ng_ret, ng_exit, cr, tyf, g11, d17, (ix44 o19), w18, e22, e23, e24, e25, e26, e27, g29, implies_true, Nat.reduceAdd, Nat.reduceMul, Nat.reduceEqDiff, Nat.reduceLeDiff, reduceIte, reduceCtorEq]
        obtain ⟨K28, h, kR28, kG28, kB28, kN28⟩ := lbind_intro h kN10
        obtain ⟨f28, hf28, h⟩ := call2 h
        obtain ⟨I28, hI28⟩ : ∃ I : Nat → St → Prop, I = (fun m st => ∃ (p28 : List (List Int)) (c28_19 : Int), m = List.length p28 ∧ 0 ≤ c28_19 ∧ List.drop (Int.toNat c28_19) r20 = p28 ∧ st.df = [] ∧ st.tm 1 = .sl (cellsL eI x1_other) (List.length x1_other) false ∧ st.tm 6 = .sl (cellsL eI e10) (List.length e10) false ∧ st.tm 10 = .sl (cellsL (eSl eI) r6) (List.length r6) false ∧ st.tm 11 = .lit (.int .i64 (List.length r6 : Int)) ∧ st.tm 12 = .lit (.int .i64 c10_12) ∧ st.tm 17 = .sl (cellsL (eSl eI) r20) (List.length r20) false ∧ st.tm 18 = .lit (.int .i64 (List.length r20 : Int)) ∧ st.tm 19 = .lit (.int .i64 c28_19) ∧ K28 (f28 p28 c28_19)) := ⟨_, rfl⟩
        refine loopK mixed (by kernel_rfl) I28 (List.length r20) (by rw [hI28]; refine ⟨r20, 0, rfl, Int.le_refl _, rfl, rfl, e22, e23, e24, e25, e26, e27, ?_, ?_, h⟩ <;> first | (simp only [upd_apply, updH_apply, without_apply, d17, w18, e22, e23, e24, e25, e26, e27, implies_true, Nat.reduceAdd, Nat.reduceMul, Nat.reduceEqDiff, Nat.reduceLeDiff, reduceIte, reduceCtorEq]; done) | (simp only [upd_apply, updH_apply, without_apply, d17, w18, e22, e23, e24, e25, e26, e27, implies_true, Nat.reduceAdd, Nat.reduceMul, Nat.reduceEqDiff, Nat.reduceLeDiff, reduceIte, reduceCtorEq]; rfl) | rfl) ?_
        rintro m ⟨tm, H, nx, df⟩ hinv
        rw [hI28] at hinv
        obtain ⟨p28, c28_19, rfl, hi28, hp28, hdf, e30, e31, e32, e33, e34, e35, e36, e37, h⟩ := hinv
        simp only at hdf e30 e31 e32 e33 e34 e35 e36 e37
        subst hdf hf28
        cases p28 with
        | nil =>
          have d38 : (decide (c28_19 < (List.length r20 : Int))) = false := not_lt_of_drop hi28 hp28
          simp only [g_letter_mistaken_l1, cond_true, cond_false, lbind_go, lbind_ret, lbind_brk, lbind_none, Option.bind_some, Option.bind_none, Bool.not_true, Bool.not_false, reduceCtorEq] at h
          replace h := kG28 _ h
          try dsimp only at h
          try simp only [cond_true, cond_false, lbind_go, lbind_ret, lbind_brk, lbind_none, Option.bind_some, Option.bind_none, Bool.not_true, Bool.not_false] at h
          simp only [vs, cwp_label, ng_normal, ng_ret, ng_exit, cr, tyf, g11, d17, (ix44 o19), w18, g29, e30, e31, e32, e33, e34, e35, e36, e37, d38, implies_true, Nat.reduceAdd, Nat.reduceMul, Nat.reduceEqDiff, Nat.reduceLeDiff, reduceIte, reduceCtorEq]
          exact ⟨List.length p10, Nat.lt_succ_self _, by rw [hI10]; refine ⟨p10, c10_12 + 1, rfl, Int.le_trans hi10 (Int.le_add_one (Int.le_refl _)), drop_next hi10 hp10, rfl, e30, e32, e33, ?_, h⟩ <;> first | (simp only [upd_apply, updH_apply, without_apply, d17, w18, e30, e31, e32, e33, e34, e35, e36, e37, d38, implies_true, Nat.reduceAdd, Nat.reduceMul, Nat.reduceEqDiff, Nat.reduceLeDiff, reduceIte, reduceCtorEq]; done) | (simp only [upd_apply, updH_apply, without_apply, d17, w18, e30, e31, e32, e33, e34, e35, e36, e37, d38, implies_true, Nat.reduceAdd, Nat.reduceMul, Nat.reduceEqDiff, Nat.reduceLeDiff, reduceIte, reduceCtorEq]; rfl) | rfl⟩
        | cons e28 p28 =>
          have d39 : (decide (c28_19 < (List.length r20 : Int))) = true := lt_of_drop hi28 hp28
          have o41 := getI_of_drop hi28 hp28
          have w40 := wrap_next hi28 hp28 g29
          simp only [g_letter_mistaken_l1, cond_true, cond_false, lbind_go, lbind_ret, lbind_brk, lbind_none, Option.bind_some, Option.bind_none, Bool.not_true, Bool.not_false, reduceCtorEq] at h
          cases o43 : (g_slices_Equal_int_int e10 e28) with
          | none =>
            simp only [o43, cond_true, cond_false, lbind_go, lbind_ret, lbind_brk, lbind_none, Option.bind_some, Option.bind_none, Bool.not_true, Bool.not_false, reduceCtorEq] at h
            exact absurd h kN28
          | some r42 =>
            simp only [o43, cond_true, cond_false, lbind_go, lbind_ret, lbind_brk, lbind_none, Option.bind_some, Option.bind_none, Bool.not_true, Bool.not_false, reduceCtorEq] at h
            simp only [vs, cwp_label, ng_normal, ng_ret, ng_exit, cr, tyf, g11, d17, (ix44 o19), w18, g29, e30, e31, e32, e33, e34, e35, e36, e37, d39, (ix44 o41), w40, implies_true, Nat.reduceAdd, Nat.reduceMul, Nat.reduceEqDiff, Nat.reduceLeDiff, reduceIte, reduceCtorEq]
            refine ktree (args0 := [.sl (cellsL eI e10) (List.length e10) false, .sl (cellsL eI e28) (List.length e28) false]) (by first | (simp only [nrm, tynrm]; done) | (simp only [nrm, tynrm]; rfl) | rfl) (by simp only [tre, tytre, Bool.and_self]) (g_slices_Equal_int_int_ok _ _ _ o43) ?_
            refine fin_cut (fun tm => tm 1 = .sl (cellsL eI x1_other) (List.length x1_other) false ∧ tm 6 = .sl (cellsL eI e10) (List.length e10) false ∧ tm 10 = .sl (cellsL (eSl eI) r6) (List.length r6) false ∧ tm 11 = .lit (.int .i64 (List.length r6 : Int)) ∧ tm 12 = .lit (.int .i64 c10_12) ∧ tm 17 = .sl (cellsL (eSl eI) r20) (List.length r20) false ∧ tm 18 = .lit (.int .i64 (List.length r20 : Int)) ∧ tm 19 = .lit (.int .i64 c28_19) ∧ tm 25 = .lit (.bool r42) ∧ True) (by refine ⟨e30, e31, e32, e33, e34, e35, e36, e37, ?_, trivial⟩ <;> first | (simp only [upd_apply, updH_apply, without_apply, d17, w18, e30, e31, e32, e33, e34, e35, e36, e37, d39, w40, implies_true, Nat.reduceAdd, Nat.reduceMul, Nat.reduceEqDiff, Nat.reduceLeDiff, reduceIte, reduceCtorEq]; done) | (simp only [upd_apply, updH_apply, without_apply, d17, w18, e30, e31, e32, e33, e34, e35, e36, e37, d39, w40, implies_true, Nat.reduceAdd, Nat.reduceMul, Nat.reduceEqDiff, Nat.reduceLeDiff, reduceIte, reduceCtorEq]; rfl) | rfl) ?_
            rintro tm ⟨e44, e45, e46, e47, e48, e49, e50, e51, e52, _⟩
            cases d53 : (r42)
            · simp only [d53, cond_true, cond_false, lbind_go, lbind_ret, lbind_brk, lbind_none, Option.bind_some, Option.bind_none, Bool.not_true, Bool.not_false, reduceCtorEq] at h
              simp only [vs, cwp_label, ng_normal, ng_ret, ng_exit, cr, tyf, g11, d17, (ix44 o19), w18, g29, d39, (ix44 o41), w40, e44, e45, e46, e47, e48, e49, e50, e51, e52, d53, implies_true, Nat.reduceAdd, Nat.reduceMul, Nat.reduceEqDiff, Nat.reduceLeDiff, reduceIte, reduceCtorEq]
              exact ⟨List.length p28, Nat.lt_succ_self _, by rw [hI28]; refine ⟨p28, c28_19 + 1, rfl, Int.le_trans hi28 (Int.le_add_one (Int.le_refl _)), drop_next hi28 hp28, rfl, e44, e45, e46, e47, e48, e49, e50, ?_, h⟩ <;> first | (simp only [upd_apply, updH_apply, without_apply, d17, w18, d39, w40, e44, e45, e46, e47, e48, e49, e50, e51, e52, d53, implies_true, Nat.reduceAdd, Nat.reduceMul, Nat.reduceEqDiff, Nat.reduceLeDiff, reduceIte, reduceCtorEq]; done) | (simp only [upd_apply, updH_apply, without_apply, d17, w18, d39, w40, e44, e45, e46, e47, e48, e49, e50, e51, e52, d53, implies_true, Nat.reduceAdd, Nat.reduceMul, Nat.reduceEqDiff, Nat.reduceLeDiff, reduceIte, reduceCtorEq]; rfl) | rfl⟩
            · simp only [d53, cond_true, cond_false, lbind_go, lbind_ret, lbind_brk, lbind_none, Option.bind_some, Option.bind_none, Bool.not_true, Bool.not_false, reduceCtorEq] at h
              simp only [vs, cwp_label, ng_normal, ng_ret, ng_exit, cr, tyf, g11, d17, (ix44 o19), w18, g29, d39, (ix44 o41), w40, e44, e45, e46, e47, e48, e49, e50, e51, e52, d53, implies_true, Nat.reduceAdd, Nat.reduceMul, Nat.reduceEqDiff, Nat.reduceLeDiff, reduceIte, reduceCtorEq]
              replace h := kR28 _ h
              try dsimp only at h
              replace h := kR10 _ h
              try dsimp only at h
              obtain rfl := kF _ h
              refine ret1 Tryz.results100 ?_ ?_
              · first | (simp only [outV, upd_apply, updH_apply, without_apply, showV_ref, cr, tyf, nrm, tynrm, g11, d17, (ix44 o19), w18, g29, d39, (ix44 o41), w40, e44, e45, e46, e47, e48, e49, e50, e51, e52, d53, implies_true, Nat.reduceAdd, Nat.reduceMul, Nat.reduceEqDiff, Nat.reduceLeDiff, reduceIte, reduceCtorEq]; done) | (simp only [outV, upd_apply, updH_apply, without_apply, showV_ref, cr, tyf, nrm, tynrm, g11, d17, (ix44 o19), w18, g29, d39, (ix44 o41), w40, e44, e45, e46, e47, e48, e49, e50, e51, e52, d53, implies_true, Nat.reduceAdd, Nat.reduceMul, Nat.reduceEqDiff, Nat.reduceLeDiff, reduceIte, reduceCtorEq]; rfl)
              · simp only [tre, tytre, Bool.and_self]

end Go.V
end
section
namespace Go.V
open Go Go.Proofs
set_option linter.unusedSimpArgs false
set_option linter.unusedVariables false
set_option maxRecDepth 4000
set_option maxHeartbeats 4000000
def g_ref01_Same_l0 (x1_b : List Int) : List Int → Int → Option (LOut (Bool) (Unit))
  | [], c0_5 => some (.go ())
  | e0 :: p0, c0_5 => Option.bind (getI x1_b c0_5) (fun x1 => cond (e0 != x1) (some (.ret false)) (g_ref01_Same_l0 x1_b p0 (c0_5 + 1)))
def g_ref01_Same (x0_a : List Int) (x1_b : List Int) : Option (Bool) := cond ((List.length x0_a : Int) != (List.length x1_b : Int)) (some false) (cond (lenOk x0_a) (lbind (g_ref01_Same_l0 x1_b x0_a 0) (fun r => some r) (fun c2 => some true) (fun _ _ => none)) none)
theorem g_ref01_Same_ok (x0_a : List Int) (x1_b : List Int) (R : Bool) (h : g_ref01_Same x0_a x1_b = some R) : VPure Tryz.prog G0 23 [.sl (cellsL eI x0_a) (List.length x0_a) false, .sl (cellsL eI x1_b) (List.length x1_b) false] (.tree (.lit (.bool R))) := by
  refine VPure.runT mixed Tryz.call23 Tryz.func23 rfl (by simp [Tryz.ntmps23]; kernel_rfl) ?_
  obtain ⟨KF, h, kF, kN⟩ := fun_intro h
  simp only [g_ref01_Same] at h
  cases d3 : ((List.length x0_a : Int) != (List.length x1_b : Int))
  · simp only [d3, cond_true, cond_false, lbind_go, lbind_ret, lbind_brk, lbind_none, Option.bind_some, Option.bind_none, Bool.not_true, Bool.not_false, reduceCtorEq] at h
    cases g5 : (lenOk x0_a)
    · simp only [g5, cond_true, cond_false, lbind_go, lbind_ret, lbind_brk, lbind_none, Option.bind_some, Option.bind_none, Bool.not_true, Bool.not_false, reduceCtorEq] at h
      exact absurd h kN
    simp only [g5, cond_true, cond_false, lbind_go, lbind_ret, lbind_brk, lbind_none, Option.bind_some, Option.bind_none, Bool.not_true, Bool.not_false, reduceCtorEq] at h
    simp only [vs, cwp_label, ng_normal, ng_ret, ng_exit, cr, tyf, d3, g5, implies_true, Nat.reduceAdd, Nat.reduceMul, Nat.reduceEqDiff, Nat.reduceLeDiff, reduceIte, reduceCtorEq]
    obtain ⟨K4, h, kR4, kG4, kB4, kN4⟩ := lbind_intro h kN
    obtain ⟨f4, hf4, h⟩ := call2 h
    obtain ⟨I4, hI4⟩ : ∃ I : Nat → St → Prop, I = (fun m st => ∃ (p4 : List Int) (c4_5 : Int), m = List.length p4 ∧ 0 ≤ c4_5 ∧ List.drop (Int.toNat c4_5) x0_a = p4 ∧ st.df = [] ∧ st.tm 0 = .sl (cellsL eI x0_a) (List.length x0_a) false ∧ st.tm 1 = .sl (cellsL eI x1_b) (List.length x1_b) false ∧ st.tm 5 = .lit (.int .i64 c4_5) ∧ K4 (f4 p4 c4_5)) := ⟨_, rfl⟩
    refine loopK mixed (by kernel_rfl) I4 (List.length x0_a) (by rw [hI4]; refine ⟨x0_a, 0, rfl, Int.le_refl _, rfl, rfl, ?_, ?_, ?_, h⟩ <;> first | (simp only [upd_apply, updH_apply, without_apply, d3, implies_true, Nat.reduceAdd, Nat.reduceMul, Nat.reduceEqDiff, Nat.reduceLeDiff, reduceIte, reduceCtorEq]; done) | (simp only [upd_apply, updH_apply, without_apply, d3, implies_true, Nat.reduceAdd, Nat.reduceMul, Nat.reduceEqDiff, Nat.reduceLeDiff, reduceIte, reduceCtorEq]; rfl) | rfl) ?_
    rintro m ⟨tm, H, nx, df⟩ hinv
    rw [hI4] at hinv
    obtain ⟨p4, c4_5, rfl, hi4, hp4, hdf, e6, e7, e8, h⟩ := hinv
    simp only at hdf e6 e7 e8
    subst hdf hf4
    cases p4 with
    | nil =>
      have d9 : (decide (c4_5 < (List.length x0_a : Int))) = false := not_lt_of_drop hi4 hp4
      simp only [g_ref01_Same_l0, cond_true, cond_false, lbind_go, lbind_ret, lbind_brk, lbind_none, Option.bind_some, Option.bind_none, Bool.not_true, Bool.not_false, reduceCtorEq] at h
      replace h := kG4 _ h
      try dsimp only at h
      try simp only [cond_true, cond_false, lbind_go, lbind_ret, lbind_brk, lbind_none, Option.bind_some, Option.bind_none, Bool.not_true, Bool.not_false] at h
      simp only [vs, cwp_label, ng_normal, ng_ret, ng_exit, cr, tyf, d3, g5, e6, e7, e8, d9, implies_true, Nat.reduceAdd, Nat.reduceMul, Nat.reduceEqDiff, Nat.reduceLeDiff, reduceIte, reduceCtorEq]
      obtain rfl := kF _ h
      refine ret1 Tryz.results23 ?_ ?_
      · first | (simp only [outV, upd_apply, updH_apply, without_apply, showV_ref, cr, tyf, nrm, tynrm, d3, g5, e6, e7, e8, d9, implies_true, Nat.reduceAdd, Nat.reduceMul, Nat.reduceEqDiff, Nat.reduceLeDiff, reduceIte, reduceCtorEq]; done) | (simp only [outV, upd_apply, updH_apply, without_apply, showV_ref, cr, tyf, nrm, tynrm, d3, g5, e6, e7, e8, d9, implies_true, Nat.reduceAdd, Nat.reduceMul, Nat.reduceEqDiff, Nat.reduceLeDiff, reduceIte, reduceCtorEq]; rfl)
      · simp only [tre, tytre, Bool.and_self]
    | cons e4 p4 =>
      have d10 : (decide (c4_5 < (List.length x0_a : Int))) = true := lt_of_drop hi4 hp4
      have o12 := getI_of_drop hi4 hp4
      have w11 := wrap_next hi4 hp4 g5
      simp only [g_ref01_Same_l0, cond_true, cond_false, lbind_go, lbind_ret, lbind_brk, lbind_none, Option.bind_some, Option.bind_none, Bool.not_true, Bool.not_false, reduceCtorEq] at h
      simp only [vs, cwp_label, ng_normal, ng_ret, ng_exit, cr, tyf, d3, g5, e6, e7, e8, d10, (ix22 o12), w11, implies_true, Nat.reduceAdd, Nat.reduceMul, Nat.reduceEqDiff, Nat.reduceLeDiff, reduceIte, reduceCtorEq]
      refine cwp_drwQF (fun tm => tm 0 = .sl (cellsL eI x0_a) (List.length x0_a) false ∧ tm 1 = .sl (cellsL eI x1_b) (List.length x1_b) false ∧ tm 5 = .lit (.int .i64 c4_5) ∧ True) (by refine ⟨e6, e7, e8, trivial⟩ <;> first | (simp only [upd_apply, updH_apply, without_apply, d3, e6, e7, e8, d10, w11, implies_true, Nat.reduceAdd, Nat.reduceMul, Nat.reduceEqDiff, Nat.reduceLeDiff, reduceIte, reduceCtorEq]; done) | (simp only [upd_apply, updH_apply, without_apply, d3, e6, e7, e8, d10, w11, implies_true, Nat.reduceAdd, Nat.reduceMul, Nat.reduceEqDiff, Nat.reduceLeDiff, reduceIte, reduceCtorEq]; rfl) | rfl) ?_
      rintro tm ⟨e13, e14, e15, _⟩
      cases o17 : (getI x1_b c4_5) with
      | none =>
        simp only [o17, cond_true, cond_false, lbind_go, lbind_ret, lbind_brk, lbind_none, Option.bind_some, Option.bind_none, Bool.not_true, Bool.not_false, reduceCtorEq] at h
        exact absurd h kN4
      | some x16 =>
        simp only [o17, cond_true, cond_false, lbind_go, lbind_ret, lbind_brk, lbind_none, Option.bind_some, Option.bind_none, Bool.not_true, Bool.not_false, reduceCtorEq] at h
        cases d18 : (e4 != x16)
        · simp only [d18, cond_true, cond_false, lbind_go, lbind_ret, lbind_brk, lbind_none, Option.bind_some, Option.bind_none, Bool.not_true, Bool.not_false, reduceCtorEq] at h
          simp only [vs, cwp_label, ng_normal, ng_ret, ng_exit, cr, tyf, d3, g5, d10, (ix22 o12), w11, e13, e14, e15, (ix22 o17), d18, implies_true, Nat.reduceAdd, Nat.reduceMul, Nat.reduceEqDiff, Nat.reduceLeDiff, reduceIte, reduceCtorEq]
          exact ⟨List.length p4, Nat.lt_succ_self _, by rw [hI4]; refine ⟨p4, c4_5 + 1, rfl, Int.le_trans hi4 (Int.le_add_one (Int.le_refl _)), drop_next hi4 hp4, rfl, e13, e14, ?_, h⟩ <;> first | (simp only [upd_apply, updH_apply, without_apply, d3, d10, w11, e13, e14, e15, d18, implies_true, Nat.reduceAdd, Nat.reduceMul, Nat.reduceEqDiff, Nat.reduceLeDiff, reduceIte, reduceCtorEq]; done) | (simp only [upd_apply, updH_apply, without_apply, d3, d10, w11, e13, e14, e15, d18, implies_true, Nat.reduceAdd, Nat.reduceMul, Nat.reduceEqDiff, Nat.reduceLeDiff, reduceIte, reduceCtorEq]; rfl) | rfl⟩
        · simp only [d18, cond_true, cond_false, lbind_go, lbind_ret, lbind_brk, lbind_none, Option.bind_some, Option.bind_none, Bool.not_true, Bool.not_false, reduceCtorEq] at h
          simp only [vs, cwp_label, ng_normal, ng_ret, ng_exit, cr, tyf, d3, g5, d10, (ix22 o12), w11, e13, e14, e15, (ix22 o17), d18, implies_true, Nat.reduceAdd, Nat.reduceMul, Nat.reduceEqDiff, Nat.reduceLeDiff, reduceIte, reduceCtorEq]
          replace h := kR4 _ h
          try dsimp only at h
          obtain rfl := kF _ h
          refine ret1 Tryz.results23 ?_ ?_
          · first | (simp only [outV, upd_apply, updH_apply, without_apply, showV_ref, cr, tyf, nrm, tynrm, d3, g5, d10, (ix22 o12), w11, e13, e14, e15, (ix22 o17), d18, implies_true, Nat.reduceAdd, Nat.reduceMul, Nat.reduceEqDiff, Nat.reduceLeDiff, reduceIte, reduceCtorEq]; done) | (simp only [outV, upd_apply, updH_apply, without_apply, showV_ref, cr, tyf, nrm, tynrm, d3, g5, d10, (ix22 o12), w11, e13, e14, e15, (ix22 o17), d18, implies_true, Nat.reduceAdd, Nat.reduceMul, Nat.reduceEqDiff, Nat.reduceLeDiff, reduceIte, reduceCtorEq]; rfl)
          · simp only [tre, tytre, Bool.and_self]
  · simp only [d3, cond_true, cond_false, lbind_go, lbind_ret, lbind_brk, lbind_none, Option.bind_some, Option.bind_none, Bool.not_true, Bool.not_false, reduceCtorEq] at h
    simp only [vs, cwp_label, ng_normal, ng_ret, ng_exit, cr, tyf, d3, implies_true, Nat.reduceAdd, Nat.reduceMul, Nat.reduceEqDiff, Nat.reduceLeDiff, reduceIte, reduceCtorEq]
    obtain rfl := kF _ h
    refine ret1 Tryz.results23 ?_ ?_
    · first | (simp only [outV, upd_apply, updH_apply, without_apply, showV_ref, cr, tyf, nrm, tynrm, d3, implies_true, Nat.reduceAdd, Nat.reduceMul, Nat.reduceEqDiff, Nat.reduceLeDiff, reduceIte, reduceCtorEq]; done) | (simp only [outV, upd_apply, updH_apply, without_apply, showV_ref, cr, tyf, nrm, tynrm, d3, implies_true, Nat.reduceAdd, Nat.reduceMul, Nat.reduceEqDiff, Nat.reduceLeDiff, reduceIte, reduceCtorEq]; rfl)
    · simp only [tre, tytre, Bool.and_self]

end Go.V
end
section
namespace Go.V
open Go Go.Proofs
set_option linter.unusedSimpArgs false
set_option linter.unusedVariables false
set_option maxRecDepth 4000
set_option maxHeartbeats 4000000
def g_ref01_Fallen_l0 (x1_letter : Int) : List Int → Int → (List Int) → Option (LOut (List Int) ((List Int)))
  | [], c0_6, c0_5 => some (.go c0_5)
  | e0 :: p0, c0_6, c0_5 => cond (c0_6 != x1_letter) (cond (roomOk 8 (List.length (c0_5 ++ [e0]))) (g_ref01_Fallen_l0 x1_letter p0 (c0_6 + 1) (c0_5 ++ [e0])) none) (g_ref01_Fallen_l0 x1_letter p0 (c0_6 + 1) c0_5)
def g_ref01_Fallen (x0_w : GLetterWord) (x1_letter : Int) : Option (List Int) := cond (lenOk x0_w.Signs) (lbind (g_ref01_Fallen_l0 x1_letter x0_w.Signs 0 ([])) (fun r => some r) (fun c5 => some c5) (fun _ _ => none)) none
theorem g_ref01_Fallen_ok (x0_w : GLetterWord) (x1_letter : Int) (R : List Int) (h : g_ref01_Fallen x0_w x1_letter = some R) : VPure Tryz.prog G0 52 [.agg (cGLetterWord x0_w), .lit (.int .i64 x1_letter)] (.tree (.sl (cellsL eI R) (List.length R) false)) := by
  refine VPure.runT mixed Tryz.call52 Tryz.func52 rfl (by simp [Tryz.ntmps52]; kernel_rfl) ?_
  obtain ⟨KF, h, kF, kN⟩ := fun_intro h
  simp only [g_ref01_Fallen] at h
  cases g9 : (lenOk x0_w.Signs)
  · simp only [g9, cond_true, cond_false, lbind_go, lbind_ret, lbind_brk, lbind_none, Option.bind_some, Option.bind_none, Bool.not_true, Bool.not_false, reduceCtorEq] at h
    exact absurd h kN
  simp only [g9, cond_true, cond_false, lbind_go, lbind_ret, lbind_brk, lbind_none, Option.bind_some, Option.bind_none, Bool.not_true, Bool.not_false, reduceCtorEq] at h
  simp only [vs, cwp_label, ng_normal, ng_ret, ng_exit, cr, tyf, g9, implies_true, Nat.reduceAdd, Nat.reduceMul, Nat.reduceEqDiff, Nat.reduceLeDiff, reduceIte, reduceCtorEq]
  obtain ⟨K7, h, kR7, kG7, kB7, kN7⟩ := lbind_intro h kN
  obtain ⟨f7, hf7, h⟩ := call3 h
  obtain ⟨I7, hI7⟩ : ∃ I : Nat → St → Prop, I = (fun m st => ∃ (p7 : List Int) (c7_6 : Int) (c7_5 : List Int), m = List.length p7 ∧ 0 ≤ c7_6 ∧ List.drop (Int.toNat c7_6) x0_w.Signs = p7 ∧ st.df = [] ∧ 1 ≤ st.nx ∧ st.H 0 = some (.cells (some 79) (cGLetterWord x0_w)) ∧ st.tm 1 = .lit (.int .i64 x1_letter) ∧ st.tm 2 = .ptr 0 0 ∧ st.tm 6 = .lit (.int .i64 c7_6) ∧ ((∃ (β : Nat) (el : Option TypeId), st.tm 5 = .ref β 0 (List.length c7_5) 1 (List.length c7_5) ∧ 1 ≤ β ∧ β < st.nx ∧ st.H β = some (.cells el (cellsL eI c7_5))) ∨ (st.tm 5 = .lit (.slice none 0 0) ∧ c7_5 = [])) ∧ K7 (f7 p7 c7_6 c7_5)) := ⟨_, rfl⟩
  refine loopK mixed (by kernel_rfl) I7 (List.length x0_w.Signs) (by rw [hI7]; refine ⟨x0_w.Signs, 0, [], rfl, Int.le_refl _, rfl, rfl, (show 1 ≤ 4 by decide), ?_, ?_, ?_, ?_, (Or.inr ⟨?_, rfl⟩), h⟩ <;> first | (simp only [upd_apply, updH_apply, without_apply, implies_true, Nat.reduceAdd, Nat.reduceMul, Nat.reduceEqDiff, Nat.reduceLeDiff, reduceIte, reduceCtorEq]; done) | (simp only [upd_apply, updH_apply, without_apply, implies_true, Nat.reduceAdd, Nat.reduceMul, Nat.reduceEqDiff, Nat.reduceLeDiff, reduceIte, reduceCtorEq]; rfl) | rfl) ?_
  rintro m ⟨tm, H, nx, df⟩ hinv
  rw [hI7] at hinv
  obtain ⟨p7, c7_6, c7_5, rfl, hi7, hp7, hdf, hn7, H13, e10, e11, e12, ow7, h⟩ := hinv
  simp only at hdf hn7 H13 e10 e11 e12
  have q14 := fresh_ne (n := 0) (B := 1) (by decide) hn7
  subst hdf hf7
  rcases ow7 with ⟨b7, el7, e15, hB7, hlt7, H16⟩ | ⟨e15, rfl⟩
  · simp only at e15 hlt7 H16
    have q17 := own_ne hB7 hlt7
    have q18 := q17.2 0 (by decide)
    cases p7 with
    | nil =>
      have d19 : (decide (c7_6 < (List.length x0_w.Signs : Int))) = false := not_lt_of_drop hi7 hp7
      simp only [g_ref01_Fallen_l0, cond_true, cond_false, lbind_go, lbind_ret, lbind_brk, lbind_none, Option.bind_some, Option.bind_none, Bool.not_true, Bool.not_false, reduceCtorEq] at h
      replace h := kG7 _ h
      try dsimp only at h
      try simp only [cond_true, cond_false, lbind_go, lbind_ret, lbind_brk, lbind_none, Option.bind_some, Option.bind_none, Bool.not_true, Bool.not_false] at h
      simp only [vs, cwp_label, ng_normal, ng_ret, ng_exit, cr, tyf, g9, e10, e11, e12, H13, q14, e15, H16, q17.1, q18, d19, implies_true, Nat.reduceAdd, Nat.reduceMul, Nat.reduceEqDiff, Nat.reduceLeDiff, reduceIte, reduceCtorEq]
      obtain rfl := kF _ h
      refine ret1 Tryz.results52 ?_ ?_
      · first | (simp only [outV, upd_apply, updH_apply, without_apply, showV_ref, cr, tyf, nrm, tynrm, g9, e10, e11, e12, H13, q14, e15, H16, q17.1, q18, d19, implies_true, Nat.reduceAdd, Nat.reduceMul, Nat.reduceEqDiff, Nat.reduceLeDiff, reduceIte, reduceCtorEq]; done) | (simp only [outV, upd_apply, updH_apply, without_apply, showV_ref, cr, tyf, nrm, tynrm, g9, e10, e11, e12, H13, q14, e15, H16, q17.1, q18, d19, implies_true, Nat.reduceAdd, Nat.reduceMul, Nat.reduceEqDiff, Nat.reduceLeDiff, reduceIte, reduceCtorEq]; rfl)
      · simp only [tre, tytre, Bool.and_self]
    | cons e7 p7 =>
      have d20 : (decide (c7_6 < (List.length x0_w.Signs : Int))) = true := lt_of_drop hi7 hp7
      have o22 := getI_of_drop hi7 hp7
      have w21 := wrap_next hi7 hp7 g9
      simp only [g_ref01_Fallen_l0, cond_true, cond_false, lbind_go, lbind_ret, lbind_brk, lbind_none, Option.bind_some, Option.bind_none, Bool.not_true, Bool.not_false, reduceCtorEq] at h
      cases d23 : (c7_6 != x1_letter)
      · simp only [d23, cond_true, cond_false, lbind_go, lbind_ret, lbind_brk, lbind_none, Option.bind_some, Option.bind_none, Bool.not_true, Bool.not_false, reduceCtorEq] at h
        simp only [vs, cwp_label, ng_normal, ng_ret, ng_exit, cr, tyf, g9, e10, e11, e12, H13, q14, e15, H16, q17.1, q18, d20, (ix22 o22), w21, d23, implies_true, Nat.reduceAdd, Nat.reduceMul, Nat.reduceEqDiff, Nat.reduceLeDiff, reduceIte, reduceCtorEq]
        exact ⟨List.length p7, Nat.lt_succ_self _, by rw [hI7]; refine ⟨p7, c7_6 + 1, c7_5, rfl, Int.le_trans hi7 (Int.le_add_one (Int.le_refl _)), drop_next hi7 hp7, rfl, (show 1 ≤ nx + 11 by omega), ?_, e10, e11, ?_, (Or.inl ⟨b7, el7, e15, (show 1 ≤ b7 by omega), (show b7 < nx + 11 by omega), ?_⟩), h⟩ <;> first | (simp only [upd_apply, updH_apply, without_apply, e10, e11, e12, H13, q14, e15, H16, q17.1, q18, d20, w21, d23, implies_true, Nat.reduceAdd, Nat.reduceMul, Nat.reduceEqDiff, Nat.reduceLeDiff, reduceIte, reduceCtorEq]; done) | (simp only [upd_apply, updH_apply, without_apply, e10, e11, e12, H13, q14, e15, H16, q17.1, q18, d20, w21, d23, implies_true, Nat.reduceAdd, Nat.reduceMul, Nat.reduceEqDiff, Nat.reduceLeDiff, reduceIte, reduceCtorEq]; rfl) | rfl⟩
      · simp only [d23, cond_true, cond_false, lbind_go, lbind_ret, lbind_brk, lbind_none, Option.bind_some, Option.bind_none, Bool.not_true, Bool.not_false, reduceCtorEq] at h
        cases g25 : (roomOk 8 (List.length (c7_5 ++ [e7])))
        · simp only [g25, cond_true, cond_false, lbind_go, lbind_ret, lbind_brk, lbind_none, Option.bind_some, Option.bind_none, Bool.not_true, Bool.not_false, reduceCtorEq] at h
          exact absurd h kN7
        simp only [g25, cond_true, cond_false, lbind_go, lbind_ret, lbind_brk, lbind_none, Option.bind_some, Option.bind_none, Bool.not_true, Bool.not_false, reduceCtorEq] at h
        simp only [vs, cwp_label, ng_normal, ng_ret, ng_exit, cr, tyf, g9, e10, e11, e12, H13, q14, e15, H16, q17.1, q18, d20, (ix22 o22), w21, d23, g25, implies_true, Nat.reduceAdd, Nat.reduceMul, Nat.reduceEqDiff, Nat.reduceLeDiff, reduceIte, reduceCtorEq]
        refine k_app (w := 1) (enc := eI) (xs := c7_5) (ys := ([e7])) (el := el7) (el2 := (some 3)) (fun _ => rfl) lf22 ao22 Tryz.underlying22 (by first | rfl | assumption | (simp only [updH_apply, without_apply, et22, H13, q14, H16, q17.1, q18, implies_true, Nat.reduceAdd, Nat.reduceMul, Nat.reduceEqDiff, Nat.reduceLeDiff, reduceIte, reduceCtorEq]; done) | (simp only [updH_apply, without_apply, et22, H13, q14, H16, q17.1, q18, implies_true, Nat.reduceAdd, Nat.reduceMul, Nat.reduceEqDiff, Nat.reduceLeDiff, reduceIte, reduceCtorEq]; rfl)) (by first | rfl | assumption | (simp only [updH_apply, without_apply, et22, H13, q14, H16, q17.1, q18, implies_true, Nat.reduceAdd, Nat.reduceMul, Nat.reduceEqDiff, Nat.reduceLeDiff, reduceIte, reduceCtorEq]; done) | (simp only [updH_apply, without_apply, et22, H13, q14, H16, q17.1, q18, implies_true, Nat.reduceAdd, Nat.reduceMul, Nat.reduceEqDiff, Nat.reduceLeDiff, reduceIte, reduceCtorEq]; rfl)) (Nat.zero_lt_succ _) g25 ?_
        simp only [vs, cwp_label, ng_normal, ng_ret, ng_exit, cr, tyf, g9, e10, e11, e12, H13, q14, e15, H16, q17.1, q18, d20, (ix22 o22), w21, d23, g25, implies_true, Nat.reduceAdd, Nat.reduceMul, Nat.reduceEqDiff, Nat.reduceLeDiff, reduceIte, reduceCtorEq]
        exact ⟨List.length p7, Nat.lt_succ_self _, by rw [hI7]; refine ⟨p7, c7_6 + 1, (c7_5 ++ [e7]), rfl, Int.le_trans hi7 (Int.le_add_one (Int.le_refl _)), drop_next hi7 hp7, rfl, (show 1 ≤ nx + 20 by omega), ?_, e10, e11, ?_, (Or.inl ⟨nx + 15, (sameEl el7 3), ?_, (show 1 ≤ nx + 15 by omega), (show nx + 15 < nx + 20 by omega), ?_⟩), h⟩ <;> first | (simp only [upd_apply, updH_apply, without_apply, e10, e11, e12, H13, q14, e15, H16, q17.1, q18, d20, w21, d23, implies_true, Nat.reduceAdd, Nat.reduceMul, Nat.reduceEqDiff, Nat.reduceLeDiff, reduceIte, reduceCtorEq]; done) | (simp only [upd_apply, updH_apply, without_apply, e10, e11, e12, H13, q14, e15, H16, q17.1, q18, d20, w21, d23, implies_true, Nat.reduceAdd, Nat.reduceMul, Nat.reduceEqDiff, Nat.reduceLeDiff, reduceIte, reduceCtorEq]; rfl) | rfl⟩
  · simp only at e15
    cases p7 with
    | nil =>
      have d27 : (decide (c7_6 < (List.length x0_w.Signs : Int))) = false := not_lt_of_drop hi7 hp7
      simp only [g_ref01_Fallen_l0, cond_true, cond_false, lbind_go, lbind_ret, lbind_brk, lbind_none, Option.bind_some, Option.bind_none, Bool.not_true, Bool.not_false, reduceCtorEq] at h
      replace h := kG7 _ h
      try dsimp only at h
      try simp only [cond_true, cond_false, lbind_go, lbind_ret, lbind_brk, lbind_none, Option.bind_some, Option.bind_none, Bool.not_true, Bool.not_false] at h
      simp only [vs, cwp_label, ng_normal, ng_ret, ng_exit, cr, tyf, g9, e10, e11, e12, H13, q14, e15, d27, implies_true, Nat.reduceAdd, Nat.reduceMul, Nat.reduceEqDiff, Nat.reduceLeDiff, reduceIte, reduceCtorEq]
      obtain rfl := kF _ h
      refine ret1 Tryz.results52 ?_ ?_
      · first | (simp only [outV, upd_apply, updH_apply, without_apply, showV_ref, cr, tyf, nrm, tynrm, g9, e10, e11, e12, H13, q14, e15, d27, implies_true, Nat.reduceAdd, Nat.reduceMul, Nat.reduceEqDiff, Nat.reduceLeDiff, reduceIte, reduceCtorEq]; done) | (simp only [outV, upd_apply, updH_apply, without_apply, showV_ref, cr, tyf, nrm, tynrm, g9, e10, e11, e12, H13, q14, e15, d27, implies_true, Nat.reduceAdd, Nat.reduceMul, Nat.reduceEqDiff, Nat.reduceLeDiff, reduceIte, reduceCtorEq]; rfl)
      · simp only [tre, tytre, Bool.and_self]
    | cons e7 p7 =>
      have d28 : (decide (c7_6 < (List.length x0_w.Signs : Int))) = true := lt_of_drop hi7 hp7
      have o30 := getI_of_drop hi7 hp7
      have w29 := wrap_next hi7 hp7 g9
      simp only [g_ref01_Fallen_l0, cond_true, cond_false, lbind_go, lbind_ret, lbind_brk, lbind_none, Option.bind_some, Option.bind_none, Bool.not_true, Bool.not_false, reduceCtorEq] at h
      cases d31 : (c7_6 != x1_letter)
      · simp only [d31, cond_true, cond_false, lbind_go, lbind_ret, lbind_brk, lbind_none, Option.bind_some, Option.bind_none, Bool.not_true, Bool.not_false, reduceCtorEq] at h
        simp only [vs, cwp_label, ng_normal, ng_ret, ng_exit, cr, tyf, g9, e10, e11, e12, H13, q14, e15, d28, (ix22 o30), w29, d31, implies_true, Nat.reduceAdd, Nat.reduceMul, Nat.reduceEqDiff, Nat.reduceLeDiff, reduceIte, reduceCtorEq]
        exact ⟨List.length p7, Nat.lt_succ_self _, by rw [hI7]; refine ⟨p7, c7_6 + 1, [], rfl, Int.le_trans hi7 (Int.le_add_one (Int.le_refl _)), drop_next hi7 hp7, rfl, (show 1 ≤ nx + 11 by omega), ?_, e10, e11, ?_, (Or.inr ⟨e15, rfl⟩), h⟩ <;> first | (simp only [upd_apply, updH_apply, without_apply, e10, e11, e12, H13, q14, e15, d28, w29, d31, implies_true, Nat.reduceAdd, Nat.reduceMul, Nat.reduceEqDiff, Nat.reduceLeDiff, reduceIte, reduceCtorEq]; done) | (simp only [upd_apply, updH_apply, without_apply, e10, e11, e12, H13, q14, e15, d28, w29, d31, implies_true, Nat.reduceAdd, Nat.reduceMul, Nat.reduceEqDiff, Nat.reduceLeDiff, reduceIte, reduceCtorEq]; rfl) | rfl⟩
      · simp only [d31, cond_true, cond_false, lbind_go, lbind_ret, lbind_brk, lbind_none, Option.bind_some, Option.bind_none, Bool.not_true, Bool.not_false, reduceCtorEq] at h
        cases g33 : (roomOk 8 (List.length ([] ++ [e7])))
        · simp only [g33, cond_true, cond_false, lbind_go, lbind_ret, lbind_brk, lbind_none, Option.bind_some, Option.bind_none, Bool.not_true, Bool.not_false, reduceCtorEq] at h
          exact absurd h kN7
        simp only [g33, cond_true, cond_false, lbind_go, lbind_ret, lbind_brk, lbind_none, Option.bind_some, Option.bind_none, Bool.not_true, Bool.not_false, reduceCtorEq] at h
        simp only [vs, cwp_label, ng_normal, ng_ret, ng_exit, cr, tyf, g9, e10, e11, e12, H13, q14, e15, d28, (ix22 o30), w29, d31, g33, implies_true, Nat.reduceAdd, Nat.reduceMul, Nat.reduceEqDiff, Nat.reduceLeDiff, reduceIte, reduceCtorEq]
        refine k_appN (w := 1) (enc := eI) (ys := ([e7])) (el2 := (some 3)) (fun _ => rfl) lf22 ao22 Tryz.underlying22 (by first | rfl | assumption | (simp only [updH_apply, without_apply, et22, H13, q14, implies_true, Nat.reduceAdd, Nat.reduceMul, Nat.reduceEqDiff, Nat.reduceLeDiff, reduceIte, reduceCtorEq]; done) | (simp only [updH_apply, without_apply, et22, H13, q14, implies_true, Nat.reduceAdd, Nat.reduceMul, Nat.reduceEqDiff, Nat.reduceLeDiff, reduceIte, reduceCtorEq]; rfl)) (Nat.zero_lt_succ _) g33 ?_
        simp only [vs, cwp_label, ng_normal, ng_ret, ng_exit, cr, tyf, g9, e10, e11, e12, H13, q14, e15, d28, (ix22 o30), w29, d31, g33, implies_true, Nat.reduceAdd, Nat.reduceMul, Nat.reduceEqDiff, Nat.reduceLeDiff, reduceIte, reduceCtorEq]
        exact ⟨List.length p7, Nat.lt_succ_self _, by rw [hI7]; refine ⟨p7, c7_6 + 1, ([] ++ [e7]), rfl, Int.le_trans hi7 (Int.le_add_one (Int.le_refl _)), drop_next hi7 hp7, rfl, (show 1 ≤ nx + 20 by omega), ?_, e10, e11, ?_, (Or.inl ⟨nx + 15, (some 3), ?_, (show 1 ≤ nx + 15 by omega), (show nx + 15 < nx + 20 by omega), ?_⟩), h⟩ <;> first | (simp only [upd_apply, updH_apply, without_apply, e10, e11, e12, H13, q14, e15, d28, w29, d31, implies_true, Nat.reduceAdd, Nat.reduceMul, Nat.reduceEqDiff, Nat.reduceLeDiff, reduceIte, reduceCtorEq]; done) | (simp only [upd_apply, updH_apply, without_apply, e10, e11, e12, H13, q14, e15, d28, w29, d31, implies_true, Nat.reduceAdd, Nat.reduceMul, Nat.reduceEqDiff, Nat.reduceLeDiff, reduceIte, reduceCtorEq]; rfl) | rfl⟩

end Go.V
end
