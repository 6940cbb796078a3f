/- Part of the proof of a statement of YtgjcaeapffpamaaGreatDoor: a logic of values by content, the lifted functions, and what follows. -/
import Derived.Test.YtgjcaeapffpamaaGreatDoorMbf
import Derived.Test.YtgjcaeapffpamaaGreatDoorMbg
set_option linter.unusedVariables false
set_option linter.unusedSimpArgs false
set_option linter.unusedSectionVars false
set_option linter.constructorNameAsVariable false
section
namespace Go.V
open Go Go.Proofs
set_option linter.unusedSimpArgs false
set_option linter.unusedVariables false
set_option maxRecDepth 4000
set_option maxHeartbeats 4000000
def g_cmp_Or_int_l0  : List Int → Int → Option (LOut (Int) (Unit))
  | [], c0_8 => some (.go ())
  | e0 :: p0, c0_8 => cond (e0 != 0) (some (.ret e0)) (g_cmp_Or_int_l0 p0 (c0_8 + 1))
def g_cmp_Or_int (x0_vals : List Int) : Option (Int) := cond (lenOk x0_vals) (lbind (g_cmp_Or_int_l0 x0_vals 0) (fun r => some r) (fun c1 => some 0) (fun _ _ => none)) none
theorem g_cmp_Or_int_ok (x0_vals : List Int) (R : Int) (h : g_cmp_Or_int x0_vals = some R) : VPure Tryz.prog G0 122 [.sl (cellsL eI x0_vals) (List.length x0_vals) false] (.tree (.lit (.int .i64 R))) := by
  refine VPure.runT mixed Tryz.call122 Tryz.func122 rfl (by simp [Tryz.ntmps122]; kernel_rfl) ?_
  obtain ⟨KF, h, kF, kN⟩ := fun_intro h
  simp only [g_cmp_Or_int] at h
  cases g3 : (lenOk x0_vals)
  · simp only [g3, cond_true, cond_false, lbind_go, lbind_ret, lbind_brk, lbind_none, Option.bind_some, Option.bind_none, Bool.not_true, Bool.not_false, reduceCtorEq] at h
    exact absurd h kN
  simp only [g3, cond_true, cond_false, lbind_go, lbind_ret, lbind_brk, lbind_none, Option.bind_some, Option.bind_none, Bool.not_true, Bool.not_false, reduceCtorEq] at h
  simp only [vs, cwp_label, ng_normal, ng_ret, ng_exit, cr, tyf, g3, implies_true, Nat.reduceAdd, Nat.reduceMul, Nat.reduceEqDiff, Nat.reduceLeDiff, reduceIte, reduceCtorEq]
  obtain ⟨K2, h, kR2, kG2, kB2, kN2⟩ := lbind_intro h kN
  obtain ⟨f2, hf2, h⟩ := call2 h
  obtain ⟨I2, hI2⟩ : ∃ I : Nat → St → Prop, I = (fun m st => ∃ (p2 : List Int) (c2_8 : Int), m = List.length p2 ∧ 0 ≤ c2_8 ∧ List.drop (Int.toNat c2_8) x0_vals = p2 ∧ st.df = [] ∧ st.tm 3 = .lit (.int .i64 0) ∧ st.tm 6 = .sl (cellsL eI x0_vals) (List.length x0_vals) false ∧ st.tm 7 = .lit (.int .i64 (List.length x0_vals : Int)) ∧ st.tm 8 = .lit (.int .i64 c2_8) ∧ K2 (f2 p2 c2_8)) := ⟨_, rfl⟩
  refine loopK mixed (by kernel_rfl) I2 (List.length x0_vals) (by rw [hI2]; refine ⟨x0_vals, 0, rfl, Int.le_refl _, rfl, rfl, ?_, ?_, ?_, ?_, h⟩ <;> first | (simp only [upd_apply, updH_apply, without_apply, implies_true, Nat.reduceAdd, Nat.reduceMul, Nat.reduceEqDiff, Nat.reduceLeDiff, reduceIte, reduceCtorEq]; done) | (simp only [upd_apply, updH_apply, without_apply, implies_true, Nat.reduceAdd, Nat.reduceMul, Nat.reduceEqDiff, Nat.reduceLeDiff, reduceIte, reduceCtorEq]; rfl) | rfl) ?_
  rintro m ⟨tm, H, nx, df⟩ hinv
  rw [hI2] at hinv
  obtain ⟨p2, c2_8, rfl, hi2, hp2, hdf, e4, e5, e6, e7, h⟩ := hinv
  simp only at hdf e4 e5 e6 e7
  subst hdf hf2
  cases p2 with
  | nil =>
    have d8 : (decide (c2_8 < (List.length x0_vals : Int))) = false := not_lt_of_drop hi2 hp2
    simp only [g_cmp_Or_int_l0, cond_true, cond_false, lbind_go, lbind_ret, lbind_brk, lbind_none, Option.bind_some, Option.bind_none, Bool.not_true, Bool.not_false, reduceCtorEq] at h
    replace h := kG2 _ h
    try dsimp only at h
    try simp only [cond_true, cond_false, lbind_go, lbind_ret, lbind_brk, lbind_none, Option.bind_some, Option.bind_none, Bool.not_true, Bool.not_false] at h
    simp only [vs, cwp_label, ng_normal, ng_ret, ng_exit, cr, tyf, g3, e4, e5, e6, e7, d8, implies_true, Nat.reduceAdd, Nat.reduceMul, Nat.reduceEqDiff, Nat.reduceLeDiff, reduceIte, reduceCtorEq]
    obtain rfl := kF _ h
    refine ret1 Tryz.results122 ?_ ?_
    · first | (simp only [outV, upd_apply, updH_apply, without_apply, showV_ref, cr, tyf, nrm, tynrm, g3, e4, e5, e6, e7, d8, implies_true, Nat.reduceAdd, Nat.reduceMul, Nat.reduceEqDiff, Nat.reduceLeDiff, reduceIte, reduceCtorEq]; done) | (simp only [outV, upd_apply, updH_apply, without_apply, showV_ref, cr, tyf, nrm, tynrm, g3, e4, e5, e6, e7, d8, implies_true, Nat.reduceAdd, Nat.reduceMul, Nat.reduceEqDiff, Nat.reduceLeDiff, reduceIte, reduceCtorEq]; rfl)
    · simp only [tre, tytre, Bool.and_self]
  | cons e2 p2 =>
    have d9 : (decide (c2_8 < (List.length x0_vals : Int))) = true := lt_of_drop hi2 hp2
    have o11 := getI_of_drop hi2 hp2
    have w10 := wrap_next hi2 hp2 g3
    simp only [g_cmp_Or_int_l0, cond_true, cond_false, lbind_go, lbind_ret, lbind_brk, lbind_none, Option.bind_some, Option.bind_none, Bool.not_true, Bool.not_false, reduceCtorEq] at h
    cases d12 : (e2 != 0)
    · simp only [d12, cond_true, cond_false, lbind_go, lbind_ret, lbind_brk, lbind_none, Option.bind_some, Option.bind_none, Bool.not_true, Bool.not_false, reduceCtorEq] at h
      simp only [vs, cwp_label, ng_normal, ng_ret, ng_exit, cr, tyf, g3, e4, e5, e6, e7, d9, (ix22 o11), w10, d12, implies_true, Nat.reduceAdd, Nat.reduceMul, Nat.reduceEqDiff, Nat.reduceLeDiff, reduceIte, reduceCtorEq]
      exact ⟨List.length p2, Nat.lt_succ_self _, by rw [hI2]; refine ⟨p2, c2_8 + 1, rfl, Int.le_trans hi2 (Int.le_add_one (Int.le_refl _)), drop_next hi2 hp2, rfl, e4, e5, e6, ?_, h⟩ <;> first | (simp only [upd_apply, updH_apply, without_apply, e4, e5, e6, e7, d9, w10, d12, implies_true, Nat.reduceAdd, Nat.reduceMul, Nat.reduceEqDiff, Nat.reduceLeDiff, reduceIte, reduceCtorEq]; done) | (simp only [upd_apply, updH_apply, without_apply, e4, e5, e6, e7, d9, w10, d12, implies_true, Nat.reduceAdd, Nat.reduceMul, Nat.reduceEqDiff, Nat.reduceLeDiff, reduceIte, reduceCtorEq]; rfl) | rfl⟩
    · simp only [d12, cond_true, cond_false, lbind_go, lbind_ret, lbind_brk, lbind_none, Option.bind_some, Option.bind_none, Bool.not_true, Bool.not_false, reduceCtorEq] at h
      simp only [vs, cwp_label, ng_normal, ng_ret, ng_exit, cr, tyf, g3, e4, e5, e6, e7, d9, (ix22 o11), w10, d12, implies_true, Nat.reduceAdd, Nat.reduceMul, Nat.reduceEqDiff, Nat.reduceLeDiff, reduceIte, reduceCtorEq]
      replace h := kR2 _ h
      try dsimp only at h
      obtain rfl := kF _ h
      refine ret1 Tryz.results122 ?_ ?_
      · first | (simp only [outV, upd_apply, updH_apply, without_apply, showV_ref, cr, tyf, nrm, tynrm, g3, e4, e5, e6, e7, d9, (ix22 o11), w10, d12, implies_true, Nat.reduceAdd, Nat.reduceMul, Nat.reduceEqDiff, Nat.reduceLeDiff, reduceIte, reduceCtorEq]; done) | (simp only [outV, upd_apply, updH_apply, without_apply, showV_ref, cr, tyf, nrm, tynrm, g3, e4, e5, e6, e7, d9, (ix22 o11), w10, d12, implies_true, Nat.reduceAdd, Nat.reduceMul, Nat.reduceEqDiff, Nat.reduceLeDiff, reduceIte, reduceCtorEq]; rfl)
      · simp only [tre, tytre, Bool.and_self]

end Go.V
end
section
namespace Go.V
open Go Go.Proofs
set_option linter.unusedSimpArgs false
set_option linter.unusedVariables false
set_option maxRecDepth 4000
set_option maxHeartbeats 4000000
def g_letter_comparePairs (x0_a : GLetterPair) (x1_b : GLetterPair) : Option (Int) := Option.bind (g_cmp_Compare_int x0_a.Left x1_b.Left) (fun r3 => Option.bind (g_cmp_Compare_int x0_a.Right x1_b.Right) (fun r4 => Option.bind (g_cmp_Or_int ([r3, r4])) (fun r6 => some r6)))
theorem g_letter_comparePairs_ok (x0_a : GLetterPair) (x1_b : GLetterPair) (R : Int) (h : g_letter_comparePairs x0_a x1_b = some R) : VPure Tryz.prog G0 145 [.agg (cGLetterPair x0_a), .agg (cGLetterPair x1_b)] (.tree (.lit (.int .i64 R))) := by
  refine VPure.runT mixed Tryz.call145 Tryz.func145 rfl (by simp [Tryz.ntmps145]; kernel_rfl) ?_
  obtain ⟨KF, h, kF, kN⟩ := fun_intro h
  simp only [g_letter_comparePairs] at h
  simp only [vs, cwp_label, ng_normal, ng_ret, ng_exit, cr, tyf, implies_true, Nat.reduceAdd, Nat.reduceMul, Nat.reduceEqDiff, Nat.reduceLeDiff, reduceIte, reduceCtorEq]
  refine cwp_drawTF (fun tm => tm 2 = .ptr 0 0 ∧ tm 3 = .ptr 1 0 ∧ True) (by refine ⟨?_, ?_, trivial⟩ <;> first | (simp only [upd_apply, updH_apply, without_apply, implies_true, Nat.reduceAdd, Nat.reduceMul, Nat.reduceEqDiff, Nat.reduceLeDiff, reduceIte, reduceCtorEq]; done) | (simp only [upd_apply, updH_apply, without_apply, implies_true, Nat.reduceAdd, Nat.reduceMul, Nat.reduceEqDiff, Nat.reduceLeDiff, reduceIte, reduceCtorEq]; rfl) | rfl) ?_
  rintro tm ⟨e9, e10, _⟩
  cases o12 : (g_cmp_Compare_int x0_a.Left x1_b.Left) with
  | none =>
    simp only [o12, cond_true, cond_false, lbind_go, lbind_ret, lbind_brk, lbind_none, Option.bind_some, Option.bind_none, Bool.not_true, Bool.not_false, reduceCtorEq] at h
    exact absurd h kN
  | some r11 =>
    simp only [o12, cond_true, cond_false, lbind_go, lbind_ret, lbind_brk, lbind_none, Option.bind_some, Option.bind_none, Bool.not_true, Bool.not_false, reduceCtorEq] at h
    simp only [vs, cwp_label, ng_normal, ng_ret, ng_exit, cr, tyf, e9, e10, implies_true, Nat.reduceAdd, Nat.reduceMul, Nat.reduceEqDiff, Nat.reduceLeDiff, reduceIte, reduceCtorEq]
    refine dktree (args0 := [.lit (.int .i64 x0_a.Left), .lit (.int .i64 x1_b.Left)]) (by first | (simp only [nrm, tynrm]; done) | (simp only [nrm, tynrm]; rfl) | rfl) (by simp only [tre, tytre, Bool.and_self]) (g_cmp_Compare_int_ok _ _ _ o12) ?_
    refine fin_cut (fun tm => tm 2 = .ptr 0 0 ∧ tm 3 = .ptr 1 0 ∧ tm 9 = .lit (.int .i64 r11) ∧ True) (by refine ⟨e9, e10, ?_, trivial⟩ <;> first | (simp only [upd_apply, updH_apply, without_apply, e9, e10, implies_true, Nat.reduceAdd, Nat.reduceMul, Nat.reduceEqDiff, Nat.reduceLeDiff, reduceIte, reduceCtorEq]; done) | (simp only [upd_apply, updH_apply, without_apply, e9, e10, implies_true, Nat.reduceAdd, Nat.reduceMul, Nat.reduceEqDiff, Nat.reduceLeDiff, reduceIte, reduceCtorEq]; rfl) | rfl) ?_
    rintro tm ⟨e13, e14, e15, _⟩
    cases o17 : (g_cmp_Compare_int x0_a.Right x1_b.Right) with
    | none =>
      simp only [o17, cond_true, cond_false, lbind_go, lbind_ret, lbind_brk, lbind_none, Option.bind_some, Option.bind_none, Bool.not_true, Bool.not_false, reduceCtorEq] at h
      exact absurd h kN
    | some r16 =>
      simp only [o17, cond_true, cond_false, lbind_go, lbind_ret, lbind_brk, lbind_none, Option.bind_some, Option.bind_none, Bool.not_true, Bool.not_false, reduceCtorEq] at h
      simp only [vs, cwp_label, ng_normal, ng_ret, ng_exit, cr, tyf, e13, e14, e15, implies_true, Nat.reduceAdd, Nat.reduceMul, Nat.reduceEqDiff, Nat.reduceLeDiff, reduceIte, reduceCtorEq]
      refine dktree (args0 := [.lit (.int .i64 x0_a.Right), .lit (.int .i64 x1_b.Right)]) (by first | (simp only [nrm, tynrm]; done) | (simp only [nrm, tynrm]; rfl) | rfl) (by simp only [tre, tytre, Bool.and_self]) (g_cmp_Compare_int_ok _ _ _ o17) ?_
      refine fin_cut (fun tm => tm 9 = .lit (.int .i64 r11) ∧ tm 14 = .lit (.int .i64 r16) ∧ True) (by refine ⟨e15, ?_, trivial⟩ <;> first | (simp only [upd_apply, updH_apply, without_apply, e13, e14, e15, implies_true, Nat.reduceAdd, Nat.reduceMul, Nat.reduceEqDiff, Nat.reduceLeDiff, reduceIte, reduceCtorEq]; done) | (simp only [upd_apply, updH_apply, without_apply, e13, e14, e15, implies_true, Nat.reduceAdd, Nat.reduceMul, Nat.reduceEqDiff, Nat.reduceLeDiff, reduceIte, reduceCtorEq]; rfl) | rfl) ?_
      rintro tm ⟨e18, e19, _⟩
      cases o22 : (g_cmp_Or_int ([r11, r16])) with
      | none =>
        simp only [o22, cond_true, cond_false, lbind_go, lbind_ret, lbind_brk, lbind_none, Option.bind_some, Option.bind_none, Bool.not_true, Bool.not_false, reduceCtorEq] at h
        exact absurd h kN
      | some r21 =>
        simp only [o22, cond_true, cond_false, lbind_go, lbind_ret, lbind_brk, lbind_none, Option.bind_some, Option.bind_none, Bool.not_true, Bool.not_false, reduceCtorEq] at h
        simp only [vs, cwp_label, ng_normal, ng_ret, ng_exit, cr, tyf, e18, e19, implies_true, Nat.reduceAdd, Nat.reduceMul, Nat.reduceEqDiff, Nat.reduceLeDiff, reduceIte, reduceCtorEq]
        refine dkseen1 (w := 1) (enc := eI) (xs := ([r11, r16])) (el := (some 3)) ⟨eI_ok.tree, eI_ok.norm⟩ (fun _ => rfl) (by simp only [List.length_cons, List.length_nil]; decide) (by first | (simp only [updH_apply, without_apply, et22, implies_true, Nat.reduceAdd, Nat.reduceMul, Nat.reduceEqDiff, Nat.reduceLeDiff, reduceIte, reduceCtorEq]; done) | (simp only [updH_apply, without_apply, et22, implies_true, Nat.reduceAdd, Nat.reduceMul, Nat.reduceEqDiff, Nat.reduceLeDiff, reduceIte, reduceCtorEq]; rfl)) (g_cmp_Or_int_ok _ _ o22) (by first | rfl | simp only [VV.flat, flatL, Bool.and_self]) ?_
        refine fin_cut (fun tm => tm 16 = .lit (.int .i64 r21) ∧ True) (by refine ⟨?_, trivial⟩ <;> first | (simp only [upd_apply, updH_apply, without_apply, e18, e19, implies_true, Nat.reduceAdd, Nat.reduceMul, Nat.reduceEqDiff, Nat.reduceLeDiff, reduceIte, reduceCtorEq]; done) | (simp only [upd_apply, updH_apply, without_apply, e18, e19, implies_true, Nat.reduceAdd, Nat.reduceMul, Nat.reduceEqDiff, Nat.reduceLeDiff, reduceIte, reduceCtorEq]; rfl) | rfl) ?_
        rintro tm ⟨e23, _⟩
        simp only [vs, cwp_label, ng_normal, ng_ret, ng_exit, cr, tyf, e23, implies_true, Nat.reduceAdd, Nat.reduceMul, Nat.reduceEqDiff, Nat.reduceLeDiff, reduceIte, reduceCtorEq]
        refine drawK_nil ⟨?_, ?_⟩
        · simp only [traceR_cons, traceR_nil, hitK_quiet, hitK_nil, and_true, true_and]
          repeat' (first | exact trivial | refine And.intro ?_ ?_ | rw [hitK_quiet] | rw [hitK_cons] | exact Or.inl (by kernel_rfl))
        simp only [vs, cwp_label, ng_normal, ng_ret, ng_exit, cr, tyf, e23, implies_true, Nat.reduceAdd, Nat.reduceMul, Nat.reduceEqDiff, Nat.reduceLeDiff, reduceIte, reduceCtorEq]
        obtain rfl := kF _ h
        refine ret1 Tryz.results145 ?_ ?_
        · first | (simp only [outV, upd_apply, updH_apply, without_apply, showV_ref, cr, tyf, nrm, tynrm, e23, implies_true, Nat.reduceAdd, Nat.reduceMul, Nat.reduceEqDiff, Nat.reduceLeDiff, reduceIte, reduceCtorEq]; done) | (simp only [outV, upd_apply, updH_apply, without_apply, showV_ref, cr, tyf, nrm, tynrm, e23, implies_true, Nat.reduceAdd, Nat.reduceMul, Nat.reduceEqDiff, Nat.reduceLeDiff, reduceIte, reduceCtorEq]; rfl)
        · simp only [tre, tytre, Bool.and_self]

end Go.V
end
section
namespace Go.V
open Go Go.Proofs
set_option linter.unusedSimpArgs false
set_option linter.unusedVariables false
set_option maxRecDepth 4000
set_option maxHeartbeats 4000000
def g_letter_arePairs_l0 (x0_pairs : List GLetterPair) (x1_signs : Int) : List GLetterPair → Int → Option (LOut (Bool) (Unit))
  | [], c0_12 => some (.go ())
  | e0 :: p0, c0_12 => Option.bind (g_limits_IsFrom 0 e0.Left (IntKind.i64.wrap (x1_signs - 1))) (fun r2 => cond (r2) (Option.bind (g_limits_IsFrom 0 e0.Right (IntKind.i64.wrap (x1_signs - 1))) (fun r3 => cond (r3) (Option.bind (g_limits_IsSpan 0 e0.Space 9) (fun r4 => cond (r4) (cond (decide (c0_12 > 0)) (Option.bind (getI x0_pairs (IntKind.i64.wrap (c0_12 - 1))) (fun x5 => Option.bind (g_letter_comparePairs x5 e0) (fun r6 => cond (decide (r6 ≥ 0)) (some (.ret false)) (g_letter_arePairs_l0 x0_pairs x1_signs p0 (c0_12 + 1))))) (g_letter_arePairs_l0 x0_pairs x1_signs p0 (c0_12 + 1))) (some (.ret false)))) (some (.ret false)))) (some (.ret false)))
def g_letter_arePairs (x0_pairs : List GLetterPair) (x1_signs : Int) : Option (Bool) := cond (decide ((List.length x0_pairs : Int) > 6)) (some false) (cond (lenOk x0_pairs) (lbind (g_letter_arePairs_l0 x0_pairs x1_signs x0_pairs 0) (fun r => some r) (fun c7 => some true) (fun _ _ => none)) none)
theorem g_letter_arePairs_ok (x0_pairs : List GLetterPair) (x1_signs : Int) (R : Bool) (h : g_letter_arePairs x0_pairs x1_signs = some R) : VPure Tryz.prog G0 108 [.sl (cellsL cGLetterPair x0_pairs) (List.length x0_pairs) false, .lit (.int .i64 x1_signs)] (.tree (.lit (.bool R))) := by
  refine VPure.runT mixed Tryz.call108 Tryz.func108 rfl (by simp [Tryz.ntmps108]; kernel_rfl) ?_
  obtain ⟨KF, h, kF, kN⟩ := fun_intro h
  simp only [g_letter_arePairs] at h
  cases d8 : (decide ((List.length x0_pairs : Int) > 6))
  · simp only [d8, cond_true, cond_false, lbind_go, lbind_ret, lbind_brk, lbind_none, Option.bind_some, Option.bind_none, Bool.not_true, Bool.not_false, reduceCtorEq] at h
    cases g10 : (lenOk x0_pairs)
    · simp only [g10, cond_true, cond_false, lbind_go, lbind_ret, lbind_brk, lbind_none, Option.bind_some, Option.bind_none, Bool.not_true, Bool.not_false, reduceCtorEq] at h
      exact absurd h kN
    simp only [g10, cond_true, cond_false, lbind_go, lbind_ret, lbind_brk, lbind_none, Option.bind_some, Option.bind_none, Bool.not_true, Bool.not_false, reduceCtorEq] at h
    simp only [vs, cwp_label, ng_normal, ng_ret, ng_exit, cr, tyf, d8, g10, implies_true, Nat.reduceAdd, Nat.reduceMul, Nat.reduceEqDiff, Nat.reduceLeDiff, reduceIte, reduceCtorEq]
    obtain ⟨K9, h, kR9, kG9, kB9, kN9⟩ := lbind_intro h kN
    obtain ⟨f9, hf9, h⟩ := call2 h
    obtain ⟨I9, hI9⟩ : ∃ I : Nat → St → Prop, I = (fun m st => ∃ (p9 : List GLetterPair) (c9_12 : Int), m = List.length p9 ∧ 0 ≤ c9_12 ∧ List.drop (Int.toNat c9_12) x0_pairs = p9 ∧ st.df = [] ∧ st.tm 0 = .sl (cellsL cGLetterPair x0_pairs) (List.length x0_pairs) false ∧ st.tm 1 = .lit (.int .i64 x1_signs) ∧ st.tm 10 = .sl (cellsL cGLetterPair x0_pairs) (List.length x0_pairs) false ∧ st.tm 11 = .lit (.int .i64 (List.length x0_pairs : Int)) ∧ st.tm 12 = .lit (.int .i64 c9_12) ∧ K9 (f9 p9 c9_12)) := ⟨_, rfl⟩
    refine loopK mixed (by kernel_rfl) I9 (List.length x0_pairs) (by rw [hI9]; refine ⟨x0_pairs, 0, rfl, Int.le_refl _, rfl, rfl, ?_, ?_, ?_, ?_, ?_, h⟩ <;> first | (simp only [upd_apply, updH_apply, without_apply, d8, implies_true, Nat.reduceAdd, Nat.reduceMul, Nat.reduceEqDiff, Nat.reduceLeDiff, reduceIte, reduceCtorEq]; done) | (simp only [upd_apply, updH_apply, without_apply, d8, implies_true, Nat.reduceAdd, Nat.reduceMul, Nat.reduceEqDiff, Nat.reduceLeDiff, reduceIte, reduceCtorEq]; rfl) | rfl) ?_
    rintro m ⟨tm, H, nx, df⟩ hinv
    rw [hI9] at hinv
    obtain ⟨p9, c9_12, rfl, hi9, hp9, hdf, e11, e12, e13, e14, e15, h⟩ := hinv
    simp only at hdf e11 e12 e13 e14 e15
    subst hdf hf9
    cases p9 with
    | nil =>
      have d16 : (decide (c9_12 < (List.length x0_pairs : Int))) = false := not_lt_of_drop hi9 hp9
      simp only [g_letter_arePairs_l0, cond_true, cond_false, lbind_go, lbind_ret, lbind_brk, lbind_none, Option.bind_some, Option.bind_none, Bool.not_true, Bool.not_false, reduceCtorEq] at h
      replace h := kG9 _ h
      try dsimp only at h
      try simp only [cond_true, cond_false, lbind_go, lbind_ret, lbind_brk, lbind_none, Option.bind_some, Option.bind_none, Bool.not_true, Bool.not_false] at h
      simp only [vs, cwp_label, ng_normal, ng_ret, ng_exit, cr, tyf, d8, g10, e11, e12, e13, e14, e15, d16, implies_true, Nat.reduceAdd, Nat.reduceMul, Nat.reduceEqDiff, Nat.reduceLeDiff, reduceIte, reduceCtorEq]
      obtain rfl := kF _ h
      refine ret1 Tryz.results108 ?_ ?_
      · first | (simp only [outV, upd_apply, updH_apply, without_apply, showV_ref, cr, tyf, nrm, tynrm, d8, g10, e11, e12, e13, e14, e15, d16, implies_true, Nat.reduceAdd, Nat.reduceMul, Nat.reduceEqDiff, Nat.reduceLeDiff, reduceIte, reduceCtorEq]; done) | (simp only [outV, upd_apply, updH_apply, without_apply, showV_ref, cr, tyf, nrm, tynrm, d8, g10, e11, e12, e13, e14, e15, d16, implies_true, Nat.reduceAdd, Nat.reduceMul, Nat.reduceEqDiff, Nat.reduceLeDiff, reduceIte, reduceCtorEq]; rfl)
      · simp only [tre, tytre, Bool.and_self]
    | cons e9 p9 =>
      have d17 : (decide (c9_12 < (List.length x0_pairs : Int))) = true := lt_of_drop hi9 hp9
      have o19 := getI_of_drop hi9 hp9
      have w18 := wrap_next hi9 hp9 g10
      simp only [g_letter_arePairs_l0, cond_true, cond_false, lbind_go, lbind_ret, lbind_brk, lbind_none, Option.bind_some, Option.bind_none, Bool.not_true, Bool.not_false, reduceCtorEq] at h
      cases o22 : (g_limits_IsFrom 0 e9.Left (IntKind.i64.wrap (x1_signs - 1))) with
      | none =>
        simp only [o22, cond_true, cond_false, lbind_go, lbind_ret, lbind_brk, lbind_none, Option.bind_some, Option.bind_none, Bool.not_true, Bool.not_false, reduceCtorEq] at h
        exact absurd h kN9
      | some r21 =>
        simp only [o22, cond_true, cond_false, lbind_go, lbind_ret, lbind_brk, lbind_none, Option.bind_some, Option.bind_none, Bool.not_true, Bool.not_false, reduceCtorEq] at h
        simp only [vs, cwp_label, ng_normal, ng_ret, ng_exit, cr, tyf, d8, g10, e11, e12, e13, e14, e15, d17, (ix23 o19), w18, implies_true, Nat.reduceAdd, Nat.reduceMul, Nat.reduceEqDiff, Nat.reduceLeDiff, reduceIte, reduceCtorEq]
        refine ktree (args0 := [.lit (.int .i64 0), .lit (.int .i64 e9.Left), .lit (.int .i64 (IntKind.i64.wrap (x1_signs - 1)))]) (by first | (simp only [nrm, tynrm]; done) | (simp only [nrm, tynrm]; rfl) | rfl) (by simp only [tre, tytre, Bool.and_self]) (g_limits_IsFrom_ok _ _ _ _ o22) ?_
        refine fin_cut (fun tm => tm 0 = .sl (cellsL cGLetterPair x0_pairs) (List.length x0_pairs) false ∧ tm 1 = .lit (.int .i64 x1_signs) ∧ tm 5 = .lit (.int .i64 c9_12) ∧ tm 6 = .ptr (nx + 4) 0 ∧ tm 10 = .sl (cellsL cGLetterPair x0_pairs) (List.length x0_pairs) false ∧ tm 11 = .lit (.int .i64 (List.length x0_pairs : Int)) ∧ tm 12 = .lit (.int .i64 c9_12) ∧ tm 21 = .lit (.bool r21) ∧ True) (by refine ⟨e11, e12, ?_, ?_, e13, e14, e15, ?_, trivial⟩ <;> first | (simp only [upd_apply, updH_apply, without_apply, d8, e11, e12, e13, e14, e15, d17, w18, implies_true, Nat.reduceAdd, Nat.reduceMul, Nat.reduceEqDiff, Nat.reduceLeDiff, reduceIte, reduceCtorEq]; done) | (simp only [upd_apply, updH_apply, without_apply, d8, e11, e12, e13, e14, e15, d17, w18, implies_true, Nat.reduceAdd, Nat.reduceMul, Nat.reduceEqDiff, Nat.reduceLeDiff, reduceIte, reduceCtorEq]; rfl) | rfl) ?_
        rintro tm ⟨e23, e24, e25, e26, e27, e28, e29, e30, _⟩
        cases d31 : (r21)
        · simp only [d31, cond_true, cond_false, lbind_go, lbind_ret, lbind_brk, lbind_none, Option.bind_some, Option.bind_none, Bool.not_true, Bool.not_false, reduceCtorEq] at h
          simp only [vs, cwp_label, ng_normal, ng_ret, ng_exit, cr, tyf, d8, g10, d17, (ix23 o19), w18, e23, e24, e25, e26, e27, e28, e29, e30, d31, implies_true, Nat.reduceAdd, Nat.reduceMul, Nat.reduceEqDiff, Nat.reduceLeDiff, reduceIte, reduceCtorEq]
          replace h := kR9 _ h
          try dsimp only at h
          obtain rfl := kF _ h
          refine ret1 Tryz.results108 ?_ ?_
          · first | (simp only [outV, upd_apply, updH_apply, without_apply, showV_ref, cr, tyf, nrm, tynrm, d8, g10, d17, (ix23 o19), w18, e23, e24, e25, e26, e27, e28, e29, e30, d31, implies_true, Nat.reduceAdd, Nat.reduceMul, Nat.reduceEqDiff, Nat.reduceLeDiff, reduceIte, reduceCtorEq]; done) | (simp only [outV, upd_apply, updH_apply, without_apply, showV_ref, cr, tyf, nrm, tynrm, d8, g10, d17, (ix23 o19), w18, e23, e24, e25, e26, e27, e28, e29, e30, d31, implies_true, Nat.reduceAdd, Nat.reduceMul, Nat.reduceEqDiff, Nat.reduceLeDiff, reduceIte, reduceCtorEq]; rfl)
          · simp only [tre, tytre, Bool.and_self]
        · simp only [d31, cond_true, cond_false, lbind_go, lbind_ret, lbind_brk, lbind_none, Option.bind_some, Option.bind_none, Bool.not_true, Bool.not_false, reduceCtorEq] at h
          cases o33 : (g_limits_IsFrom 0 e9.Right (IntKind.i64.wrap (x1_signs - 1))) with
          | none =>
            simp only [o33, cond_true, cond_false, lbind_go, lbind_ret, lbind_brk, lbind_none, Option.bind_some, Option.bind_none, Bool.not_true, Bool.not_false, reduceCtorEq] at h
            exact absurd h kN9
          | some r32 =>
            simp only [o33, cond_true, cond_false, lbind_go, lbind_ret, lbind_brk, lbind_none, Option.bind_some, Option.bind_none, Bool.not_true, Bool.not_false, reduceCtorEq] at h
            simp only [vs, cwp_label, ng_normal, ng_ret, ng_exit, cr, tyf, d8, g10, d17, (ix23 o19), w18, e23, e24, e25, e26, e27, e28, e29, e30, d31, implies_true, Nat.reduceAdd, Nat.reduceMul, Nat.reduceEqDiff, Nat.reduceLeDiff, reduceIte, reduceCtorEq]
            refine ktree (args0 := [.lit (.int .i64 0), .lit (.int .i64 e9.Right), .lit (.int .i64 (IntKind.i64.wrap (x1_signs - 1)))]) (by first | (simp only [nrm, tynrm]; done) | (simp only [nrm, tynrm]; rfl) | rfl) (by simp only [tre, tytre, Bool.and_self]) (g_limits_IsFrom_ok _ _ _ _ o33) ?_
            refine fin_cut (fun tm => tm 0 = .sl (cellsL cGLetterPair x0_pairs) (List.length x0_pairs) false ∧ tm 1 = .lit (.int .i64 x1_signs) ∧ tm 5 = .lit (.int .i64 c9_12) ∧ tm 6 = .ptr (nx + 4) 0 ∧ tm 10 = .sl (cellsL cGLetterPair x0_pairs) (List.length x0_pairs) false ∧ tm 11 = .lit (.int .i64 (List.length x0_pairs : Int)) ∧ tm 12 = .lit (.int .i64 c9_12) ∧ tm 23 = .lit (.bool false) ∧ tm 28 = .lit (.bool r32) ∧ True) (by refine ⟨e23, e24, e25, e26, e27, e28, e29, ?_, ?_, trivial⟩ <;> first | (simp only [upd_apply, updH_apply, without_apply, d8, d17, w18, e23, e24, e25, e26, e27, e28, e29, e30, d31, implies_true, Nat.reduceAdd, Nat.reduceMul, Nat.reduceEqDiff, Nat.reduceLeDiff, reduceIte, reduceCtorEq]; done) | (simp only [upd_apply, updH_apply, without_apply, d8, d17, w18, e23, e24, e25, e26, e27, e28, e29, e30, d31, implies_true, Nat.reduceAdd, Nat.reduceMul, Nat.reduceEqDiff, Nat.reduceLeDiff, reduceIte, reduceCtorEq]; rfl) | rfl) ?_
            rintro tm ⟨e34, e35, e36, e37, e38, e39, e40, e41, e42, _⟩
            cases d43 : (r32)
            · simp only [d43, cond_true, cond_false, lbind_go, lbind_ret, lbind_brk, lbind_none, Option.bind_some, Option.bind_none, Bool.not_true, Bool.not_false, reduceCtorEq] at h
              simp only [vs, cwp_label, ng_normal, ng_ret, ng_exit, cr, tyf, d8, g10, d17, (ix23 o19), w18, d31, e34, e35, e36, e37, e38, e39, e40, e41, e42, d43, implies_true, Nat.reduceAdd, Nat.reduceMul, Nat.reduceEqDiff, Nat.reduceLeDiff, reduceIte, reduceCtorEq]
              replace h := kR9 _ h
              try dsimp only at h
              obtain rfl := kF _ h
              refine ret1 Tryz.results108 ?_ ?_
              · first | (simp only [outV, upd_apply, updH_apply, without_apply, showV_ref, cr, tyf, nrm, tynrm, d8, g10, d17, (ix23 o19), w18, d31, e34, e35, e36, e37, e38, e39, e40, e41, e42, d43, implies_true, Nat.reduceAdd, Nat.reduceMul, Nat.reduceEqDiff, Nat.reduceLeDiff, reduceIte, reduceCtorEq]; done) | (simp only [outV, upd_apply, updH_apply, without_apply, showV_ref, cr, tyf, nrm, tynrm, d8, g10, d17, (ix23 o19), w18, d31, e34, e35, e36, e37, e38, e39, e40, e41, e42, d43, implies_true, Nat.reduceAdd, Nat.reduceMul, Nat.reduceEqDiff, Nat.reduceLeDiff, reduceIte, reduceCtorEq]; rfl)
              · simp only [tre, tytre, Bool.and_self]
            · simp only [d43, cond_true, cond_false, lbind_go, lbind_ret, lbind_brk, lbind_none, Option.bind_some, Option.bind_none, Bool.not_true, Bool.not_false, reduceCtorEq] at h
              cases o45 : (g_limits_IsSpan 0 e9.Space 9) with
              | none =>
                simp only [o45, cond_true, cond_false, lbind_go, lbind_ret, lbind_brk, lbind_none, Option.bind_some, Option.bind_none, Bool.not_true, Bool.not_false, reduceCtorEq] at h
                exact absurd h kN9
              | some r44 =>
                simp only [o45, cond_true, cond_false, lbind_go, lbind_ret, lbind_brk, lbind_none, Option.bind_some, Option.bind_none, Bool.not_true, Bool.not_false, reduceCtorEq] at h
                simp only [vs, cwp_label, ng_normal, ng_ret, ng_exit, cr, tyf, d8, g10, d17, (ix23 o19), w18, d31, e34, e35, e36, e37, e38, e39, e40, e41, e42, d43, implies_true, Nat.reduceAdd, Nat.reduceMul, Nat.reduceEqDiff, Nat.reduceLeDiff, reduceIte, reduceCtorEq]
                refine ktree (args0 := [.lit (.int .i64 0), .agg (cGSpan e9.Space), .lit (.int .i64 9)]) (by first | (simp only [nrm, tynrm]; done) | (simp only [nrm, tynrm]; rfl) | rfl) (by simp only [tre, tytre, Bool.and_self]) (g_limits_IsSpan_ok _ _ _ _ o45) ?_
                refine fin_cut (fun tm => tm 0 = .sl (cellsL cGLetterPair x0_pairs) (List.length x0_pairs) false ∧ tm 1 = .lit (.int .i64 x1_signs) ∧ tm 5 = .lit (.int .i64 c9_12) ∧ tm 6 = .ptr (nx + 4) 0 ∧ tm 10 = .sl (cellsL cGLetterPair x0_pairs) (List.length x0_pairs) false ∧ tm 11 = .lit (.int .i64 (List.length x0_pairs : Int)) ∧ tm 12 = .lit (.int .i64 c9_12) ∧ tm 31 = .lit (.bool false) ∧ tm 34 = .lit (.bool r44) ∧ True) (by refine ⟨e34, e35, e36, e37, e38, e39, e40, ?_, ?_, trivial⟩ <;> first | (simp only [upd_apply, updH_apply, without_apply, d8, d17, w18, d31, e34, e35, e36, e37, e38, e39, e40, e41, e42, d43, implies_true, Nat.reduceAdd, Nat.reduceMul, Nat.reduceEqDiff, Nat.reduceLeDiff, reduceIte, reduceCtorEq]; done) | (simp only [upd_apply, updH_apply, without_apply, d8, d17, w18, d31, e34, e35, e36, e37, e38, e39, e40, e41, e42, d43, implies_true, Nat.reduceAdd, Nat.reduceMul, Nat.reduceEqDiff, Nat.reduceLeDiff, reduceIte, reduceCtorEq]; rfl) | rfl) ?_
                rintro tm ⟨e46, e47, e48, e49, e50, e51, e52, e53, e54, _⟩
                cases d55 : (r44)
                · simp only [d55, cond_true, cond_false, lbind_go, lbind_ret, lbind_brk, lbind_none, Option.bind_some, Option.bind_none, Bool.not_true, Bool.not_false, reduceCtorEq] at h
                  simp only [vs, cwp_label, ng_normal, ng_ret, ng_exit, cr, tyf, d8, g10, d17, (ix23 o19), w18, d31, d43, e46, e47, e48, e49, e50, e51, e52, e53, e54, d55, implies_true, Nat.reduceAdd, Nat.reduceMul, Nat.reduceEqDiff, Nat.reduceLeDiff, reduceIte, reduceCtorEq]
                  replace h := kR9 _ h
                  try dsimp only at h
                  obtain rfl := kF _ h
                  refine ret1 Tryz.results108 ?_ ?_
                  · first | (simp only [outV, upd_apply, updH_apply, without_apply, showV_ref, cr, tyf, nrm, tynrm, d8, g10, d17, (ix23 o19), w18, d31, d43, e46, e47, e48, e49, e50, e51, e52, e53, e54, d55, implies_true, Nat.reduceAdd, Nat.reduceMul, Nat.reduceEqDiff, Nat.reduceLeDiff, reduceIte, reduceCtorEq]; done) | (simp only [outV, upd_apply, updH_apply, without_apply, showV_ref, cr, tyf, nrm, tynrm, d8, g10, d17, (ix23 o19), w18, d31, d43, e46, e47, e48, e49, e50, e51, e52, e53, e54, d55, implies_true, Nat.reduceAdd, Nat.reduceMul, Nat.reduceEqDiff, Nat.reduceLeDiff, reduceIte, reduceCtorEq]; rfl)
                  · simp only [tre, tytre, Bool.and_self]
                · simp only [d55, cond_true, cond_false, lbind_go, lbind_ret, lbind_brk, lbind_none, Option.bind_some, Option.bind_none, Bool.not_true, Bool.not_false, reduceCtorEq] at h
                  simp only [vs, cwp_label, ng_normal, ng_ret, ng_exit, cr, tyf, d8, g10, d17, (ix23 o19), w18, d31, d43, e46, e47, e48, e49, e50, e51, e52, e53, e54, d55, implies_true, Nat.reduceAdd, Nat.reduceMul, Nat.reduceEqDiff, Nat.reduceLeDiff, reduceIte, reduceCtorEq]
                  refine cwp_drwQF (fun tm => tm 0 = .sl (cellsL cGLetterPair x0_pairs) (List.length x0_pairs) false ∧ tm 1 = .lit (.int .i64 x1_signs) ∧ tm 5 = .lit (.int .i64 c9_12) ∧ tm 6 = .ptr (nx + 4) 0 ∧ tm 10 = .sl (cellsL cGLetterPair x0_pairs) (List.length x0_pairs) false ∧ tm 11 = .lit (.int .i64 (List.length x0_pairs : Int)) ∧ tm 12 = .lit (.int .i64 c9_12) ∧ True) (by refine ⟨e46, e47, e48, e49, e50, e51, e52, trivial⟩ <;> first | (simp only [upd_apply, updH_apply, without_apply, d8, d17, w18, d31, d43, e46, e47, e48, e49, e50, e51, e52, e53, e54, d55, implies_true, Nat.reduceAdd, Nat.reduceMul, Nat.reduceEqDiff, Nat.reduceLeDiff, reduceIte, reduceCtorEq]; done) | (simp only [upd_apply, updH_apply, without_apply, d8, d17, w18, d31, d43, e46, e47, e48, e49, e50, e51, e52, e53, e54, d55, implies_true, Nat.reduceAdd, Nat.reduceMul, Nat.reduceEqDiff, Nat.reduceLeDiff, reduceIte, reduceCtorEq]; rfl) | rfl) ?_
                  rintro tm ⟨e56, e57, e58, e59, e60, e61, e62, _⟩
                  cases d63 : (decide (c9_12 > 0))
                  · simp only [d63, cond_true, cond_false, lbind_go, lbind_ret, lbind_brk, lbind_none, Option.bind_some, Option.bind_none, Bool.not_true, Bool.not_false, reduceCtorEq] at h
                    simp only [vs, cwp_label, ng_normal, ng_ret, ng_exit, cr, tyf, d8, g10, d17, (ix23 o19), w18, d31, d43, d55, e56, e57, e58, e59, e60, e61, e62, d63, implies_true, Nat.reduceAdd, Nat.reduceMul, Nat.reduceEqDiff, Nat.reduceLeDiff, reduceIte, reduceCtorEq]
                    exact ⟨List.length p9, Nat.lt_succ_self _, by rw [hI9]; refine ⟨p9, c9_12 + 1, rfl, Int.le_trans hi9 (Int.le_add_one (Int.le_refl _)), drop_next hi9 hp9, rfl, e56, e57, e60, e61, ?_, h⟩ <;> first | (simp only [upd_apply, updH_apply, without_apply, d8, d17, w18, d31, d43, d55, e56, e57, e58, e59, e60, e61, e62, d63, implies_true, Nat.reduceAdd, Nat.reduceMul, Nat.reduceEqDiff, Nat.reduceLeDiff, reduceIte, reduceCtorEq]; done) | (simp only [upd_apply, updH_apply, without_apply, d8, d17, w18, d31, d43, d55, e56, e57, e58, e59, e60, e61, e62, d63, implies_true, Nat.reduceAdd, Nat.reduceMul, Nat.reduceEqDiff, Nat.reduceLeDiff, reduceIte, reduceCtorEq]; rfl) | rfl⟩
                  · simp only [d63, cond_true, cond_false, lbind_go, lbind_ret, lbind_brk, lbind_none, Option.bind_some, Option.bind_none, Bool.not_true, Bool.not_false, reduceCtorEq] at h
                    cases o65 : (getI x0_pairs (IntKind.i64.wrap (c9_12 - 1))) with
                    | none =>
                      simp only [o65, cond_true, cond_false, lbind_go, lbind_ret, lbind_brk, lbind_none, Option.bind_some, Option.bind_none, Bool.not_true, Bool.not_false, reduceCtorEq] at h
                      exact absurd h kN9
                    | some x64 =>
                      simp only [o65, cond_true, cond_false, lbind_go, lbind_ret, lbind_brk, lbind_none, Option.bind_some, Option.bind_none, Bool.not_true, Bool.not_false, reduceCtorEq] at h
                      cases o67 : (g_letter_comparePairs x64 e9) with
                      | none =>
                        simp only [o67, cond_true, cond_false, lbind_go, lbind_ret, lbind_brk, lbind_none, Option.bind_some, Option.bind_none, Bool.not_true, Bool.not_false, reduceCtorEq] at h
                        exact absurd h kN9
                      | some r66 =>
                        simp only [o67, cond_true, cond_false, lbind_go, lbind_ret, lbind_brk, lbind_none, Option.bind_some, Option.bind_none, Bool.not_true, Bool.not_false, reduceCtorEq] at h
                        simp only [vs, cwp_label, ng_normal, ng_ret, ng_exit, cr, tyf, d8, g10, d17, (ix23 o19), w18, d31, d43, d55, e56, e57, e58, e59, e60, e61, e62, d63, (ix23 o65), implies_true, Nat.reduceAdd, Nat.reduceMul, Nat.reduceEqDiff, Nat.reduceLeDiff, reduceIte, reduceCtorEq]
                        refine dktree (args0 := [.agg (cGLetterPair x64), .agg (cGLetterPair e9)]) (by first | (simp only [nrm, tynrm]; done) | (simp only [nrm, tynrm]; rfl) | rfl) (by simp only [tre, tytre, Bool.and_self]) (g_letter_comparePairs_ok _ _ _ o67) ?_
                        refine fin_cut (fun tm => tm 0 = .sl (cellsL cGLetterPair x0_pairs) (List.length x0_pairs) false ∧ tm 1 = .lit (.int .i64 x1_signs) ∧ tm 10 = .sl (cellsL cGLetterPair x0_pairs) (List.length x0_pairs) false ∧ tm 11 = .lit (.int .i64 (List.length x0_pairs : Int)) ∧ tm 12 = .lit (.int .i64 c9_12) ∧ tm 39 = .lit (.bool true) ∧ tm 46 = .lit (.int .i64 r66) ∧ True) (by refine ⟨e56, e57, e60, e61, e62, ?_, ?_, trivial⟩ <;> first | (simp only [upd_apply, updH_apply, without_apply, d8, d17, w18, d31, d43, d55, e56, e57, e58, e59, e60, e61, e62, d63, implies_true, Nat.reduceAdd, Nat.reduceMul, Nat.reduceEqDiff, Nat.reduceLeDiff, reduceIte, reduceCtorEq]; done) | (simp only [upd_apply, updH_apply, without_apply, d8, d17, w18, d31, d43, d55, e56, e57, e58, e59, e60, e61, e62, d63, implies_true, Nat.reduceAdd, Nat.reduceMul, Nat.reduceEqDiff, Nat.reduceLeDiff, reduceIte, reduceCtorEq]; rfl) | rfl) ?_
                        rintro tm ⟨e68, e69, e70, e71, e72, e73, e74, _⟩
                        cases d75 : (decide (r66 ≥ 0))
                        · simp only [d75, cond_true, cond_false, lbind_go, lbind_ret, lbind_brk, lbind_none, Option.bind_some, Option.bind_none, Bool.not_true, Bool.not_false, reduceCtorEq] at h
                          simp only [vs, cwp_label, ng_normal, ng_ret, ng_exit, cr, tyf, d8, g10, d17, (ix23 o19), w18, d31, d43, d55, d63, (ix23 o65), e68, e69, e70, e71, e72, e73, e74, d75, implies_true, Nat.reduceAdd, Nat.reduceMul, Nat.reduceEqDiff, Nat.reduceLeDiff, reduceIte, reduceCtorEq]
                          exact ⟨List.length p9, Nat.lt_succ_self _, by rw [hI9]; refine ⟨p9, c9_12 + 1, rfl, Int.le_trans hi9 (Int.le_add_one (Int.le_refl _)), drop_next hi9 hp9, rfl, e68, e69, e70, e71, ?_, h⟩ <;> first | (simp only [upd_apply, updH_apply, without_apply, d8, d17, w18, d31, d43, d55, d63, e68, e69, e70, e71, e72, e73, e74, d75, implies_true, Nat.reduceAdd, Nat.reduceMul, Nat.reduceEqDiff, Nat.reduceLeDiff, reduceIte, reduceCtorEq]; done) | (simp only [upd_apply, updH_apply, without_apply, d8, d17, w18, d31, d43, d55, d63, e68, e69, e70, e71, e72, e73, e74, d75, implies_true, Nat.reduceAdd, Nat.reduceMul, Nat.reduceEqDiff, Nat.reduceLeDiff, reduceIte, reduceCtorEq]; rfl) | rfl⟩
                        · simp only [d75, cond_true, cond_false, lbind_go, lbind_ret, lbind_brk, lbind_none, Option.bind_some, Option.bind_none, Bool.not_true, Bool.not_false, reduceCtorEq] at h
                          simp only [vs, cwp_label, ng_normal, ng_ret, ng_exit, cr, tyf, d8, g10, d17, (ix23 o19), w18, d31, d43, d55, d63, (ix23 o65), e68, e69, e70, e71, e72, e73, e74, d75, implies_true, Nat.reduceAdd, Nat.reduceMul, Nat.reduceEqDiff, Nat.reduceLeDiff, reduceIte, reduceCtorEq]
                          replace h := kR9 _ h
                          try dsimp only at h
                          obtain rfl := kF _ h
                          refine ret1 Tryz.results108 ?_ ?_
                          · first | (simp only [outV, upd_apply, updH_apply, without_apply, showV_ref, cr, tyf, nrm, tynrm, d8, g10, d17, (ix23 o19), w18, d31, d43, d55, d63, (ix23 o65), e68, e69, e70, e71, e72, e73, e74, d75, implies_true, Nat.reduceAdd, Nat.reduceMul, Nat.reduceEqDiff, Nat.reduceLeDiff, reduceIte, reduceCtorEq]; done) | (simp only [outV, upd_apply, updH_apply, without_apply, showV_ref, cr, tyf, nrm, tynrm, d8, g10, d17, (ix23 o19), w18, d31, d43, d55, d63, (ix23 o65), e68, e69, e70, e71, e72, e73, e74, d75, implies_true, Nat.reduceAdd, Nat.reduceMul, Nat.reduceEqDiff, Nat.reduceLeDiff, reduceIte, reduceCtorEq]; rfl)
                          · simp only [tre, tytre, Bool.and_self]
  · simp only [d8, cond_true, cond_false, lbind_go, lbind_ret, lbind_brk, lbind_none, Option.bind_some, Option.bind_none, Bool.not_true, Bool.not_false, reduceCtorEq] at h
    simp only [vs, cwp_label, ng_normal, ng_ret, ng_exit, cr, tyf, d8, implies_true, Nat.reduceAdd, Nat.reduceMul, Nat.reduceEqDiff, Nat.reduceLeDiff, reduceIte, reduceCtorEq]
    obtain rfl := kF _ h
    refine ret1 Tryz.results108 ?_ ?_
    · first | (simp only [outV, upd_apply, updH_apply, without_apply, showV_ref, cr, tyf, nrm, tynrm, d8, implies_true, Nat.reduceAdd, Nat.reduceMul, Nat.reduceEqDiff, Nat.reduceLeDiff, reduceIte, reduceCtorEq]; done) | (simp only [outV, upd_apply, updH_apply, without_apply, showV_ref, cr, tyf, nrm, tynrm, d8, implies_true, Nat.reduceAdd, Nat.reduceMul, Nat.reduceEqDiff, Nat.reduceLeDiff, reduceIte, reduceCtorEq]; rfl)
    · simp only [tre, tytre, Bool.and_self]

end Go.V
end
