/- Part of the proof of a statement of YtljphegpidbnjaaGreatDoor: a logic of values by content, the lifted functions, and what follows. -/
import Derived.Test.YtljphegpidbnjaaGreatDoorMbf
import Derived.Test.YtljphegpidbnjaaGreatDoorMbi
set_option linter.unusedVariables false
set_option linter.unusedSimpArgs false
set_option linter.unusedSectionVars false
set_option linter.constructorNameAsVariable false
section
namespace Go.V
open Go Go.Proofs
set_option linter.unusedSimpArgs false
set_option linter.unusedVariables false
set_option maxRecDepth 4000
def g_ref01_Fallen_l0 (x1_letter : Int) : List Int → Int → (List Int) → Option (LOut (List Int) ((List Int)))
  | [], c0_6, c0_5 => some (.go c0_5)
  | e0 :: p0, c0_6, c0_5 => cond (c0_6 != x1_letter) (cond (roomOk 8 (List.length (c0_5 ++ [e0]))) (g_ref01_Fallen_l0 x1_letter p0 (c0_6 + 1) (c0_5 ++ [e0])) none) (g_ref01_Fallen_l0 x1_letter p0 (c0_6 + 1) c0_5)
def g_ref01_Fallen (x0_w : GLetterWord) (x1_letter : Int) : Option (List Int) := cond (lenOk x0_w.Signs) (lbind (g_ref01_Fallen_l0 x1_letter x0_w.Signs 0 ([])) (fun r => some r) (fun c5 => some c5) (fun _ _ => none)) none
theorem g_ref01_Fallen_ok (x0_w : GLetterWord) (x1_letter : Int) (R : List Int) (h : g_ref01_Fallen x0_w x1_letter = some R) : VPure Tryz.prog G0 18 [.agg (cGLetterWord x0_w), .lit (.int .i64 x1_letter)] (.tree (.sl (cellsL eI R) (List.length R) false)) := by
  refine VPure.runT mixed Tryz.call18 Tryz.func18 rfl (by simp [Tryz.ntmps18]; kernel_rfl) ?_
  obtain ⟨KF, h, kF, kN⟩ := fun_intro h
  simp only [g_ref01_Fallen] at h
  cases g9 : (lenOk x0_w.Signs)
  · simp only [g9, cond_true, cond_false, lbind_go, lbind_ret, lbind_brk, lbind_none, Option.bind_some, Option.bind_none, Bool.not_true, Bool.not_false, reduceCtorEq] at h
    exact absurd h kN
  simp only [g9, cond_true, cond_false, lbind_go, lbind_ret, lbind_brk, lbind_none, Option.bind_some, Option.bind_none, Bool.not_true, Bool.not_false, reduceCtorEq] at h
  simp only [vs, cwp_label, ng_normal, ng_ret, ng_exit, cr, tyf, g9, implies_true, Nat.reduceAdd, Nat.reduceMul, Nat.reduceEqDiff, Nat.reduceLeDiff, reduceIte, reduceCtorEq]
  obtain ⟨K7, h, kR7, kG7, kB7, kN7⟩ := lbind_intro h kN
  obtain ⟨f7, hf7, h⟩ := call3 h
  obtain ⟨I7, hI7⟩ : ∃ I : Nat → St → Prop, I = (fun m st => ∃ (p7 : List Int) (c7_6 : Int) (c7_5 : List Int), m = List.length p7 ∧ 0 ≤ c7_6 ∧ List.drop (Int.toNat c7_6) x0_w.Signs = p7 ∧ st.df = [] ∧ 1 ≤ st.nx ∧ st.H 0 = some (.cells (some 49) (cGLetterWord x0_w)) ∧ st.tm 1 = .lit (.int .i64 x1_letter) ∧ st.tm 2 = .ptr 0 0 ∧ st.tm 6 = .lit (.int .i64 c7_6) ∧ ((∃ (β : Nat) (el : Option TypeId), st.tm 5 = .ref β 0 (List.length c7_5) 1 (List.length c7_5) ∧ 1 ≤ β ∧ β < st.nx ∧ st.H β = some (.cells el (cellsL eI c7_5))) ∨ (st.tm 5 = .lit (.slice none 0 0) ∧ c7_5 = [])) ∧ K7 (f7 p7 c7_6 c7_5)) := ⟨_, rfl⟩
  refine loopK mixed (by kernel_rfl) I7 (List.length x0_w.Signs) (by rw [hI7]; refine ⟨x0_w.Signs, 0, [], rfl, Int.le_refl _, rfl, rfl, (show 1 ≤ 4 by decide), ?_, ?_, ?_, ?_, (Or.inr ⟨?_, rfl⟩), h⟩ <;> first | (simp only [upd_apply, updH_apply, without_apply, implies_true, Nat.reduceAdd, Nat.reduceMul, Nat.reduceEqDiff, Nat.reduceLeDiff, reduceIte, reduceCtorEq]; done) | (simp only [upd_apply, updH_apply, without_apply, implies_true, Nat.reduceAdd, Nat.reduceMul, Nat.reduceEqDiff, Nat.reduceLeDiff, reduceIte, reduceCtorEq]; rfl) | rfl) ?_
  rintro m ⟨tm, H, nx, df⟩ hinv
  rw [hI7] at hinv
  obtain ⟨p7, c7_6, c7_5, rfl, hi7, hp7, hdf, hn7, H13, e10, e11, e12, ow7, h⟩ := hinv
  simp only at hdf hn7 H13 e10 e11 e12
  have q14 := fresh_ne (n := 0) (B := 1) (by decide) hn7
  subst hdf hf7
  rcases ow7 with ⟨b7, el7, e15, hB7, hlt7, H16⟩ | ⟨e15, rfl⟩
  · simp only at e15 hlt7 H16
    have q17 := own_ne hB7 hlt7
    have q18 := q17.2 0 (by decide)
    cases p7 with
    | nil =>
      have d19 : (decide (c7_6 < (List.length x0_w.Signs : Int))) = false := not_lt_of_drop hi7 hp7
      simp only [g_ref01_Fallen_l0, cond_true, cond_false, lbind_go, lbind_ret, lbind_brk, lbind_none, Option.bind_some, Option.bind_none, Bool.not_true, Bool.not_false, reduceCtorEq] at h
      replace h := kG7 _ h
      try dsimp only at h
      try simp only [cond_true, cond_false, lbind_go, lbind_ret, lbind_brk, lbind_none, Option.bind_some, Option.bind_none, Bool.not_true, Bool.not_false] at h
      simp only [vs, cwp_label, ng_normal, ng_ret, ng_exit, cr, tyf, g9, e10, e11, e12, H13, q14, e15, H16, q17.1, q18, d19, implies_true, Nat.reduceAdd, Nat.reduceMul, Nat.reduceEqDiff, Nat.reduceLeDiff, reduceIte, reduceCtorEq]
      obtain rfl := kF _ h
      refine ret1 Tryz.results18 ?_ ?_
      · first | (simp only [outV, upd_apply, updH_apply, without_apply, showV_ref, cr, tyf, nrm, tynrm, g9, e10, e11, e12, H13, q14, e15, H16, q17.1, q18, d19, implies_true, Nat.reduceAdd, Nat.reduceMul, Nat.reduceEqDiff, Nat.reduceLeDiff, reduceIte, reduceCtorEq]; done) | (simp only [outV, upd_apply, updH_apply, without_apply, showV_ref, cr, tyf, nrm, tynrm, g9, e10, e11, e12, H13, q14, e15, H16, q17.1, q18, d19, implies_true, Nat.reduceAdd, Nat.reduceMul, Nat.reduceEqDiff, Nat.reduceLeDiff, reduceIte, reduceCtorEq]; rfl)
      · simp only [tre, tytre, Bool.and_self]
    | cons e7 p7 =>
      have d20 : (decide (c7_6 < (List.length x0_w.Signs : Int))) = true := lt_of_drop hi7 hp7
      have o22 := getI_of_drop hi7 hp7
      have w21 := wrap_next hi7 hp7 g9
      simp only [g_ref01_Fallen_l0, cond_true, cond_false, lbind_go, lbind_ret, lbind_brk, lbind_none, Option.bind_some, Option.bind_none, Bool.not_true, Bool.not_false, reduceCtorEq] at h
      cases d23 : (c7_6 != x1_letter)
      · simp only [d23, cond_true, cond_false, lbind_go, lbind_ret, lbind_brk, lbind_none, Option.bind_some, Option.bind_none, Bool.not_true, Bool.not_false, reduceCtorEq] at h
        simp only [vs, cwp_label, ng_normal, ng_ret, ng_exit, cr, tyf, g9, e10, e11, e12, H13, q14, e15, H16, q17.1, q18, d20, (ix22 o22), w21, d23, implies_true, Nat.reduceAdd, Nat.reduceMul, Nat.reduceEqDiff, Nat.reduceLeDiff, reduceIte, reduceCtorEq]
        exact ⟨List.length p7, Nat.lt_succ_self _, by rw [hI7]; refine ⟨p7, c7_6 + 1, c7_5, rfl, Int.le_trans hi7 (Int.le_add_one (Int.le_refl _)), drop_next hi7 hp7, rfl, (show 1 ≤ nx + 11 by omega), ?_, e10, e11, ?_, (Or.inl ⟨b7, el7, e15, (show 1 ≤ b7 by omega), (show b7 < nx + 11 by omega), ?_⟩), h⟩ <;> first | (simp only [upd_apply, updH_apply, without_apply, e10, e11, e12, H13, q14, e15, H16, q17.1, q18, d20, w21, d23, implies_true, Nat.reduceAdd, Nat.reduceMul, Nat.reduceEqDiff, Nat.reduceLeDiff, reduceIte, reduceCtorEq]; done) | (simp only [upd_apply, updH_apply, without_apply, e10, e11, e12, H13, q14, e15, H16, q17.1, q18, d20, w21, d23, implies_true, Nat.reduceAdd, Nat.reduceMul, Nat.reduceEqDiff, Nat.reduceLeDiff, reduceIte, reduceCtorEq]; rfl) | rfl⟩
      · simp only [d23, cond_true, cond_false, lbind_go, lbind_ret, lbind_brk, lbind_none, Option.bind_some, Option.bind_none, Bool.not_true, Bool.not_false, reduceCtorEq] at h
        cases g25 : (roomOk 8 (List.length (c7_5 ++ [e7])))
        · simp only [g25, cond_true, cond_false, lbind_go, lbind_ret, lbind_brk, lbind_none, Option.bind_some, Option.bind_none, Bool.not_true, Bool.not_false, reduceCtorEq] at h
          exact absurd h kN7
        simp only [g25, cond_true, cond_false, lbind_go, lbind_ret, lbind_brk, lbind_none, Option.bind_some, Option.bind_none, Bool.not_true, Bool.not_false, reduceCtorEq] at h
        simp only [vs, cwp_label, ng_normal, ng_ret, ng_exit, cr, tyf, g9, e10, e11, e12, H13, q14, e15, H16, q17.1, q18, d20, (ix22 o22), w21, d23, g25, implies_true, Nat.reduceAdd, Nat.reduceMul, Nat.reduceEqDiff, Nat.reduceLeDiff, reduceIte, reduceCtorEq]
        refine k_app (w := 1) (enc := eI) (xs := c7_5) (ys := ([e7])) (el := el7) (el2 := (some 3)) (fun _ => rfl) lf22 ao22 Tryz.underlying22 (by first | rfl | assumption | (simp only [updH_apply, without_apply, et22, H13, q14, H16, q17.1, q18, implies_true, Nat.reduceAdd, Nat.reduceMul, Nat.reduceEqDiff, Nat.reduceLeDiff, reduceIte, reduceCtorEq]; done) | (simp only [updH_apply, without_apply, et22, H13, q14, H16, q17.1, q18, implies_true, Nat.reduceAdd, Nat.reduceMul, Nat.reduceEqDiff, Nat.reduceLeDiff, reduceIte, reduceCtorEq]; rfl)) (by first | rfl | assumption | (simp only [updH_apply, without_apply, et22, H13, q14, H16, q17.1, q18, implies_true, Nat.reduceAdd, Nat.reduceMul, Nat.reduceEqDiff, Nat.reduceLeDiff, reduceIte, reduceCtorEq]; done) | (simp only [updH_apply, without_apply, et22, H13, q14, H16, q17.1, q18, implies_true, Nat.reduceAdd, Nat.reduceMul, Nat.reduceEqDiff, Nat.reduceLeDiff, reduceIte, reduceCtorEq]; rfl)) (Nat.zero_lt_succ _) g25 ?_
        simp only [vs, cwp_label, ng_normal, ng_ret, ng_exit, cr, tyf, g9, e10, e11, e12, H13, q14, e15, H16, q17.1, q18, d20, (ix22 o22), w21, d23, g25, implies_true, Nat.reduceAdd, Nat.reduceMul, Nat.reduceEqDiff, Nat.reduceLeDiff, reduceIte, reduceCtorEq]
        exact ⟨List.length p7, Nat.lt_succ_self _, by rw [hI7]; refine ⟨p7, c7_6 + 1, (c7_5 ++ [e7]), rfl, Int.le_trans hi7 (Int.le_add_one (Int.le_refl _)), drop_next hi7 hp7, rfl, (show 1 ≤ nx + 20 by omega), ?_, e10, e11, ?_, (Or.inl ⟨nx + 15, (sameEl el7 3), ?_, (show 1 ≤ nx + 15 by omega), (show nx + 15 < nx + 20 by omega), ?_⟩), h⟩ <;> first | (simp only [upd_apply, updH_apply, without_apply, e10, e11, e12, H13, q14, e15, H16, q17.1, q18, d20, w21, d23, implies_true, Nat.reduceAdd, Nat.reduceMul, Nat.reduceEqDiff, Nat.reduceLeDiff, reduceIte, reduceCtorEq]; done) | (simp only [upd_apply, updH_apply, without_apply, e10, e11, e12, H13, q14, e15, H16, q17.1, q18, d20, w21, d23, implies_true, Nat.reduceAdd, Nat.reduceMul, Nat.reduceEqDiff, Nat.reduceLeDiff, reduceIte, reduceCtorEq]; rfl) | rfl⟩
  · simp only at e15
    cases p7 with
    | nil =>
      have d27 : (decide (c7_6 < (List.length x0_w.Signs : Int))) = false := not_lt_of_drop hi7 hp7
      simp only [g_ref01_Fallen_l0, cond_true, cond_false, lbind_go, lbind_ret, lbind_brk, lbind_none, Option.bind_some, Option.bind_none, Bool.not_true, Bool.not_false, reduceCtorEq] at h
      replace h := kG7 _ h
      try dsimp only at h
      try simp only [cond_true, cond_false, lbind_go, lbind_ret, lbind_brk, lbind_none, Option.bind_some, Option.bind_none, Bool.not_true, Bool.not_false] at h
      simp only [vs, cwp_label, ng_normal, ng_ret, ng_exit, cr, tyf, g9, e10, e11, e12, H13, q14, e15, d27, implies_true, Nat.reduceAdd, Nat.reduceMul, Nat.reduceEqDiff, Nat.reduceLeDiff, reduceIte, reduceCtorEq]
      obtain rfl := kF _ h
      refine ret1 Tryz.results18 ?_ ?_
      · first | (simp only [outV, upd_apply, updH_apply, without_apply, showV_ref, cr, tyf, nrm, tynrm, g9, e10, e11, e12, H13, q14, e15, d27, implies_true, Nat.reduceAdd, Nat.reduceMul, Nat.reduceEqDiff, Nat.reduceLeDiff, reduceIte, reduceCtorEq]; done) | (simp only [outV, upd_apply, updH_apply, without_apply, showV_ref, cr, tyf, nrm, tynrm, g9, e10, e11, e12, H13, q14, e15, d27, implies_true, Nat.reduceAdd, Nat.reduceMul, Nat.reduceEqDiff, Nat.reduceLeDiff, reduceIte, reduceCtorEq]; rfl)
      · simp only [tre, tytre, Bool.and_self]
    | cons e7 p7 =>
      have d28 : (decide (c7_6 < (List.length x0_w.Signs : Int))) = true := lt_of_drop hi7 hp7
      have o30 := getI_of_drop hi7 hp7
      have w29 := wrap_next hi7 hp7 g9
      simp only [g_ref01_Fallen_l0, cond_true, cond_false, lbind_go, lbind_ret, lbind_brk, lbind_none, Option.bind_some, Option.bind_none, Bool.not_true, Bool.not_false, reduceCtorEq] at h
      cases d31 : (c7_6 != x1_letter)
      · simp only [d31, cond_true, cond_false, lbind_go, lbind_ret, lbind_brk, lbind_none, Option.bind_some, Option.bind_none, Bool.not_true, Bool.not_false, reduceCtorEq] at h
        simp only [vs, cwp_label, ng_normal, ng_ret, ng_exit, cr, tyf, g9, e10, e11, e12, H13, q14, e15, d28, (ix22 o30), w29, d31, implies_true, Nat.reduceAdd, Nat.reduceMul, Nat.reduceEqDiff, Nat.reduceLeDiff, reduceIte, reduceCtorEq]
        exact ⟨List.length p7, Nat.lt_succ_self _, by rw [hI7]; refine ⟨p7, c7_6 + 1, [], rfl, Int.le_trans hi7 (Int.le_add_one (Int.le_refl _)), drop_next hi7 hp7, rfl, (show 1 ≤ nx + 11 by omega), ?_, e10, e11, ?_, (Or.inr ⟨e15, rfl⟩), h⟩ <;> first | (simp only [upd_apply, updH_apply, without_apply, e10, e11, e12, H13, q14, e15, d28, w29, d31, implies_true, Nat.reduceAdd, Nat.reduceMul, Nat.reduceEqDiff, Nat.reduceLeDiff, reduceIte, reduceCtorEq]; done) | (simp only [upd_apply, updH_apply, without_apply, e10, e11, e12, H13, q14, e15, d28, w29, d31, implies_true, Nat.reduceAdd, Nat.reduceMul, Nat.reduceEqDiff, Nat.reduceLeDiff, reduceIte, reduceCtorEq]; rfl) | rfl⟩
      · simp only [d31, cond_true, cond_false, lbind_go, lbind_ret, lbind_brk, lbind_none, Option.bind_some, Option.bind_none, Bool.not_true, Bool.not_false, reduceCtorEq] at h
        cases g33 : (roomOk 8 (List.length ([] ++ [e7])))
        · simp only [g33, cond_true, cond_false, lbind_go, lbind_ret, lbind_brk, lbind_none, Option.bind_some, Option.bind_none, Bool.not_true, Bool.not_false, reduceCtorEq] at h
          exact absurd h kN7
        simp only [g33, cond_true, cond_false, lbind_go, lbind_ret, lbind_brk, lbind_none, Option.bind_some, Option.bind_none, Bool.not_true, Bool.not_false, reduceCtorEq] at h
        simp only [vs, cwp_label, ng_normal, ng_ret, ng_exit, cr, tyf, g9, e10, e11, e12, H13, q14, e15, d28, (ix22 o30), w29, d31, g33, implies_true, Nat.reduceAdd, Nat.reduceMul, Nat.reduceEqDiff, Nat.reduceLeDiff, reduceIte, reduceCtorEq]
        refine k_appN (w := 1) (enc := eI) (ys := ([e7])) (el2 := (some 3)) (fun _ => rfl) lf22 ao22 Tryz.underlying22 (by first | rfl | assumption | (simp only [updH_apply, without_apply, et22, H13, q14, implies_true, Nat.reduceAdd, Nat.reduceMul, Nat.reduceEqDiff, Nat.reduceLeDiff, reduceIte, reduceCtorEq]; done) | (simp only [updH_apply, without_apply, et22, H13, q14, implies_true, Nat.reduceAdd, Nat.reduceMul, Nat.reduceEqDiff, Nat.reduceLeDiff, reduceIte, reduceCtorEq]; rfl)) (Nat.zero_lt_succ _) g33 ?_
        simp only [vs, cwp_label, ng_normal, ng_ret, ng_exit, cr, tyf, g9, e10, e11, e12, H13, q14, e15, d28, (ix22 o30), w29, d31, g33, implies_true, Nat.reduceAdd, Nat.reduceMul, Nat.reduceEqDiff, Nat.reduceLeDiff, reduceIte, reduceCtorEq]
        exact ⟨List.length p7, Nat.lt_succ_self _, by rw [hI7]; refine ⟨p7, c7_6 + 1, ([] ++ [e7]), rfl, Int.le_trans hi7 (Int.le_add_one (Int.le_refl _)), drop_next hi7 hp7, rfl, (show 1 ≤ nx + 20 by omega), ?_, e10, e11, ?_, (Or.inl ⟨nx + 15, (some 3), ?_, (show 1 ≤ nx + 15 by omega), (show nx + 15 < nx + 20 by omega), ?_⟩), h⟩ <;> first | (simp only [upd_apply, updH_apply, without_apply, e10, e11, e12, H13, q14, e15, d28, w29, d31, implies_true, Nat.reduceAdd, Nat.reduceMul, Nat.reduceEqDiff, Nat.reduceLeDiff, reduceIte, reduceCtorEq]; done) | (simp only [upd_apply, updH_apply, without_apply, e10, e11, e12, H13, q14, e15, d28, w29, d31, implies_true, Nat.reduceAdd, Nat.reduceMul, Nat.reduceEqDiff, Nat.reduceLeDiff, reduceIte, reduceCtorEq]; rfl) | rfl⟩

end Go.V
end
section
namespace Go.V
open Go Go.Proofs
set_option linter.unusedSimpArgs false
set_option linter.unusedVariables false
set_option maxRecDepth 4000
def g_ref01_mistaken_l1 (x0_a : GLetterWord) (x1_b : GLetterWord) (c0_5 : Int) : Nat → Int → Option (LOut (Bool) (Unit))
  | 0, c1_6 => some (.go ())
  | k1 + 1, c1_6 => Option.bind (g_ref01_Fallen x0_a c0_5) (fun r3 => cond (decide ((List.length r3 : Int) > 0)) (Option.bind (g_ref01_Fallen x1_b c1_6) (fun r4 => Option.bind (g_ref01_Same r3 r4) (fun r5 => cond (r5) (some (.ret true)) (g_ref01_mistaken_l1 x0_a x1_b c0_5 k1 (c1_6 + 1))))) (g_ref01_mistaken_l1 x0_a x1_b c0_5 k1 (c1_6 + 1)))
def g_ref01_mistaken_l0 (x0_a : GLetterWord) (x1_b : GLetterWord) : Nat → Int → Option (LOut (Bool) (Unit))
  | 0, c0_5 => some (.go ())
  | k0 + 1, c0_5 => cond (boundOk (List.length x1_b.Signs : Int)) (lbind (g_ref01_mistaken_l1 x0_a x1_b c0_5 (Int.toNat ((List.length x1_b.Signs : Int) - (-1))) (-1)) (fun r => some (.ret r)) (fun c6 => g_ref01_mistaken_l0 x0_a x1_b k0 (c0_5 + 1)) (fun _ _ => none)) none
def g_ref01_mistaken (x0_a : GLetterWord) (x1_b : GLetterWord) : Option (Bool) := cond (boundOk (List.length x0_a.Signs : Int)) (lbind (g_ref01_mistaken_l0 x0_a x1_b (Int.toNat ((List.length x0_a.Signs : Int) - (-1))) (-1)) (fun r => some r) (fun c7 => some false) (fun _ _ => none)) none
theorem g_ref01_mistaken_ok (x0_a : GLetterWord) (x1_b : GLetterWord) (R : Bool) (h : g_ref01_mistaken x0_a x1_b = some R) : VPure Tryz.prog G0 55 [.agg (cGLetterWord x0_a), .agg (cGLetterWord x1_b)] (.tree (.lit (.bool R))) := by
  refine VPure.runT mixed Tryz.call55 Tryz.func55 rfl (by simp [Tryz.ntmps55]; kernel_rfl) ?_
  obtain ⟨KF, h, kF, kN⟩ := fun_intro h
  simp only [g_ref01_mistaken] at h
  cases g11 : (boundOk (List.length x0_a.Signs : Int))
  · simp only [g11, cond_true, cond_false, lbind_go, lbind_ret, lbind_brk, lbind_none, Option.bind_some, Option.bind_none, Bool.not_true, Bool.not_false, reduceCtorEq] at h
    exact absurd h kN
  simp only [g11, cond_true, cond_false, lbind_go, lbind_ret, lbind_brk, lbind_none, Option.bind_some, Option.bind_none, Bool.not_true, Bool.not_false, reduceCtorEq] at h
  simp only [vs, cwp_label, ng_normal, ng_ret, ng_exit, cr, tyf, g11, implies_true, Nat.reduceAdd, Nat.reduceMul, Nat.reduceEqDiff, Nat.reduceLeDiff, reduceIte, reduceCtorEq]
  obtain ⟨K10, h, kR10, kG10, kB10, kN10⟩ := lbind_intro h kN
  obtain ⟨f10, hf10, h⟩ := call2 h
  obtain ⟨I10, hI10⟩ : ∃ I : Nat → St → Prop, I = (fun m st => ∃ (p10 : Nat) (c10_5 : Int), p10 = m ∧ loOk c10_5 = true ∧ Int.toNat ((List.length x0_a.Signs : Int) - c10_5) = p10 ∧ st.df = [] ∧ 2 ≤ st.nx ∧ st.H 0 = some (.cells (some 49) (cGLetterWord x0_a)) ∧ st.H 1 = some (.cells (some 49) (cGLetterWord x1_b)) ∧ st.tm 2 = .ptr 0 0 ∧ st.tm 3 = .ptr 1 0 ∧ st.tm 5 = .lit (.int .i64 c10_5) ∧ K10 (f10 p10 c10_5)) := ⟨_, rfl⟩
  refine loopK mixed (by kernel_rfl) I10 (Int.toNat ((List.length x0_a.Signs : Int) - (-1))) (by rw [hI10]; refine ⟨Int.toNat ((List.length x0_a.Signs : Int) - (-1)), (-1), rfl, (by rfl), rfl, rfl, (show 2 ≤ 4 by decide), ?_, ?_, ?_, ?_, ?_, h⟩ <;> first | (simp only [upd_apply, updH_apply, without_apply, implies_true, Nat.reduceAdd, Nat.reduceMul, Nat.reduceEqDiff, Nat.reduceLeDiff, reduceIte, reduceCtorEq]; done) | (simp only [upd_apply, updH_apply, without_apply, implies_true, Nat.reduceAdd, Nat.reduceMul, Nat.reduceEqDiff, Nat.reduceLeDiff, reduceIte, reduceCtorEq]; rfl) | rfl) ?_
  rintro m ⟨tm, H, nx, df⟩ hinv
  rw [hI10] at hinv
  obtain ⟨p10, c10_5, rfl, hi10, hp10, hdf, hn10, H15, H16, e12, e13, e14, h⟩ := hinv
  simp only at hdf hn10 H15 H16 e12 e13 e14
  have q17 := fresh_ne (n := 0) (B := 2) (by decide) hn10
  have q18 := fresh_ne (n := 1) (B := 2) (by decide) hn10
  subst hdf hf10
  cases p10 with
  | zero =>
    have d19 : (decide (c10_5 < (List.length x0_a.Signs : Int))) = false := cnt_not_lt hp10
    simp only [g_ref01_mistaken_l0, cond_true, cond_false, lbind_go, lbind_ret, lbind_brk, lbind_none, Option.bind_some, Option.bind_none, Bool.not_true, Bool.not_false, reduceCtorEq] at h
    replace h := kG10 _ h
    try dsimp only at h
    try simp only [cond_true, cond_false, lbind_go, lbind_ret, lbind_brk, lbind_none, Option.bind_some, Option.bind_none, Bool.not_true, Bool.not_false] at h
    simp only [vs, cwp_label, ng_normal, ng_ret, ng_exit, cr, tyf, g11, e12, e13, e14, H15, H16, q17, q18, d19, implies_true, Nat.reduceAdd, Nat.reduceMul, Nat.reduceEqDiff, Nat.reduceLeDiff, reduceIte, reduceCtorEq]
    obtain rfl := kF _ h
    refine ret1 Tryz.results55 ?_ ?_
    · first | (simp only [outV, upd_apply, updH_apply, without_apply, showV_ref, cr, tyf, nrm, tynrm, g11, e12, e13, e14, H15, H16, q17, q18, d19, implies_true, Nat.reduceAdd, Nat.reduceMul, Nat.reduceEqDiff, Nat.reduceLeDiff, reduceIte, reduceCtorEq]; done) | (simp only [outV, upd_apply, updH_apply, without_apply, showV_ref, cr, tyf, nrm, tynrm, g11, e12, e13, e14, H15, H16, q17, q18, d19, implies_true, Nat.reduceAdd, Nat.reduceMul, Nat.reduceEqDiff, Nat.reduceLeDiff, reduceIte, reduceCtorEq]; rfl)
    · simp only [tre, tytre, Bool.and_self]
  | succ p10 =>
    have d20 : (decide (c10_5 < (List.length x0_a.Signs : Int))) = true := cnt_lt hp10
    have w21 := cnt_wrap hi10 hp10 g11
    simp only [g_ref01_mistaken_l0, cond_true, cond_false, lbind_go, lbind_ret, lbind_brk, lbind_none, Option.bind_some, Option.bind_none, Bool.not_true, Bool.not_false, reduceCtorEq] at h
    cases g23 : (boundOk (List.length x1_b.Signs : Int))
    · simp only [g23, cond_true, cond_false, lbind_go, lbind_ret, lbind_brk, lbind_none, Option.bind_some, Option.bind_none, Bool.not_true, Bool.not_false, reduceCtorEq] at h
      exact absurd h kN10
    simp only [g23, cond_true, cond_false, lbind_go, lbind_ret, lbind_brk, lbind_none, Option.bind_some, Option.bind_none, Bool.not_true, Bool.not_false, reduceCtorEq] at h
    simp only [vs, cwp_label, ng_normal, ng_ret, ng_exit, cr, tyf, g11, e12, e13, e14, H15, H16, q17, q18, d20, w21, g23, implies_true, Nat.reduceAdd, Nat.reduceMul, Nat.reduceEqDiff, Nat.reduceLeDiff, reduceIte, reduceCtorEq]
    obtain ⟨K22, h, kR22, kG22, kB22, kN22⟩ := lbind_intro h kN10
    obtain ⟨f22, hf22, h⟩ := call2 h
    obtain ⟨I22, hI22⟩ : ∃ I : Nat → St → Prop, I = (fun m st => ∃ (p22 : Nat) (c22_6 : Int), p22 = m ∧ loOk c22_6 = true ∧ Int.toNat ((List.length x1_b.Signs : Int) - c22_6) = p22 ∧ st.df = [] ∧ 2 ≤ st.nx ∧ st.H 0 = some (.cells (some 49) (cGLetterWord x0_a)) ∧ st.H 1 = some (.cells (some 49) (cGLetterWord x1_b)) ∧ st.tm 2 = .ptr 0 0 ∧ st.tm 3 = .ptr 1 0 ∧ st.tm 5 = .lit (.int .i64 c10_5) ∧ st.tm 6 = .lit (.int .i64 c22_6) ∧ K22 (f22 p22 c22_6)) := ⟨_, rfl⟩
    refine loopK mixed (by kernel_rfl) I22 (Int.toNat ((List.length x1_b.Signs : Int) - (-1))) (by rw [hI22]; refine ⟨Int.toNat ((List.length x1_b.Signs : Int) - (-1)), (-1), rfl, (by rfl), rfl, rfl, (show 2 ≤ nx + 6 by omega), ?_, ?_, e12, e13, e14, ?_, h⟩ <;> first | (simp only [upd_apply, updH_apply, without_apply, e12, e13, e14, H15, H16, q17, q18, d20, w21, implies_true, Nat.reduceAdd, Nat.reduceMul, Nat.reduceEqDiff, Nat.reduceLeDiff, reduceIte, reduceCtorEq]; done) | (simp only [upd_apply, updH_apply, without_apply, e12, e13, e14, H15, H16, q17, q18, d20, w21, implies_true, Nat.reduceAdd, Nat.reduceMul, Nat.reduceEqDiff, Nat.reduceLeDiff, reduceIte, reduceCtorEq]; rfl) | rfl) ?_
    rintro m ⟨tm, H, nx, df⟩ hinv
    rw [hI22] at hinv
    obtain ⟨p22, c22_6, rfl, hi22, hp22, hdf, hn22, H28, H29, e24, e25, e26, e27, h⟩ := hinv
    simp only at hdf hn22 H28 H29 e24 e25 e26 e27
    have q30 := fresh_ne (n := 0) (B := 2) (by decide) hn22
    have q31 := fresh_ne (n := 1) (B := 2) (by decide) hn22
    subst hdf hf22
    cases p22 with
    | zero =>
      have d32 : (decide (c22_6 < (List.length x1_b.Signs : Int))) = false := cnt_not_lt hp22
      simp only [g_ref01_mistaken_l1, cond_true, cond_false, lbind_go, lbind_ret, lbind_brk, lbind_none, Option.bind_some, Option.bind_none, Bool.not_true, Bool.not_false, reduceCtorEq] at h
      replace h := kG22 _ h
      try dsimp only at h
      try simp only [cond_true, cond_false, lbind_go, lbind_ret, lbind_brk, lbind_none, Option.bind_some, Option.bind_none, Bool.not_true, Bool.not_false] at h
      simp only [vs, cwp_label, ng_normal, ng_ret, ng_exit, cr, tyf, g11, d20, w21, g23, e24, e25, e26, e27, H28, H29, q30, q31, d32, implies_true, Nat.reduceAdd, Nat.reduceMul, Nat.reduceEqDiff, Nat.reduceLeDiff, reduceIte, reduceCtorEq]
      exact ⟨p10, Nat.lt_succ_self _, by rw [hI10]; refine ⟨p10, c10_5 + 1, rfl, cnt_lo hi10, cnt_next hp10, rfl, (show 2 ≤ nx + 8 by omega), ?_, ?_, e24, e25, ?_, h⟩ <;> first | (simp only [upd_apply, updH_apply, without_apply, d20, w21, e24, e25, e26, e27, H28, H29, q30, q31, d32, implies_true, Nat.reduceAdd, Nat.reduceMul, Nat.reduceEqDiff, Nat.reduceLeDiff, reduceIte, reduceCtorEq]; done) | (simp only [upd_apply, updH_apply, without_apply, d20, w21, e24, e25, e26, e27, H28, H29, q30, q31, d32, implies_true, Nat.reduceAdd, Nat.reduceMul, Nat.reduceEqDiff, Nat.reduceLeDiff, reduceIte, reduceCtorEq]; rfl) | rfl⟩
    | succ p22 =>
      have d33 : (decide (c22_6 < (List.length x1_b.Signs : Int))) = true := cnt_lt hp22
      have w34 := cnt_wrap hi22 hp22 g23
      simp only [g_ref01_mistaken_l1, cond_true, cond_false, lbind_go, lbind_ret, lbind_brk, lbind_none, Option.bind_some, Option.bind_none, Bool.not_true, Bool.not_false, reduceCtorEq] at h
      cases o36 : (g_ref01_Fallen x0_a c10_5) with
      | none =>
        simp only [o36, cond_true, cond_false, lbind_go, lbind_ret, lbind_brk, lbind_none, Option.bind_some, Option.bind_none, Bool.not_true, Bool.not_false, reduceCtorEq] at h
        exact absurd h kN22
      | some r35 =>
        simp only [o36, cond_true, cond_false, lbind_go, lbind_ret, lbind_brk, lbind_none, Option.bind_some, Option.bind_none, Bool.not_true, Bool.not_false, reduceCtorEq] at h
        simp only [vs, cwp_label, ng_normal, ng_ret, ng_exit, cr, tyf, g11, d20, w21, g23, e24, e25, e26, e27, H28, H29, q30, q31, d33, w34, implies_true, Nat.reduceAdd, Nat.reduceMul, Nat.reduceEqDiff, Nat.reduceLeDiff, reduceIte, reduceCtorEq]
        refine ktree (args0 := [.agg (cGLetterWord x0_a), .lit (.int .i64 c10_5)]) (by first | (simp only [nrm, tynrm]; done) | (simp only [nrm, tynrm]; rfl) | rfl) (by simp only [tre, tytre, Bool.and_self]) (g_ref01_Fallen_ok _ _ _ o36) ?_
        refine fin_cut (fun tm => tm 2 = .ptr 0 0 ∧ tm 3 = .ptr 1 0 ∧ tm 5 = .lit (.int .i64 c10_5) ∧ tm 6 = .lit (.int .i64 c22_6) ∧ tm 24 = .sl (cellsL eI r35) (List.length r35) false ∧ True) (by refine ⟨e24, e25, e26, e27, ?_, trivial⟩ <;> first | (simp only [upd_apply, updH_apply, without_apply, d20, w21, e24, e25, e26, e27, H28, H29, q30, q31, d33, w34, implies_true, Nat.reduceAdd, Nat.reduceMul, Nat.reduceEqDiff, Nat.reduceLeDiff, reduceIte, reduceCtorEq]; done) | (simp only [upd_apply, updH_apply, without_apply, d20, w21, e24, e25, e26, e27, H28, H29, q30, q31, d33, w34, implies_true, Nat.reduceAdd, Nat.reduceMul, Nat.reduceEqDiff, Nat.reduceLeDiff, reduceIte, reduceCtorEq]; rfl) | rfl) ?_
        rintro tm ⟨e37, e38, e39, e40, e41, _⟩
        cases d42 : (decide ((List.length r35 : Int) > 0))
        · simp only [d42, cond_true, cond_false, lbind_go, lbind_ret, lbind_brk, lbind_none, Option.bind_some, Option.bind_none, Bool.not_true, Bool.not_false, reduceCtorEq] at h
          simp only [vs, cwp_label, ng_normal, ng_ret, ng_exit, cr, tyf, g11, d20, w21, g23, H28, H29, q30, q31, d33, w34, e37, e38, e39, e40, e41, d42, implies_true, Nat.reduceAdd, Nat.reduceMul, Nat.reduceEqDiff, Nat.reduceLeDiff, reduceIte, reduceCtorEq]
          exact ⟨p22, Nat.lt_succ_self _, by rw [hI22]; refine ⟨p22, c22_6 + 1, rfl, cnt_lo hi22, cnt_next hp22, rfl, (show 2 ≤ nx + 22 by omega), ?_, ?_, e37, e38, e39, ?_, h⟩ <;> first | (simp only [upd_apply, updH_apply, without_apply, d20, w21, H28, H29, q30, q31, d33, w34, e37, e38, e39, e40, e41, d42, implies_true, Nat.reduceAdd, Nat.reduceMul, Nat.reduceEqDiff, Nat.reduceLeDiff, reduceIte, reduceCtorEq]; done) | (simp only [upd_apply, updH_apply, without_apply, d20, w21, H28, H29, q30, q31, d33, w34, e37, e38, e39, e40, e41, d42, implies_true, Nat.reduceAdd, Nat.reduceMul, Nat.reduceEqDiff, Nat.reduceLeDiff, reduceIte, reduceCtorEq]; rfl) | rfl⟩
        · simp only [d42, cond_true, cond_false, lbind_go, lbind_ret, lbind_brk, lbind_none, Option.bind_some, Option.bind_none, Bool.not_true, Bool.not_false, reduceCtorEq] at h
          cases o44 : (g_ref01_Fallen x1_b c22_6) with
          | none =>
            simp only [o44, cond_true, cond_false, lbind_go, lbind_ret, lbind_brk, lbind_none, Option.bind_some, Option.bind_none, Bool.not_true, Bool.not_false, reduceCtorEq] at h
            exact absurd h kN22
          | some r43 =>
            simp only [o44, cond_true, cond_false, lbind_go, lbind_ret, lbind_brk, lbind_none, Option.bind_some, Option.bind_none, Bool.not_true, Bool.not_false, reduceCtorEq] at h
            simp only [vs, cwp_label, ng_normal, ng_ret, ng_exit, cr, tyf, g11, d20, w21, g23, H28, H29, q30, q31, d33, w34, e37, e38, e39, e40, e41, d42, implies_true, Nat.reduceAdd, Nat.reduceMul, Nat.reduceEqDiff, Nat.reduceLeDiff, reduceIte, reduceCtorEq]
            refine ktree (args0 := [.agg (cGLetterWord x1_b), .lit (.int .i64 c22_6)]) (by first | (simp only [nrm, tynrm]; done) | (simp only [nrm, tynrm]; rfl) | rfl) (by simp only [tre, tytre, Bool.and_self]) (g_ref01_Fallen_ok _ _ _ o44) ?_
            refine fin_cut (fun tm => tm 2 = .ptr 0 0 ∧ tm 3 = .ptr 1 0 ∧ tm 5 = .lit (.int .i64 c10_5) ∧ tm 6 = .lit (.int .i64 c22_6) ∧ tm 28 = .lit (.bool true) ∧ tm 29 = .sl (cellsL eI r35) (List.length r35) false ∧ tm 32 = .sl (cellsL eI r43) (List.length r43) false ∧ True) (by refine ⟨e37, e38, e39, e40, ?_, ?_, ?_, trivial⟩ <;> first | (simp only [upd_apply, updH_apply, without_apply, d20, w21, H28, H29, q30, q31, d33, w34, e37, e38, e39, e40, e41, d42, implies_true, Nat.reduceAdd, Nat.reduceMul, Nat.reduceEqDiff, Nat.reduceLeDiff, reduceIte, reduceCtorEq]; done) | (simp only [upd_apply, updH_apply, without_apply, d20, w21, H28, H29, q30, q31, d33, w34, e37, e38, e39, e40, e41, d42, implies_true, Nat.reduceAdd, Nat.reduceMul, Nat.reduceEqDiff, Nat.reduceLeDiff, reduceIte, reduceCtorEq]; rfl) | rfl) ?_
            rintro tm ⟨e45, e46, e47, e48, e49, e50, e51, _⟩
            cases o53 : (g_ref01_Same r35 r43) with
            | none =>
              simp only [o53, cond_true, cond_false, lbind_go, lbind_ret, lbind_brk, lbind_none, Option.bind_some, Option.bind_none, Bool.not_true, Bool.not_false, reduceCtorEq] at h
              exact absurd h kN22
            | some r52 =>
              simp only [o53, cond_true, cond_false, lbind_go, lbind_ret, lbind_brk, lbind_none, Option.bind_some, Option.bind_none, Bool.not_true, Bool.not_false, reduceCtorEq] at h
              simp only [vs, cwp_label, ng_normal, ng_ret, ng_exit, cr, tyf, g11, d20, w21, g23, H28, H29, q30, q31, d33, w34, d42, e45, e46, e47, e48, e49, e50, e51, implies_true, Nat.reduceAdd, Nat.reduceMul, Nat.reduceEqDiff, Nat.reduceLeDiff, reduceIte, reduceCtorEq]
              refine ktree (args0 := [.sl (cellsL eI r35) (List.length r35) false, .sl (cellsL eI r43) (List.length r43) false]) (by first | (simp only [nrm, tynrm]; done) | (simp only [nrm, tynrm]; rfl) | rfl) (by simp only [tre, tytre, Bool.and_self]) (g_ref01_Same_ok _ _ _ o53) ?_
              refine fin_cut (fun tm => tm 2 = .ptr 0 0 ∧ tm 3 = .ptr 1 0 ∧ tm 5 = .lit (.int .i64 c10_5) ∧ tm 6 = .lit (.int .i64 c22_6) ∧ tm 28 = .lit (.bool true) ∧ tm 33 = .lit (.bool r52) ∧ True) (by refine ⟨e45, e46, e47, e48, e49, ?_, trivial⟩ <;> first | (simp only [upd_apply, updH_apply, without_apply, d20, w21, H28, H29, q30, q31, d33, w34, d42, e45, e46, e47, e48, e49, e50, e51, implies_true, Nat.reduceAdd, Nat.reduceMul, Nat.reduceEqDiff, Nat.reduceLeDiff, reduceIte, reduceCtorEq]; done) | (simp only [upd_apply, updH_apply, without_apply, d20, w21, H28, H29, q30, q31, d33, w34, d42, e45, e46, e47, e48, e49, e50, e51, implies_true, Nat.reduceAdd, Nat.reduceMul, Nat.reduceEqDiff, Nat.reduceLeDiff, reduceIte, reduceCtorEq]; rfl) | rfl) ?_
              rintro tm ⟨e54, e55, e56, e57, e58, e59, _⟩
              cases d60 : (r52)
              · simp only [d60, cond_true, cond_false, lbind_go, lbind_ret, lbind_brk, lbind_none, Option.bind_some, Option.bind_none, Bool.not_true, Bool.not_false, reduceCtorEq] at h
                simp only [vs, cwp_label, ng_normal, ng_ret, ng_exit, cr, tyf, g11, d20, w21, g23, H28, H29, q30, q31, d33, w34, d42, e54, e55, e56, e57, e58, e59, d60, implies_true, Nat.reduceAdd, Nat.reduceMul, Nat.reduceEqDiff, Nat.reduceLeDiff, reduceIte, reduceCtorEq]
                exact ⟨p22, Nat.lt_succ_self _, by rw [hI22]; refine ⟨p22, c22_6 + 1, rfl, cnt_lo hi22, cnt_next hp22, rfl, (show 2 ≤ nx + 22 by omega), ?_, ?_, e54, e55, e56, ?_, h⟩ <;> first | (simp only [upd_apply, updH_apply, without_apply, d20, w21, H28, H29, q30, q31, d33, w34, d42, e54, e55, e56, e57, e58, e59, d60, implies_true, Nat.reduceAdd, Nat.reduceMul, Nat.reduceEqDiff, Nat.reduceLeDiff, reduceIte, reduceCtorEq]; done) | (simp only [upd_apply, updH_apply, without_apply, d20, w21, H28, H29, q30, q31, d33, w34, d42, e54, e55, e56, e57, e58, e59, d60, implies_true, Nat.reduceAdd, Nat.reduceMul, Nat.reduceEqDiff, Nat.reduceLeDiff, reduceIte, reduceCtorEq]; rfl) | rfl⟩
              · simp only [d60, cond_true, cond_false, lbind_go, lbind_ret, lbind_brk, lbind_none, Option.bind_some, Option.bind_none, Bool.not_true, Bool.not_false, reduceCtorEq] at h
                simp only [vs, cwp_label, ng_normal, ng_ret, ng_exit, cr, tyf, g11, d20, w21, g23, H28, H29, q30, q31, d33, w34, d42, e54, e55, e56, e57, e58, e59, d60, implies_true, Nat.reduceAdd, Nat.reduceMul, Nat.reduceEqDiff, Nat.reduceLeDiff, reduceIte, reduceCtorEq]
                replace h := kR22 _ h
                try dsimp only at h
                replace h := kR10 _ h
                try dsimp only at h
                obtain rfl := kF _ h
                refine ret1 Tryz.results55 ?_ ?_
                · first | (simp only [outV, upd_apply, updH_apply, without_apply, showV_ref, cr, tyf, nrm, tynrm, g11, d20, w21, g23, H28, H29, q30, q31, d33, w34, d42, e54, e55, e56, e57, e58, e59, d60, implies_true, Nat.reduceAdd, Nat.reduceMul, Nat.reduceEqDiff, Nat.reduceLeDiff, reduceIte, reduceCtorEq]; done) | (simp only [outV, upd_apply, updH_apply, without_apply, showV_ref, cr, tyf, nrm, tynrm, g11, d20, w21, g23, H28, H29, q30, q31, d33, w34, d42, e54, e55, e56, e57, e58, e59, d60, implies_true, Nat.reduceAdd, Nat.reduceMul, Nat.reduceEqDiff, Nat.reduceLeDiff, reduceIte, reduceCtorEq]; rfl)
                · simp only [tre, tytre, Bool.and_self]

end Go.V
end
section
namespace Go.V
open Go Go.Proofs
set_option linter.unusedSimpArgs false
set_option linter.unusedVariables false
set_option maxRecDepth 4000
def g_ref01_Alike_l1 (c0_5 : Int) (e0 : GLetterWord) : List GLetterWord → Int → Option (LOut (Int × Int × Bool) (Unit))
  | [], c1_6 => some (.go ())
  | e1 :: p1, c1_6 => Option.bind (g_ref01_mistaken e0 e1) (fun r2 => cond (r2) (some (.ret (c0_5, c1_6, true))) (g_ref01_Alike_l1 c0_5 e0 p1 (c1_6 + 1)))
def g_ref01_Alike_l0 (x0_s : GLetterSheet) : List GLetterWord → Int → Option (LOut (Int × Int × Bool) (Unit))
  | [], c0_5 => some (.go ())
  | e0 :: p0, c0_5 => cond (lenOk x0_s.Words) (cond (leB 0 (IntKind.i64.wrap (c0_5 + 1))) (lbind (g_ref01_Alike_l1 c0_5 e0 (List.drop (Int.toNat (IntKind.i64.wrap (c0_5 + 1))) x0_s.Words) (IntKind.i64.wrap (c0_5 + 1))) (fun r => some (.ret r)) (fun c3 => g_ref01_Alike_l0 x0_s p0 (c0_5 + 1)) (fun _ _ => none)) none) none
def g_ref01_Alike (x0_s : GLetterSheet) : Option (Int × Int × Bool) := cond (lenOk x0_s.Words) (lbind (g_ref01_Alike_l0 x0_s x0_s.Words 0) (fun r => some r) (fun c4 => some (0, 0, false)) (fun _ _ => none)) none
theorem g_ref01_Alike_ok (x0_s : GLetterSheet) (R : Int × Int × Bool) (h : g_ref01_Alike x0_s = some R) : VPure Tryz.prog G0 17 [.agg (cGLetterSheet x0_s)] (.tree (.tup [.lit (.int .i64 R.1), .lit (.int .i64 R.2.1), .lit (.bool R.2.2)])) := by
  refine VPure.runT mixed Tryz.call17 Tryz.func17 rfl (by simp [Tryz.ntmps17]; kernel_rfl) ?_
  obtain ⟨KF, h, kF, kN⟩ := fun_intro h
  simp only [g_ref01_Alike] at h
  cases g7 : (lenOk x0_s.Words)
  · simp only [g7, cond_true, cond_false, lbind_go, lbind_ret, lbind_brk, lbind_none, Option.bind_some, Option.bind_none, Bool.not_true, Bool.not_false, reduceCtorEq] at h
    exact absurd h kN
  simp only [g7, cond_true, cond_false, lbind_go, lbind_ret, lbind_brk, lbind_none, Option.bind_some, Option.bind_none, Bool.not_true, Bool.not_false, reduceCtorEq] at h
  simp only [vs, cwp_label, ng_normal, ng_ret, ng_exit, cr, tyf, g7, implies_true, Nat.reduceAdd, Nat.reduceMul, Nat.reduceEqDiff, Nat.reduceLeDiff, reduceIte, reduceCtorEq]
  obtain ⟨K6, h, kR6, kG6, kB6, kN6⟩ := lbind_intro h kN
  obtain ⟨f6, hf6, h⟩ := call2 h
  obtain ⟨I6, hI6⟩ : ∃ I : Nat → St → Prop, I = (fun m st => ∃ (p6 : List GLetterWord) (c6_5 : Int), m = List.length p6 ∧ 0 ≤ c6_5 ∧ List.drop (Int.toNat c6_5) x0_s.Words = p6 ∧ st.df = [] ∧ 1 ≤ st.nx ∧ st.H 0 = some (.cells (some 28) (cGLetterSheet x0_s)) ∧ st.tm 1 = .ptr 0 0 ∧ st.tm 5 = .lit (.int .i64 c6_5) ∧ K6 (f6 p6 c6_5)) := ⟨_, rfl⟩
  refine loopK mixed (by kernel_rfl) I6 (List.length x0_s.Words) (by rw [hI6]; refine ⟨x0_s.Words, 0, rfl, Int.le_refl _, rfl, rfl, (show 1 ≤ 5 by decide), ?_, ?_, ?_, h⟩ <;> first | (simp only [upd_apply, updH_apply, without_apply, implies_true, Nat.reduceAdd, Nat.reduceMul, Nat.reduceEqDiff, Nat.reduceLeDiff, reduceIte, reduceCtorEq]; done) | (simp only [upd_apply, updH_apply, without_apply, implies_true, Nat.reduceAdd, Nat.reduceMul, Nat.reduceEqDiff, Nat.reduceLeDiff, reduceIte, reduceCtorEq]; rfl) | rfl) ?_
  rintro m ⟨tm, H, nx, df⟩ hinv
  rw [hI6] at hinv
  obtain ⟨p6, c6_5, rfl, hi6, hp6, hdf, hn6, H10, e8, e9, h⟩ := hinv
  simp only at hdf hn6 H10 e8 e9
  have q11 := fresh_ne (n := 0) (B := 1) (by decide) hn6
  subst hdf hf6
  cases p6 with
  | nil =>
    have d12 : (decide (c6_5 < (List.length x0_s.Words : Int))) = false := not_lt_of_drop hi6 hp6
    simp only [g_ref01_Alike_l0, cond_true, cond_false, lbind_go, lbind_ret, lbind_brk, lbind_none, Option.bind_some, Option.bind_none, Bool.not_true, Bool.not_false, reduceCtorEq] at h
    replace h := kG6 _ h
    try dsimp only at h
    try simp only [cond_true, cond_false, lbind_go, lbind_ret, lbind_brk, lbind_none, Option.bind_some, Option.bind_none, Bool.not_true, Bool.not_false] at h
    simp only [vs, cwp_label, ng_normal, ng_ret, ng_exit, cr, tyf, g7, e8, e9, H10, q11, d12, implies_true, Nat.reduceAdd, Nat.reduceMul, Nat.reduceEqDiff, Nat.reduceLeDiff, reduceIte, reduceCtorEq]
    obtain rfl := kF _ h
    refine ret3 Tryz.results17 ?_ ?_
    · first | (simp only [outV, upd_apply, updH_apply, without_apply, showV_ref, cr, tyf, nrm, tynrm, g7, e8, e9, H10, q11, d12, implies_true, Nat.reduceAdd, Nat.reduceMul, Nat.reduceEqDiff, Nat.reduceLeDiff, reduceIte, reduceCtorEq]; done) | (simp only [outV, upd_apply, updH_apply, without_apply, showV_ref, cr, tyf, nrm, tynrm, g7, e8, e9, H10, q11, d12, implies_true, Nat.reduceAdd, Nat.reduceMul, Nat.reduceEqDiff, Nat.reduceLeDiff, reduceIte, reduceCtorEq]; rfl)
    · simp only [tre, tytre, Bool.and_self]
  | cons e6 p6 =>
    have d13 : (decide (c6_5 < (List.length x0_s.Words : Int))) = true := lt_of_drop hi6 hp6
    have o15 := getI_of_drop hi6 hp6
    have w14 := wrap_next hi6 hp6 g7
    simp only [g_ref01_Alike_l0, cond_true, cond_false, lbind_go, lbind_ret, lbind_brk, lbind_none, Option.bind_some, Option.bind_none, Bool.not_true, Bool.not_false, reduceCtorEq] at h
    cases g17 : (lenOk x0_s.Words)
    · simp only [g17, cond_true, cond_false, lbind_go, lbind_ret, lbind_brk, lbind_none, Option.bind_some, Option.bind_none, Bool.not_true, Bool.not_false, reduceCtorEq] at h
      exact absurd h kN6
    simp only [g17, cond_true, cond_false, lbind_go, lbind_ret, lbind_brk, lbind_none, Option.bind_some, Option.bind_none, Bool.not_true, Bool.not_false, reduceCtorEq] at h
    cases g18 : (leB 0 (IntKind.i64.wrap (c6_5 + 1)))
    · simp only [g18, cond_true, cond_false, lbind_go, lbind_ret, lbind_brk, lbind_none, Option.bind_some, Option.bind_none, Bool.not_true, Bool.not_false, reduceCtorEq] at h
      exact absurd h kN6
    simp only [g18, cond_true, cond_false, lbind_go, lbind_ret, lbind_brk, lbind_none, Option.bind_some, Option.bind_none, Bool.not_true, Bool.not_false, reduceCtorEq] at h
    simp only [vs, cwp_label, ng_normal, ng_ret, ng_exit, cr, tyf, g7, e8, e9, H10, q11, d13, (ix26 o15), w14, g17, g18, implies_true, Nat.reduceAdd, Nat.reduceMul, Nat.reduceEqDiff, Nat.reduceLeDiff, reduceIte, reduceCtorEq]
    obtain ⟨K16, h, kR16, kG16, kB16, kN16⟩ := lbind_intro h kN6
    obtain ⟨f16, hf16, h⟩ := call2 h
    obtain ⟨I16, hI16⟩ : ∃ I : Nat → St → Prop, I = (fun m st => ∃ (p16 : List GLetterWord) (c16_6 : Int), m = List.length p16 ∧ 0 ≤ c16_6 ∧ List.drop (Int.toNat c16_6) x0_s.Words = p16 ∧ st.df = [] ∧ 1 ≤ st.nx ∧ st.H 0 = some (.cells (some 28) (cGLetterSheet x0_s)) ∧ st.tm 1 = .ptr 0 0 ∧ st.tm 5 = .lit (.int .i64 c6_5) ∧ st.tm 6 = .lit (.int .i64 c16_6) ∧ K16 (f16 p16 c16_6)) := ⟨_, rfl⟩
    refine loopK mixed (by kernel_rfl) I16 (List.length (List.drop (Int.toNat (IntKind.i64.wrap (c6_5 + 1))) x0_s.Words)) (by rw [hI16]; refine ⟨List.drop (Int.toNat (IntKind.i64.wrap (c6_5 + 1))) x0_s.Words, IntKind.i64.wrap (c6_5 + 1), rfl, of_decide_eq_true g18, rfl, rfl, (show 1 ≤ nx + 8 by omega), ?_, e8, e9, ?_, h⟩ <;> first | (simp only [upd_apply, updH_apply, without_apply, e8, e9, H10, q11, d13, w14, implies_true, Nat.reduceAdd, Nat.reduceMul, Nat.reduceEqDiff, Nat.reduceLeDiff, reduceIte, reduceCtorEq]; done) | (simp only [upd_apply, updH_apply, without_apply, e8, e9, H10, q11, d13, w14, implies_true, Nat.reduceAdd, Nat.reduceMul, Nat.reduceEqDiff, Nat.reduceLeDiff, reduceIte, reduceCtorEq]; rfl) | rfl) ?_
    rintro m ⟨tm, H, nx, df⟩ hinv
    rw [hI16] at hinv
    obtain ⟨p16, c16_6, rfl, hi16, hp16, hdf, hn16, H22, e19, e20, e21, h⟩ := hinv
    simp only at hdf hn16 H22 e19 e20 e21
    have q23 := fresh_ne (n := 0) (B := 1) (by decide) hn16
    subst hdf hf16
    cases p16 with
    | nil =>
      have d24 : (decide (c16_6 < (List.length x0_s.Words : Int))) = false := not_lt_of_drop hi16 hp16
      simp only [g_ref01_Alike_l1, cond_true, cond_false, lbind_go, lbind_ret, lbind_brk, lbind_none, Option.bind_some, Option.bind_none, Bool.not_true, Bool.not_false, reduceCtorEq] at h
      replace h := kG16 _ h
      try dsimp only at h
      try simp only [cond_true, cond_false, lbind_go, lbind_ret, lbind_brk, lbind_none, Option.bind_some, Option.bind_none, Bool.not_true, Bool.not_false] at h
      simp only [vs, cwp_label, ng_normal, ng_ret, ng_exit, cr, tyf, g7, d13, (ix26 o15), w14, g17, g18, e19, e20, e21, H22, q23, d24, implies_true, Nat.reduceAdd, Nat.reduceMul, Nat.reduceEqDiff, Nat.reduceLeDiff, reduceIte, reduceCtorEq]
      exact ⟨List.length p6, Nat.lt_succ_self _, by rw [hI6]; refine ⟨p6, c6_5 + 1, rfl, Int.le_trans hi6 (Int.le_add_one (Int.le_refl _)), drop_next hi6 hp6, rfl, (show 1 ≤ nx + 8 by omega), ?_, e19, ?_, h⟩ <;> first | (simp only [upd_apply, updH_apply, without_apply, d13, w14, e19, e20, e21, H22, q23, d24, implies_true, Nat.reduceAdd, Nat.reduceMul, Nat.reduceEqDiff, Nat.reduceLeDiff, reduceIte, reduceCtorEq]; done) | (simp only [upd_apply, updH_apply, without_apply, d13, w14, e19, e20, e21, H22, q23, d24, implies_true, Nat.reduceAdd, Nat.reduceMul, Nat.reduceEqDiff, Nat.reduceLeDiff, reduceIte, reduceCtorEq]; rfl) | rfl⟩
    | cons e16 p16 =>
      have d25 : (decide (c16_6 < (List.length x0_s.Words : Int))) = true := lt_of_drop hi16 hp16
      have o27 := getI_of_drop hi16 hp16
      have w26 := wrap_next hi16 hp16 g17
      simp only [g_ref01_Alike_l1, cond_true, cond_false, lbind_go, lbind_ret, lbind_brk, lbind_none, Option.bind_some, Option.bind_none, Bool.not_true, Bool.not_false, reduceCtorEq] at h
      simp only [vs, cwp_label, ng_normal, ng_ret, ng_exit, cr, tyf, g7, d13, (ix26 o15), w14, g17, g18, e19, e20, e21, H22, q23, d25, (ix26 o27), w26, implies_true, Nat.reduceAdd, Nat.reduceMul, Nat.reduceEqDiff, Nat.reduceLeDiff, reduceIte, reduceCtorEq]
      refine cwp_drwQF (fun tm => tm 1 = .ptr 0 0 ∧ tm 5 = .lit (.int .i64 c6_5) ∧ tm 6 = .lit (.int .i64 c16_6) ∧ True) (by refine ⟨e19, e20, e21, trivial⟩ <;> first | (simp only [upd_apply, updH_apply, without_apply, d13, w14, e19, e20, e21, H22, q23, d25, w26, implies_true, Nat.reduceAdd, Nat.reduceMul, Nat.reduceEqDiff, Nat.reduceLeDiff, reduceIte, reduceCtorEq]; done) | (simp only [upd_apply, updH_apply, without_apply, d13, w14, e19, e20, e21, H22, q23, d25, w26, implies_true, Nat.reduceAdd, Nat.reduceMul, Nat.reduceEqDiff, Nat.reduceLeDiff, reduceIte, reduceCtorEq]; rfl) | rfl) ?_
      rintro tm ⟨e28, e29, e30, _⟩
      cases o32 : (g_ref01_mistaken e6 e16) with
      | none =>
        simp only [o32, cond_true, cond_false, lbind_go, lbind_ret, lbind_brk, lbind_none, Option.bind_some, Option.bind_none, Bool.not_true, Bool.not_false, reduceCtorEq] at h
        exact absurd h kN16
      | some r31 =>
        simp only [o32, cond_true, cond_false, lbind_go, lbind_ret, lbind_brk, lbind_none, Option.bind_some, Option.bind_none, Bool.not_true, Bool.not_false, reduceCtorEq] at h
        simp only [vs, cwp_label, ng_normal, ng_ret, ng_exit, cr, tyf, g7, d13, (ix26 o15), w14, g17, g18, H22, q23, d25, (ix26 o27), w26, e28, e29, e30, implies_true, Nat.reduceAdd, Nat.reduceMul, Nat.reduceEqDiff, Nat.reduceLeDiff, reduceIte, reduceCtorEq]
        refine dktree (args0 := [.agg (cGLetterWord e6), .agg (cGLetterWord e16)]) (by first | (simp only [nrm, tynrm]; done) | (simp only [nrm, tynrm]; rfl) | rfl) (by simp only [tre, tytre, Bool.and_self]) (g_ref01_mistaken_ok _ _ _ o32) ?_
        refine fin_cut (fun tm => tm 1 = .ptr 0 0 ∧ tm 5 = .lit (.int .i64 c6_5) ∧ tm 6 = .lit (.int .i64 c16_6) ∧ tm 33 = .lit (.bool r31) ∧ True) (by refine ⟨e28, e29, e30, ?_, trivial⟩ <;> first | (simp only [upd_apply, updH_apply, without_apply, d13, w14, H22, q23, d25, w26, e28, e29, e30, implies_true, Nat.reduceAdd, Nat.reduceMul, Nat.reduceEqDiff, Nat.reduceLeDiff, reduceIte, reduceCtorEq]; done) | (simp only [upd_apply, updH_apply, without_apply, d13, w14, H22, q23, d25, w26, e28, e29, e30, implies_true, Nat.reduceAdd, Nat.reduceMul, Nat.reduceEqDiff, Nat.reduceLeDiff, reduceIte, reduceCtorEq]; rfl) | rfl) ?_
        rintro tm ⟨e33, e34, e35, e36, _⟩
        cases d37 : (r31)
        · simp only [d37, cond_true, cond_false, lbind_go, lbind_ret, lbind_brk, lbind_none, Option.bind_some, Option.bind_none, Bool.not_true, Bool.not_false, reduceCtorEq] at h
          simp only [vs, cwp_label, ng_normal, ng_ret, ng_exit, cr, tyf, g7, d13, (ix26 o15), w14, g17, g18, H22, q23, d25, (ix26 o27), w26, e33, e34, e35, e36, d37, implies_true, Nat.reduceAdd, Nat.reduceMul, Nat.reduceEqDiff, Nat.reduceLeDiff, reduceIte, reduceCtorEq]
          exact ⟨List.length p16, Nat.lt_succ_self _, by rw [hI16]; refine ⟨p16, c16_6 + 1, rfl, Int.le_trans hi16 (Int.le_add_one (Int.le_refl _)), drop_next hi16 hp16, rfl, (show 1 ≤ nx + 19 by omega), ?_, e33, e34, ?_, h⟩ <;> first | (simp only [upd_apply, updH_apply, without_apply, d13, w14, H22, q23, d25, w26, e33, e34, e35, e36, d37, implies_true, Nat.reduceAdd, Nat.reduceMul, Nat.reduceEqDiff, Nat.reduceLeDiff, reduceIte, reduceCtorEq]; done) | (simp only [upd_apply, updH_apply, without_apply, d13, w14, H22, q23, d25, w26, e33, e34, e35, e36, d37, implies_true, Nat.reduceAdd, Nat.reduceMul, Nat.reduceEqDiff, Nat.reduceLeDiff, reduceIte, reduceCtorEq]; rfl) | rfl⟩
        · simp only [d37, cond_true, cond_false, lbind_go, lbind_ret, lbind_brk, lbind_none, Option.bind_some, Option.bind_none, Bool.not_true, Bool.not_false, reduceCtorEq] at h
          simp only [vs, cwp_label, ng_normal, ng_ret, ng_exit, cr, tyf, g7, d13, (ix26 o15), w14, g17, g18, H22, q23, d25, (ix26 o27), w26, e33, e34, e35, e36, d37, implies_true, Nat.reduceAdd, Nat.reduceMul, Nat.reduceEqDiff, Nat.reduceLeDiff, reduceIte, reduceCtorEq]
          replace h := kR16 _ h
          try dsimp only at h
          replace h := kR6 _ h
          try dsimp only at h
          obtain rfl := kF _ h
          refine ret3 Tryz.results17 ?_ ?_
          · first | (simp only [outV, upd_apply, updH_apply, without_apply, showV_ref, cr, tyf, nrm, tynrm, g7, d13, (ix26 o15), w14, g17, g18, H22, q23, d25, (ix26 o27), w26, e33, e34, e35, e36, d37, implies_true, Nat.reduceAdd, Nat.reduceMul, Nat.reduceEqDiff, Nat.reduceLeDiff, reduceIte, reduceCtorEq]; done) | (simp only [outV, upd_apply, updH_apply, without_apply, showV_ref, cr, tyf, nrm, tynrm, g7, d13, (ix26 o15), w14, g17, g18, H22, q23, d25, (ix26 o27), w26, e33, e34, e35, e36, d37, implies_true, Nat.reduceAdd, Nat.reduceMul, Nat.reduceEqDiff, Nat.reduceLeDiff, reduceIte, reduceCtorEq]; rfl)
          · simp only [tre, tytre, Bool.and_self]

end Go.V
end
section
namespace Go.V
open Go Go.Proofs
set_option linter.unusedSimpArgs false
set_option linter.unusedVariables false
set_option maxRecDepth 4000
def g_limits_IsFrom (x0_least : Int) (x1_n : Int) (x2_most : Int) : Option (Bool) := cond (decide (x0_least ≤ x1_n)) (some (decide (x1_n ≤ x2_most))) (some false)
theorem g_limits_IsFrom_ok (x0_least : Int) (x1_n : Int) (x2_most : Int) (R : Bool) (h : g_limits_IsFrom x0_least x1_n x2_most = some R) : VPure Tryz.prog G0 81 [.lit (.int .i64 x0_least), .lit (.int .i64 x1_n), .lit (.int .i64 x2_most)] (.tree (.lit (.bool R))) := by
  refine VPure.runT mixed Tryz.call81 Tryz.func81 rfl (by simp [Tryz.ntmps81]; kernel_rfl) ?_
  obtain ⟨KF, h, kF, kN⟩ := fun_intro h
  simp only [g_limits_IsFrom] at h
  cases d1 : (decide (x0_least ≤ x1_n))
  · simp only [d1, cond_true, cond_false, lbind_go, lbind_ret, lbind_brk, lbind_none, Option.bind_some, Option.bind_none, Bool.not_true, Bool.not_false, reduceCtorEq] at h
    simp only [vs, cwp_label, ng_normal, ng_ret, ng_exit, cr, tyf, d1, implies_true, Nat.reduceAdd, Nat.reduceMul, Nat.reduceEqDiff, Nat.reduceLeDiff, reduceIte, reduceCtorEq]
    obtain rfl := kF _ h
    refine ret1 Tryz.results81 ?_ ?_
    · first | (simp only [outV, upd_apply, updH_apply, without_apply, showV_ref, cr, tyf, nrm, tynrm, d1, implies_true, Nat.reduceAdd, Nat.reduceMul, Nat.reduceEqDiff, Nat.reduceLeDiff, reduceIte, reduceCtorEq]; done) | (simp only [outV, upd_apply, updH_apply, without_apply, showV_ref, cr, tyf, nrm, tynrm, d1, implies_true, Nat.reduceAdd, Nat.reduceMul, Nat.reduceEqDiff, Nat.reduceLeDiff, reduceIte, reduceCtorEq]; rfl)
    · simp only [tre, tytre, Bool.and_self]
  · simp only [d1, cond_true, cond_false, lbind_go, lbind_ret, lbind_brk, lbind_none, Option.bind_some, Option.bind_none, Bool.not_true, Bool.not_false, reduceCtorEq] at h
    simp only [vs, cwp_label, ng_normal, ng_ret, ng_exit, cr, tyf, d1, implies_true, Nat.reduceAdd, Nat.reduceMul, Nat.reduceEqDiff, Nat.reduceLeDiff, reduceIte, reduceCtorEq]
    obtain rfl := kF _ h
    refine ret1 Tryz.results81 ?_ ?_
    · first | (simp only [outV, upd_apply, updH_apply, without_apply, showV_ref, cr, tyf, nrm, tynrm, d1, implies_true, Nat.reduceAdd, Nat.reduceMul, Nat.reduceEqDiff, Nat.reduceLeDiff, reduceIte, reduceCtorEq]; done) | (simp only [outV, upd_apply, updH_apply, without_apply, showV_ref, cr, tyf, nrm, tynrm, d1, implies_true, Nat.reduceAdd, Nat.reduceMul, Nat.reduceEqDiff, Nat.reduceLeDiff, reduceIte, reduceCtorEq]; rfl)
    · simp only [tre, tytre, Bool.and_self]

end Go.V
end
section
namespace Go.V
open Go Go.Proofs
set_option linter.unusedSimpArgs false
set_option linter.unusedVariables false
set_option maxRecDepth 4000
def g_limits_IsSpan (x0_least : Int) (x1_x : GSpan) (x2_most : Int) : Option (Bool) := cond (decide (x0_least ≤ x1_x.Low)) (cond (decide (x1_x.Low ≤ x1_x.High)) (some (decide (x1_x.High ≤ x2_most))) (some false)) (some false)
theorem g_limits_IsSpan_ok (x0_least : Int) (x1_x : GSpan) (x2_most : Int) (R : Bool) (h : g_limits_IsSpan x0_least x1_x x2_most = some R) : VPure Tryz.prog G0 80 [.lit (.int .i64 x0_least), .agg (cGSpan x1_x), .lit (.int .i64 x2_most)] (.tree (.lit (.bool R))) := by
  refine VPure.runT mixed Tryz.call80 Tryz.func80 rfl (by simp [Tryz.ntmps80]; kernel_rfl) ?_
  obtain ⟨KF, h, kF, kN⟩ := fun_intro h
  simp only [g_limits_IsSpan] at h
  cases d3 : (decide (x0_least ≤ x1_x.Low))
  · simp only [d3, cond_true, cond_false, lbind_go, lbind_ret, lbind_brk, lbind_none, Option.bind_some, Option.bind_none, Bool.not_true, Bool.not_false, reduceCtorEq] at h
    simp only [vs, cwp_label, ng_normal, ng_ret, ng_exit, cr, tyf, d3, implies_true, Nat.reduceAdd, Nat.reduceMul, Nat.reduceEqDiff, Nat.reduceLeDiff, reduceIte, reduceCtorEq]
    obtain rfl := kF _ h
    refine ret1 Tryz.results80 ?_ ?_
    · first | (simp only [outV, upd_apply, updH_apply, without_apply, showV_ref, cr, tyf, nrm, tynrm, d3, implies_true, Nat.reduceAdd, Nat.reduceMul, Nat.reduceEqDiff, Nat.reduceLeDiff, reduceIte, reduceCtorEq]; done) | (simp only [outV, upd_apply, updH_apply, without_apply, showV_ref, cr, tyf, nrm, tynrm, d3, implies_true, Nat.reduceAdd, Nat.reduceMul, Nat.reduceEqDiff, Nat.reduceLeDiff, reduceIte, reduceCtorEq]; rfl)
    · simp only [tre, tytre, Bool.and_self]
  · simp only [d3, cond_true, cond_false, lbind_go, lbind_ret, lbind_brk, lbind_none, Option.bind_some, Option.bind_none, Bool.not_true, Bool.not_false, reduceCtorEq] at h
    cases d4 : (decide (x1_x.Low ≤ x1_x.High))
    · simp only [d4, cond_true, cond_false, lbind_go, lbind_ret, lbind_brk, lbind_none, Option.bind_some, Option.bind_none, Bool.not_true, Bool.not_false, reduceCtorEq] at h
      simp only [vs, cwp_label, ng_normal, ng_ret, ng_exit, cr, tyf, d3, d4, implies_true, Nat.reduceAdd, Nat.reduceMul, Nat.reduceEqDiff, Nat.reduceLeDiff, reduceIte, reduceCtorEq]
      obtain rfl := kF _ h
      refine ret1 Tryz.results80 ?_ ?_
      · first | (simp only [outV, upd_apply, updH_apply, without_apply, showV_ref, cr, tyf, nrm, tynrm, d3, d4, implies_true, Nat.reduceAdd, Nat.reduceMul, Nat.reduceEqDiff, Nat.reduceLeDiff, reduceIte, reduceCtorEq]; done) | (simp only [outV, upd_apply, updH_apply, without_apply, showV_ref, cr, tyf, nrm, tynrm, d3, d4, implies_true, Nat.reduceAdd, Nat.reduceMul, Nat.reduceEqDiff, Nat.reduceLeDiff, reduceIte, reduceCtorEq]; rfl)
      · simp only [tre, tytre, Bool.and_self]
    · simp only [d4, cond_true, cond_false, lbind_go, lbind_ret, lbind_brk, lbind_none, Option.bind_some, Option.bind_none, Bool.not_true, Bool.not_false, reduceCtorEq] at h
      simp only [vs, cwp_label, ng_normal, ng_ret, ng_exit, cr, tyf, d3, d4, implies_true, Nat.reduceAdd, Nat.reduceMul, Nat.reduceEqDiff, Nat.reduceLeDiff, reduceIte, reduceCtorEq]
      obtain rfl := kF _ h
      refine ret1 Tryz.results80 ?_ ?_
      · first | (simp only [outV, upd_apply, updH_apply, without_apply, showV_ref, cr, tyf, nrm, tynrm, d3, d4, implies_true, Nat.reduceAdd, Nat.reduceMul, Nat.reduceEqDiff, Nat.reduceLeDiff, reduceIte, reduceCtorEq]; done) | (simp only [outV, upd_apply, updH_apply, without_apply, showV_ref, cr, tyf, nrm, tynrm, d3, d4, implies_true, Nat.reduceAdd, Nat.reduceMul, Nat.reduceEqDiff, Nat.reduceLeDiff, reduceIte, reduceCtorEq]; rfl)
      · simp only [tre, tytre, Bool.and_self]

end Go.V
end
