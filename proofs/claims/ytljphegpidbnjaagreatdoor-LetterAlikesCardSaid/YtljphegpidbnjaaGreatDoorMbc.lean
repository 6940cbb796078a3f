/- Part of the proof of a statement of YtljphegpidbnjaaGreatDoor: a logic of values by content, the lifted functions, and what follows. -/
import Derived.Test.YtljphegpidbnjaaGreatDoorMax
set_option linter.unusedVariables false
set_option linter.unusedSimpArgs false
set_option linter.unusedSectionVars false
set_option linter.constructorNameAsVariable false
section
namespace Go.V
open Go Go.Proofs
set_option linter.unusedSimpArgs false
set_option linter.unusedVariables false
set_option maxRecDepth 4000
def g_ref01_Same_l0 (x1_b : List Int) : List Int → Int → Option (LOut (Bool) (Unit))
  | [], c0_5 => some (.go ())
  | e0 :: p0, c0_5 => Option.bind (getI x1_b c0_5) (fun x1 => cond (e0 != x1) (some (.ret false)) (g_ref01_Same_l0 x1_b p0 (c0_5 + 1)))
def g_ref01_Same (x0_a : List Int) (x1_b : List Int) : Option (Bool) := cond ((List.length x0_a : Int) != (List.length x1_b : Int)) (some false) (cond (lenOk x0_a) (lbind (g_ref01_Same_l0 x1_b x0_a 0) (fun r => some r) (fun c2 => some true) (fun _ _ => none)) none)
theorem g_ref01_Same_ok (x0_a : List Int) (x1_b : List Int) (R : Bool) (h : g_ref01_Same x0_a x1_b = some R) : VPure Tryz.prog G0 14 [.sl (cellsL eI x0_a) (List.length x0_a) false, .sl (cellsL eI x1_b) (List.length x1_b) false] (.tree (.lit (.bool R))) := by
  refine VPure.runT mixed Tryz.call14 Tryz.func14 rfl (by simp [Tryz.ntmps14]; kernel_rfl) ?_
  obtain ⟨KF, h, kF, kN⟩ := fun_intro h
  simp only [g_ref01_Same] at h
  cases d3 : ((List.length x0_a : Int) != (List.length x1_b : Int))
  · simp only [d3, cond_true, cond_false, lbind_go, lbind_ret, lbind_brk, lbind_none, Option.bind_some, Option.bind_none, Bool.not_true, Bool.not_false, reduceCtorEq] at h
    cases g5 : (lenOk x0_a)
    · simp only [g5, cond_true, cond_false, lbind_go, lbind_ret, lbind_brk, lbind_none, Option.bind_some, Option.bind_none, Bool.not_true, Bool.not_false, reduceCtorEq] at h
      exact absurd h kN
    simp only [g5, cond_true, cond_false, lbind_go, lbind_ret, lbind_brk, lbind_none, Option.bind_some, Option.bind_none, Bool.not_true, Bool.not_false, reduceCtorEq] at h
    simp only [vs, cwp_label, ng_normal, ng_ret, ng_exit, cr, tyf, d3, g5, implies_true, Nat.reduceAdd, Nat.reduceMul, Nat.reduceEqDiff, Nat.reduceLeDiff, reduceIte, reduceCtorEq]
    obtain ⟨K4, h, kR4, kG4, kB4, kN4⟩ := lbind_intro h kN
    obtain ⟨f4, hf4, h⟩ := call2 h
    obtain ⟨I4, hI4⟩ : ∃ I : Nat → St → Prop, I = (fun m st => ∃ (p4 : List Int) (c4_5 : Int), m = List.length p4 ∧ 0 ≤ c4_5 ∧ List.drop (Int.toNat c4_5) x0_a = p4 ∧ st.df = [] ∧ st.tm 0 = .sl (cellsL eI x0_a) (List.length x0_a) false ∧ st.tm 1 = .sl (cellsL eI x1_b) (List.length x1_b) false ∧ st.tm 5 = .lit (.int .i64 c4_5) ∧ K4 (f4 p4 c4_5)) := ⟨_, rfl⟩
    refine loopK mixed (by kernel_rfl) I4 (List.length x0_a) (by rw [hI4]; refine ⟨x0_a, 0, rfl, Int.le_refl _, rfl, rfl, ?_, ?_, ?_, h⟩ <;> first | (simp only [upd_apply, updH_apply, without_apply, d3, implies_true, Nat.reduceAdd, Nat.reduceMul, Nat.reduceEqDiff, Nat.reduceLeDiff, reduceIte, reduceCtorEq]; done) | (simp only [upd_apply, updH_apply, without_apply, d3, implies_true, Nat.reduceAdd, Nat.reduceMul, Nat.reduceEqDiff, Nat.reduceLeDiff, reduceIte, reduceCtorEq]; rfl) | rfl) ?_
    rintro m ⟨tm, H, nx, df⟩ hinv
    rw [hI4] at hinv
    obtain ⟨p4, c4_5, rfl, hi4, hp4, hdf, e6, e7, e8, h⟩ := hinv
    simp only at hdf e6 e7 e8
    subst hdf hf4
    cases p4 with
    | nil =>
      have d9 : (decide (c4_5 < (List.length x0_a : Int))) = false := not_lt_of_drop hi4 hp4
      simp only [g_ref01_Same_l0, cond_true, cond_false, lbind_go, lbind_ret, lbind_brk, lbind_none, Option.bind_some, Option.bind_none, Bool.not_true, Bool.not_false, reduceCtorEq] at h
      replace h := kG4 _ h
      try dsimp only at h
      try simp only [cond_true, cond_false, lbind_go, lbind_ret, lbind_brk, lbind_none, Option.bind_some, Option.bind_none, Bool.not_true, Bool.not_false] at h
      simp only [vs, cwp_label, ng_normal, ng_ret, ng_exit, cr, tyf, d3, g5, e6, e7, e8, d9, implies_true, Nat.reduceAdd, Nat.reduceMul, Nat.reduceEqDiff, Nat.reduceLeDiff, reduceIte, reduceCtorEq]
      obtain rfl := kF _ h
      refine ret1 Tryz.results14 ?_ ?_
      · first | (simp only [outV, upd_apply, updH_apply, without_apply, showV_ref, cr, tyf, nrm, tynrm, d3, g5, e6, e7, e8, d9, implies_true, Nat.reduceAdd, Nat.reduceMul, Nat.reduceEqDiff, Nat.reduceLeDiff, reduceIte, reduceCtorEq]; done) | (simp only [outV, upd_apply, updH_apply, without_apply, showV_ref, cr, tyf, nrm, tynrm, d3, g5, e6, e7, e8, d9, implies_true, Nat.reduceAdd, Nat.reduceMul, Nat.reduceEqDiff, Nat.reduceLeDiff, reduceIte, reduceCtorEq]; rfl)
      · simp only [tre, tytre, Bool.and_self]
    | cons e4 p4 =>
      have d10 : (decide (c4_5 < (List.length x0_a : Int))) = true := lt_of_drop hi4 hp4
      have o12 := getI_of_drop hi4 hp4
      have w11 := wrap_next hi4 hp4 g5
      simp only [g_ref01_Same_l0, cond_true, cond_false, lbind_go, lbind_ret, lbind_brk, lbind_none, Option.bind_some, Option.bind_none, Bool.not_true, Bool.not_false, reduceCtorEq] at h
      simp only [vs, cwp_label, ng_normal, ng_ret, ng_exit, cr, tyf, d3, g5, e6, e7, e8, d10, (ix22 o12), w11, implies_true, Nat.reduceAdd, Nat.reduceMul, Nat.reduceEqDiff, Nat.reduceLeDiff, reduceIte, reduceCtorEq]
      refine cwp_drwQF (fun tm => tm 0 = .sl (cellsL eI x0_a) (List.length x0_a) false ∧ tm 1 = .sl (cellsL eI x1_b) (List.length x1_b) false ∧ tm 5 = .lit (.int .i64 c4_5) ∧ True) (by refine ⟨e6, e7, e8, trivial⟩ <;> first | (simp only [upd_apply, updH_apply, without_apply, d3, e6, e7, e8, d10, w11, implies_true, Nat.reduceAdd, Nat.reduceMul, Nat.reduceEqDiff, Nat.reduceLeDiff, reduceIte, reduceCtorEq]; done) | (simp only [upd_apply, updH_apply, without_apply, d3, e6, e7, e8, d10, w11, implies_true, Nat.reduceAdd, Nat.reduceMul, Nat.reduceEqDiff, Nat.reduceLeDiff, reduceIte, reduceCtorEq]; rfl) | rfl) ?_
      rintro tm ⟨e13, e14, e15, _⟩
      cases o17 : (getI x1_b c4_5) with
      | none =>
        simp only [o17, cond_true, cond_false, lbind_go, lbind_ret, lbind_brk, lbind_none, Option.bind_some, Option.bind_none, Bool.not_true, Bool.not_false, reduceCtorEq] at h
        exact absurd h kN4
      | some x16 =>
        simp only [o17, cond_true, cond_false, lbind_go, lbind_ret, lbind_brk, lbind_none, Option.bind_some, Option.bind_none, Bool.not_true, Bool.not_false, reduceCtorEq] at h
        cases d18 : (e4 != x16)
        · simp only [d18, cond_true, cond_false, lbind_go, lbind_ret, lbind_brk, lbind_none, Option.bind_some, Option.bind_none, Bool.not_true, Bool.not_false, reduceCtorEq] at h
          simp only [vs, cwp_label, ng_normal, ng_ret, ng_exit, cr, tyf, d3, g5, d10, (ix22 o12), w11, e13, e14, e15, (ix22 o17), d18, implies_true, Nat.reduceAdd, Nat.reduceMul, Nat.reduceEqDiff, Nat.reduceLeDiff, reduceIte, reduceCtorEq]
          exact ⟨List.length p4, Nat.lt_succ_self _, by rw [hI4]; refine ⟨p4, c4_5 + 1, rfl, Int.le_trans hi4 (Int.le_add_one (Int.le_refl _)), drop_next hi4 hp4, rfl, e13, e14, ?_, h⟩ <;> first | (simp only [upd_apply, updH_apply, without_apply, d3, d10, w11, e13, e14, e15, d18, implies_true, Nat.reduceAdd, Nat.reduceMul, Nat.reduceEqDiff, Nat.reduceLeDiff, reduceIte, reduceCtorEq]; done) | (simp only [upd_apply, updH_apply, without_apply, d3, d10, w11, e13, e14, e15, d18, implies_true, Nat.reduceAdd, Nat.reduceMul, Nat.reduceEqDiff, Nat.reduceLeDiff, reduceIte, reduceCtorEq]; rfl) | rfl⟩
        · simp only [d18, cond_true, cond_false, lbind_go, lbind_ret, lbind_brk, lbind_none, Option.bind_some, Option.bind_none, Bool.not_true, Bool.not_false, reduceCtorEq] at h
          simp only [vs, cwp_label, ng_normal, ng_ret, ng_exit, cr, tyf, d3, g5, d10, (ix22 o12), w11, e13, e14, e15, (ix22 o17), d18, implies_true, Nat.reduceAdd, Nat.reduceMul, Nat.reduceEqDiff, Nat.reduceLeDiff, reduceIte, reduceCtorEq]
          replace h := kR4 _ h
          try dsimp only at h
          obtain rfl := kF _ h
          refine ret1 Tryz.results14 ?_ ?_
          · first | (simp only [outV, upd_apply, updH_apply, without_apply, showV_ref, cr, tyf, nrm, tynrm, d3, g5, d10, (ix22 o12), w11, e13, e14, e15, (ix22 o17), d18, implies_true, Nat.reduceAdd, Nat.reduceMul, Nat.reduceEqDiff, Nat.reduceLeDiff, reduceIte, reduceCtorEq]; done) | (simp only [outV, upd_apply, updH_apply, without_apply, showV_ref, cr, tyf, nrm, tynrm, d3, g5, d10, (ix22 o12), w11, e13, e14, e15, (ix22 o17), d18, implies_true, Nat.reduceAdd, Nat.reduceMul, Nat.reduceEqDiff, Nat.reduceLeDiff, reduceIte, reduceCtorEq]; rfl)
          · simp only [tre, tytre, Bool.and_self]
  · simp only [d3, cond_true, cond_false, lbind_go, lbind_ret, lbind_brk, lbind_none, Option.bind_some, Option.bind_none, Bool.not_true, Bool.not_false, reduceCtorEq] at h
    simp only [vs, cwp_label, ng_normal, ng_ret, ng_exit, cr, tyf, d3, implies_true, Nat.reduceAdd, Nat.reduceMul, Nat.reduceEqDiff, Nat.reduceLeDiff, reduceIte, reduceCtorEq]
    obtain rfl := kF _ h
    refine ret1 Tryz.results14 ?_ ?_
    · first | (simp only [outV, upd_apply, updH_apply, without_apply, showV_ref, cr, tyf, nrm, tynrm, d3, implies_true, Nat.reduceAdd, Nat.reduceMul, Nat.reduceEqDiff, Nat.reduceLeDiff, reduceIte, reduceCtorEq]; done) | (simp only [outV, upd_apply, updH_apply, without_apply, showV_ref, cr, tyf, nrm, tynrm, d3, implies_true, Nat.reduceAdd, Nat.reduceMul, Nat.reduceEqDiff, Nat.reduceLeDiff, reduceIte, reduceCtorEq]; rfl)
    · simp only [tre, tytre, Bool.and_self]

end Go.V
end
section
namespace Go.V
open Go Go.Proofs
set_option linter.unusedSimpArgs false
set_option linter.unusedVariables false
set_option maxRecDepth 4000
def g_ref01_Fallen_l0 (x1_letter : Int) : List Int → Int → (List Int) → Option (LOut (List Int) ((List Int)))
  | [], c0_6, c0_5 => some (.go c0_5)
  | e0 :: p0, c0_6, c0_5 => cond (c0_6 != x1_letter) (cond (roomOk 8 (List.length (c0_5 ++ [e0]))) (g_ref01_Fallen_l0 x1_letter p0 (c0_6 + 1) (c0_5 ++ [e0])) none) (g_ref01_Fallen_l0 x1_letter p0 (c0_6 + 1) c0_5)
def g_ref01_Fallen (x0_w : GLetterWord) (x1_letter : Int) : Option (List Int) := cond (lenOk x0_w.Signs) (lbind (g_ref01_Fallen_l0 x1_letter x0_w.Signs 0 ([])) (fun r => some r) (fun c5 => some c5) (fun _ _ => none)) none
theorem g_ref01_Fallen_ok (x0_w : GLetterWord) (x1_letter : Int) (R : List Int) (h : g_ref01_Fallen x0_w x1_letter = some R) : VPure Tryz.prog G0 18 [.agg (cGLetterWord x0_w), .lit (.int .i64 x1_letter)] (.tree (.sl (cellsL eI R) (List.length R) false)) := by
  refine VPure.runT mixed Tryz.call18 Tryz.func18 rfl (by simp [Tryz.ntmps18]; kernel_rfl) ?_
  obtain ⟨KF, h, kF, kN⟩ := fun_intro h
  simp only [g_ref01_Fallen] at h
  cases g9 : (lenOk x0_w.Signs)
  · simp only [g9, cond_true, cond_false, lbind_go, lbind_ret, lbind_brk, lbind_none, Option.bind_some, Option.bind_none, Bool.not_true, Bool.not_false, reduceCtorEq] at h
    exact absurd h kN
  simp only [g9, cond_true, cond_false, lbind_go, lbind_ret, lbind_brk, lbind_none, Option.bind_some, Option.bind_none, Bool.not_true, Bool.not_false, reduceCtorEq] at h
  simp only [vs, cwp_label, ng_normal, ng_ret, ng_exit, cr, tyf, g9, implies_true, Nat.reduceAdd, Nat.reduceMul, Nat.reduceEqDiff, Nat.reduceLeDiff, reduceIte, reduceCtorEq]
  obtain ⟨K7, h, kR7, kG7, kB7, kN7⟩ := lbind_intro h kN
  obtain ⟨f7, hf7, h⟩ := call3 h
  obtain ⟨I7, hI7⟩ : ∃ I : Nat → St → Prop, I = (fun m st => ∃ (p7 : List Int) (c7_6 : Int) (c7_5 : List Int), m = List.length p7 ∧ 0 ≤ c7_6 ∧ List.drop (Int.toNat c7_6) x0_w.Signs = p7 ∧ st.df = [] ∧ 1 ≤ st.nx ∧ st.H 0 = some (.cells (some 49) (cGLetterWord x0_w)) ∧ st.tm 1 = .lit (.int .i64 x1_letter) ∧ st.tm 2 = .ptr 0 0 ∧ st.tm 6 = .lit (.int .i64 c7_6) ∧ ((∃ (β : Nat) (el : Option TypeId), st.tm 5 = .ref β 0 (List.length c7_5) 1 (List.length c7_5) ∧ 1 ≤ β ∧ β < st.nx ∧ st.H β = some (.cells el (cellsL eI c7_5))) ∨ (st.tm 5 = .lit (.slice none 0 0) ∧ c7_5 = [])) ∧ K7 (f7 p7 c7_6 c7_5)) := ⟨_, rfl⟩
  refine loopK mixed (by kernel_rfl) I7 (List.length x0_w.Signs) (by rw [hI7]; refine ⟨x0_w.Signs, 0, [], rfl, Int.le_refl _, rfl, rfl, (show 1 ≤ 4 by decide), ?_, ?_, ?_, ?_, (Or.inr ⟨?_, rfl⟩), h⟩ <;> first | (simp only [upd_apply, updH_apply, without_apply, implies_true, Nat.reduceAdd, Nat.reduceMul, Nat.reduceEqDiff, Nat.reduceLeDiff, reduceIte, reduceCtorEq]; done) | (simp only [upd_apply, updH_apply, without_apply, implies_true, Nat.reduceAdd, Nat.reduceMul, Nat.reduceEqDiff, Nat.reduceLeDiff, reduceIte, reduceCtorEq]; rfl) | rfl) ?_
  rintro m ⟨tm, H, nx, df⟩ hinv
  rw [hI7] at hinv
  obtain ⟨p7, c7_6, c7_5, rfl, hi7, hp7, hdf, hn7, H13, e10, e11, e12, ow7, h⟩ := hinv
  simp only at hdf hn7 H13 e10 e11 e12
  have q14 := fresh_ne (n := 0) (B := 1) (by decide) hn7
  subst hdf hf7
  rcases ow7 with ⟨b7, el7, e15, hB7, hlt7, H16⟩ | ⟨e15, rfl⟩
  · simp only at e15 hlt7 H16
    have q17 := own_ne hB7 hlt7
    have q18 := q17.2 0 (by decide)
    cases p7 with
    | nil =>
      have d19 : (decide (c7_6 < (List.length x0_w.Signs : Int))) = false := not_lt_of_drop hi7 hp7
      simp only [g_ref01_Fallen_l0, cond_true, cond_false, lbind_go, lbind_ret, lbind_brk, lbind_none, Option.bind_some, Option.bind_none, Bool.not_true, Bool.not_false, reduceCtorEq] at h
      replace h := kG7 _ h
      try dsimp only at h
      try simp only [cond_true, cond_false, lbind_go, lbind_ret, lbind_brk, lbind_none, Option.bind_some, Option.bind_none, Bool.not_true, Bool.not_false] at h
      simp only [vs, cwp_label, ng_normal, ng_ret, ng_exit, cr, tyf, g9, e10, e11, e12, H13, q14, e15, H16, q17.1, q18, d19, implies_true, Nat.reduceAdd, Nat.reduceMul, Nat.reduceEqDiff, Nat.reduceLeDiff, reduceIte, reduceCtorEq]
      obtain rfl := kF _ h
      refine ret1 Tryz.results18 ?_ ?_
      · first | (simp only [outV, upd_apply, updH_apply, without_apply, showV_ref, cr, tyf, nrm, tynrm, g9, e10, e11, e12, H13, q14, e15, H16, q17.1, q18, d19, implies_true, Nat.reduceAdd, Nat.reduceMul, Nat.reduceEqDiff, Nat.reduceLeDiff, reduceIte, reduceCtorEq]; done) | (simp only [outV, upd_apply, updH_apply, without_apply, showV_ref, cr, tyf, nrm, tynrm, g9, e10, e11, e12, H13, q14, e15, H16, q17.1, q18, d19, implies_true, Nat.reduceAdd, Nat.reduceMul, Nat.reduceEqDiff, Nat.reduceLeDiff, reduceIte, reduceCtorEq]; rfl)
      · simp only [tre, tytre, Bool.and_self]
    | cons e7 p7 =>
      have d20 : (decide (c7_6 < (List.length x0_w.Signs : Int))) = true := lt_of_drop hi7 hp7
      have o22 := getI_of_drop hi7 hp7
      have w21 := wrap_next hi7 hp7 g9
      simp only [g_ref01_Fallen_l0, cond_true, cond_false, lbind_go, lbind_ret, lbind_brk, lbind_none, Option.bind_some, Option.bind_none, Bool.not_true, Bool.not_false, reduceCtorEq] at h
      cases d23 : (c7_6 != x1_letter)
      · simp only [d23, cond_true, cond_false, lbind_go, lbind_ret, lbind_brk, lbind_none, Option.bind_some, Option.bind_none, Bool.not_true, Bool.not_false, reduceCtorEq] at h
        simp only [vs, cwp_label, ng_normal, ng_ret, ng_exit, cr, tyf, g9, e10, e11, e12, H13, q14, e15, H16, q17.1, q18, d20, (ix22 o22), w21, d23, implies_true, Nat.reduceAdd, Nat.reduceMul, Nat.reduceEqDiff, Nat.reduceLeDiff, reduceIte, reduceCtorEq]
        exact ⟨List.length p7, Nat.lt_succ_self _, by rw [hI7]; refine ⟨p7, c7_6 + 1, c7_5, rfl, Int.le_trans hi7 (Int.le_add_one (Int.le_refl _)), drop_next hi7 hp7, rfl, (show 1 ≤ nx + 11 by omega), ?_, e10, e11, ?_, (Or.inl ⟨b7, el7, e15, (show 1 ≤ b7 by omega), (show b7 < nx + 11 by omega), ?_⟩), h⟩ <;> first | (simp only [upd_apply, updH_apply, without_apply, e10, e11, e12, H13, q14, e15, H16, q17.1, q18, d20, w21, d23, implies_true, Nat.reduceAdd, Nat.reduceMul, Nat.reduceEqDiff, Nat.reduceLeDiff, reduceIte, reduceCtorEq]; done) | (simp only [upd_apply, updH_apply, without_apply, e10, e11, e12, H13, q14, e15, H16, q17.1, q18, d20, w21, d23, implies_true, Nat.reduceAdd, Nat.reduceMul, Nat.reduceEqDiff, Nat.reduceLeDiff, reduceIte, reduceCtorEq]; rfl) | rfl⟩
      · simp only [d23, cond_true, cond_false, lbind_go, lbind_ret, lbind_brk, lbind_none, Option.bind_some, Option.bind_none, Bool.not_true, Bool.not_false, reduceCtorEq] at h
        cases g25 : (roomOk 8 (List.length (c7_5 ++ [e7])))
        · simp only [g25, cond_true, cond_false, lbind_go, lbind_ret, lbind_brk, lbind_none, Option.bind_some, Option.bind_none, Bool.not_true, Bool.not_false, reduceCtorEq] at h
          exact absurd h kN7
        simp only [g25, cond_true, cond_false, lbind_go, lbind_ret, lbind_brk, lbind_none, Option.bind_some, Option.bind_none, Bool.not_true, Bool.not_false, reduceCtorEq] at h
        simp only [vs, cwp_label, ng_normal, ng_ret, ng_exit, cr, tyf, g9, e10, e11, e12, H13, q14, e15, H16, q17.1, q18, d20, (ix22 o22), w21, d23, g25, implies_true, Nat.reduceAdd, Nat.reduceMul, Nat.reduceEqDiff, Nat.reduceLeDiff, reduceIte, reduceCtorEq]
        refine k_app (w := 1) (enc := eI) (xs := c7_5) (ys := ([e7])) (el := el7) (el2 := (some 3)) (fun _ => rfl) lf22 ao22 Tryz.underlying22 (by first | rfl | assumption | (simp only [updH_apply, without_apply, et22, H13, q14, H16, q17.1, q18, implies_true, Nat.reduceAdd, Nat.reduceMul, Nat.reduceEqDiff, Nat.reduceLeDiff, reduceIte, reduceCtorEq]; done) | (simp only [updH_apply, without_apply, et22, H13, q14, H16, q17.1, q18, implies_true, Nat.reduceAdd, Nat.reduceMul, Nat.reduceEqDiff, Nat.reduceLeDiff, reduceIte, reduceCtorEq]; rfl)) (by first | rfl | assumption | (simp only [updH_apply, without_apply, et22, H13, q14, H16, q17.1, q18, implies_true, Nat.reduceAdd, Nat.reduceMul, Nat.reduceEqDiff, Nat.reduceLeDiff, reduceIte, reduceCtorEq]; done) | (simp only [updH_apply, without_apply, et22, H13, q14, H16, q17.1, q18, implies_true, Nat.reduceAdd, Nat.reduceMul, Nat.reduceEqDiff, Nat.reduceLeDiff, reduceIte, reduceCtorEq]; rfl)) (Nat.zero_lt_succ _) g25 ?_
        simp only [vs, cwp_label, ng_normal, ng_ret, ng_exit, cr, tyf, g9, e10, e11, e12, H13, q14, e15, H16, q17.1, q18, d20, (ix22 o22), w21, d23, g25, implies_true, Nat.reduceAdd, Nat.reduceMul, Nat.reduceEqDiff, Nat.reduceLeDiff, reduceIte, reduceCtorEq]
        exact ⟨List.length p7, Nat.lt_succ_self _, by rw [hI7]; refine ⟨p7, c7_6 + 1, (c7_5 ++ [e7]), rfl, Int.le_trans hi7 (Int.le_add_one (Int.le_refl _)), drop_next hi7 hp7, rfl, (show 1 ≤ nx + 20 by omega), ?_, e10, e11, ?_, (Or.inl ⟨nx + 15, (sameEl el7 3), ?_, (show 1 ≤ nx + 15 by omega), (show nx + 15 < nx + 20 by omega), ?_⟩), h⟩ <;> first | (simp only [upd_apply, updH_apply, without_apply, e10, e11, e12, H13, q14, e15, H16, q17.1, q18, d20, w21, d23, implies_true, Nat.reduceAdd, Nat.reduceMul, Nat.reduceEqDiff, Nat.reduceLeDiff, reduceIte, reduceCtorEq]; done) | (simp only [upd_apply, updH_apply, without_apply, e10, e11, e12, H13, q14, e15, H16, q17.1, q18, d20, w21, d23, implies_true, Nat.reduceAdd, Nat.reduceMul, Nat.reduceEqDiff, Nat.reduceLeDiff, reduceIte, reduceCtorEq]; rfl) | rfl⟩
  · simp only at e15
    cases p7 with
    | nil =>
      have d27 : (decide (c7_6 < (List.length x0_w.Signs : Int))) = false := not_lt_of_drop hi7 hp7
      simp only [g_ref01_Fallen_l0, cond_true, cond_false, lbind_go, lbind_ret, lbind_brk, lbind_none, Option.bind_some, Option.bind_none, Bool.not_true, Bool.not_false, reduceCtorEq] at h
      replace h := kG7 _ h
      try dsimp only at h
      try simp only [cond_true, cond_false, lbind_go, lbind_ret, lbind_brk, lbind_none, Option.bind_some, Option.bind_none, Bool.not_true, Bool.not_false] at h
      simp only [vs, cwp_label, ng_normal, ng_ret, ng_exit, cr, tyf, g9, e10, e11, e12, H13, q14, e15, d27, implies_true, Nat.reduceAdd, Nat.reduceMul, Nat.reduceEqDiff, Nat.reduceLeDiff, reduceIte, reduceCtorEq]
      obtain rfl := kF _ h
      refine ret1 Tryz.results18 ?_ ?_
      · first | (simp only [outV, upd_apply, updH_apply, without_apply, showV_ref, cr, tyf, nrm, tynrm, g9, e10, e11, e12, H13, q14, e15, d27, implies_true, Nat.reduceAdd, Nat.reduceMul, Nat.reduceEqDiff, Nat.reduceLeDiff, reduceIte, reduceCtorEq]; done) | (simp only [outV, upd_apply, updH_apply, without_apply, showV_ref, cr, tyf, nrm, tynrm, g9, e10, e11, e12, H13, q14, e15, d27, implies_true, Nat.reduceAdd, Nat.reduceMul, Nat.reduceEqDiff, Nat.reduceLeDiff, reduceIte, reduceCtorEq]; rfl)
      · simp only [tre, tytre, Bool.and_self]
    | cons e7 p7 =>
      have d28 : (decide (c7_6 < (List.length x0_w.Signs : Int))) = true := lt_of_drop hi7 hp7
      have o30 := getI_of_drop hi7 hp7
      have w29 := wrap_next hi7 hp7 g9
      simp only [g_ref01_Fallen_l0, cond_true, cond_false, lbind_go, lbind_ret, lbind_brk, lbind_none, Option.bind_some, Option.bind_none, Bool.not_true, Bool.not_false, reduceCtorEq] at h
      cases d31 : (c7_6 != x1_letter)
      · simp only [d31, cond_true, cond_false, lbind_go, lbind_ret, lbind_brk, lbind_none, Option.bind_some, Option.bind_none, Bool.not_true, Bool.not_false, reduceCtorEq] at h
        simp only [vs, cwp_label, ng_normal, ng_ret, ng_exit, cr, tyf, g9, e10, e11, e12, H13, q14, e15, d28, (ix22 o30), w29, d31, implies_true, Nat.reduceAdd, Nat.reduceMul, Nat.reduceEqDiff, Nat.reduceLeDiff, reduceIte, reduceCtorEq]
        exact ⟨List.length p7, Nat.lt_succ_self _, by rw [hI7]; refine ⟨p7, c7_6 + 1, [], rfl, Int.le_trans hi7 (Int.le_add_one (Int.le_refl _)), drop_next hi7 hp7, rfl, (show 1 ≤ nx + 11 by omega), ?_, e10, e11, ?_, (Or.inr ⟨e15, rfl⟩), h⟩ <;> first | (simp only [upd_apply, updH_apply, without_apply, e10, e11, e12, H13, q14, e15, d28, w29, d31, implies_true, Nat.reduceAdd, Nat.reduceMul, Nat.reduceEqDiff, Nat.reduceLeDiff, reduceIte, reduceCtorEq]; done) | (simp only [upd_apply, updH_apply, without_apply, e10, e11, e12, H13, q14, e15, d28, w29, d31, implies_true, Nat.reduceAdd, Nat.reduceMul, Nat.reduceEqDiff, Nat.reduceLeDiff, reduceIte, reduceCtorEq]; rfl) | rfl⟩
      · simp only [d31, cond_true, cond_false, lbind_go, lbind_ret, lbind_brk, lbind_none, Option.bind_some, Option.bind_none, Bool.not_true, Bool.not_false, reduceCtorEq] at h
        cases g33 : (roomOk 8 (List.length ([] ++ [e7])))
        · simp only [g33, cond_true, cond_false, lbind_go, lbind_ret, lbind_brk, lbind_none, Option.bind_some, Option.bind_none, Bool.not_true, Bool.not_false, reduceCtorEq] at h
          exact absurd h kN7
        simp only [g33, cond_true, cond_false, lbind_go, lbind_ret, lbind_brk, lbind_none, Option.bind_some, Option.bind_none, Bool.not_true, Bool.not_false, reduceCtorEq] at h
        simp only [vs, cwp_label, ng_normal, ng_ret, ng_exit, cr, tyf, g9, e10, e11, e12, H13, q14, e15, d28, (ix22 o30), w29, d31, g33, implies_true, Nat.reduceAdd, Nat.reduceMul, Nat.reduceEqDiff, Nat.reduceLeDiff, reduceIte, reduceCtorEq]
        refine k_appN (w := 1) (enc := eI) (ys := ([e7])) (el2 := (some 3)) (fun _ => rfl) lf22 ao22 Tryz.underlying22 (by first | rfl | assumption | (simp only [updH_apply, without_apply, et22, H13, q14, implies_true, Nat.reduceAdd, Nat.reduceMul, Nat.reduceEqDiff, Nat.reduceLeDiff, reduceIte, reduceCtorEq]; done) | (simp only [updH_apply, without_apply, et22, H13, q14, implies_true, Nat.reduceAdd, Nat.reduceMul, Nat.reduceEqDiff, Nat.reduceLeDiff, reduceIte, reduceCtorEq]; rfl)) (Nat.zero_lt_succ _) g33 ?_
        simp only [vs, cwp_label, ng_normal, ng_ret, ng_exit, cr, tyf, g9, e10, e11, e12, H13, q14, e15, d28, (ix22 o30), w29, d31, g33, implies_true, Nat.reduceAdd, Nat.reduceMul, Nat.reduceEqDiff, Nat.reduceLeDiff, reduceIte, reduceCtorEq]
        exact ⟨List.length p7, Nat.lt_succ_self _, by rw [hI7]; refine ⟨p7, c7_6 + 1, ([] ++ [e7]), rfl, Int.le_trans hi7 (Int.le_add_one (Int.le_refl _)), drop_next hi7 hp7, rfl, (show 1 ≤ nx + 20 by omega), ?_, e10, e11, ?_, (Or.inl ⟨nx + 15, (some 3), ?_, (show 1 ≤ nx + 15 by omega), (show nx + 15 < nx + 20 by omega), ?_⟩), h⟩ <;> first | (simp only [upd_apply, updH_apply, without_apply, e10, e11, e12, H13, q14, e15, d28, w29, d31, implies_true, Nat.reduceAdd, Nat.reduceMul, Nat.reduceEqDiff, Nat.reduceLeDiff, reduceIte, reduceCtorEq]; done) | (simp only [upd_apply, updH_apply, without_apply, e10, e11, e12, H13, q14, e15, d28, w29, d31, implies_true, Nat.reduceAdd, Nat.reduceMul, Nat.reduceEqDiff, Nat.reduceLeDiff, reduceIte, reduceCtorEq]; rfl) | rfl⟩

end Go.V
end
section
namespace Go.V
open Go Go.Proofs
set_option linter.unusedSimpArgs false
set_option linter.unusedVariables false
set_option maxRecDepth 4000
def g_ref01_mistaken_l1 (x0_a : GLetterWord) (x1_b : GLetterWord) (c0_5 : Int) : Nat → Int → Option (LOut (Bool) (Unit))
  | 0, c1_6 => some (.go ())
  | k1 + 1, c1_6 => Option.bind (g_ref01_Fallen x0_a c0_5) (fun r3 => cond (decide ((List.length r3 : Int) > 0)) (Option.bind (g_ref01_Fallen x1_b c1_6) (fun r4 => Option.bind (g_ref01_Same r3 r4) (fun r5 => cond (r5) (some (.ret true)) (g_ref01_mistaken_l1 x0_a x1_b c0_5 k1 (c1_6 + 1))))) (g_ref01_mistaken_l1 x0_a x1_b c0_5 k1 (c1_6 + 1)))
def g_ref01_mistaken_l0 (x0_a : GLetterWord) (x1_b : GLetterWord) : Nat → Int → Option (LOut (Bool) (Unit))
  | 0, c0_5 => some (.go ())
  | k0 + 1, c0_5 => cond (boundOk (List.length x1_b.Signs : Int)) (lbind (g_ref01_mistaken_l1 x0_a x1_b c0_5 (Int.toNat ((List.length x1_b.Signs : Int) - (-1))) (-1)) (fun r => some (.ret r)) (fun c6 => g_ref01_mistaken_l0 x0_a x1_b k0 (c0_5 + 1)) (fun _ _ => none)) none
def g_ref01_mistaken (x0_a : GLetterWord) (x1_b : GLetterWord) : Option (Bool) := cond (boundOk (List.length x0_a.Signs : Int)) (lbind (g_ref01_mistaken_l0 x0_a x1_b (Int.toNat ((List.length x0_a.Signs : Int) - (-1))) (-1)) (fun r => some r) (fun c7 => some false) (fun _ _ => none)) none
theorem g_ref01_mistaken_ok (x0_a : GLetterWord) (x1_b : GLetterWord) (R : Bool) (h : g_ref01_mistaken x0_a x1_b = some R) : VPure Tryz.prog G0 55 [.agg (cGLetterWord x0_a), .agg (cGLetterWord x1_b)] (.tree (.lit (.bool R))) := by
  refine VPure.runT mixed Tryz.call55 Tryz.func55 rfl (by simp [Tryz.ntmps55]; kernel_rfl) ?_
  obtain ⟨KF, h, kF, kN⟩ := fun_intro h
  simp only [g_ref01_mistaken] at h
  cases g11 : (boundOk (List.length x0_a.Signs : Int))
  · simp only [g11, cond_true, cond_false, lbind_go, lbind_ret, lbind_brk, lbind_none, Option.bind_some, Option.bind_none, Bool.not_true, Bool.not_false, reduceCtorEq] at h
    exact absurd h kN
  simp only [g11, cond_true, cond_false, lbind_go, lbind_ret, lbind_brk, lbind_none, Option.bind_some, Option.bind_none, Bool.not_true, Bool.not_false, reduceCtorEq] at h
  simp only [vs, cwp_label, ng_normal, ng_ret, ng_exit, cr, tyf, g11, implies_true, Nat.reduceAdd, Nat.reduceMul, Nat.reduceEqDiff, Nat.reduceLeDiff, reduceIte, reduceCtorEq]
  obtain ⟨K10, h, kR10, kG10, kB10, kN10⟩ := lbind_intro h kN
  obtain ⟨f10, hf10, h⟩ := call2 h
  obtain ⟨I10, hI10⟩ : ∃ I : Nat → St → Prop, I = (fun m st => ∃ (p10 : Nat) (c10_5 : Int), p10 = m ∧ loOk c10_5 = true ∧ Int.toNat ((List.length x0_a.Signs : Int) - c10_5) = p10 ∧ st.df = [] ∧ 2 ≤ st.nx ∧ st.H 0 = some (.cells (some 49) (cGLetterWord x0_a)) ∧ st.H 1 = some (.cells (some 49) (cGLetterWord x1_b)) ∧ st.tm 2 = .ptr 0 0 ∧ st.tm 3 = .ptr 1 0 ∧ st.tm 5 = .lit (.int .i64 c10_5) ∧ K10 (f10 p10 c10_5)) := ⟨_, rfl⟩
  refine loopK mixed (by kernel_rfl) I10 (Int.toNat ((List.length x0_a.Signs : Int) - (-1))) (by rw [hI10]; refine ⟨Int.toNat ((List.length x0_a.Signs : Int) - (-1)), (-1), rfl, (by rfl), rfl, rfl, (show 2 ≤ 4 by decide), ?_, ?_, ?_, ?_, ?_, h⟩ <;> first | (simp only [upd_apply, updH_apply, without_apply, implies_true, Nat.reduceAdd, Nat.reduceMul, Nat.reduceEqDiff, Nat.reduceLeDiff, reduceIte, reduceCtorEq]; done) | (simp only [upd_apply, updH_apply, without_apply, implies_true, Nat.reduceAdd, Nat.reduceMul, Nat.reduceEqDiff, Nat.reduceLeDiff, reduceIte, reduceCtorEq]; rfl) | rfl) ?_
  rintro m ⟨tm, H, nx, df⟩ hinv
  rw [hI10] at hinv
  obtain ⟨p10, c10_5, rfl, hi10, hp10, hdf, hn10, H15, H16, e12, e13, e14, h⟩ := hinv
  simp only at hdf hn10 H15 H16 e12 e13 e14
  have q17 := fresh_ne (n := 0) (B := 2) (by decide) hn10
  have q18 := fresh_ne (n := 1) (B := 2) (by decide) hn10
  subst hdf hf10
  cases p10 with
  | zero =>
    have d19 : (decide (c10_5 < (List.length x0_a.Signs : Int))) = false := cnt_not_lt hp10
    simp only [g_ref01_mistaken_l0, cond_true, cond_false, lbind_go, lbind_ret, lbind_brk, lbind_none, Option.bind_some, Option.bind_none, Bool.not_true, Bool.not_false, reduceCtorEq] at h
    replace h := kG10 _ h
    try dsimp only at h
    try simp only [cond_true, cond_false, lbind_go, lbind_ret, lbind_brk, lbind_none, Option.bind_some, Option.bind_none, Bool.not_true, Bool.not_false] at h
    simp only [vs, cwp_label, ng_normal, ng_ret, ng_exit, cr, tyf, g11, e12, e13, e14, H15, H16, q17, q18, d19, implies_true, Nat.reduceAdd, Nat.reduceMul, Nat.reduceEqDiff, Nat.reduceLeDiff, reduceIte, reduceCtorEq]
    obtain rfl := kF _ h
    refine ret1 Tryz.results55 ?_ ?_
    · first | (simp only [outV, upd_apply, updH_apply, without_apply, showV_ref, cr, tyf, nrm, tynrm, g11, e12, e13, e14, H15, H16, q17, q18, d19, implies_true, Nat.reduceAdd, Nat.reduceMul, Nat.reduceEqDiff, Nat.reduceLeDiff, reduceIte, reduceCtorEq]; done) | (simp only [outV, upd_apply, updH_apply, without_apply, showV_ref, cr, tyf, nrm, tynrm, g11, e12, e13, e14, H15, H16, q17, q18, d19, implies_true, Nat.reduceAdd, Nat.reduceMul, Nat.reduceEqDiff, Nat.reduceLeDiff, reduceIte, reduceCtorEq]; rfl)
    · simp only [tre, tytre, Bool.and_self]
  | succ p10 =>
    have d20 : (decide (c10_5 < (List.length x0_a.Signs : Int))) = true := cnt_lt hp10
    have w21 := cnt_wrap hi10 hp10 g11
    simp only [g_ref01_mistaken_l0, cond_true, cond_false, lbind_go, lbind_ret, lbind_brk, lbind_none, Option.bind_some, Option.bind_none, Bool.not_true, Bool.not_false, reduceCtorEq] at h
    cases g23 : (boundOk (List.length x1_b.Signs : Int))
    · simp only [g23, cond_true, cond_false, lbind_go, lbind_ret, lbind_brk, lbind_none, Option.bind_some, Option.bind_none, Bool.not_true, Bool.not_false, reduceCtorEq] at h
      exact absurd h kN10
    simp only [g23, cond_true, cond_false, lbind_go, lbind_ret, lbind_brk, lbind_none, Option.bind_some, Option.bind_none, Bool.not_true, Bool.not_false, reduceCtorEq] at h
    simp only [vs, cwp_label, ng_normal, ng_ret, ng_exit, cr, tyf, g11, e12, e13, e14, H15, H16, q17, q18, d20, w21, g23, implies_true, Nat.reduceAdd, Nat.reduceMul, Nat.reduceEqDiff, Nat.reduceLeDiff, reduceIte, reduceCtorEq]
    obtain ⟨K22, h, kR22, kG22, kB22, kN22⟩ := lbind_intro h kN10
    obtain ⟨f22, hf22, h⟩ := call2 h
    obtain ⟨I22, hI22⟩ : ∃ I : Nat → St → Prop, I = (fun m st => ∃ (p22 : Nat) (c22_6 : Int), p22 = m ∧ loOk c22_6 = true ∧ Int.toNat ((List.length x1_b.Signs : Int) - c22_6) = p22 ∧ st.df = [] ∧ 2 ≤ st.nx ∧ st.H 0 = some (.cells (some 49) (cGLetterWord x0_a)) ∧ st.H 1 = some (.cells (some 49) (cGLetterWord x1_b)) ∧ st.tm 2 = .ptr 0 0 ∧ st.tm 3 = .ptr 1 0 ∧ st.tm 5 = .lit (.int .i64 c10_5) ∧ st.tm 6 = .lit (.int .i64 c22_6) ∧ K22 (f22 p22 c22_6)) := ⟨_, rfl⟩
    refine loopK mixed (by kernel_rfl) I22 (Int.toNat ((List.length x1_b.Signs : Int) - (-1))) (by rw [hI22]; refine ⟨Int.toNat ((List.length x1_b.Signs : Int) - (-1)), (-1), rfl, (by rfl), rfl, rfl, (show 2 ≤ nx + 6 by omega), ?_, ?_, e12, e13, e14, ?_, h⟩ <;> first | (simp only [upd_apply, updH_apply, without_apply, e12, e13, e14, H15, H16, q17, q18, d20, w21, implies_true, Nat.reduceAdd, Nat.reduceMul, Nat.reduceEqDiff, Nat.reduceLeDiff, reduceIte, reduceCtorEq]; done) | (simp only [upd_apply, updH_apply, without_apply, e12, e13, e14, H15, H16, q17, q18, d20, w21, implies_true, Nat.reduceAdd, Nat.reduceMul, Nat.reduceEqDiff, Nat.reduceLeDiff, reduceIte, reduceCtorEq]; rfl) | rfl) ?_
    rintro m ⟨tm, H, nx, df⟩ hinv
    rw [hI22] at hinv
    obtain ⟨p22, c22_6, rfl, hi22, hp22, hdf, hn22, H28, H29, e24, e25, e26, e27, h⟩ := hinv
    simp only at hdf hn22 H28 H29 e24 e25 e26 e27
    have q30 := fresh_ne (n := 0) (B := 2) (by decide) hn22
    have q31 := fresh_ne (n := 1) (B := 2) (by decide) hn22
    subst hdf hf22
    cases p22 with
    | zero =>
      have d32 : (decide (c22_6 < (List.length x1_b.Signs : Int))) = false := cnt_not_lt hp22
      simp only [g_ref01_mistaken_l1, cond_true, cond_false, lbind_go, lbind_ret, lbind_brk, lbind_none, Option.bind_some, Option.bind_none, Bool.not_true, Bool.not_false, reduceCtorEq] at h
      replace h := kG22 _ h
      try dsimp only at h
      try simp only [cond_true, cond_false, lbind_go, lbind_ret, lbind_brk, lbind_none, Option.bind_some, Option.bind_none, Bool.not_true, Bool.not_false] at h
      simp only [vs, cwp_label, ng_normal, ng_ret, ng_exit, cr, tyf, g11, d20, w21, g23, e24, e25, e26, e27, H28, H29, q30, q31, d32, implies_true, Nat.reduceAdd, Nat.reduceMul, Nat.reduceEqDiff, Nat.reduceLeDiff, reduceIte, reduceCtorEq]
      exact ⟨p10, Nat.lt_succ_self _, by rw [hI10]; refine ⟨p10, c10_5 + 1, rfl, cnt_lo hi10, cnt_next hp10, rfl, (show 2 ≤ nx + 8 by omega), ?_, ?_, e24, e25, ?_, h⟩ <;> first | (simp only [upd_apply, updH_apply, without_apply, d20, w21, e24, e25, e26, e27, H28, H29, q30, q31, d32, implies_true, Nat.reduceAdd, Nat.reduceMul, Nat.reduceEqDiff, Nat.reduceLeDiff, reduceIte, reduceCtorEq]; done) | (simp only [upd_apply, updH_apply, without_apply, d20, w21, e24, e25, e26, e27, H28, H29, q30, q31, d32, implies_true, Nat.reduceAdd, Nat.reduceMul, Nat.reduceEqDiff, Nat.reduceLeDiff, reduceIte, reduceCtorEq]; rfl) | rfl⟩
    | succ p22 =>
      have d33 : (decide (c22_6 < (List.length x1_b.Signs : Int))) = true := cnt_lt hp22
      have w34 := cnt_wrap hi22 hp22 g23
      simp only [g_ref01_mistaken_l1, cond_true, cond_false, lbind_go, lbind_ret, lbind_brk, lbind_none, Option.bind_some, Option.bind_none, Bool.not_true, Bool.not_false, reduceCtorEq] at h
      cases o36 : (g_ref01_Fallen x0_a c10_5) with
      | none =>
        simp only [o36, cond_true, cond_false, lbind_go, lbind_ret, lbind_brk, lbind_none, Option.bind_some, Option.bind_none, Bool.not_true, Bool.not_false, reduceCtorEq] at h
        exact absurd h kN22
      | some r35 =>
        simp only [o36, cond_true, cond_false, lbind_go, lbind_ret, lbind_brk, lbind_none, Option.bind_some, Option.bind_none, Bool.not_true, Bool.not_false, reduceCtorEq] at h
        simp only [vs, cwp_label, ng_normal, ng_ret, ng_exit, cr, tyf, g11, d20, w21, g23, e24, e25, e26, e27, H28, H29, q30, q31, d33, w34, implies_true, Nat.reduceAdd, Nat.reduceMul, Nat.reduceEqDiff, Nat.reduceLeDiff, reduceIte, reduceCtorEq]
        refine ktree (args0 := [.agg (cGLetterWord x0_a), .lit (.int .i64 c10_5)]) (by first | (simp only [nrm, tynrm]; done) | (simp only [nrm, tynrm]; rfl) | rfl) (by simp only [tre, tytre, Bool.and_self]) (g_ref01_Fallen_ok _ _ _ o36) ?_
        refine fin_cut (fun tm => tm 2 = .ptr 0 0 ∧ tm 3 = .ptr 1 0 ∧ tm 5 = .lit (.int .i64 c10_5) ∧ tm 6 = .lit (.int .i64 c22_6) ∧ tm 24 = .sl (cellsL eI r35) (List.length r35) false ∧ True) (by refine ⟨e24, e25, e26, e27, ?_, trivial⟩ <;> first | (simp only [upd_apply, updH_apply, without_apply, d20, w21, e24, e25, e26, e27, H28, H29, q30, q31, d33, w34, implies_true, Nat.reduceAdd, Nat.reduceMul, Nat.reduceEqDiff, Nat.reduceLeDiff, reduceIte, reduceCtorEq]; done) | (simp only [upd_apply, updH_apply, without_apply, d20, w21, e24, e25, e26, e27, H28, H29, q30, q31, d33, w34, implies_true, Nat.reduceAdd, Nat.reduceMul, Nat.reduceEqDiff, Nat.reduceLeDiff, reduceIte, reduceCtorEq]; rfl) | rfl) ?_
        rintro tm ⟨e37, e38, e39, e40, e41, _⟩
        cases d42 : (decide ((List.length r35 : Int) > 0))
        · simp only [d42, cond_true, cond_false, lbind_go, lbind_ret, lbind_brk, lbind_none, Option.bind_some, Option.bind_none, Bool.not_true, Bool.not_false, reduceCtorEq] at h
          simp only [vs, cwp_label, ng_normal, ng_ret, ng_exit, cr, tyf, g11, d20, w21, g23, H28, H29, q30, q31, d33, w34, e37, e38, e39, e40, e41, d42, implies_true, Nat.reduceAdd, Nat.reduceMul, Nat.reduceEqDiff, Nat.reduceLeDiff, reduceIte, reduceCtorEq]
          exact ⟨p22, Nat.lt_succ_self _, by rw [hI22]; refine ⟨p22, c22_6 + 1, rfl, cnt_lo hi22, cnt_next hp22, rfl, (show 2 ≤ nx + 22 by omega), ?_, ?_, e37, e38, e39, ?_, h⟩ <;> first | (simp only [upd_apply, updH_apply, without_apply, d20, w21, H28, H29, q30, q31, d33, w34, e37, e38, e39, e40, e41, d42, implies_true, Nat.reduceAdd, Nat.reduceMul, Nat.reduceEqDiff, Nat.reduceLeDiff, reduceIte, reduceCtorEq]; done) | (simp only [upd_apply, updH_apply, without_apply, d20, w21, H28, H29, q30, q31, d33, w34, e37, e38, e39, e40, e41, d42, implies_true, Nat.reduceAdd, Nat.reduceMul, Nat.reduceEqDiff, Nat.reduceLeDiff, reduceIte, reduceCtorEq]; rfl) | rfl⟩
        · simp only [d42, cond_true, cond_false, lbind_go, lbind_ret, lbind_brk, lbind_none, Option.bind_some, Option.bind_none, Bool.not_true, Bool.not_false, reduceCtorEq] at h
          cases o44 : (g_ref01_Fallen x1_b c22_6) with
          | none =>
            simp only [o44, cond_true, cond_false, lbind_go, lbind_ret, lbind_brk, lbind_none, Option.bind_some, Option.bind_none, Bool.not_true, Bool.not_false, reduceCtorEq] at h
            exact absurd h kN22
          | some r43 =>
            simp only [o44, cond_true, cond_false, lbind_go, lbind_ret, lbind_brk, lbind_none, Option.bind_some, Option.bind_none, Bool.not_true, Bool.not_false, reduceCtorEq] at h
            simp only [vs, cwp_label, ng_normal, ng_ret, ng_exit, cr, tyf, g11, d20, w21, g23, H28, H29, q30, q31, d33, w34, e37, e38, e39, e40, e41, d42, implies_true, Nat.reduceAdd, Nat.reduceMul, Nat.reduceEqDiff, Nat.reduceLeDiff, reduceIte, reduceCtorEq]
            refine ktree (args0 := [.agg (cGLetterWord x1_b), .lit (.int .i64 c22_6)]) (by first | (simp only [nrm, tynrm]; done) | (simp only [nrm, tynrm]; rfl) | rfl) (by simp only [tre, tytre, Bool.and_self]) (g_ref01_Fallen_ok _ _ _ o44) ?_
            refine fin_cut (fun tm => tm 2 = .ptr 0 0 ∧ tm 3 = .ptr 1 0 ∧ tm 5 = .lit (.int .i64 c10_5) ∧ tm 6 = .lit (.int .i64 c22_6) ∧ tm 28 = .lit (.bool true) ∧ tm 29 = .sl (cellsL eI r35) (List.length r35) false ∧ tm 32 = .sl (cellsL eI r43) (List.length r43) false ∧ True) (by refine ⟨e37, e38, e39, e40, ?_, ?_, ?_, trivial⟩ <;> first | (simp only [upd_apply, updH_apply, without_apply, d20, w21, H28, H29, q30, q31, d33, w34, e37, e38, e39, e40, e41, d42, implies_true, Nat.reduceAdd, Nat.reduceMul, Nat.reduceEqDiff, Nat.reduceLeDiff, reduceIte, reduceCtorEq]; done) | (simp only [upd_apply, updH_apply, without_apply, d20, w21, H28, H29, q30, q31, d33, w34, e37, e38, e39, e40, e41, d42, implies_true, Nat.reduceAdd, Nat.reduceMul, Nat.reduceEqDiff, Nat.reduceLeDiff, reduceIte, reduceCtorEq]; rfl) | rfl) ?_
            rintro tm ⟨e45, e46, e47, e48, e49, e50, e51, _⟩
            cases o53 : (g_ref01_Same r35 r43) with
            | none =>
              simp only [o53, cond_true, cond_false, lbind_go, lbind_ret, lbind_brk, lbind_none, Option.bind_some, Option.bind_none, Bool.not_true, Bool.not_false, reduceCtorEq] at h
              exact absurd h kN22
            | some r52 =>
              simp only [o53, cond_true, cond_false, lbind_go, lbind_ret, lbind_brk, lbind_none, Option.bind_some, Option.bind_none, Bool.not_true, Bool.not_false, reduceCtorEq] at h
              simp only [vs, cwp_label, ng_normal, ng_ret, ng_exit, cr, tyf, g11, d20, w21, g23, H28, H29, q30, q31, d33, w34, d42, e45, e46, e47, e48, e49, e50, e51, implies_true, Nat.reduceAdd, Nat.reduceMul, Nat.reduceEqDiff, Nat.reduceLeDiff, reduceIte, reduceCtorEq]
              refine ktree (args0 := [.sl (cellsL eI r35) (List.length r35) false, .sl (cellsL eI r43) (List.length r43) false]) (by first | (simp only [nrm, tynrm]; done) | (simp only [nrm, tynrm]; rfl) | rfl) (by simp only [tre, tytre, Bool.and_self]) (g_ref01_Same_ok _ _ _ o53) ?_
              refine fin_cut (fun tm => tm 2 = .ptr 0 0 ∧ tm 3 = .ptr 1 0 ∧ tm 5 = .lit (.int .i64 c10_5) ∧ tm 6 = .lit (.int .i64 c22_6) ∧ tm 28 = .lit (.bool true) ∧ tm 33 = .lit (.bool r52) ∧ True) (by refine ⟨e45, e46, e47, e48, e49, ?_, trivial⟩ <;> first | (simp only [upd_apply, updH_apply, without_apply, d20, w21, H28, H29, q30, q31, d33, w34, d42, e45, e46, e47, e48, e49, e50, e51, implies_true, Nat.reduceAdd, Nat.reduceMul, Nat.reduceEqDiff, Nat.reduceLeDiff, reduceIte, reduceCtorEq]; done) | (simp only [upd_apply, updH_apply, without_apply, d20, w21, H28, H29, q30, q31, d33, w34, d42, e45, e46, e47, e48, e49, e50, e51, implies_true, Nat.reduceAdd, Nat.reduceMul, Nat.reduceEqDiff, Nat.reduceLeDiff, reduceIte, reduceCtorEq]; rfl) | rfl) ?_
              rintro tm ⟨e54, e55, e56, e57, e58, e59, _⟩
              cases d60 : (r52)
              · simp only [d60, cond_true, cond_false, lbind_go, lbind_ret, lbind_brk, lbind_none, Option.bind_some, Option.bind_none, Bool.not_true, Bool.not_false, reduceCtorEq] at h
                simp only [vs, cwp_label, ng_normal, ng_ret, ng_exit, cr, tyf, g11, d20, w21, g23, H28, H29, q30, q31, d33, w34, d42, e54, e55, e56, e57, e58, e59, d60, implies_true, Nat.reduceAdd, Nat.reduceMul, Nat.reduceEqDiff, Nat.reduceLeDiff, reduceIte, reduceCtorEq]
                exact ⟨p22, Nat.lt_succ_self _, by rw [hI22]; refine ⟨p22, c22_6 + 1, rfl, cnt_lo hi22, cnt_next hp22, rfl, (show 2 ≤ nx + 22 by omega), ?_, ?_, e54, e55, e56, ?_, h⟩ <;> first | (simp only [upd_apply, updH_apply, without_apply, d20, w21, H28, H29, q30, q31, d33, w34, d42, e54, e55, e56, e57, e58, e59, d60, implies_true, Nat.reduceAdd, Nat.reduceMul, Nat.reduceEqDiff, Nat.reduceLeDiff, reduceIte, reduceCtorEq]; done) | (simp only [upd_apply, updH_apply, without_apply, d20, w21, H28, H29, q30, q31, d33, w34, d42, e54, e55, e56, e57, e58, e59, d60, implies_true, Nat.reduceAdd, Nat.reduceMul, Nat.reduceEqDiff, Nat.reduceLeDiff, reduceIte, reduceCtorEq]; rfl) | rfl⟩
              · simp only [d60, cond_true, cond_false, lbind_go, lbind_ret, lbind_brk, lbind_none, Option.bind_some, Option.bind_none, Bool.not_true, Bool.not_false, reduceCtorEq] at h
                simp only [vs, cwp_label, ng_normal, ng_ret, ng_exit, cr, tyf, g11, d20, w21, g23, H28, H29, q30, q31, d33, w34, d42, e54, e55, e56, e57, e58, e59, d60, implies_true, Nat.reduceAdd, Nat.reduceMul, Nat.reduceEqDiff, Nat.reduceLeDiff, reduceIte, reduceCtorEq]
                replace h := kR22 _ h
                try dsimp only at h
                replace h := kR10 _ h
                try dsimp only at h
                obtain rfl := kF _ h
                refine ret1 Tryz.results55 ?_ ?_
                · first | (simp only [outV, upd_apply, updH_apply, without_apply, showV_ref, cr, tyf, nrm, tynrm, g11, d20, w21, g23, H28, H29, q30, q31, d33, w34, d42, e54, e55, e56, e57, e58, e59, d60, implies_true, Nat.reduceAdd, Nat.reduceMul, Nat.reduceEqDiff, Nat.reduceLeDiff, reduceIte, reduceCtorEq]; done) | (simp only [outV, upd_apply, updH_apply, without_apply, showV_ref, cr, tyf, nrm, tynrm, g11, d20, w21, g23, H28, H29, q30, q31, d33, w34, d42, e54, e55, e56, e57, e58, e59, d60, implies_true, Nat.reduceAdd, Nat.reduceMul, Nat.reduceEqDiff, Nat.reduceLeDiff, reduceIte, reduceCtorEq]; rfl)
                · simp only [tre, tytre, Bool.and_self]

end Go.V
end
