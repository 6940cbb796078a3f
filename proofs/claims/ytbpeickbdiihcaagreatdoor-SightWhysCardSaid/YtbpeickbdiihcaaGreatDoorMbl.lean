/- Part of the proof of statements of YtbpeickbdiihcaaGreatDoor: a logic of values by content, the lifted functions, and what follows. -/
import Derived.Test.YtbpeickbdiihcaaGreatDoorMbd
import Derived.Test.YtbpeickbdiihcaaGreatDoorMbf
import Derived.Test.YtbpeickbdiihcaaGreatDoorMbk
import Derived.Test.YtbpeickbdiihcaaGreatDoorMbg
import Derived.Test.YtbpeickbdiihcaaGreatDoorMbi
import Derived.Test.YtbpeickbdiihcaaGreatDoorMbj
set_option linter.unusedVariables false
set_option linter.unusedSimpArgs false
set_option linter.unusedSectionVars false
set_option linter.constructorNameAsVariable false
section
namespace Go.V
open Go Go.Proofs
set_option linter.unusedSimpArgs false
set_option linter.unusedVariables false
set_option maxRecDepth 4000
set_option maxHeartbeats 4000000
def g_sight_atBest_l0  : List GSightBlock → Int → (List GSightBlock) → Option (LOut (Gsightview) ((List GSightBlock)))
 | [], c0_13, c0_7 => some (.go c0_7)
 | e0 :: p0, c0_13, c0_7 => cond (e0.Sure) (cond (roomOk 40 (List.length (c0_7 ++ [e0]))) (g_sight_atBest_l0 p0 (c0_13 + 1) (c0_7 ++ [e0])) none) (g_sight_atBest_l0 p0 (c0_13 + 1) c0_7)
def g_sight_atBest (x0_s : GSightStreet) (x1_b : GSightBoard) (x2_from : GSightPlace) : Option (Gsightview) := cond (lenOk x0_s.Blocks) (lbind (g_sight_atBest_l0 x0_s.Blocks 0 ([] : List GSightBlock)) (fun r2 => some r2) (fun c1 => some (Gsightview.mk (GSightStreet.mk x0_s.Length x0_s.Width x0_s.Eye x0_s.Light x0_s.Boards c1) x2_from x1_b (IntKind.i64.wrap (x0_s.Eye.High * x0_s.Light.High)))) (fun _ _ => none)) none
theorem g_sight_atBest_ok (x0_s : GSightStreet) (x1_b : GSightBoard) (x2_from : GSightPlace) (R : Gsightview) (h : g_sight_atBest x0_s x1_b x2_from = some R) : VPure Tryz.prog G0 101 [.agg (cGSightStreet x0_s), .agg (cGSightBoard x1_b), .agg (cGSightPlace x2_from)] (.tree (.agg (cGsightview R))) := by
 refine VPure.runR mixed Tryz.call101 Tryz.func101 rfl (by simp [Tryz.ntmps101]; kernel_rfl) ?_
 obtain ⟨KF, h, kF, kN⟩ := fun_intro h
 simp only [g_sight_atBest] at h
 cases g4 : (lenOk x0_s.Blocks)
 ·simp only [g4, hs, reduceCtorEq] at h
  exact absurd h kN
 simp only [g4, hs, reduceCtorEq] at h
 simp only [vz, tyf, g4, nmB, implies_true, seval]
 obtain ⟨K3, h, kR3, kG3, kB3, kN3⟩ := lbind_intro h kN
 obtain ⟨f3, hf3, h⟩ := call3 h
 obtain ⟨I3, hI3⟩ : ∃ I : Nat → St → Prop, I = (fun m st => ∃ (p3 : List GSightBlock) (c3_13 : Int) (c3_7 : List GSightBlock) (y3_0 : VV), m = List.length p3 ∧ 0 ≤ c3_13 ∧ List.drop (Int.toNat c3_13) x0_s.Blocks = p3 ∧ st.df = [] ∧ 9 ≤ st.nx ∧ st.H 0 = some (.cells (some 27) (cGSightStreet x0_s)) ∧ st.H 1 = some (.cells (some 42) (cGSightBoard x1_b)) ∧ st.H 2 = some (.cells (some 29) (cGSightPlace x2_from)) ∧ st.H 3 = some (.cells (some 97) ([.lit (.int .i64 0)] ++ [.lit (.int .i64 0)] ++ [.lit (.int .i64 0)] ++ [.lit (.int .i64 0)] ++ [.lit (.int .i64 0)] ++ [.lit (.int .i64 0)] ++ [.lit (.slice none 0 0)] ++ [.lit (.slice none 0 0)] ++ [.lit (.int .i64 0)] ++ [.lit (.int .i64 0)] ++ [.lit (.int .i64 0)] ++ [.lit (.slice none 0 0)] ++ [.lit (.int .i64 0)])) ∧ st.tm 3 = .ptr 0 0 ∧ st.tm 4 = .ptr 1 0 ∧ st.tm 5 = .ptr 2 0 ∧ st.tm 6 = .ptr 3 0 ∧ st.tm 11 = .sl (cellsL cGSightBlock x0_s.Blocks) (List.length x0_s.Blocks) false ∧ st.tm 12 = .lit (.int .i64 (List.length x0_s.Blocks : Int)) ∧ st.tm 7 = y3_0 ∧ st.tm 13 = .lit (.int .i64 c3_13) ∧ ((∃ (β : Nat) (el : Option TypeId), y3_0 = .ref β 0 (List.length c3_7) 5 (List.length c3_7) ∧ β < st.nx ∧ β ≠ 0 ∧ β ≠ 1 ∧ β ≠ 2 ∧ β ≠ 3 ∧ st.H β = some (.cells el (cellsL cGSightBlock c3_7))) ∨ (y3_0 = .lit (.slice none 0 0) ∧ c3_7 = [])) ∧ K3 (f3 p3 c3_13 c3_7)) := ⟨_, rfl⟩
 refine loopK mixed (by kernel_rfl) I3 (List.length x0_s.Blocks) (by rw [hI3]; refine ⟨x0_s.Blocks, 0, ([] : List GSightBlock), .lit (.slice none 0 0), rfl, Int.le_refl _, rfl, rfl, (show 9 ≤ 9 by omega), ?_, ?_, ?_, ?_, ?_, ?_, ?_, ?_, ?_, ?_, ?_, ?_, Or.inr ⟨rfl, rfl⟩, h⟩ <;> first | (simp only [upd_apply, updH_apply, without_apply, mV_app, mV_app0, nmB, implies_true, seval] <;> rfl) | rfl) ?_
 rintro m ⟨tm, H, nx3, df⟩ hinv
 rw [hI3] at hinv
 obtain ⟨p3, c3_13, c3_7, y3_0, rfl, hi3, hp3, hdf, hn3, H5, H6, H7, H8, e9, e10, e11, e12, e13, e14, e15, e16, ow3_0, h⟩ := hinv
 simp only at hdf hn3 H5 H6 H7 H8 e9 e10 e11 e12 e13 e14 e15 e16 ow3_0
 have n17 := base_ne0 (m := 9) (b := nx3) (by omega)
 subst hdf hf3
 rcases ow3_0 with ⟨b3_0, el3_0, rfl, lq19, lq20, lq21, lq22, lq23, H18⟩ | ⟨rfl, rfl⟩
 ·have q19 := own_lt lq19
  have q20 := ne_f lq20
  have q21 := ne_f lq21
  have q22 := ne_f lq22
  have q23 := ne_f lq23
  cases p3 with
  | nil =>
   have d24 : (decide (c3_13 < (List.length x0_s.Blocks : Int))) = false := not_lt_of_drop hi3 hp3
   simp only [g_sight_atBest_l0, hs, reduceCtorEq] at h
   replace h := kG3 _ h
   try dsimp only at h
   try simp only [hs] at h
   simp only [vz, tyf, g4, n17, e9, e10, e11, e12, e13, e14, e15, e16, H5, H6, H7, H8, q19, H18, q20, q21, q22, q23, d24, nmB, implies_true, seval]
   refine opd_ret (x := (.agg ([.lit (.int .i64 x0_s.Length)] ++ [.lit (.int .i64 x0_s.Width)] ++ (cGSpan x0_s.Eye) ++ (cGSpan x0_s.Light) ++ [.sl (cellsL cGSightBoard x0_s.Boards) (List.length x0_s.Boards) false] ++ [.ref b3_0 0 (List.length c3_7) 5 (List.length c3_7)] ++ (cGSightPlace x2_from) ++ (cGSightBoard x1_b) ++ [.lit (.int .i64 (IntKind.i64.wrap (x0_s.Eye.High * x0_s.Light.High)))]))) (by first | (simp only [Tryz.results101, resV, resL, resV1, tgt_ptr, tgt_tp, upd_apply, updH_apply, without_apply, cr, tyf, g4, n17, e9, e10, e11, e12, e13, e14, e15, e16, H5, H6, H7, H8, q19, H18, q20, q21, q22, q23, d24, nmB, implies_true, seval] <;> rfl) | rfl) ?_
   obtain rfl := kF _ h
   refine rr_tree ?_ ?_
   ·simp only [tre, tytre, Bool.and_self]
   ·first | (simp only [outV, upd_apply, updH_apply, without_apply, showV_ref, cr, tyf, nrm, tynrm, g4, n17, e9, e10, e11, e12, e13, e14, e15, e16, H5, H6, H7, H8, q19, H18, q20, q21, q22, q23, d24, nmB, implies_true, seval] <;> rfl) | rfl
  | cons e3 p3 =>
   have d25 : (decide (c3_13 < (List.length x0_s.Blocks : Int))) = true := lt_of_drop hi3 hp3
   have o27 := getI_of_drop hi3 hp3
   have w26 := wrap_next hi3 hp3 g4
   simp only [g_sight_atBest_l0, hs, reduceCtorEq] at h
   cases d28 : (e3.Sure)
   ·simp only [d28, hs, reduceCtorEq] at h
    simp only [vz, tyf, g4, n17, e9, e10, e11, e12, e13, e14, e15, e16, H5, H6, H7, H8, q19, H18, q20, q21, q22, q23, d25, (ix25 o27), w26, d28, nmB, implies_true, seval]
    exact ⟨List.length p3, Nat.lt_succ_self _, by rw [hI3]; refine ⟨p3, c3_13 + 1, c3_7, .ref b3_0 0 (List.length c3_7) 5 (List.length c3_7), rfl, Int.le_trans hi3 (Int.le_add_one (Int.le_refl _)), drop_next hi3 hp3, rfl, (show 9 ≤ nx3 + 9 by omega), ?_, ?_, ?_, ?_, e9, e10, e11, e12, e13, e14, ?_, ?_, Or.inl ⟨b3_0, el3_0, rfl, (by first | omega | (simp only [nmB, implies_true, seval]; omega)), (by first | omega | (intro hh; simp only [n17, q19, q20, q21, q22, q23, reduceCtorEq] at hh)), (by first | omega | (intro hh; simp only [n17, q19, q20, q21, q22, q23, reduceCtorEq] at hh)), (by first | omega | (intro hh; simp only [n17, q19, q20, q21, q22, q23, reduceCtorEq] at hh)), (by first | omega | (intro hh; simp only [n17, q19, q20, q21, q22, q23, reduceCtorEq] at hh)), ?_⟩, h⟩ <;> first | (simp only [upd_apply, updH_apply, without_apply, mV_app, mV_app0, n17, e9, e10, e11, e12, e13, e14, e15, e16, H5, H6, H7, H8, q19, H18, q20, q21, q22, q23, d25, w26, d28, nmB, implies_true, seval] <;> rfl) | rfl⟩
   ·simp only [d28, hs, reduceCtorEq] at h
    cases g29 : (roomOk 40 (List.length (c3_7 ++ [e3])))
    ·simp only [g29, hs, reduceCtorEq] at h
     exact absurd h kN3
    simp only [g29, hs, reduceCtorEq] at h
    simp only [vz, tyf, g4, n17, e9, e10, e11, e12, e13, e14, e15, e16, H5, H6, H7, H8, q19, H18, q20, q21, q22, q23, d25, (ix25 o27), w26, d28, g29, nmB, implies_true, seval]
    refine k_app (w := 5) (enc := cGSightBlock) (xs := c3_7) (ys := ([e3])) (el := el3_0) (el2 := (some 68)) (fun _ => rfl) lf25 ao25 Tryz.underlying25 (by first | rfl | assumption | (simp only [updH_apply, without_apply, et25, n17, H5, H6, H7, H8, q19, H18, q20, q21, q22, q23, nmB, implies_true, seval] <;> rfl) | (simp only [updH_apply, without_apply, cellsL_cons, cellsL_nil, mV_app, mV_app0, tyf, g4, n17, e9, e10, e11, e12, e13, e14, e15, e16, H5, H6, H7, H8, q19, H18, q20, q21, q22, q23, d25, (ix25 o27), w26, d28, g29, nmB, implies_true, seval]; done)) (by first | rfl | assumption | (simp only [updH_apply, without_apply, et25, n17, H5, H6, H7, H8, q19, H18, q20, q21, q22, q23, nmB, implies_true, seval] <;> rfl) | (simp only [updH_apply, without_apply, cellsL_cons, cellsL_nil, mV_app, mV_app0, tyf, g4, n17, e9, e10, e11, e12, e13, e14, e15, e16, H5, H6, H7, H8, q19, H18, q20, q21, q22, q23, d25, (ix25 o27), w26, d28, g29, nmB, implies_true, seval]; done)) (Nat.zero_lt_succ _) g29 ?_
    simp only [vz, tyf, g4, n17, e9, e10, e11, e12, e13, e14, e15, e16, H5, H6, H7, H8, q19, H18, q20, q21, q22, q23, d25, (ix25 o27), w26, d28, g29, nmB, implies_true, seval]
    exact ⟨List.length p3, Nat.lt_succ_self _, by rw [hI3]; refine ⟨p3, c3_13 + 1, (c3_7 ++ [e3]), .ref (nx3 + 10) 0 (List.length (c3_7 ++ [e3])) 5 (List.length (c3_7 ++ [e3])), rfl, Int.le_trans hi3 (Int.le_add_one (Int.le_refl _)), drop_next hi3 hp3, rfl, (show 9 ≤ nx3 + 14 by omega), ?_, ?_, ?_, ?_, e9, e10, e11, e12, e13, e14, ?_, ?_, Or.inl ⟨nx3 + 10, (sameEl el3_0 68), rfl, (by first | omega | (simp only [nmB, implies_true, seval]; omega)), (by first | omega | (intro hh; simp only [n17, q19, q20, q21, q22, q23, reduceCtorEq] at hh)), (by first | omega | (intro hh; simp only [n17, q19, q20, q21, q22, q23, reduceCtorEq] at hh)), (by first | omega | (intro hh; simp only [n17, q19, q20, q21, q22, q23, reduceCtorEq] at hh)), (by first | omega | (intro hh; simp only [n17, q19, q20, q21, q22, q23, reduceCtorEq] at hh)), ?_⟩, h⟩ <;> first | (simp only [upd_apply, updH_apply, without_apply, mV_app, mV_app0, n17, e9, e10, e11, e12, e13, e14, e15, e16, H5, H6, H7, H8, q19, H18, q20, q21, q22, q23, d25, w26, d28, nmB, implies_true, seval] <;> rfl) | rfl⟩
 ·cases p3 with
  | nil =>
   have d30 : (decide (c3_13 < (List.length x0_s.Blocks : Int))) = false := not_lt_of_drop hi3 hp3
   simp only [g_sight_atBest_l0, hs, reduceCtorEq] at h
   replace h := kG3 _ h
   try dsimp only at h
   try simp only [hs] at h
   simp only [vz, tyf, g4, n17, e9, e10, e11, e12, e13, e14, e15, e16, H5, H6, H7, H8, d30, nmB, implies_true, seval]
   refine opd_ret (x := (.agg ([.lit (.int .i64 x0_s.Length)] ++ [.lit (.int .i64 x0_s.Width)] ++ (cGSpan x0_s.Eye) ++ (cGSpan x0_s.Light) ++ [.sl (cellsL cGSightBoard x0_s.Boards) (List.length x0_s.Boards) false] ++ [.lit (.slice none 0 0)] ++ (cGSightPlace x2_from) ++ (cGSightBoard x1_b) ++ [.lit (.int .i64 (IntKind.i64.wrap (x0_s.Eye.High * x0_s.Light.High)))]))) (by first | (simp only [Tryz.results101, resV, resL, resV1, tgt_ptr, tgt_tp, upd_apply, updH_apply, without_apply, cr, tyf, g4, n17, e9, e10, e11, e12, e13, e14, e15, e16, H5, H6, H7, H8, d30, nmB, implies_true, seval] <;> rfl) | rfl) ?_
   obtain rfl := kF _ h
   refine rr_tree ?_ ?_
   ·simp only [tre, tytre, Bool.and_self]
   ·first | (simp only [outV, upd_apply, updH_apply, without_apply, showV_ref, cr, tyf, nrm, tynrm, g4, n17, e9, e10, e11, e12, e13, e14, e15, e16, H5, H6, H7, H8, d30, nmB, implies_true, seval] <;> rfl) | rfl
  | cons e3 p3 =>
   have d31 : (decide (c3_13 < (List.length x0_s.Blocks : Int))) = true := lt_of_drop hi3 hp3
   have o33 := getI_of_drop hi3 hp3
   have w32 := wrap_next hi3 hp3 g4
   simp only [g_sight_atBest_l0, hs, reduceCtorEq] at h
   cases d34 : (e3.Sure)
   ·simp only [d34, hs, reduceCtorEq] at h
    simp only [vz, tyf, g4, n17, e9, e10, e11, e12, e13, e14, e15, e16, H5, H6, H7, H8, d31, (ix25 o33), w32, d34, nmB, implies_true, seval]
    exact ⟨List.length p3, Nat.lt_succ_self _, by rw [hI3]; refine ⟨p3, c3_13 + 1, ([] : List GSightBlock), .lit (.slice none 0 0), rfl, Int.le_trans hi3 (Int.le_add_one (Int.le_refl _)), drop_next hi3 hp3, rfl, (show 9 ≤ nx3 + 9 by omega), ?_, ?_, ?_, ?_, e9, e10, e11, e12, e13, e14, ?_, ?_, Or.inr ⟨rfl, rfl⟩, h⟩ <;> first | (simp only [upd_apply, updH_apply, without_apply, mV_app, mV_app0, n17, e9, e10, e11, e12, e13, e14, e15, e16, H5, H6, H7, H8, d31, w32, d34, nmB, implies_true, seval] <;> rfl) | rfl⟩
   ·simp only [d34, hs, reduceCtorEq] at h
    cases g35 : (roomOk 40 (List.length (([] : List GSightBlock) ++ [e3])))
    ·simp only [g35, hs, reduceCtorEq] at h
     exact absurd h kN3
    simp only [g35, hs, reduceCtorEq] at h
    simp only [vz, tyf, g4, n17, e9, e10, e11, e12, e13, e14, e15, e16, H5, H6, H7, H8, d31, (ix25 o33), w32, d34, g35, nmB, implies_true, seval]
    refine k_appN (w := 5) (enc := cGSightBlock) (ys := ([e3])) (el2 := (some 68)) (fun _ => rfl) lf25 ao25 Tryz.underlying25 (by first | rfl | assumption | (simp only [updH_apply, without_apply, et25, n17, H5, H6, H7, H8, nmB, implies_true, seval] <;> rfl) | (simp only [updH_apply, without_apply, cellsL_cons, cellsL_nil, mV_app, mV_app0, tyf, g4, n17, e9, e10, e11, e12, e13, e14, e15, e16, H5, H6, H7, H8, d31, (ix25 o33), w32, d34, g35, nmB, implies_true, seval]; done)) (Nat.zero_lt_succ _) g35 ?_
    simp only [vz, tyf, g4, n17, e9, e10, e11, e12, e13, e14, e15, e16, H5, H6, H7, H8, d31, (ix25 o33), w32, d34, g35, nmB, implies_true, seval]
    exact ⟨List.length p3, Nat.lt_succ_self _, by rw [hI3]; refine ⟨p3, c3_13 + 1, (([] : List GSightBlock) ++ [e3]), .ref (nx3 + 10) 0 (List.length (([] : List GSightBlock) ++ [e3])) 5 (List.length (([] : List GSightBlock) ++ [e3])), rfl, Int.le_trans hi3 (Int.le_add_one (Int.le_refl _)), drop_next hi3 hp3, rfl, (show 9 ≤ nx3 + 14 by omega), ?_, ?_, ?_, ?_, e9, e10, e11, e12, e13, e14, ?_, ?_, Or.inl ⟨nx3 + 10, (some 68), rfl, (by first | omega | (simp only [nmB, implies_true, seval]; omega)), (by first | omega | (intro hh; simp only [n17, reduceCtorEq] at hh)), (by first | omega | (intro hh; simp only [n17, reduceCtorEq] at hh)), (by first | omega | (intro hh; simp only [n17, reduceCtorEq] at hh)), (by first | omega | (intro hh; simp only [n17, reduceCtorEq] at hh)), ?_⟩, h⟩ <;> first | (simp only [upd_apply, updH_apply, without_apply, mV_app, mV_app0, n17, e9, e10, e11, e12, e13, e14, e15, e16, H5, H6, H7, H8, d31, w32, d34, nmB, implies_true, seval] <;> rfl) | rfl⟩
end Go.V
end
section
namespace Go.V
open Go Go.Proofs
set_option linter.unusedSimpArgs false
set_option linter.unusedVariables false
set_option maxRecDepth 4000
set_option maxHeartbeats 4000000
def g_sight_atWorst (x0_s : GSightStreet) (x1_b : GSightBoard) (x2_from : GSightPlace) : Option (Gsightview) := some (Gsightview.mk x0_s x2_from x1_b (IntKind.i64.wrap (x0_s.Eye.Low * x0_s.Light.Low)))
theorem g_sight_atWorst_ok (x0_s : GSightStreet) (x1_b : GSightBoard) (x2_from : GSightPlace) (R : Gsightview) (h : g_sight_atWorst x0_s x1_b x2_from = some R) : VPure Tryz.prog G0 64 [.agg (cGSightStreet x0_s), .agg (cGSightBoard x1_b), .agg (cGSightPlace x2_from)] (.tree (.agg (cGsightview R))) := by
 refine VPure.runR mixed Tryz.call64 Tryz.func64 rfl (by simp [Tryz.ntmps64]; kernel_rfl) ?_
 obtain ⟨KF, h, kF, kN⟩ := fun_intro h
 simp only [g_sight_atWorst] at h
 simp only [vz, tyf, nmB, implies_true, seval]
 refine opd_ret (x := (.agg ((cGSightStreet x0_s) ++ (cGSightPlace x2_from) ++ (cGSightBoard x1_b) ++ [.lit (.int .i64 (IntKind.i64.wrap (x0_s.Eye.Low * x0_s.Light.Low)))]))) (by first | (simp only [Tryz.results64, resV, resL, resV1, tgt_ptr, tgt_tp, upd_apply, updH_apply, without_apply, cr, tyf, nmB, implies_true, seval] <;> rfl) | rfl) ?_
 obtain rfl := kF _ h
 refine rr_tree ?_ ?_
 ·simp only [tre, tytre, Bool.and_self]
 ·first | (simp only [outV, upd_apply, updH_apply, without_apply, showV_ref, cr, tyf, nrm, tynrm, nmB, implies_true, seval] <;> rfl) | rfl
end Go.V
end
section
namespace Go.V
open Go Go.Proofs
set_option linter.unusedSimpArgs false
set_option linter.unusedVariables false
set_option maxRecDepth 4000
set_option maxHeartbeats 4000000
def g_sight_isSurelyRead (x0_s : GSightStreet) (x1_b : GSightBoard) (x2_from : GSightPlace) : Option (Bool) := Option.bind (g_sight_atWorst x0_s x1_b x2_from) (fun r1 => Option.bind (g_sight_view_isRead r1) (fun r2 => some r2))
theorem g_sight_isSurelyRead_ok (x0_s : GSightStreet) (x1_b : GSightBoard) (x2_from : GSightPlace) (R : Bool) (h : g_sight_isSurelyRead x0_s x1_b x2_from = some R) : VPure Tryz.prog G0 86 [.agg (cGSightStreet x0_s), .agg (cGSightBoard x1_b), .agg (cGSightPlace x2_from)] (.tree (.lit (.bool R))) := by
 refine VPure.runR mixed Tryz.call86 Tryz.func86 rfl (by simp [Tryz.ntmps86]; kernel_rfl) ?_
 obtain ⟨KF, h, kF, kN⟩ := fun_intro h
 simp only [g_sight_isSurelyRead] at h
 cases o4 : (g_sight_atWorst x0_s x1_b x2_from) with
 | none =>
  simp only [o4, hs, reduceCtorEq] at h
  exact absurd h kN
 | some r3 =>
  simp only [o4, hs, reduceCtorEq] at h
  simp only [vz, tyf, nmB, implies_true, seval]
  refine ktree (args0 := [.agg (cGSightStreet x0_s), .agg (cGSightBoard x1_b), .agg (cGSightPlace x2_from)]) (by first | (simp only [nrm, tynrm] <;> rfl) | rfl) (by simp only [tre, tytre, Bool.and_self]) (g_sight_atWorst_ok _ _ _ _ o4) ?_
  refine fin_cut (fun tm => tm 10 = .agg (cGsightview r3) ∧ True) (by refine ⟨?_, trivial⟩ <;> first | (simp only [upd_apply, updH_apply, without_apply, mV_app, mV_app0, nmB, implies_true, seval] <;> rfl) | rfl) ?_
  rintro tm ⟨e5, _⟩
  cases o7 : (g_sight_view_isRead r3) with
  | none =>
   simp only [o7, hs, reduceCtorEq] at h
   exact absurd h kN
  | some r6 =>
   simp only [o7, hs, reduceCtorEq] at h
   simp only [vz, tyf, e5, nmB, implies_true, seval]
   refine ktree (args0 := [.agg (cGsightview r3)]) (by first | (simp only [nrm, tynrm] <;> rfl) | rfl) (by simp only [tre, tytre, Bool.and_self]) (g_sight_view_isRead_ok _ _ o7) ?_
   refine fin_cut (fun tm => tm 11 = .lit (.bool r6) ∧ True) (by refine ⟨?_, trivial⟩ <;> first | (simp only [upd_apply, updH_apply, without_apply, mV_app, mV_app0, e5, nmB, implies_true, seval] <;> rfl) | rfl) ?_
   rintro tm ⟨e8, _⟩
   simp only [vz, tyf, e8, nmB, implies_true, seval]
   refine opd_ret (x := (.lit (.bool r6))) (by first | (simp only [Tryz.results86, resV, resL, resV1, tgt_ptr, tgt_tp, upd_apply, updH_apply, without_apply, cr, tyf, e8, nmB, implies_true, seval] <;> rfl) | rfl) ?_
   obtain rfl := kF _ h
   refine rr_tree ?_ ?_
   ·simp only [tre, tytre, Bool.and_self]
   ·first | (simp only [outV, upd_apply, updH_apply, without_apply, showV_ref, cr, tyf, nrm, tynrm, e8, nmB, implies_true, seval] <;> rfl) | rfl
end Go.V
end
section
namespace Go.V
open Go Go.Proofs
set_option linter.unusedSimpArgs false
set_option linter.unusedVariables false
set_option maxRecDepth 4000
set_option maxHeartbeats 4000000
def g_sight_seen (x0_s : GSightStreet) (x1_b : GSightBoard) (x2_from : GSightPlace) : Option (Int) := Option.bind (g_sight_isSurelyRead x0_s x1_b x2_from) (fun r1 => cond (r1) (some 3) (Option.bind (g_sight_atBest x0_s x1_b x2_from) (fun r2 => Option.bind (g_sight_view_isRead r2) (fun r3 => cond (r3) (some 2) (some 1)))))
theorem g_sight_seen_ok (x0_s : GSightStreet) (x1_b : GSightBoard) (x2_from : GSightPlace) (R : Int) (h : g_sight_seen x0_s x1_b x2_from = some R) : VPure Tryz.prog G0 57 [.agg (cGSightStreet x0_s), .agg (cGSightBoard x1_b), .agg (cGSightPlace x2_from)] (.tree (.lit (.int .i64 R))) := by
 refine VPure.runR mixed Tryz.call57 Tryz.func57 rfl (by simp [Tryz.ntmps57]; kernel_rfl) ?_
 obtain ⟨KF, h, kF, kN⟩ := fun_intro h
 simp only [g_sight_seen] at h
 cases o5 : (g_sight_isSurelyRead x0_s x1_b x2_from) with
 | none =>
  simp only [o5, hs, reduceCtorEq] at h
  exact absurd h kN
 | some r4 =>
  simp only [o5, hs, reduceCtorEq] at h
  simp only [vz, tyf, nmB, implies_true, seval]
  refine ktree (args0 := [.agg (cGSightStreet x0_s), .agg (cGSightBoard x1_b), .agg (cGSightPlace x2_from)]) (by first | (simp only [nrm, tynrm] <;> rfl) | rfl) (by simp only [tre, tytre, Bool.and_self]) (g_sight_isSurelyRead_ok _ _ _ _ o5) ?_
  refine fin_cut (fun tm => tm 3 = .ptr 0 0 ∧ tm 4 = .ptr 1 0 ∧ tm 5 = .ptr 2 0 ∧ tm 10 = .lit (.bool r4) ∧ True) (by refine ⟨?_, ?_, ?_, ?_, trivial⟩ <;> first | (simp only [upd_apply, updH_apply, without_apply, mV_app, mV_app0, nmB, implies_true, seval] <;> rfl) | rfl) ?_
  rintro tm ⟨e6, e7, e8, e9, _⟩
  cases d10 : (r4)
  ·simp only [d10, hs, reduceCtorEq] at h
   cases o12 : (g_sight_atBest x0_s x1_b x2_from) with
   | none =>
    simp only [o12, hs, reduceCtorEq] at h
    exact absurd h kN
   | some r11 =>
    simp only [o12, hs, reduceCtorEq] at h
    simp only [vz, tyf, e6, e7, e8, e9, d10, nmB, implies_true, seval]
    refine ktree (args0 := [.agg (cGSightStreet x0_s), .agg (cGSightBoard x1_b), .agg (cGSightPlace x2_from)]) (by first | (simp only [nrm, tynrm] <;> rfl) | rfl) (by simp only [tre, tytre, Bool.and_self]) (g_sight_atBest_ok _ _ _ _ o12) ?_
    refine fin_cut (fun tm => tm 14 = .agg (cGsightview r11) ∧ True) (by refine ⟨?_, trivial⟩ <;> first | (simp only [upd_apply, updH_apply, without_apply, mV_app, mV_app0, e6, e7, e8, e9, d10, nmB, implies_true, seval] <;> rfl) | rfl) ?_
    rintro tm ⟨e13, _⟩
    cases o15 : (g_sight_view_isRead r11) with
    | none =>
     simp only [o15, hs, reduceCtorEq] at h
     exact absurd h kN
    | some r14 =>
     simp only [o15, hs, reduceCtorEq] at h
     simp only [vz, tyf, d10, e13, nmB, implies_true, seval]
     refine ktree (args0 := [.agg (cGsightview r11)]) (by first | (simp only [nrm, tynrm] <;> rfl) | rfl) (by simp only [tre, tytre, Bool.and_self]) (g_sight_view_isRead_ok _ _ o15) ?_
     refine fin_cut (fun tm => tm 15 = .lit (.bool r14) ∧ True) (by refine ⟨?_, trivial⟩ <;> first | (simp only [upd_apply, updH_apply, without_apply, mV_app, mV_app0, d10, e13, nmB, implies_true, seval] <;> rfl) | rfl) ?_
     rintro tm ⟨e16, _⟩
     cases d17 : (r14)
     ·simp only [d17, hs, reduceCtorEq] at h
      simp only [vz, tyf, d10, e16, d17, nmB, implies_true, seval]
      refine opd_ret (x := (.lit (.int .i64 1))) (by first | (simp only [Tryz.results57, resV, resL, resV1, tgt_ptr, tgt_tp, upd_apply, updH_apply, without_apply, cr, tyf, d10, e16, d17, nmB, implies_true, seval] <;> rfl) | rfl) ?_
      obtain rfl := kF _ h
      refine rr_tree ?_ ?_
      ·simp only [tre, tytre, Bool.and_self]
      ·first | (simp only [outV, upd_apply, updH_apply, without_apply, showV_ref, cr, tyf, nrm, tynrm, d10, e16, d17, nmB, implies_true, seval] <;> rfl) | rfl
     ·simp only [d17, hs, reduceCtorEq] at h
      simp only [vz, tyf, d10, e16, d17, nmB, implies_true, seval]
      refine opd_ret (x := (.lit (.int .i64 2))) (by first | (simp only [Tryz.results57, resV, resL, resV1, tgt_ptr, tgt_tp, upd_apply, updH_apply, without_apply, cr, tyf, d10, e16, d17, nmB, implies_true, seval] <;> rfl) | rfl) ?_
      obtain rfl := kF _ h
      refine rr_tree ?_ ?_
      ·simp only [tre, tytre, Bool.and_self]
      ·first | (simp only [outV, upd_apply, updH_apply, without_apply, showV_ref, cr, tyf, nrm, tynrm, d10, e16, d17, nmB, implies_true, seval] <;> rfl) | rfl
  ·simp only [d10, hs, reduceCtorEq] at h
   simp only [vz, tyf, e6, e7, e8, e9, d10, nmB, implies_true, seval]
   refine opd_ret (x := (.lit (.int .i64 3))) (by first | (simp only [Tryz.results57, resV, resL, resV1, tgt_ptr, tgt_tp, upd_apply, updH_apply, without_apply, cr, tyf, e6, e7, e8, e9, d10, nmB, implies_true, seval] <;> rfl) | rfl) ?_
   obtain rfl := kF _ h
   refine rr_tree ?_ ?_
   ·simp only [tre, tytre, Bool.and_self]
   ·first | (simp only [outV, upd_apply, updH_apply, without_apply, showV_ref, cr, tyf, nrm, tynrm, e6, e7, e8, e9, d10, nmB, implies_true, seval] <;> rfl) | rfl
end Go.V
end
section
namespace Go.V
open Go Go.Proofs
set_option linter.unusedSimpArgs false
set_option linter.unusedVariables false
set_option maxRecDepth 4000
set_option maxHeartbeats 4000000
def g_sight_Seen (x0_s : GSightStreet) (x1_board : Int) (x2_from : GSightPlace) : Option (Int × Int) := Option.bind (g_sight_isView x0_s x1_board x2_from) (fun r1 => cond (r1) (Option.bind (getI x0_s.Boards x1_board) (fun x2 => Option.bind (g_sight_seen x0_s x2 x2_from) (fun r3 => some (r3, 0)))) (some (0, 2)))
theorem g_sight_Seen_ok (x0_s : GSightStreet) (x1_board : Int) (x2_from : GSightPlace) (R : Int × Int) (h : g_sight_Seen x0_s x1_board x2_from = some R) : VPure Tryz.prog G0 18 [.agg (cGSightStreet x0_s), .lit (.int .i64 x1_board), .agg (cGSightPlace x2_from)] (.tree (.tup [.lit (.int .i64 R.1), .lit (.int .i64 R.2)])) := by
 refine VPure.runR mixed Tryz.call18 Tryz.func18 rfl (by simp [Tryz.ntmps18]; kernel_rfl) ?_
 obtain ⟨KF, h, kF, kN⟩ := fun_intro h
 simp only [g_sight_Seen] at h
 cases o5 : (g_sight_isView x0_s x1_board x2_from) with
 | none =>
  simp only [o5, hs, reduceCtorEq] at h
  exact absurd h kN
 | some r4 =>
  simp only [o5, hs, reduceCtorEq] at h
  simp only [vz, tyf, nmB, implies_true, seval]
  refine ktree (args0 := [.agg (cGSightStreet x0_s), .lit (.int .i64 x1_board), .agg (cGSightPlace x2_from)]) (by first | (simp only [nrm, tynrm] <;> rfl) | rfl) (by simp only [tre, tytre, Bool.and_self]) (g_sight_isView_ok _ _ _ _ o5) ?_
  refine fin_cut (fun tm => tm 1 = .lit (.int .i64 x1_board) ∧ tm 3 = .ptr 0 0 ∧ tm 5 = .ptr 1 0 ∧ tm 11 = .lit (.bool r4) ∧ True) (by refine ⟨?_, ?_, ?_, ?_, trivial⟩ <;> first | (simp only [upd_apply, updH_apply, without_apply, mV_app, mV_app0, nmB, implies_true, seval] <;> rfl) | rfl) ?_
  rintro tm ⟨e6, e7, e8, e9, _⟩
  cases d10 : (r4)
  ·simp only [d10, hs, reduceCtorEq] at h
   simp only [vz, tyf, e6, e7, e8, e9, d10, nmB, implies_true, seval]
   refine opd_ret (x := (.tup [.lit (.int .i64 0), .lit (.int .i64 2)])) (by first | (simp only [Tryz.results18, resV, resL, resV1, tgt_ptr, tgt_tp, upd_apply, updH_apply, without_apply, cr, tyf, e6, e7, e8, e9, d10, nmB, implies_true, seval] <;> rfl) | rfl) ?_
   obtain rfl := kF _ h
   refine rr_tree ?_ ?_
   ·simp only [tre, tytre, Bool.and_self]
   ·first | (simp only [outV, upd_apply, updH_apply, without_apply, showV_ref, cr, tyf, nrm, tynrm, e6, e7, e8, e9, d10, nmB, implies_true, seval] <;> rfl) | rfl
  ·simp only [d10, hs, reduceCtorEq] at h
   simp only [vz, tyf, e6, e7, e8, e9, d10, nmB, implies_true, seval]
   refine cwp_drwQF (fun tm => tm 1 = .lit (.int .i64 x1_board) ∧ tm 3 = .ptr 0 0 ∧ tm 5 = .ptr 1 0 ∧ True) (by refine ⟨e6, e7, e8, trivial⟩ <;> first | (simp only [upd_apply, updH_apply, without_apply, mV_app, mV_app0, e6, e7, e8, e9, d10, nmB, implies_true, seval] <;> rfl) | rfl) ?_
   rintro tm ⟨e11, e12, e13, _⟩
   cases o15 : (getI x0_s.Boards x1_board) with
   | none =>
    simp only [o15, hs, reduceCtorEq] at h
    exact absurd h kN
   | some x14 =>
    simp only [o15, hs, reduceCtorEq] at h
    cases o17 : (g_sight_seen x0_s x14 x2_from) with
    | none =>
     simp only [o17, hs, reduceCtorEq] at h
     exact absurd h kN
    | some r16 =>
     simp only [o17, hs, reduceCtorEq] at h
     simp only [vz, tyf, d10, e11, e12, e13, (ix24 o15), nmB, implies_true, seval]
     refine dktree (args0 := [.agg (cGSightStreet x0_s), .agg (cGSightBoard x14), .agg (cGSightPlace x2_from)]) (by first | (simp only [nrm, tynrm] <;> rfl) | rfl) (by simp only [tre, tytre, Bool.and_self]) (g_sight_seen_ok _ _ _ _ o17) ?_
     refine fin_cut (fun tm => tm 20 = .lit (.int .i64 r16) ∧ True) (by refine ⟨?_, trivial⟩ <;> first | (simp only [upd_apply, updH_apply, without_apply, mV_app, mV_app0, d10, e11, e12, e13, nmB, implies_true, seval] <;> rfl) | rfl) ?_
     rintro tm ⟨e18, _⟩
     simp only [vz, tyf, d10, (ix24 o15), e18, nmB, implies_true, seval]
     refine opd_ret (x := (.tup [.lit (.int .i64 r16), .lit (.int .i64 0)])) (by first | (simp only [Tryz.results18, resV, resL, resV1, tgt_ptr, tgt_tp, upd_apply, updH_apply, without_apply, cr, tyf, d10, (ix24 o15), e18, nmB, implies_true, seval] <;> rfl) | rfl) ?_
     obtain rfl := kF _ h
     refine rr_tree ?_ ?_
     ·simp only [tre, tytre, Bool.and_self]
     ·first | (simp only [outV, upd_apply, updH_apply, without_apply, showV_ref, cr, tyf, nrm, tynrm, d10, (ix24 o15), e18, nmB, implies_true, seval] <;> rfl) | rfl
end Go.V
end
section
namespace Go.V
open Go Go.Proofs
set_option linter.unusedSimpArgs false
set_option linter.unusedVariables false
set_option maxRecDepth 4000
set_option maxHeartbeats 4000000
def g_ref02_Clear_l0 (x0_b : GSightBoard) (x1_p : GSightPlace) (x2_power : Int) : List GSightLetter → Int → Option (LOut (Bool) (Unit))
 | [], c0_7 => some (.go ())
 | e0 :: p0, c0_7 => Option.bind (g_ref02_Fault e0 x0_b.At x1_p x2_power) (fun r1 => cond (r1 != 0) (some (.ret false)) (cond (decide ((c0_7 + 1) < (List.length x0_b.Letters : Int))) (Option.bind (g_ref02_Melts e0 x0_b.At x1_p x2_power) (fun r2 => cond (r2) (some (.ret false)) (g_ref02_Clear_l0 x0_b x1_p x2_power p0 (c0_7 + 1)))) (g_ref02_Clear_l0 x0_b x1_p x2_power p0 (c0_7 + 1))))
def g_ref02_Clear (x0_b : GSightBoard) (x1_p : GSightPlace) (x2_power : Int) : Option (Bool) := cond (lenOk x0_b.Letters) (lbind (g_ref02_Clear_l0 x0_b x1_p x2_power x0_b.Letters 0) (fun r4 => some r4) (fun c3 => some true) (fun _ _ => none)) none
theorem g_ref02_Clear_ok (x0_b : GSightBoard) (x1_p : GSightPlace) (x2_power : Int) (R : Bool) (h : g_ref02_Clear x0_b x1_p x2_power = some R) : VPure Tryz.prog G0 103 [.agg (cGSightBoard x0_b), .agg (cGSightPlace x1_p), .lit (.int .i64 x2_power)] (.tree (.lit (.bool R))) := by
 refine VPure.runR mixed Tryz.call103 Tryz.func103 rfl (by simp [Tryz.ntmps103]; kernel_rfl) ?_
 obtain ⟨KF, h, kF, kN⟩ := fun_intro h
 simp only [g_ref02_Clear] at h
 cases g6 : (lenOk x0_b.Letters)
 ·simp only [g6, hs, reduceCtorEq] at h
  exact absurd h kN
 simp only [g6, hs, reduceCtorEq] at h
 simp only [vz, tyf, g6, nmB, implies_true, seval]
 obtain ⟨K5, h, kR5, kG5, kB5, kN5⟩ := lbind_intro h kN
 obtain ⟨f5, hf5, h⟩ := call2 h
 obtain ⟨I5, hI5⟩ : ∃ I : Nat → St → Prop, I = (fun m st => ∃ (p5 : List GSightLetter) (c5_7 : Int), m = List.length p5 ∧ 0 ≤ c5_7 ∧ List.drop (Int.toNat c5_7) x0_b.Letters = p5 ∧ st.df = [] ∧ 4 ≤ st.nx ∧ st.H 0 = some (.cells (some 42) (cGSightBoard x0_b)) ∧ st.H 1 = some (.cells (some 29) (cGSightPlace x1_p)) ∧ st.tm 2 = .lit (.int .i64 x2_power) ∧ st.tm 3 = .ptr 0 0 ∧ st.tm 4 = .ptr 1 0 ∧ st.tm 7 = .lit (.int .i64 c5_7) ∧ K5 (f5 p5 c5_7)) := ⟨_, rfl⟩
 refine loopK mixed (by kernel_rfl) I5 (List.length x0_b.Letters) (by rw [hI5]; refine ⟨x0_b.Letters, 0, rfl, Int.le_refl _, rfl, rfl, (show 4 ≤ 4 by omega), ?_, ?_, ?_, ?_, ?_, ?_, h⟩ <;> first | (simp only [upd_apply, updH_apply, without_apply, mV_app, mV_app0, nmB, implies_true, seval] <;> rfl) | rfl) ?_
 rintro m ⟨tm, H, nx5, df⟩ hinv
 rw [hI5] at hinv
 obtain ⟨p5, c5_7, rfl, hi5, hp5, hdf, hn5, H7, H8, e9, e10, e11, e12, h⟩ := hinv
 simp only at hdf hn5 H7 H8 e9 e10 e11 e12
 have n13 := base_ne0 (m := 4) (b := nx5) (by omega)
 subst hdf hf5
 cases p5 with
 | nil =>
  have d14 : (decide (c5_7 < (List.length x0_b.Letters : Int))) = false := not_lt_of_drop hi5 hp5
  simp only [g_ref02_Clear_l0, hs, reduceCtorEq] at h
  replace h := kG5 _ h
  try dsimp only at h
  try simp only [hs] at h
  simp only [vz, tyf, g6, n13, e9, e10, e11, e12, H7, H8, d14, nmB, implies_true, seval]
  refine opd_ret (x := (.lit (.bool true))) (by first | (simp only [Tryz.results103, resV, resL, resV1, tgt_ptr, tgt_tp, upd_apply, updH_apply, without_apply, cr, tyf, g6, n13, e9, e10, e11, e12, H7, H8, d14, nmB, implies_true, seval] <;> rfl) | rfl) ?_
  obtain rfl := kF _ h
  refine rr_tree ?_ ?_
  ·simp only [tre, tytre, Bool.and_self]
  ·first | (simp only [outV, upd_apply, updH_apply, without_apply, showV_ref, cr, tyf, nrm, tynrm, g6, n13, e9, e10, e11, e12, H7, H8, d14, nmB, implies_true, seval] <;> rfl) | rfl
 | cons e5 p5 =>
  have d15 : (decide (c5_7 < (List.length x0_b.Letters : Int))) = true := lt_of_drop hi5 hp5
  have o17 := getI_of_drop hi5 hp5
  have w16 := wrap_next hi5 hp5 g6
  simp only [g_ref02_Clear_l0, hs, reduceCtorEq] at h
  simp only [vz, tyf, g6, n13, e9, e10, e11, e12, H7, H8, d15, (ix40 o17), w16, nmB, implies_true, seval]
  refine cwp_drwQF (fun tm => tm 2 = .lit (.int .i64 x2_power) ∧ tm 3 = .ptr 0 0 ∧ tm 4 = .ptr 1 0 ∧ tm 7 = .lit (.int .i64 c5_7) ∧ True) (by refine ⟨e9, e10, e11, e12, trivial⟩ <;> first | (simp only [upd_apply, updH_apply, without_apply, mV_app, mV_app0, n13, e9, e10, e11, e12, H7, H8, d15, w16, nmB, implies_true, seval] <;> rfl) | rfl) ?_
  rintro tm ⟨e18, e19, e20, e21, _⟩
  cases o23 : (g_ref02_Fault e5 x0_b.At x1_p x2_power) with
  | none =>
   simp only [o23, hs, reduceCtorEq] at h
   exact absurd h kN5
  | some r22 =>
   simp only [o23, hs, reduceCtorEq] at h
   simp only [vz, tyf, g6, n13, H7, H8, d15, (ix40 o17), w16, e18, e19, e20, e21, nmB, implies_true, seval]
   refine dktree (args0 := [.agg (cGSightLetter e5), .lit (.int .i64 x0_b.At), .agg (cGSightPlace x1_p), .lit (.int .i64 x2_power)]) (by first | (simp only [nrm, tynrm] <;> rfl) | rfl) (by simp only [tre, tytre, Bool.and_self]) (g_ref02_Fault_ok _ _ _ _ _ o23) ?_
   refine fin_cut (fun tm => tm 2 = .lit (.int .i64 x2_power) ∧ tm 3 = .ptr 0 0 ∧ tm 4 = .ptr 1 0 ∧ tm 7 = .lit (.int .i64 c5_7) ∧ tm 24 = .lit (.int .i64 r22) ∧ True) (by refine ⟨e18, e19, e20, e21, ?_, trivial⟩ <;> first | (simp only [upd_apply, updH_apply, without_apply, mV_app, mV_app0, n13, H7, H8, d15, w16, e18, e19, e20, e21, nmB, implies_true, seval] <;> rfl) | rfl) ?_
   rintro tm ⟨e24, e25, e26, e27, e28, _⟩
   cases d29 : (r22 != 0)
   ·simp only [d29, hs, reduceCtorEq] at h
    cases d30 : (decide ((c5_7 + 1) < (List.length x0_b.Letters : Int)))
    ·simp only [d30, hs, reduceCtorEq] at h
     simp only [vz, tyf, g6, n13, H7, H8, d15, (ix40 o17), w16, e24, e25, e26, e27, e28, d29, d30, nmB, implies_true, seval]
     exact ⟨List.length p5, Nat.lt_succ_self _, by rw [hI5]; refine ⟨p5, c5_7 + 1, rfl, Int.le_trans hi5 (Int.le_add_one (Int.le_refl _)), drop_next hi5 hp5, rfl, (show 4 ≤ nx5 + 39 by omega), ?_, ?_, e24, e25, e26, ?_, h⟩ <;> first | (simp only [upd_apply, updH_apply, without_apply, mV_app, mV_app0, n13, H7, H8, d15, w16, e24, e25, e26, e27, e28, d29, d30, nmB, implies_true, seval] <;> rfl) | rfl⟩
    ·simp only [d30, hs, reduceCtorEq] at h
     cases o32 : (g_ref02_Melts e5 x0_b.At x1_p x2_power) with
     | none =>
      simp only [o32, hs, reduceCtorEq] at h
      exact absurd h kN5
     | some r31 =>
      simp only [o32, hs, reduceCtorEq] at h
      simp only [vz, tyf, g6, n13, H7, H8, d15, (ix40 o17), w16, e24, e25, e26, e27, e28, d29, d30, nmB, implies_true, seval]
      refine dktree (args0 := [.agg (cGSightLetter e5), .lit (.int .i64 x0_b.At), .agg (cGSightPlace x1_p), .lit (.int .i64 x2_power)]) (by first | (simp only [nrm, tynrm] <;> rfl) | rfl) (by simp only [tre, tytre, Bool.and_self]) (g_ref02_Melts_ok _ _ _ _ _ o32) ?_
      refine fin_cut (fun tm => tm 2 = .lit (.int .i64 x2_power) ∧ tm 3 = .ptr 0 0 ∧ tm 4 = .ptr 1 0 ∧ tm 7 = .lit (.int .i64 c5_7) ∧ tm 26 = .lit (.bool false) ∧ tm 33 = .lit (.bool true) ∧ tm 43 = .lit (.bool r31) ∧ True) (by refine ⟨e24, e25, e26, e27, ?_, ?_, ?_, trivial⟩ <;> first | (simp only [upd_apply, updH_apply, without_apply, mV_app, mV_app0, n13, H7, H8, d15, w16, e24, e25, e26, e27, e28, d29, d30, nmB, implies_true, seval] <;> rfl) | rfl) ?_
      rintro tm ⟨e33, e34, e35, e36, e37, e38, e39, _⟩
      cases d40 : (r31)
      ·simp only [d40, hs, reduceCtorEq] at h
       simp only [vz, tyf, g6, n13, H7, H8, d15, (ix40 o17), w16, d29, d30, e33, e34, e35, e36, e37, e38, e39, d40, nmB, implies_true, seval]
       exact ⟨List.length p5, Nat.lt_succ_self _, by rw [hI5]; refine ⟨p5, c5_7 + 1, rfl, Int.le_trans hi5 (Int.le_add_one (Int.le_refl _)), drop_next hi5 hp5, rfl, (show 4 ≤ nx5 + 39 by omega), ?_, ?_, e33, e34, e35, ?_, h⟩ <;> first | (simp only [upd_apply, updH_apply, without_apply, mV_app, mV_app0, n13, H7, H8, d15, w16, d29, d30, e33, e34, e35, e36, e37, e38, e39, d40, nmB, implies_true, seval] <;> rfl) | rfl⟩
      ·simp only [d40, hs, reduceCtorEq] at h
       simp only [vz, tyf, g6, n13, H7, H8, d15, (ix40 o17), w16, d29, d30, e33, e34, e35, e36, e37, e38, e39, d40, nmB, implies_true, seval]
       refine opd_ret (x := (.lit (.bool false))) (by first | (simp only [Tryz.results103, resV, resL, resV1, tgt_ptr, tgt_tp, upd_apply, updH_apply, without_apply, cr, tyf, g6, n13, H7, H8, d15, (ix40 o17), w16, d29, d30, e33, e34, e35, e36, e37, e38, e39, d40, nmB, implies_true, seval] <;> rfl) | rfl) ?_
       replace h := kR5 _ h
       try dsimp only at h
       obtain rfl := kF _ h
       refine rr_tree ?_ ?_
       ·simp only [tre, tytre, Bool.and_self]
       ·first | (simp only [outV, upd_apply, updH_apply, without_apply, showV_ref, cr, tyf, nrm, tynrm, g6, n13, H7, H8, d15, (ix40 o17), w16, d29, d30, e33, e34, e35, e36, e37, e38, e39, d40, nmB, implies_true, seval] <;> rfl) | rfl
   ·simp only [d29, hs, reduceCtorEq] at h
    simp only [vz, tyf, g6, n13, H7, H8, d15, (ix40 o17), w16, e24, e25, e26, e27, e28, d29, nmB, implies_true, seval]
    refine opd_ret (x := (.lit (.bool false))) (by first | (simp only [Tryz.results103, resV, resL, resV1, tgt_ptr, tgt_tp, upd_apply, updH_apply, without_apply, cr, tyf, g6, n13, H7, H8, d15, (ix40 o17), w16, e24, e25, e26, e27, e28, d29, nmB, implies_true, seval] <;> rfl) | rfl) ?_
    replace h := kR5 _ h
    try dsimp only at h
    obtain rfl := kF _ h
    refine rr_tree ?_ ?_
    ·simp only [tre, tytre, Bool.and_self]
    ·first | (simp only [outV, upd_apply, updH_apply, without_apply, showV_ref, cr, tyf, nrm, tynrm, g6, n13, H7, H8, d15, (ix40 o17), w16, e24, e25, e26, e27, e28, d29, nmB, implies_true, seval] <;> rfl) | rfl
end Go.V
end
section
namespace Go.V
open Go Go.Proofs
set_option linter.unusedSimpArgs false
set_option linter.unusedVariables false
set_option maxRecDepth 4000
set_option maxHeartbeats 4000000
def g_ref02_Hidden_l0 (x1_b : GSightBoard) (x2_p : GSightPlace) : List GSightBlock → Int → (List Int) → Option (LOut (List Int) ((List Int)))
 | [], c0_8, c0_7 => some (.go c0_7)
 | e0 :: p0, c0_8, c0_7 => Option.bind (g_ref02_Blocks e0 x1_b.At x2_p) (fun r1 => cond (r1) (cond (roomOk 8 (List.length (c0_7 ++ [c0_8]))) (g_ref02_Hidden_l0 x1_b x2_p p0 (c0_8 + 1) (c0_7 ++ [c0_8])) none) (g_ref02_Hidden_l0 x1_b x2_p p0 (c0_8 + 1) c0_7))
def g_ref02_Hidden (x0_s : GSightStreet) (x1_b : GSightBoard) (x2_p : GSightPlace) : Option (List Int) := cond (lenOk x0_s.Blocks) (lbind (g_ref02_Hidden_l0 x1_b x2_p x0_s.Blocks 0 ([] : List Int)) (fun r3 => some r3) (fun c2 => some c2) (fun _ _ => none)) none
theorem g_ref02_Hidden_ok (x0_s : GSightStreet) (x1_b : GSightBoard) (x2_p : GSightPlace) (R : List Int) (h : g_ref02_Hidden x0_s x1_b x2_p = some R) : VPure Tryz.prog G0 35 [.agg (cGSightStreet x0_s), .agg (cGSightBoard x1_b), .agg (cGSightPlace x2_p)] (.tree (.sl (cellsL eI R) (List.length R) false)) := by
 refine VPure.runR mixed Tryz.call35 Tryz.func35 rfl (by simp [Tryz.ntmps35]; kernel_rfl) ?_
 obtain ⟨KF, h, kF, kN⟩ := fun_intro h
 simp only [g_ref02_Hidden] at h
 cases g5 : (lenOk x0_s.Blocks)
 ·simp only [g5, hs, reduceCtorEq] at h
  exact absurd h kN
 simp only [g5, hs, reduceCtorEq] at h
 simp only [vz, tyf, g5, nmB, implies_true, seval]
 obtain ⟨K4, h, kR4, kG4, kB4, kN4⟩ := lbind_intro h kN
 obtain ⟨f4, hf4, h⟩ := call3 h
 obtain ⟨I4, hI4⟩ : ∃ I : Nat → St → Prop, I = (fun m st => ∃ (p4 : List GSightBlock) (c4_8 : Int) (c4_7 : List Int) (y4_0 : VV), m = List.length p4 ∧ 0 ≤ c4_8 ∧ List.drop (Int.toNat c4_8) x0_s.Blocks = p4 ∧ st.df = [] ∧ 6 ≤ st.nx ∧ st.H 0 = some (.cells (some 27) (cGSightStreet x0_s)) ∧ st.H 1 = some (.cells (some 42) (cGSightBoard x1_b)) ∧ st.H 2 = some (.cells (some 29) (cGSightPlace x2_p)) ∧ st.tm 3 = .ptr 0 0 ∧ st.tm 4 = .ptr 1 0 ∧ st.tm 5 = .ptr 2 0 ∧ st.tm 7 = y4_0 ∧ st.tm 8 = .lit (.int .i64 c4_8) ∧ ((∃ (β : Nat) (el : Option TypeId), y4_0 = .ref β 0 (List.length c4_7) 1 (List.length c4_7) ∧ β < st.nx ∧ β ≠ 0 ∧ β ≠ 1 ∧ β ≠ 2 ∧ st.H β = some (.cells el (cellsL eI c4_7))) ∨ (y4_0 = .lit (.slice none 0 0) ∧ c4_7 = [])) ∧ K4 (f4 p4 c4_8 c4_7)) := ⟨_, rfl⟩
 refine loopK mixed (by kernel_rfl) I4 (List.length x0_s.Blocks) (by rw [hI4]; refine ⟨x0_s.Blocks, 0, ([] : List Int), .lit (.slice none 0 0), rfl, Int.le_refl _, rfl, rfl, (show 6 ≤ 6 by omega), ?_, ?_, ?_, ?_, ?_, ?_, ?_, ?_, Or.inr ⟨rfl, rfl⟩, h⟩ <;> first | (simp only [upd_apply, updH_apply, without_apply, mV_app, mV_app0, nmB, implies_true, seval] <;> rfl) | rfl) ?_
 rintro m ⟨tm, H, nx4, df⟩ hinv
 rw [hI4] at hinv
 obtain ⟨p4, c4_8, c4_7, y4_0, rfl, hi4, hp4, hdf, hn4, H6, H7, H8, e9, e10, e11, e12, e13, ow4_0, h⟩ := hinv
 simp only at hdf hn4 H6 H7 H8 e9 e10 e11 e12 e13 ow4_0
 have n14 := base_ne0 (m := 6) (b := nx4) (by omega)
 subst hdf hf4
 rcases ow4_0 with ⟨b4_0, el4_0, rfl, lq16, lq17, lq18, lq19, H15⟩ | ⟨rfl, rfl⟩
 ·have q16 := own_lt lq16
  have q17 := ne_f lq17
  have q18 := ne_f lq18
  have q19 := ne_f lq19
  cases p4 with
  | nil =>
   have d20 : (decide (c4_8 < (List.length x0_s.Blocks : Int))) = false := not_lt_of_drop hi4 hp4
   simp only [g_ref02_Hidden_l0, hs, reduceCtorEq] at h
   replace h := kG4 _ h
   try dsimp only at h
   try simp only [hs] at h
   simp only [vz, tyf, g5, n14, e9, e10, e11, e12, e13, H6, H7, H8, q16, H15, q17, q18, q19, d20, nmB, implies_true, seval]
   refine opd_ret (x := (.ref b4_0 0 (List.length c4_7) 1 (List.length c4_7))) (by first | (simp only [Tryz.results35, resV, resL, resV1, tgt_ptr, tgt_tp, upd_apply, updH_apply, without_apply, cr, tyf, g5, n14, e9, e10, e11, e12, e13, H6, H7, H8, q16, H15, q17, q18, q19, d20, nmB, implies_true, seval] <;> rfl) | rfl) ?_
   obtain rfl := kF _ h
   refine rr_tree ?_ ?_
   ·simp only [tre, tytre, Bool.and_self]
   ·first | (simp only [outV, upd_apply, updH_apply, without_apply, showV_ref, cr, tyf, nrm, tynrm, g5, n14, e9, e10, e11, e12, e13, H6, H7, H8, q16, H15, q17, q18, q19, d20, nmB, implies_true, seval] <;> rfl) | rfl
  | cons e4 p4 =>
   have d21 : (decide (c4_8 < (List.length x0_s.Blocks : Int))) = true := lt_of_drop hi4 hp4
   have o23 := getI_of_drop hi4 hp4
   have w22 := wrap_next hi4 hp4 g5
   simp only [g_ref02_Hidden_l0, hs, reduceCtorEq] at h
   simp only [vz, tyf, g5, n14, e9, e10, e11, e12, e13, H6, H7, H8, q16, H15, q17, q18, q19, d21, (ix25 o23), w22, nmB, implies_true, seval]
   refine cwp_drwQF (fun tm => tm 3 = .ptr 0 0 ∧ tm 4 = .ptr 1 0 ∧ tm 5 = .ptr 2 0 ∧ tm 7 = .ref b4_0 0 (List.length c4_7) 1 (List.length c4_7) ∧ tm 8 = .lit (.int .i64 c4_8) ∧ True) (by refine ⟨e9, e10, e11, e12, e13, trivial⟩ <;> first | (simp only [upd_apply, updH_apply, without_apply, mV_app, mV_app0, n14, e9, e10, e11, e12, e13, H6, H7, H8, q16, H15, q17, q18, q19, d21, w22, nmB, implies_true, seval] <;> rfl) | rfl) ?_
   rintro tm ⟨e24, e25, e26, e27, e28, _⟩
   cases o30 : (g_ref02_Blocks e4 x1_b.At x2_p) with
   | none =>
    simp only [o30, hs, reduceCtorEq] at h
    exact absurd h kN4
   | some r29 =>
    simp only [o30, hs, reduceCtorEq] at h
    simp only [vz, tyf, g5, n14, H6, H7, H8, q16, H15, q17, q18, q19, d21, (ix25 o23), w22, e24, e25, e26, e27, e28, nmB, implies_true, seval]
    refine dktree (args0 := [.agg (cGSightBlock e4), .lit (.int .i64 x1_b.At), .agg (cGSightPlace x2_p)]) (by first | (simp only [nrm, tynrm] <;> rfl) | rfl) (by simp only [tre, tytre, Bool.and_self]) (g_ref02_Blocks_ok _ _ _ _ o30) ?_
    refine fin_cut (fun tm => tm 3 = .ptr 0 0 ∧ tm 4 = .ptr 1 0 ∧ tm 5 = .ptr 2 0 ∧ tm 7 = .ref b4_0 0 (List.length c4_7) 1 (List.length c4_7) ∧ tm 8 = .lit (.int .i64 c4_8) ∧ tm 24 = .lit (.bool r29) ∧ True) (by refine ⟨e24, e25, e26, e27, e28, ?_, trivial⟩ <;> first | (simp only [upd_apply, updH_apply, without_apply, mV_app, mV_app0, n14, H6, H7, H8, q16, H15, q17, q18, q19, d21, w22, e24, e25, e26, e27, e28, nmB, implies_true, seval] <;> rfl) | rfl) ?_
    rintro tm ⟨e31, e32, e33, e34, e35, e36, _⟩
    cases d37 : (r29)
    ·simp only [d37, hs, reduceCtorEq] at h
     simp only [vz, tyf, g5, n14, H6, H7, H8, q16, H15, q17, q18, q19, d21, (ix25 o23), w22, e31, e32, e33, e34, e35, e36, d37, nmB, implies_true, seval]
     exact ⟨List.length p4, Nat.lt_succ_self _, by rw [hI4]; refine ⟨p4, c4_8 + 1, c4_7, .ref b4_0 0 (List.length c4_7) 1 (List.length c4_7), rfl, Int.le_trans hi4 (Int.le_add_one (Int.le_refl _)), drop_next hi4 hp4, rfl, (show 6 ≤ nx4 + 17 by omega), ?_, ?_, ?_, e31, e32, e33, ?_, ?_, Or.inl ⟨b4_0, el4_0, rfl, (by first | omega | (simp only [nmB, implies_true, seval]; omega)), (by first | omega | (intro hh; simp only [n14, q16, q17, q18, q19, reduceCtorEq] at hh)), (by first | omega | (intro hh; simp only [n14, q16, q17, q18, q19, reduceCtorEq] at hh)), (by first | omega | (intro hh; simp only [n14, q16, q17, q18, q19, reduceCtorEq] at hh)), ?_⟩, h⟩ <;> first | (simp only [upd_apply, updH_apply, without_apply, mV_app, mV_app0, n14, H6, H7, H8, q16, H15, q17, q18, q19, d21, w22, e31, e32, e33, e34, e35, e36, d37, nmB, implies_true, seval] <;> rfl) | rfl⟩
    ·simp only [d37, hs, reduceCtorEq] at h
     cases g38 : (roomOk 8 (List.length (c4_7 ++ [c4_8])))
     ·simp only [g38, hs, reduceCtorEq] at h
      exact absurd h kN4
     simp only [g38, hs, reduceCtorEq] at h
     simp only [vz, tyf, g5, n14, H6, H7, H8, q16, H15, q17, q18, q19, d21, (ix25 o23), w22, e31, e32, e33, e34, e35, e36, d37, g38, nmB, implies_true, seval]
     refine k_app (w := 1) (enc := eI) (xs := c4_7) (ys := ([c4_8])) (el := el4_0) (el2 := (some 3)) (fun _ => rfl) lf57 ao57 Tryz.underlying57 (by first | rfl | assumption | (simp only [updH_apply, without_apply, et57, n14, H6, H7, H8, q16, H15, q17, q18, q19, nmB, implies_true, seval] <;> rfl) | (simp only [updH_apply, without_apply, cellsL_cons, cellsL_nil, mV_app, mV_app0, tyf, g5, n14, H6, H7, H8, q16, H15, q17, q18, q19, d21, (ix25 o23), w22, e31, e32, e33, e34, e35, e36, d37, g38, nmB, implies_true, seval]; done)) (by first | rfl | assumption | (simp only [updH_apply, without_apply, et57, n14, H6, H7, H8, q16, H15, q17, q18, q19, nmB, implies_true, seval] <;> rfl) | (simp only [updH_apply, without_apply, cellsL_cons, cellsL_nil, mV_app, mV_app0, tyf, g5, n14, H6, H7, H8, q16, H15, q17, q18, q19, d21, (ix25 o23), w22, e31, e32, e33, e34, e35, e36, d37, g38, nmB, implies_true, seval]; done)) (Nat.zero_lt_succ _) g38 ?_
     simp only [vz, tyf, g5, n14, H6, H7, H8, q16, H15, q17, q18, q19, d21, (ix25 o23), w22, e31, e32, e33, e34, e35, e36, d37, g38, nmB, implies_true, seval]
     exact ⟨List.length p4, Nat.lt_succ_self _, by rw [hI4]; refine ⟨p4, c4_8 + 1, (c4_7 ++ [c4_8]), .ref (nx4 + 17) 0 (List.length (c4_7 ++ [c4_8])) 1 (List.length (c4_7 ++ [c4_8])), rfl, Int.le_trans hi4 (Int.le_add_one (Int.le_refl _)), drop_next hi4 hp4, rfl, (show 6 ≤ nx4 + 22 by omega), ?_, ?_, ?_, e31, e32, e33, ?_, ?_, Or.inl ⟨nx4 + 17, (sameEl el4_0 3), rfl, (by first | omega | (simp only [nmB, implies_true, seval]; omega)), (by first | omega | (intro hh; simp only [n14, q16, q17, q18, q19, reduceCtorEq] at hh)), (by first | omega | (intro hh; simp only [n14, q16, q17, q18, q19, reduceCtorEq] at hh)), (by first | omega | (intro hh; simp only [n14, q16, q17, q18, q19, reduceCtorEq] at hh)), ?_⟩, h⟩ <;> first | (simp only [upd_apply, updH_apply, without_apply, mV_app, mV_app0, n14, H6, H7, H8, q16, H15, q17, q18, q19, d21, w22, e31, e32, e33, e34, e35, e36, d37, nmB, implies_true, seval] <;> rfl) | rfl⟩
 ·cases p4 with
  | nil =>
   have d39 : (decide (c4_8 < (List.length x0_s.Blocks : Int))) = false := not_lt_of_drop hi4 hp4
   simp only [g_ref02_Hidden_l0, hs, reduceCtorEq] at h
   replace h := kG4 _ h
   try dsimp only at h
   try simp only [hs] at h
   simp only [vz, tyf, g5, n14, e9, e10, e11, e12, e13, H6, H7, H8, d39, nmB, implies_true, seval]
   refine opd_ret (x := (.lit (.slice none 0 0))) (by first | (simp only [Tryz.results35, resV, resL, resV1, tgt_ptr, tgt_tp, upd_apply, updH_apply, without_apply, cr, tyf, g5, n14, e9, e10, e11, e12, e13, H6, H7, H8, d39, nmB, implies_true, seval] <;> rfl) | rfl) ?_
   obtain rfl := kF _ h
   refine rr_tree ?_ ?_
   ·simp only [tre, tytre, Bool.and_self]
   ·first | (simp only [outV, upd_apply, updH_apply, without_apply, showV_ref, cr, tyf, nrm, tynrm, g5, n14, e9, e10, e11, e12, e13, H6, H7, H8, d39, nmB, implies_true, seval] <;> rfl) | rfl
  | cons e4 p4 =>
   have d40 : (decide (c4_8 < (List.length x0_s.Blocks : Int))) = true := lt_of_drop hi4 hp4
   have o42 := getI_of_drop hi4 hp4
   have w41 := wrap_next hi4 hp4 g5
   simp only [g_ref02_Hidden_l0, hs, reduceCtorEq] at h
   simp only [vz, tyf, g5, n14, e9, e10, e11, e12, e13, H6, H7, H8, d40, (ix25 o42), w41, nmB, implies_true, seval]
   refine cwp_drwQF (fun tm => tm 3 = .ptr 0 0 ∧ tm 4 = .ptr 1 0 ∧ tm 5 = .ptr 2 0 ∧ tm 7 = .lit (.slice none 0 0) ∧ tm 8 = .lit (.int .i64 c4_8) ∧ True) (by refine ⟨e9, e10, e11, e12, e13, trivial⟩ <;> first | (simp only [upd_apply, updH_apply, without_apply, mV_app, mV_app0, n14, e9, e10, e11, e12, e13, H6, H7, H8, d40, w41, nmB, implies_true, seval] <;> rfl) | rfl) ?_
   rintro tm ⟨e43, e44, e45, e46, e47, _⟩
   cases o49 : (g_ref02_Blocks e4 x1_b.At x2_p) with
   | none =>
    simp only [o49, hs, reduceCtorEq] at h
    exact absurd h kN4
   | some r48 =>
    simp only [o49, hs, reduceCtorEq] at h
    simp only [vz, tyf, g5, n14, H6, H7, H8, d40, (ix25 o42), w41, e43, e44, e45, e46, e47, nmB, implies_true, seval]
    refine dktree (args0 := [.agg (cGSightBlock e4), .lit (.int .i64 x1_b.At), .agg (cGSightPlace x2_p)]) (by first | (simp only [nrm, tynrm] <;> rfl) | rfl) (by simp only [tre, tytre, Bool.and_self]) (g_ref02_Blocks_ok _ _ _ _ o49) ?_
    refine fin_cut (fun tm => tm 3 = .ptr 0 0 ∧ tm 4 = .ptr 1 0 ∧ tm 5 = .ptr 2 0 ∧ tm 7 = .lit (.slice none 0 0) ∧ tm 8 = .lit (.int .i64 c4_8) ∧ tm 24 = .lit (.bool r48) ∧ True) (by refine ⟨e43, e44, e45, e46, e47, ?_, trivial⟩ <;> first | (simp only [upd_apply, updH_apply, without_apply, mV_app, mV_app0, n14, H6, H7, H8, d40, w41, e43, e44, e45, e46, e47, nmB, implies_true, seval] <;> rfl) | rfl) ?_
    rintro tm ⟨e50, e51, e52, e53, e54, e55, _⟩
    cases d56 : (r48)
    ·simp only [d56, hs, reduceCtorEq] at h
     simp only [vz, tyf, g5, n14, H6, H7, H8, d40, (ix25 o42), w41, e50, e51, e52, e53, e54, e55, d56, nmB, implies_true, seval]
     exact ⟨List.length p4, Nat.lt_succ_self _, by rw [hI4]; refine ⟨p4, c4_8 + 1, ([] : List Int), .lit (.slice none 0 0), rfl, Int.le_trans hi4 (Int.le_add_one (Int.le_refl _)), drop_next hi4 hp4, rfl, (show 6 ≤ nx4 + 17 by omega), ?_, ?_, ?_, e50, e51, e52, ?_, ?_, Or.inr ⟨rfl, rfl⟩, h⟩ <;> first | (simp only [upd_apply, updH_apply, without_apply, mV_app, mV_app0, n14, H6, H7, H8, d40, w41, e50, e51, e52, e53, e54, e55, d56, nmB, implies_true, seval] <;> rfl) | rfl⟩
    ·simp only [d56, hs, reduceCtorEq] at h
     cases g57 : (roomOk 8 (List.length (([] : List Int) ++ [c4_8])))
     ·simp only [g57, hs, reduceCtorEq] at h
      exact absurd h kN4
     simp only [g57, hs, reduceCtorEq] at h
     simp only [vz, tyf, g5, n14, H6, H7, H8, d40, (ix25 o42), w41, e50, e51, e52, e53, e54, e55, d56, g57, nmB, implies_true, seval]
     refine k_appN (w := 1) (enc := eI) (ys := ([c4_8])) (el2 := (some 3)) (fun _ => rfl) lf57 ao57 Tryz.underlying57 (by first | rfl | assumption | (simp only [updH_apply, without_apply, et57, n14, H6, H7, H8, nmB, implies_true, seval] <;> rfl) | (simp only [updH_apply, without_apply, cellsL_cons, cellsL_nil, mV_app, mV_app0, tyf, g5, n14, H6, H7, H8, d40, (ix25 o42), w41, e50, e51, e52, e53, e54, e55, d56, g57, nmB, implies_true, seval]; done)) (Nat.zero_lt_succ _) g57 ?_
     simp only [vz, tyf, g5, n14, H6, H7, H8, d40, (ix25 o42), w41, e50, e51, e52, e53, e54, e55, d56, g57, nmB, implies_true, seval]
     exact ⟨List.length p4, Nat.lt_succ_self _, by rw [hI4]; refine ⟨p4, c4_8 + 1, (([] : List Int) ++ [c4_8]), .ref (nx4 + 17) 0 (List.length (([] : List Int) ++ [c4_8])) 1 (List.length (([] : List Int) ++ [c4_8])), rfl, Int.le_trans hi4 (Int.le_add_one (Int.le_refl _)), drop_next hi4 hp4, rfl, (show 6 ≤ nx4 + 22 by omega), ?_, ?_, ?_, e50, e51, e52, ?_, ?_, Or.inl ⟨nx4 + 17, (some 3), rfl, (by first | omega | (simp only [nmB, implies_true, seval]; omega)), (by first | omega | (intro hh; simp only [n14, reduceCtorEq] at hh)), (by first | omega | (intro hh; simp only [n14, reduceCtorEq] at hh)), (by first | omega | (intro hh; simp only [n14, reduceCtorEq] at hh)), ?_⟩, h⟩ <;> first | (simp only [upd_apply, updH_apply, without_apply, mV_app, mV_app0, n14, H6, H7, H8, d40, w41, e50, e51, e52, e53, e54, e55, d56, nmB, implies_true, seval] <;> rfl) | rfl⟩
end Go.V
end
section
namespace Go.V
open Go Go.Proofs
set_option linter.unusedSimpArgs false
set_option linter.unusedVariables false
set_option maxRecDepth 4000
set_option maxHeartbeats 4000000
def g_ref02_Surely (x0_s : GSightStreet) (x1_b : GSightBoard) (x2_p : GSightPlace) : Option (Bool) := Option.bind (g_ref02_Clear x1_b x2_p (IntKind.i64.wrap (x0_s.Eye.Low * x0_s.Light.Low))) (fun r1 => cond (r1) (Option.bind (g_ref02_Hidden x0_s x1_b x2_p) (fun r2 => some ((List.length r2 : Int) == 0))) (some false))
theorem g_ref02_Surely_ok (x0_s : GSightStreet) (x1_b : GSightBoard) (x2_p : GSightPlace) (R : Bool) (h : g_ref02_Surely x0_s x1_b x2_p = some R) : VPure Tryz.prog G0 62 [.agg (cGSightStreet x0_s), .agg (cGSightBoard x1_b), .agg (cGSightPlace x2_p)] (.tree (.lit (.bool R))) := by
 refine VPure.runR mixed Tryz.call62 Tryz.func62 rfl (by simp [Tryz.ntmps62]; kernel_rfl) ?_
 obtain ⟨KF, h, kF, kN⟩ := fun_intro h
 simp only [g_ref02_Surely] at h
 cases o4 : (g_ref02_Clear x1_b x2_p (IntKind.i64.wrap (x0_s.Eye.Low * x0_s.Light.Low))) with
 | none =>
  simp only [o4, hs, reduceCtorEq] at h
  exact absurd h kN
 | some r3 =>
  simp only [o4, hs, reduceCtorEq] at h
  simp only [vz, tyf, nmB, implies_true, seval]
  refine ktree (args0 := [.agg (cGSightBoard x1_b), .agg (cGSightPlace x2_p), .lit (.int .i64 (IntKind.i64.wrap (x0_s.Eye.Low * x0_s.Light.Low)))]) (by first | (simp only [nrm, tynrm] <;> rfl) | rfl) (by simp only [tre, tytre, Bool.and_self]) (g_ref02_Clear_ok _ _ _ _ o4) ?_
  refine fin_cut (fun tm => tm 3 = .ptr 0 0 ∧ tm 4 = .ptr 1 0 ∧ tm 5 = .ptr 2 0 ∧ tm 16 = .lit (.bool r3) ∧ True) (by refine ⟨?_, ?_, ?_, ?_, trivial⟩ <;> first | (simp only [upd_apply, updH_apply, without_apply, mV_app, mV_app0, nmB, implies_true, seval] <;> rfl) | rfl) ?_
  rintro tm ⟨e5, e6, e7, e8, _⟩
  cases d9 : (r3)
  ·simp only [d9, hs, reduceCtorEq] at h
   simp only [vz, tyf, e5, e6, e7, e8, d9, nmB, implies_true, seval]
   refine opd_ret (x := (.lit (.bool false))) (by first | (simp only [Tryz.results62, resV, resL, resV1, tgt_ptr, tgt_tp, upd_apply, updH_apply, without_apply, cr, tyf, e5, e6, e7, e8, d9, nmB, implies_true, seval] <;> rfl) | rfl) ?_
   obtain rfl := kF _ h
   refine rr_tree ?_ ?_
   ·simp only [tre, tytre, Bool.and_self]
   ·first | (simp only [outV, upd_apply, updH_apply, without_apply, showV_ref, cr, tyf, nrm, tynrm, e5, e6, e7, e8, d9, nmB, implies_true, seval] <;> rfl) | rfl
  ·simp only [d9, hs, reduceCtorEq] at h
   cases o11 : (g_ref02_Hidden x0_s x1_b x2_p) with
   | none =>
    simp only [o11, hs, reduceCtorEq] at h
    exact absurd h kN
   | some r10 =>
    simp only [o11, hs, reduceCtorEq] at h
    simp only [vz, tyf, e5, e6, e7, e8, d9, nmB, implies_true, seval]
    refine ktree (args0 := [.agg (cGSightStreet x0_s), .agg (cGSightBoard x1_b), .agg (cGSightPlace x2_p)]) (by first | (simp only [nrm, tynrm] <;> rfl) | rfl) (by simp only [tre, tytre, Bool.and_self]) (g_ref02_Hidden_ok _ _ _ _ o11) ?_
    refine fin_cut (fun tm => tm 17 = .lit (.bool true) ∧ tm 21 = .sl (cellsL eI r10) (List.length r10) false ∧ True) (by refine ⟨?_, ?_, trivial⟩ <;> first | (simp only [upd_apply, updH_apply, without_apply, mV_app, mV_app0, e5, e6, e7, e8, d9, nmB, implies_true, seval] <;> rfl) | rfl) ?_
    rintro tm ⟨e12, e13, _⟩
    simp only [vz, tyf, d9, e12, e13, nmB, implies_true, seval]
    refine opd_ret (x := (.lit (.bool ((List.length r10 : Int) == 0)))) (by first | (simp only [Tryz.results62, resV, resL, resV1, tgt_ptr, tgt_tp, upd_apply, updH_apply, without_apply, cr, tyf, d9, e12, e13, nmB, implies_true, seval] <;> rfl) | rfl) ?_
    obtain rfl := kF _ h
    refine rr_tree ?_ ?_
    ·simp only [tre, tytre, Bool.and_self]
    ·first | (simp only [outV, upd_apply, updH_apply, without_apply, showV_ref, cr, tyf, nrm, tynrm, d9, e12, e13, nmB, implies_true, seval] <;> rfl) | rfl
end Go.V
end
