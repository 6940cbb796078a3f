/- Part of a proof: a logic of values by content, lifted functions, what follows. -/
import Derived.Test.YtdhkepdioiicfaaGreatDoorEbf
import Derived.Test.YtdhkepdioiicfaaGreatDoorEbi
import Derived.Test.YtdhkepdioiicfaaGreatDoorEbk
import Derived.Test.YtdhkepdioiicfaaGreatDoorEbj
import Derived.Test.YtdhkepdioiicfaaGreatDoorEbg
import Derived.Test.YtdhkepdioiicfaaGreatDoorEbe
set_option linter.all false
set_option maxRecDepth 4000
set_option maxHeartbeats 4000000
section
namespace Go.V
open Go Go.Proofs
def g_sight_atBest_l0  : List GSightBlock → Int → (List GSightBlock) → Option (LOut (Gsightview) ((List GSightBlock)))
 | [], c0_13, c0_7 => some (.go c0_7)
 | e0 :: p0, c0_13, c0_7 => cond (e0.Sure) (cond (roomOk 40 (List.length (c0_7 ++ [e0]))) (g_sight_atBest_l0 p0 (c0_13 + 1) (c0_7 ++ [e0])) none) (g_sight_atBest_l0 p0 (c0_13 + 1) c0_7)
def g_sight_atBest (x0_s : GSightStreet) (x1_b : GSightBoard) (x2_from : GSightPlace) : Option (Gsightview) := cond (lenOk x0_s.Blocks) (lbind (g_sight_atBest_l0 x0_s.Blocks 0 ([] : List GSightBlock)) (fun r2 => some r2) (fun c1 => some (Gsightview.mk (GSightStreet.mk x0_s.Length x0_s.Width x0_s.Eye x0_s.Light x0_s.Boards c1) x2_from x1_b (IntKind.i64.wrap (x0_s.Eye.High * x0_s.Light.High)))) (fun _ _ => none)) none
theorem g_sight_atBest_ok (x0_s : GSightStreet) (x1_b : GSightBoard) (x2_from : GSightPlace) (R : Gsightview) (h : g_sight_atBest x0_s x1_b x2_from = some R) : VPure Tryz.prog G0 106 [.agg (cGSightStreet x0_s), .agg (cGSightBoard x1_b), .agg (cGSightPlace x2_from)] (.tree (.agg (cGsightview R))) := by
 refine VPure.runR mixed Tryz.call106 Tryz.func106 rfl (by simp [Tryz.ntmps106]; kernel_rfl) ?_
 obtain ⟨KF, h, kF, kN⟩ := fun_intro h
 simp only [g_sight_atBest] at h
 cases g4 : (lenOk x0_s.Blocks)
 ·simp only [g4, hs] at h
  exact absurd h kN
 simp only [g4, hs] at h
 simp only [vz, tyf, g4, nm, seval]
 obtain ⟨K3, h, kR3, kG3, kB3, kN3⟩ := lbind_intro h kN
 obtain ⟨f3, hf3, h⟩ := call3 h
 obtain ⟨I3, hI3⟩ : ∃ I : Nat → St → Prop, I = (fun m st => ∃ (p3 : List GSightBlock) (c3_13 : Int) (c3_7 : List GSightBlock) (y3_0 : VV), m = List.length p3 ∧ 0 ≤ c3_13 ∧ List.drop (Int.toNat c3_13) x0_s.Blocks = p3 ∧ st.df = [] ∧ 9 ≤ st.nx ∧ st.H 0 = some (.cells (some 27) (cGSightStreet x0_s)) ∧ st.H 1 = some (.cells (some 40) (cGSightBoard x1_b)) ∧ st.H 2 = some (.cells (some 34) (cGSightPlace x2_from)) ∧ st.H 3 = some (.cells (some 102) ([.lit (.int .i64 0)] ++ [.lit (.int .i64 0)] ++ [.lit (.int .i64 0)] ++ [.lit (.int .i64 0)] ++ [.lit (.int .i64 0)] ++ [.lit (.int .i64 0)] ++ [.lit (.slice none 0 0)] ++ [.lit (.slice none 0 0)] ++ [.lit (.int .i64 0)] ++ [.lit (.int .i64 0)] ++ [.lit (.int .i64 0)] ++ [.lit (.slice none 0 0)] ++ [.lit (.int .i64 0)])) ∧ st.tm 3 = .ptr 0 0 ∧ st.tm 4 = .ptr 1 0 ∧ st.tm 5 = .ptr 2 0 ∧ st.tm 6 = .ptr 3 0 ∧ st.tm 11 = .sl (cellsL cGSightBlock x0_s.Blocks) (List.length x0_s.Blocks) false ∧ st.tm 12 = .lit (.int .i64 (List.length x0_s.Blocks : Int)) ∧ st.tm 7 = y3_0 ∧ st.tm 13 = .lit (.int .i64 c3_13) ∧ ((∃ (β : Nat) (el : Option TypeId), y3_0 = .ref β 0 (List.length c3_7) 5 (List.length c3_7) ∧ β < st.nx ∧ β ≠ 0 ∧ β ≠ 1 ∧ β ≠ 2 ∧ β ≠ 3 ∧ st.H β = some (.cells el (cellsL cGSightBlock c3_7))) ∨ (y3_0 = .lit (.slice none 0 0) ∧ c3_7 = [])) ∧ K3 (f3 p3 c3_13 c3_7)) := ⟨_, rfl⟩
 refine loopK mixed (by kernel_rfl) I3 (List.length x0_s.Blocks) (by rw [hI3]; refine ⟨x0_s.Blocks, 0, ([] : List GSightBlock), .lit (.slice none 0 0), rfl, Int.le_refl _, rfl, rfl, (show 9 ≤ 9 by omega), ?_, ?_, ?_, ?_, ?_, ?_, ?_, ?_, ?_, ?_, ?_, ?_, Or.inr ⟨rfl, rfl⟩, h⟩ <;> first | (simp only [ua, nm, seval] <;> rfl) | rfl) ?_
 rintro m ⟨tm, H, nx3, df⟩ hinv
 rw [hI3] at hinv
 obtain ⟨p3, c3_13, c3_7, y3_0, rfl, hi3, hp3, hdf, hn3, H5, H6, H7, H8, e9, e10, e11, e12, e13, e14, e15, e16, ow3_0, h⟩ := hinv
 simp only at hdf hn3 H5 H6 H7 H8 e9 e10 e11 e12 e13 e14 e15 e16 ow3_0
 have n17 := base_ne0 (m := 9) (b := nx3) (by omega)
 subst hdf hf3
 rcases ow3_0 with ⟨b3_0, el3_0, rfl, lq19, lq20, lq21, lq22, lq23, H18⟩ | ⟨rfl, rfl⟩
 ·have q19 := own_lt lq19
  have q20 := ne_f lq20
  have q21 := ne_f lq21
  have q22 := ne_f lq22
  have q23 := ne_f lq23
  cases p3 with
  | nil =>
   have d24 : (decide (c3_13 < (List.length x0_s.Blocks : Int))) = false := not_lt_of_drop hi3 hp3
   simp only [g_sight_atBest_l0, hs, reduceCtorEq] at h
   replace h := kG3 _ h
   try dsimp only at h
   try simp only [hs] at h
   try simp only [vz, tyf, g4, n17, e9, e10, e11, e12, e13, e14, e15, e16, H5, H6, H7, H8, q19, H18, q20, q21, q22, q23, d24, nm, seval]
   refine opd_ret (x := (.agg ([.lit (.int .i64 x0_s.Length)] ++ [.lit (.int .i64 x0_s.Width)] ++ (cGSpan x0_s.Eye) ++ (cGSpan x0_s.Light) ++ [.sl (cellsL cGSightBoard x0_s.Boards) (List.length x0_s.Boards) false] ++ [.ref b3_0 0 (List.length c3_7) 5 (List.length c3_7)] ++ (cGSightPlace x2_from) ++ (cGSightBoard x1_b) ++ [.lit (.int .i64 (IntKind.i64.wrap (x0_s.Eye.High * x0_s.Light.High)))]))) (by first | (simp only [Tryz.results106, resV, resL, resV1, tgt_ptr, tgt_tp, uw, cr, tyf, g4, n17, e9, e10, e11, e12, e13, e14, e15, e16, H5, H6, H7, H8, q19, H18, q20, q21, q22, q23, d24, nm, seval] <;> rfl) | rfl) ?_
   obtain rfl := kF _ h
   refine rr_tree ?_ ?_
   ·simp only [tre, tytre, Bool.and_self]
   ·first | (simp only [outV, uw, showV_ref, cr, tyf, nrm, tynrm, g4, n17, e9, e10, e11, e12, e13, e14, e15, e16, H5, H6, H7, H8, q19, H18, q20, q21, q22, q23, d24, nm, seval] <;> rfl) | rfl
  | cons e3 p3 =>
   have d25 : (decide (c3_13 < (List.length x0_s.Blocks : Int))) = true := lt_of_drop hi3 hp3
   have o27 := getI_of_drop hi3 hp3
   have w26 := wrap_next hi3 hp3 g4
   simp only [g_sight_atBest_l0, hs, reduceCtorEq] at h
   cases d28 : (e3.Sure)
   ·simp only [d28, hs] at h
    have b29 := And.intro g4 (And.intro n17 (And.intro H5 (And.intro H6 (And.intro H7 (And.intro H8 (And.intro q19 (And.intro H18 (And.intro q20 (And.intro q21 (And.intro q22 (And.intro q23 (And.intro d25 (And.intro w26 d28)))))))))))))
    simp only [vz, tyf, b29, e9, e10, e11, e12, e13, e14, e15, e16, (ix25 o27), nm, seval]
    exact ⟨List.length p3, Nat.lt_succ_self _, by rw [hI3]; refine ⟨p3, c3_13 + 1, c3_7, .ref b3_0 0 (List.length c3_7) 5 (List.length c3_7), rfl, Int.le_trans hi3 (Int.le_add_one (Int.le_refl _)), drop_next hi3 hp3, rfl, (show 9 ≤ nx3 + 9 by omega), ?_, ?_, ?_, ?_, e9, e10, e11, e12, e13, e14, ?_, ?_, Or.inl ⟨b3_0, el3_0, rfl, (by first | omega | (simp only [nm, seval]; omega)), (by first | omega | (intro hh; simp only [b29, reduceCtorEq] at hh)), (by first | omega | (intro hh; simp only [b29, reduceCtorEq] at hh)), (by first | omega | (intro hh; simp only [b29, reduceCtorEq] at hh)), (by first | omega | (intro hh; simp only [b29, reduceCtorEq] at hh)), ?_⟩, h⟩ <;> first | (simp only [ua, b29, e9, e10, e11, e12, e13, e14, e15, e16, nm, seval] <;> rfl) | rfl⟩
   simp only [d28, hs] at h
   have b30 := And.intro g4 (And.intro n17 (And.intro H5 (And.intro H6 (And.intro H7 (And.intro H8 (And.intro q19 (And.intro H18 (And.intro q20 (And.intro q21 (And.intro q22 (And.intro q23 (And.intro d25 (And.intro w26 d28)))))))))))))
   cases g31 : (roomOk 40 (List.length (c3_7 ++ [e3])))
   ·simp only [g31, hs] at h
    exact absurd h kN3
   simp only [g31, hs] at h
   simp only [vz, tyf, b30, e9, e10, e11, e12, e13, e14, e15, e16, (ix25 o27), g31, nm, seval]
   refine k_app (w := 5) (enc := cGSightBlock) (xs := c3_7) (ys := ([e3])) (el := el3_0) (el2 := (some 69)) (fun _ => rfl) lf25 ao25 Tryz.underlying25 (by first | rfl | assumption | (simp only [updH_apply, without_apply, et25, b30, nm, seval] <;> rfl) | (simp only [updH_apply, without_apply, cellsL_cons, cellsL_nil, mV_app, mV_app0, tyf, b30, e9, e10, e11, e12, e13, e14, e15, e16, (ix25 o27), g31, nm, seval]; done)) (by first | rfl | assumption | (simp only [updH_apply, without_apply, et25, b30, nm, seval] <;> rfl) | (simp only [updH_apply, without_apply, cellsL_cons, cellsL_nil, mV_app, mV_app0, tyf, b30, e9, e10, e11, e12, e13, e14, e15, e16, (ix25 o27), g31, nm, seval]; done)) (Nat.zero_lt_succ _) g31 ?_
   simp only [vz, tyf, b30, e9, e10, e11, e12, e13, e14, e15, e16, (ix25 o27), g31, nm, seval]
   exact ⟨List.length p3, Nat.lt_succ_self _, by rw [hI3]; refine ⟨p3, c3_13 + 1, (c3_7 ++ [e3]), .ref (nx3 + 10) 0 (List.length (c3_7 ++ [e3])) 5 (List.length (c3_7 ++ [e3])), rfl, Int.le_trans hi3 (Int.le_add_one (Int.le_refl _)), drop_next hi3 hp3, rfl, (show 9 ≤ nx3 + 14 by omega), ?_, ?_, ?_, ?_, e9, e10, e11, e12, e13, e14, ?_, ?_, Or.inl ⟨nx3 + 10, (sameEl el3_0 69), rfl, (by first | omega | (simp only [nm, seval]; omega)), (by first | omega | (intro hh; simp only [b30, reduceCtorEq] at hh)), (by first | omega | (intro hh; simp only [b30, reduceCtorEq] at hh)), (by first | omega | (intro hh; simp only [b30, reduceCtorEq] at hh)), (by first | omega | (intro hh; simp only [b30, reduceCtorEq] at hh)), ?_⟩, h⟩ <;> first | (simp only [ua, b30, e9, e10, e11, e12, e13, e14, e15, e16, nm, seval] <;> rfl) | rfl⟩
 ·cases p3 with
  | nil =>
   have d32 : (decide (c3_13 < (List.length x0_s.Blocks : Int))) = false := not_lt_of_drop hi3 hp3
   simp only [g_sight_atBest_l0, hs, reduceCtorEq] at h
   replace h := kG3 _ h
   try dsimp only at h
   try simp only [hs] at h
   try simp only [vz, tyf, g4, n17, e9, e10, e11, e12, e13, e14, e15, e16, H5, H6, H7, H8, d32, nm, seval]
   refine opd_ret (x := (.agg ([.lit (.int .i64 x0_s.Length)] ++ [.lit (.int .i64 x0_s.Width)] ++ (cGSpan x0_s.Eye) ++ (cGSpan x0_s.Light) ++ [.sl (cellsL cGSightBoard x0_s.Boards) (List.length x0_s.Boards) false] ++ [.lit (.slice none 0 0)] ++ (cGSightPlace x2_from) ++ (cGSightBoard x1_b) ++ [.lit (.int .i64 (IntKind.i64.wrap (x0_s.Eye.High * x0_s.Light.High)))]))) (by first | (simp only [Tryz.results106, resV, resL, resV1, tgt_ptr, tgt_tp, uw, cr, tyf, g4, n17, e9, e10, e11, e12, e13, e14, e15, e16, H5, H6, H7, H8, d32, nm, seval] <;> rfl) | rfl) ?_
   obtain rfl := kF _ h
   refine rr_tree ?_ ?_
   ·simp only [tre, tytre, Bool.and_self]
   ·first | (simp only [outV, uw, showV_ref, cr, tyf, nrm, tynrm, g4, n17, e9, e10, e11, e12, e13, e14, e15, e16, H5, H6, H7, H8, d32, nm, seval] <;> rfl) | rfl
  | cons e3 p3 =>
   have d33 : (decide (c3_13 < (List.length x0_s.Blocks : Int))) = true := lt_of_drop hi3 hp3
   have o35 := getI_of_drop hi3 hp3
   have w34 := wrap_next hi3 hp3 g4
   simp only [g_sight_atBest_l0, hs, reduceCtorEq] at h
   cases d36 : (e3.Sure)
   ·simp only [d36, hs] at h
    have b37 := And.intro g4 (And.intro n17 (And.intro H5 (And.intro H6 (And.intro H7 (And.intro H8 (And.intro d33 (And.intro w34 d36)))))))
    simp only [vz, tyf, b37, e9, e10, e11, e12, e13, e14, e15, e16, (ix25 o35), nm, seval]
    exact ⟨List.length p3, Nat.lt_succ_self _, by rw [hI3]; refine ⟨p3, c3_13 + 1, ([] : List GSightBlock), .lit (.slice none 0 0), rfl, Int.le_trans hi3 (Int.le_add_one (Int.le_refl _)), drop_next hi3 hp3, rfl, (show 9 ≤ nx3 + 9 by omega), ?_, ?_, ?_, ?_, e9, e10, e11, e12, e13, e14, ?_, ?_, Or.inr ⟨rfl, rfl⟩, h⟩ <;> first | (simp only [ua, b37, e9, e10, e11, e12, e13, e14, e15, e16, nm, seval] <;> rfl) | rfl⟩
   simp only [d36, hs] at h
   have b38 := And.intro g4 (And.intro n17 (And.intro H5 (And.intro H6 (And.intro H7 (And.intro H8 (And.intro d33 (And.intro w34 d36)))))))
   cases g39 : (roomOk 40 (List.length (([] : List GSightBlock) ++ [e3])))
   ·simp only [g39, hs] at h
    exact absurd h kN3
   simp only [g39, hs] at h
   simp only [vz, tyf, b38, e9, e10, e11, e12, e13, e14, e15, e16, (ix25 o35), g39, nm, seval]
   refine k_appN (w := 5) (enc := cGSightBlock) (ys := ([e3])) (el2 := (some 69)) (fun _ => rfl) lf25 ao25 Tryz.underlying25 (by first | rfl | assumption | (simp only [updH_apply, without_apply, et25, b38, nm, seval] <;> rfl) | (simp only [updH_apply, without_apply, cellsL_cons, cellsL_nil, mV_app, mV_app0, tyf, b38, e9, e10, e11, e12, e13, e14, e15, e16, (ix25 o35), g39, nm, seval]; done)) (Nat.zero_lt_succ _) g39 ?_
   simp only [vz, tyf, b38, e9, e10, e11, e12, e13, e14, e15, e16, (ix25 o35), g39, nm, seval]
   exact ⟨List.length p3, Nat.lt_succ_self _, by rw [hI3]; refine ⟨p3, c3_13 + 1, (([] : List GSightBlock) ++ [e3]), .ref (nx3 + 10) 0 (List.length (([] : List GSightBlock) ++ [e3])) 5 (List.length (([] : List GSightBlock) ++ [e3])), rfl, Int.le_trans hi3 (Int.le_add_one (Int.le_refl _)), drop_next hi3 hp3, rfl, (show 9 ≤ nx3 + 14 by omega), ?_, ?_, ?_, ?_, e9, e10, e11, e12, e13, e14, ?_, ?_, Or.inl ⟨nx3 + 10, (some 69), rfl, (by first | omega | (simp only [nm, seval]; omega)), (by first | omega | (intro hh; simp only [b38, reduceCtorEq] at hh)), (by first | omega | (intro hh; simp only [b38, reduceCtorEq] at hh)), (by first | omega | (intro hh; simp only [b38, reduceCtorEq] at hh)), (by first | omega | (intro hh; simp only [b38, reduceCtorEq] at hh)), ?_⟩, h⟩ <;> first | (simp only [ua, b38, e9, e10, e11, e12, e13, e14, e15, e16, nm, seval] <;> rfl) | rfl⟩
end Go.V
end
section
namespace Go.V
open Go Go.Proofs
def g_sight_atWorst (x0_s : GSightStreet) (x1_b : GSightBoard) (x2_from : GSightPlace) : Option (Gsightview) := some (Gsightview.mk x0_s x2_from x1_b (IntKind.i64.wrap (x0_s.Eye.Low * x0_s.Light.Low)))
theorem g_sight_atWorst_ok (x0_s : GSightStreet) (x1_b : GSightBoard) (x2_from : GSightPlace) (R : Gsightview) (h : g_sight_atWorst x0_s x1_b x2_from = some R) : VPure Tryz.prog G0 61 [.agg (cGSightStreet x0_s), .agg (cGSightBoard x1_b), .agg (cGSightPlace x2_from)] (.tree (.agg (cGsightview R))) := by
 refine VPure.runR mixed Tryz.call61 Tryz.func61 rfl (by simp [Tryz.ntmps61]; kernel_rfl) ?_
 obtain ⟨KF, h, kF, kN⟩ := fun_intro h
 simp only [g_sight_atWorst] at h
 try simp only [vz, tyf, nm, seval]
 refine opd_ret (x := (.agg ((cGSightStreet x0_s) ++ (cGSightPlace x2_from) ++ (cGSightBoard x1_b) ++ [.lit (.int .i64 (IntKind.i64.wrap (x0_s.Eye.Low * x0_s.Light.Low)))]))) (by first | (simp only [Tryz.results61, resV, resL, resV1, tgt_ptr, tgt_tp, uw, cr, tyf, nm, seval] <;> rfl) | rfl) ?_
 obtain rfl := kF _ h
 refine rr_tree ?_ ?_
 ·simp only [tre, tytre, Bool.and_self]
 ·first | (simp only [outV, uw, showV_ref, cr, tyf, nrm, tynrm, nm, seval] <;> rfl) | rfl
end Go.V
end
section
namespace Go.V
open Go Go.Proofs
def g_sight_isSurelyRead (x0_s : GSightStreet) (x1_b : GSightBoard) (x2_from : GSightPlace) : Option (Bool) := Option.bind (g_sight_atWorst x0_s x1_b x2_from) (fun r1 => Option.bind (g_sight_view_isRead r1) (fun r2 => some r2))
theorem g_sight_isSurelyRead_ok (x0_s : GSightStreet) (x1_b : GSightBoard) (x2_from : GSightPlace) (R : Bool) (h : g_sight_isSurelyRead x0_s x1_b x2_from = some R) : VPure Tryz.prog G0 66 [.agg (cGSightStreet x0_s), .agg (cGSightBoard x1_b), .agg (cGSightPlace x2_from)] (.tree (.lit (.bool R))) := by
 refine VPure.runR mixed Tryz.call66 Tryz.func66 rfl (by simp [Tryz.ntmps66]; kernel_rfl) ?_
 obtain ⟨KF, h, kF, kN⟩ := fun_intro h
 simp only [g_sight_isSurelyRead] at h
 rcases o4 : (g_sight_atWorst x0_s x1_b x2_from) with _ | r3
 ·simp only [o4, hs] at h
  exact absurd h kN
 simp only [o4, hs] at h
 simp only [vz, tyf, nm, seval]
 refine ktree (args0 := [.agg (cGSightStreet x0_s), .agg (cGSightBoard x1_b), .agg (cGSightPlace x2_from)]) (by first | (simp only [nrm, tynrm] <;> rfl) | rfl) (by simp only [tre, tytre, Bool.and_self]) (g_sight_atWorst_ok _ _ _ _ o4) ?_
 refine fin_cut (fun tm => tm 10 = .agg (cGsightview r3) ∧ True) (by refine ⟨?_, trivial⟩ <;> first | (simp only [ua, nm, seval] <;> rfl) | rfl) ?_
 rintro tm ⟨e5, _⟩
 rcases o7 : (g_sight_view_isRead r3) with _ | r6
 ·simp only [o7, hs] at h
  exact absurd h kN
 simp only [o7, hs] at h
 simp only [vz, tyf, e5, nm, seval]
 refine ktree (args0 := [.agg (cGsightview r3)]) (by first | (simp only [nrm, tynrm] <;> rfl) | rfl) (by simp only [tre, tytre, Bool.and_self]) (g_sight_view_isRead_ok _ _ o7) ?_
 refine fin_cut (fun tm => tm 11 = .lit (.bool r6) ∧ True) (by refine ⟨?_, trivial⟩ <;> first | (simp only [ua, e5, nm, seval] <;> rfl) | rfl) ?_
 rintro tm ⟨e8, _⟩
 try simp only [vz, tyf, e8, nm, seval]
 obtain rfl := kF _ h
 exact opd_bool Tryz.results66 rfl
end Go.V
end
section
namespace Go.V
open Go Go.Proofs
def g_sight_seen (x0_s : GSightStreet) (x1_b : GSightBoard) (x2_from : GSightPlace) : Option (Int) := Option.bind (g_sight_isSurelyRead x0_s x1_b x2_from) (fun r1 => cond (r1) (some 3) (Option.bind (g_sight_atBest x0_s x1_b x2_from) (fun r2 => Option.bind (g_sight_view_isRead r2) (fun r3 => cond (r3) (some 2) (some 1)))))
theorem g_sight_seen_ok (x0_s : GSightStreet) (x1_b : GSightBoard) (x2_from : GSightPlace) (R : Int) (h : g_sight_seen x0_s x1_b x2_from = some R) : VPure Tryz.prog G0 74 [.agg (cGSightStreet x0_s), .agg (cGSightBoard x1_b), .agg (cGSightPlace x2_from)] (.tree (.lit (.int .i64 R))) := by
 refine VPure.runR mixed Tryz.call74 Tryz.func74 rfl (by simp [Tryz.ntmps74]; kernel_rfl) ?_
 obtain ⟨KF, h, kF, kN⟩ := fun_intro h
 simp only [g_sight_seen] at h
 rcases o5 : (g_sight_isSurelyRead x0_s x1_b x2_from) with _ | r4
 ·simp only [o5, hs] at h
  exact absurd h kN
 simp only [o5, hs] at h
 simp only [vz, tyf, nm, seval]
 refine ktree (args0 := [.agg (cGSightStreet x0_s), .agg (cGSightBoard x1_b), .agg (cGSightPlace x2_from)]) (by first | (simp only [nrm, tynrm] <;> rfl) | rfl) (by simp only [tre, tytre, Bool.and_self]) (g_sight_isSurelyRead_ok _ _ _ _ o5) ?_
 refine fin_cut (fun tm => tm 3 = .ptr 0 0 ∧ tm 4 = .ptr 1 0 ∧ tm 5 = .ptr 2 0 ∧ tm 10 = .lit (.bool r4) ∧ True) (by refine ⟨?_, ?_, ?_, ?_, trivial⟩ <;> first | (simp only [ua, nm, seval] <;> rfl) | rfl) ?_
 rintro tm ⟨e6, e7, e8, e9, _⟩
 cases d10 : (r4)
 ·simp only [d10, hs] at h
  rcases o12 : (g_sight_atBest x0_s x1_b x2_from) with _ | r11
  ·simp only [o12, hs] at h
   exact absurd h kN
  simp only [o12, hs] at h
  simp only [vz, tyf, e6, e7, e8, e9, d10, nm, seval]
  refine ktree (args0 := [.agg (cGSightStreet x0_s), .agg (cGSightBoard x1_b), .agg (cGSightPlace x2_from)]) (by first | (simp only [nrm, tynrm] <;> rfl) | rfl) (by simp only [tre, tytre, Bool.and_self]) (g_sight_atBest_ok _ _ _ _ o12) ?_
  refine fin_cut (fun tm => tm 14 = .agg (cGsightview r11) ∧ True) (by refine ⟨?_, trivial⟩ <;> first | (simp only [ua, e6, e7, e8, e9, d10, nm, seval] <;> rfl) | rfl) ?_
  rintro tm ⟨e13, _⟩
  rcases o15 : (g_sight_view_isRead r11) with _ | r14
  ·simp only [o15, hs] at h
   exact absurd h kN
  simp only [o15, hs] at h
  simp only [vz, tyf, d10, e13, nm, seval]
  refine ktree (args0 := [.agg (cGsightview r11)]) (by first | (simp only [nrm, tynrm] <;> rfl) | rfl) (by simp only [tre, tytre, Bool.and_self]) (g_sight_view_isRead_ok _ _ o15) ?_
  refine fin_cut (fun tm => tm 15 = .lit (.bool r14) ∧ True) (by refine ⟨?_, trivial⟩ <;> first | (simp only [ua, d10, e13, nm, seval] <;> rfl) | rfl) ?_
  rintro tm ⟨e16, _⟩
  cases d17 : (r14)
  ·simp only [d17, hs] at h
   try simp only [vz, tyf, d10, e16, d17, nm, seval]
   refine opd_ret (x := (.lit (.int .i64 1))) (by first | (simp only [Tryz.results74, resV, resL, resV1, tgt_ptr, tgt_tp, uw, cr, tyf, d10, d17, nm, seval] <;> rfl) | rfl) ?_
   obtain rfl := kF _ h
   refine rr_tree ?_ ?_
   ·simp only [tre, tytre, Bool.and_self]
   ·first | (simp only [outV, uw, showV_ref, cr, tyf, nrm, tynrm, d10, e16, d17, nm, seval] <;> rfl) | rfl
  simp only [d17, hs] at h
  try simp only [vz, tyf, d10, e16, d17, nm, seval]
  refine opd_ret (x := (.lit (.int .i64 2))) (by first | (simp only [Tryz.results74, resV, resL, resV1, tgt_ptr, tgt_tp, uw, cr, tyf, d10, d17, nm, seval] <;> rfl) | rfl) ?_
  obtain rfl := kF _ h
  refine rr_tree ?_ ?_
  ·simp only [tre, tytre, Bool.and_self]
  ·first | (simp only [outV, uw, showV_ref, cr, tyf, nrm, tynrm, d10, e16, d17, nm, seval] <;> rfl) | rfl
 simp only [d10, hs] at h
 try simp only [vz, tyf, e6, e7, e8, e9, d10, nm, seval]
 refine opd_ret (x := (.lit (.int .i64 3))) (by first | (simp only [Tryz.results74, resV, resL, resV1, tgt_ptr, tgt_tp, uw, cr, tyf, d10, nm, seval] <;> rfl) | rfl) ?_
 obtain rfl := kF _ h
 refine rr_tree ?_ ?_
 ·simp only [tre, tytre, Bool.and_self]
 ·first | (simp only [outV, uw, showV_ref, cr, tyf, nrm, tynrm, e6, e7, e8, e9, d10, nm, seval] <;> rfl) | rfl
end Go.V
end
section
namespace Go.V
open Go Go.Proofs
end Go.V
end
section
namespace Go.V
open Go Go.Proofs
end Go.V
end
section
namespace Go.V
open Go Go.Proofs
end Go.V
end
section
namespace Go.V
open Go Go.Proofs
end Go.V
end
section
namespace Go.V
open Go Go.Proofs
end Go.V
end
section
namespace Go.V
open Go Go.Proofs
end Go.V
end
section
namespace Go.V
open Go Go.Proofs
end Go.V
end
section
namespace Go.V
open Go
def faultO (k : Int) (o : Option Int) : Option (LOut (GSightFault × Bool) Unit) := match o with | none => some (.go ()) | some i => some (.ret (⟨k, i⟩, true))
section
variable (v : Gsightview) (hp : PG v.board.At v.SightPlace) (hw : PW v.power)
include hp hw
theorem ff_l0 : ∀ (p : List GSightBlock) (c : Int), (∀ k ∈ p, BK k) → g_sight_view_firstFault_l0 v p c = faultO 1 (fnd (behB v.board.At v.SightPlace) p c)
 | [], _, _ => rfl
 | e :: p, c, h => by
  simp only [g_sight_view_firstFault_l0, isBehind_eq v e hp (h e (List.mem_cons_self ..)), Option.bind_some, g_sight_must, fnd]
  cases behB v.board.At v.SightPlace e with
  | true => rfl
  | false => exact ff_l0 p (c + 1) (fun k hk => h k (List.mem_cons_of_mem _ hk))
theorem ff_l1 : ∀ (p : List GSightLetter) (c : Int), 0 ≤ c → v.board.Letters.drop c.toNat = p → (∀ l ∈ p, BL l) → g_sight_view_firstFault_l1 v p c = faultO 2 (fnd (fun l => !tallB v.power v.board.At v.SightPlace l) p c)
 | [], _, _, _, _ => rfl
 | e :: p, c, h0, hd, h => by
  simp only [g_sight_view_firstFault_l1, isTall_eq v c e hp hw (h e (List.mem_cons_self ..)) (getI_of_drop h0 hd), Option.bind_some, g_sight_must, fnd]
  cases tallB v.power v.board.At v.SightPlace e with
  | false => rfl
  | true => exact ff_l1 p (c + 1) (by omega) (drop_next h0 hd) (fun k hk => h k (List.mem_cons_of_mem _ hk))
theorem ff_l2 : ∀ (p : List GSightLetter) (c : Int), 0 ≤ c → v.board.Letters.drop c.toNat = p → (∀ l ∈ p, BL l) → g_sight_view_firstFault_l2 v p c = faultO 3 (fnd (fun l => !broadB v.power v.board.At v.SightPlace l) p c)
 | [], _, _, _, _ => rfl
 | e :: p, c, h0, hd, h => by
  simp only [g_sight_view_firstFault_l2, isBroad_eq v c e hp hw (h e (List.mem_cons_self ..)) (getI_of_drop h0 hd), Option.bind_some, g_sight_must, fnd]
  cases broadB v.power v.board.At v.SightPlace e with
  | false => rfl
  | true => exact ff_l2 p (c + 1) (by omega) (drop_next h0 hd) (fun k hk => h k (List.mem_cons_of_mem _ hk))
theorem ff_l3 : ∀ (p : List GSightLetter) (c : Int), 0 ≤ c → v.board.Letters.drop c.toNat = p → (∀ l ∈ p, BL l) → g_sight_view_firstFault_l3 v p c = faultO 4 (fnd (fun l => !thickB v.power v.board.At v.SightPlace l) p c)
 | [], _, _, _, _ => rfl
 | e :: p, c, h0, hd, h => by
  simp only [g_sight_view_firstFault_l3, isThick_eq v c e hp hw (h e (List.mem_cons_self ..)) (getI_of_drop h0 hd), Option.bind_some, g_sight_must, fnd]
  cases thickB v.power v.board.At v.SightPlace e with
  | false => rfl
  | true => exact ff_l3 p (c + 1) (by omega) (drop_next h0 hd) (fun k hk => h k (List.mem_cons_of_mem _ hk))
theorem ff_l4 : ∀ (k : Nat) (c : Int), 0 ≤ c → c + k ≤ v.board.Letters.length → (∀ l ∈ v.board.Letters, BL l) → g_sight_view_firstFault_l4 v k c = faultO 5 (fnd (fun l => !apartB v.power v.board.At v.SightPlace l) ((v.board.Letters.drop c.toNat).take k) c)
 | 0, _, _, _, _ => by simp only [g_sight_view_firstFault_l4, List.take_zero, fnd, faultO]
 | k + 1, c, h0, hk, h => by
  obtain ⟨e, he, hm⟩ := getI_some (xs := v.board.Letters) (i := c) h0 (by omega)
  have hd := (getI_drop he).2.2
  have hn : c.toNat + 1 = (c + 1).toNat := by omega
  rw [hd, List.take_succ_cons]
  simp only [g_sight_view_firstFault_l4, isApart_eq v c e hp hw (h e hm) he, Option.bind_some, g_sight_must, fnd, hn]
  cases apartB v.power v.board.At v.SightPlace e with
  | false => rfl
  | true => exact ff_l4 k (c + 1) (by omega) (by omega) h
end
def whyF (w a : Int) (p : GSightPlace) (ks : List GSightBlock) (ls : List GSightLetter) : Option GSightFault :=
 match fnd (behB a p) ks 0 with
 | some i => some ⟨1, i⟩
 | none => match fnd (fun l => !tallB w a p l) ls 0 with
  | some i => some ⟨2, i⟩
  | none => match fnd (fun l => !broadB w a p l) ls 0 with
   | some i => some ⟨3, i⟩
   | none => match fnd (fun l => !thickB w a p l) ls 0 with
    | some i => some ⟨4, i⟩
    | none => match fnd (fun l => !apartB w a p l) (ls.take (ls.length - 1)) 0 with
     | some i => some ⟨5, i⟩
     | none => none
def whyP (o : Option GSightFault) : GSightFault × Bool := match o with | some f => (f, true) | none => (⟨0, 0⟩, false)
theorem firstFault_eq (v : Gsightview) (hp : PG v.board.At v.SightPlace) (hw : PW v.power) (hl : ∀ l ∈ v.board.Letters, BL l) (hn : 1 ≤ v.board.Letters.length) (hn2 : v.board.Letters.length ≤ 5) (hk : ∀ k ∈ v.SightStreet.Blocks, BK k) (hb : v.SightStreet.Blocks.length ≤ 4) :
  g_sight_view_firstFault v = some (whyP (whyF v.power v.board.At v.SightPlace v.SightStreet.Blocks v.board.Letters)) := by
 have l1 : lenOk v.SightStreet.Blocks = true := lenOk_of (by omega)
 have l2 : lenOk v.board.Letters = true := lenOk_of (by omega)
 have w1 : IntKind.i64.wrap ((v.board.Letters.length : Int) - 1) = (v.board.Letters.length : Int) - 1 := wrap_eq (by omega) (by omega)
 have b1 : boundOk ((v.board.Letters.length : Int) - 1) = true := by unfold boundOk; exact decide_eq_true (by omega)
 have t1 : (((v.board.Letters.length : Int) - 1) - 0).toNat = v.board.Letters.length - 1 := by omega
 simp only [g_sight_view_firstFault, l1, l2, cond_true, ff_l0 v hp hw _ _ hk, ff_l1 v hp hw v.board.Letters 0 (by omega) rfl hl, ff_l2 v hp hw v.board.Letters 0 (by omega) rfl hl, ff_l3 v hp hw v.board.Letters 0 (by omega) rfl hl, w1, b1, t1, ff_l4 v hp hw (v.board.Letters.length - 1) 0 (by omega) (by omega) hl, whyF]
 cases fnd (behB v.board.At v.SightPlace) v.SightStreet.Blocks 0 with
 | some i => rfl
 | none =>
  simp only [faultO, lbind_go]
  cases fnd (fun l => !tallB v.power v.board.At v.SightPlace l) v.board.Letters 0 with
  | some i => rfl
  | none =>
   simp only [lbind_go]
   cases fnd (fun l => !broadB v.power v.board.At v.SightPlace l) v.board.Letters 0 with
   | some i => rfl
   | none =>
    simp only [lbind_go]
    cases fnd (fun l => !thickB v.power v.board.At v.SightPlace l) v.board.Letters 0 with
    | some i => rfl
    | none =>
     simp only [lbind_go]
     have e : List.drop (Int.toNat 0) v.board.Letters = v.board.Letters := rfl
     rw [e]
     cases fnd (fun l => !apartB v.power v.board.At v.SightPlace l) (v.board.Letters.take (v.board.Letters.length - 1)) 0 with
     | some i => rfl
     | none => rfl
def clearB (w a : Int) (p : GSightPlace) : List GSightLetter → Bool
 | [] => true
 | [e] => legB w a p e
 | e :: e' :: ls => legB w a p e && (apartB w a p e && clearB w a p (e' :: ls))
theorem clear_iff {w a : Int} {p : GSightPlace} : ∀ (ls : List GSightLetter), clearB w a p ls = true ↔ (∀ l ∈ ls, legB w a p l = true) ∧ ∀ l ∈ ls.take (ls.length - 1), apartB w a p l = true
 | [] => by simp [clearB]
 | [e] => by simp [clearB]
 | e :: e' :: ls => by
  have ih := clear_iff (w := w) (a := a) (p := p) (e' :: ls)
  have ht : (e :: e' :: ls).take ((e :: e' :: ls).length - 1) = e :: (e' :: ls).take ((e' :: ls).length - 1) := by simp
  rw [ht]
  unfold clearB
  rw [Bool.and_eq_true, Bool.and_eq_true, ih]
  constructor
  ·rintro ⟨h1, h2, h3, h4⟩
   constructor
   ·intro l hl
    rcases List.mem_cons.1 hl with rfl | hl
    ·exact h1
    ·exact h3 l hl
   ·intro l hl
    rcases List.mem_cons.1 hl with rfl | hl
    ·exact h2
    ·exact h4 l hl
  ·rintro ⟨h1, h2⟩
   exact ⟨h1 e (List.mem_cons_self ..), h2 e (List.mem_cons_self ..), fun l hl => h1 l (List.mem_cons_of_mem _ hl), fun l hl => h2 l (List.mem_cons_of_mem _ hl)⟩
theorem leg_iff {w a : Int} {p : GSightPlace} {l : GSightLetter} : legB w a p l = true ↔ tallB w a p l = true ∧ broadB w a p l = true ∧ thickB w a p l = true := by
 simp [legB]
theorem why_none {w a : Int} {p : GSightPlace} {ks : List GSightBlock} {ls : List GSightLetter} : whyF w a p ks ls = none ↔ (∀ k ∈ ks, behB a p k = false) ∧ clearB w a p ls = true := by
 rw [clear_iff]
 unfold whyF
 cases h0 : fnd (behB a p) ks 0 with
 | some i =>
  simp only [reduceCtorEq, false_iff, not_and]
  intro h
  rw [(fnd_none ks 0).2 h] at h0; cases h0
 | none =>
  have g0 := (fnd_none ks 0).1 h0
  cases h1 : fnd (fun l => !tallB w a p l) ls 0 with
  | some i =>
   simp only [reduceCtorEq, false_iff, not_and]
   intro _ h
   rw [(fnd_none ls 0).2 (fun l hl => by simp [(leg_iff.1 (h l hl)).1])] at h1; cases h1
  | none =>
   have g1 := (fnd_none ls 0).1 h1
   cases h2 : fnd (fun l => !broadB w a p l) ls 0 with
   | some i =>
    simp only [reduceCtorEq, false_iff, not_and]
    intro _ h
    rw [(fnd_none ls 0).2 (fun l hl => by simp [(leg_iff.1 (h l hl)).2.1])] at h2; cases h2
   | none =>
    have g2 := (fnd_none ls 0).1 h2
    cases h3 : fnd (fun l => !thickB w a p l) ls 0 with
    | some i =>
     simp only [reduceCtorEq, false_iff, not_and]
     intro _ h
     rw [(fnd_none ls 0).2 (fun l hl => by simp [(leg_iff.1 (h l hl)).2.2])] at h3; cases h3
    | none =>
     have g3 := (fnd_none ls 0).1 h3
     cases h4 : fnd (fun l => !apartB w a p l) (ls.take (ls.length - 1)) 0 with
     | some i =>
      simp only [reduceCtorEq, false_iff, not_and]
      intro _ _ h
      rw [(fnd_none _ 0).2 (fun l hl => by simp [h l hl])] at h4; cases h4
     | none =>
      have g4 := (fnd_none _ 0).1 h4
      simp only [true_iff]
      exact ⟨g0, fun l hl => leg_iff.2 ⟨by simpa using g1 l hl, by simpa using g2 l hl, by simpa using g3 l hl⟩, fun l hl => by simpa using g4 l hl⟩
def readB (w a : Int) (p : GSightPlace) (ks : List GSightBlock) (ls : List GSightLetter) : Bool := clearB w a p ls && ks.all (fun k => !behB a p k)
theorem isRead_eq (v : Gsightview) (hp : PG v.board.At v.SightPlace) (hw : PW v.power) (hl : ∀ l ∈ v.board.Letters, BL l) (hn : 1 ≤ v.board.Letters.length) (hn2 : v.board.Letters.length ≤ 5) (hk : ∀ k ∈ v.SightStreet.Blocks, BK k) (hb : v.SightStreet.Blocks.length ≤ 4) :
  g_sight_view_isRead v = some (readB v.power v.board.At v.SightPlace v.SightStreet.Blocks v.board.Letters) := by
 simp only [g_sight_view_isRead, firstFault_eq v hp hw hl hn hn2 hk hb, Option.bind_some, Option.some.injEq]
 cases h : whyF v.power v.board.At v.SightPlace v.SightStreet.Blocks v.board.Letters with
 | none =>
  have := why_none.1 h
  symm
  simp only [whyP, readB, this.2, Bool.true_and, Bool.not_false, List.all_eq_true]
  intro k hk; simp [this.1 k hk]
 | some f =>
  have hne : ¬ ((∀ k ∈ v.SightStreet.Blocks, behB v.board.At v.SightPlace k = false) ∧ clearB v.power v.board.At v.SightPlace v.board.Letters = true) := by
   rw [← why_none, h]; simp
  simp only [whyP, readB, Bool.not_true]
  symm
  rw [Bool.eq_false_iff]
  intro hr
  rw [Bool.and_eq_true, List.all_eq_true] at hr
  exact hne ⟨fun k hk => by simpa using hr.2 k hk, hr.1⟩
theorem room_small {n : Nat} (b : Nat) (h : n ≤ 1000) (hb : b ≤ 100) : roomOk b n = true := by
 unfold roomOk
 refine decide_eq_true ?_
 have : n * b ≤ 1000 * 100 := Nat.mul_le_mul h hb
 omega
theorem goods {s : GSightStreet} {b : GSightBoard} {p : GSightPlace} (h : Good s b p) : PG b.At p ∧ (∀ l ∈ b.Letters, BL l) ∧ (∀ k ∈ s.Blocks, BK k) ∧ PW (s.Eye.Low * s.Light.Low) ∧ PW (s.Eye.High * s.Light.High) := by
 refine ⟨⟨h.a0, h.a1, h.p0, h.p1, h.q0, h.q1⟩, ?_, h.blks, ?_, ?_⟩
 ·intro l hl
  have := h.lets l hl
  simp only [letterB, Bool.and_eq_true, inB_iff] at this
  unfold BL; omega
 ·have h1 := h.el; have h2 := h.em; have h3 := h.eh; have h4 := h.ll; have h5 := h.lm; have h6 := h.lh
  exact mulR (a := s.Eye.Low) (A := 40) (b := s.Light.Low) (B := 100) (by omega) (by omega) (by omega) (by omega)
 ·have h1 := h.el; have h2 := h.em; have h3 := h.eh; have h4 := h.ll; have h5 := h.lm; have h6 := h.lh
  exact mulR (a := s.Eye.High) (A := 40) (b := s.Light.High) (B := 100) (by omega) (by omega) (by omega) (by omega)
theorem pw_wrap {w : Int} (h : PW w) : IntKind.i64.wrap w = w := wrap_eq (by unfold PW at h; omega) (by unfold PW at h; omega)
def sureB (s : GSightStreet) (b : GSightBoard) (p : GSightPlace) : Bool := clearB (s.Eye.Low * s.Light.Low) b.At p b.Letters && s.Blocks.all (fun k => !behB b.At p k)
def mayB (s : GSightStreet) (b : GSightBoard) (p : GSightPlace) : Bool := clearB (s.Eye.High * s.Light.High) b.At p b.Letters && s.Blocks.all (fun k => !(behB b.At p k && k.Sure))
def seenI (s : GSightStreet) (b : GSightBoard) (p : GSightPlace) : Int := cond (sureB s b p) 3 (cond (mayB s b p) 2 1)
theorem atBest_l0_eq : ∀ (ks : List GSightBlock) (i : Int) (acc : List GSightBlock), acc.length + ks.length ≤ 100 → g_sight_atBest_l0 ks i acc = some (.go (acc ++ ks.filter (fun k => k.Sure)))
 | [], _, acc, _ => by simp [g_sight_atBest_l0]
 | e :: ks, i, acc, hl => by
  simp only [List.length_cons] at hl
  simp only [g_sight_atBest_l0, List.filter_cons]
  cases e.Sure with
  | true =>
   rw [room_small 40 (by simp; omega) (by omega)]
   simp only [cond_true, if_pos]
   rw [atBest_l0_eq ks (i + 1) (acc ++ [e]) (by simp; omega)]
   simp
  | false => exact atBest_l0_eq ks (i + 1) acc (by omega)
theorem filter_len {ks : List GSightBlock} : (ks.filter (fun k => k.Sure)).length ≤ ks.length := List.length_filter_le ..
theorem seen_eq (s : GSightStreet) (b : GSightBoard) (p : GSightPlace) (h : Good s b p) : g_sight_seen s b p = some (seenI s b p) := by
 obtain ⟨hp, hl, hk, w1, w2⟩ := goods h
 have hb := h.nb
 have l1 : lenOk s.Blocks = true := lenOk_of (by omega)
 have r1 := isRead_eq ⟨s, p, b, s.Eye.Low * s.Light.Low⟩ hp w1 hl h.n1 h.n5 hk hb
 have r2 := isRead_eq ⟨⟨s.Length, s.Width, s.Eye, s.Light, s.Boards, s.Blocks.filter (fun k => k.Sure)⟩, p, b, s.Eye.High * s.Light.High⟩ hp w2 hl h.n1 h.n5 (fun k hk' => hk k (List.mem_filter.1 hk').1) (Nat.le_trans filter_len hb)
 simp only [readB] at r1 r2
 have e : (s.Blocks.filter (fun k => k.Sure)).all (fun k => !behB b.At p k) = s.Blocks.all (fun k => !(behB b.At p k && k.Sure)) := by
  rw [List.all_filter]
  congr 1
  funext k
  cases behB b.At p k <;> cases k.Sure <;> rfl
 rw [e] at r2
 simp only [g_sight_seen, g_sight_isSurelyRead, g_sight_atWorst, g_sight_atBest, pw_wrap w1, pw_wrap w2, l1, cond_true, atBest_l0_eq s.Blocks 0 [] (by simp; omega), List.nil_append, lbind_go, Option.bind_some, r1, r2, seenI, sureB, mayB]
 cases (clearB (s.Eye.Low * s.Light.Low) b.At p b.Letters && s.Blocks.all (fun k => !behB b.At p k)) <;> cases (clearB (s.Eye.High * s.Light.High) b.At p b.Letters && s.Blocks.all (fun k => !(behB b.At p k && k.Sure))) <;> rfl
end Go.V
end
section
namespace Go.V
open Go
end Go.V
end
section
namespace Go.V
open Go
def Fair (s : GSightStreet) (b : GSightBoard) (p : GSightPlace) : Prop := PG b.At p ∧ PW (s.Eye.Low * s.Light.Low) ∧ (∀ l ∈ b.Letters, BL l) ∧ 1 ≤ b.Letters.length ∧ b.Letters.length ≤ 5 ∧ (∀ k ∈ s.Blocks, BK k) ∧ s.Blocks.length ≤ 4
theorem fair_good {s : GSightStreet} {b : GSightBoard} {p : GSightPlace} (h : Good s b p) : Fair s b p := by
 obtain ⟨hp, hl, hk, w1, _⟩ := goods h
 exact ⟨hp, w1, hl, h.n1, h.n5, hk, h.nb⟩
theorem surely_eq {s : GSightStreet} {b : GSightBoard} {p : GSightPlace} (h : Fair s b p) : g_sight_isSurelyRead s b p = some (sureB s b p) := by
 obtain ⟨hp, w1, hl, n1, n5, hk, nb⟩ := h
 have r1 := isRead_eq ⟨s, p, b, s.Eye.Low * s.Light.Low⟩ hp w1 hl n1 n5 hk nb
 simp only [g_sight_isSurelyRead, g_sight_atWorst, pw_wrap w1, Option.bind_some, r1, readB, sureB]
end Go.V
end
section
namespace Go.V
def ea : Option Bool → Bool | none => true | some b => b
def eo : Option Bool → Bool | none => false | some b => b
end Go.V
end
section
set_option linter.unusedVariables false
set_option linter.defProp false
namespace Go.V
open Go
section
variable {P : Program} {G : Glob} {n : Nat} {x : Code} {Q : VExit → St → Prop} {st : St}
end
theorem setC {α : Type} {enc : α → List VV} {w : Nat} (xs : List α) (n : Nat) (v : α) (he : ∀ x, (enc x).length = w) : List.take (xs.length * w) (cellsL enc (xs.set n v)) = cellsL enc (xs.set n v) :=
 List.take_of_length_le (by rw [cellsL_length he, List.length_set]; exact Nat.le_refl _)
end Go.V
end
section
set_option linter.unusedVariables false
set_option linter.unusedSimpArgs false
set_option linter.defProp false
namespace Go.V
open Go
section
variable {P : Program} {G : Glob} {n : Nat} {Q : VExit → St → Prop} {tm : Nat → VV} {H : Nat → Option VObj} {nx : Nat} {df : List VDef} {g : Operand} {ps : Array Tmp} {az bo : Code} {f : FuncId} {first captured : List VV}
theorem range_open (hg : ev (G.at (some none)) tm g = .fn (.func f) first captured)
  (h : ∀ LO, LO = VObj.loop .ready none (tmL n tm) ps az bo nx → VOpen P (G.at (some none)) f (first ++ [.yl (nx + 1)] ++ captured) (updH (updH H nx (.deferred (some []))) (nx + 1) LO) (nx + 2)
   (fun _ H' nx' => RangeEnd P (G.at (some none)) n Q ⟨tm, H, nx, df⟩ H' nx') (fun x H' nx' => Q (.panic x) ⟨tm, H', nx', .coll nx :: df⟩)) : CWp P (G.at (some none)) n (.rangeFunc g ps az bo) Q ⟨tm, H, nx, df⟩ := by
 unfold CWp
 refine ⟨rfl, ?_⟩
 rw [show St.ρ (G.at (some none)) ⟨tm, H, nx, df⟩ g = ev (G.at (some none)) tm g from ev_eq .. ▸ rfl, hg]
 exact h _ rfl
theorem rangeEnd_go {H' : Nat → Option VObj} {nx' : Nat} {LO : VObj} {tml : List VV} {d : Nat} (hL : LO = VObj.loop .ready none tml ps az bo d) (h : H' (nx + 1) = some LO) (hq : ∀ LX, Q .normal ⟨tm, updH H' (nx + 1) LX, nx', .coll nx :: df⟩) : RangeEnd P G n Q ⟨tm, H, nx, df⟩ H' nx' :=
 ⟨.ready, none, tml, ps, az, bo, d, by rw [h, hL], by simp, hq _⟩
def RndEnd (β : Nat) (LB LO : VObj) (LD : Code → VObj) (o : Oper) (st : St) (K : St → Prop) : VExit → St → Prop
 | .normal, s2 => s2.H β = some LB ∧ K { st.put o.dst (.lit (.bool true)) with H := updH s2.H β LO, nx := s2.nx }
 | .ret, s2 => s2.H β = some LB ∧ K { st.put o.dst (.lit (.bool false)) with H := updH s2.H β (LD .ret), nx := s2.nx }
 | .exit id, s2 => s2.H β = some LB ∧ K { st.put o.dst (.lit (.bool false)) with H := updH s2.H β (LD (.exit id)), nx := s2.nx }
 | _, _ => False
def RndAs (P : Program) (G : Glob) (n β : Nat) (LB LO : VObj) (LD : Code → VObj) (bo : Code) (o : Oper) (st : St) (K : St → Prop) : VExit → St → Prop
 | .normal, s1 => s1.H β = some LO ∧ CWp P (G.at (some (some β))) n bo (RndEnd β LB LO LD o st K) { s1 with H := updH s1.H β LB }
 | _, _ => False
theorem yield_open (hm : P.follows .mixedOrders = true) {o : Oper} {β : Nat} {args : List VV} {st : St} {K : St → Prop} {LO : VObj} {tml : List VV} {d : Nat} {psl : List Tmp} (hL : LO = VObj.loop .ready none tml ⟨psl⟩ az bo d) (hβ : st.H β = some LO) (hn : tml.length = n) (ha : args.length = psl.length)
  (h1 : codeOk n az = true) (h2 : codeOk n bo = true)
  (h : ∀ LB LD, LB = VObj.loop .busy none tml ⟨psl⟩ az bo d → LD = (fun c => VObj.loop .done (some c) tml ⟨psl⟩ az bo d) →
   CWp P (G.at (some (some β))) n az (RndAs P G n β LB LO LD bo o st K) ⟨argsTm (roundTm tml psl args), st.H, st.nx, []⟩) : yieldK P G o β args st K := by
 unfold yieldK
 rw [hβ, hL]
 subst hn
 refine ⟨ha, (CWp_sound hm az _ _ h1 (h _ _ rfl rfl)).mono ?_⟩
 intro e s1 hs
 cases e with
 | normal =>
  obtain ⟨q1, q2⟩ := hs
  refine ⟨none, tml, ⟨psl⟩, az, bo, d, by rw [q1, hL], (CWp_sound hm bo _ _ h2 q2).mono ?_⟩
  intro e s2 hs2
  cases e with
  | normal =>
   obtain ⟨r1, r2⟩ := hs2
   refine ⟨_, _, _, _, _, _, _, r1, ?_⟩
   rw [hL] at r2
   exact r2
  | ret =>
   obtain ⟨r1, r2⟩ := hs2
   exact ⟨_, _, _, _, _, _, _, r1, r2⟩
  | exit id =>
   obtain ⟨r1, r2⟩ := hs2
   exact ⟨_, _, _, _, _, _, _, r1, r2⟩
  | goto l => exact hs2.elim
  | panic x => exact hs2.elim
 | _ => exact hs.elim
theorem rnd_normal {β : Nat} {LB LO : VObj} {LD : Code → VObj} {d : Option Tmp} {op : Op} {ty : TypeId} {pos : String} {af : Array Edge} {gd : Option (Nat × Bool)} {K : St → Prop} {tm2 : Nat → VV} {H2 : Nat → Option VObj} {nx2 : Nat} {df2 : List VDef} (h : H2 β = some LB) :
  RndEnd β LB LO LD ⟨d, op, ty, pos, af, gd⟩ ⟨tm, H, nx, df⟩ K .normal ⟨tm2, H2, nx2, df2⟩ = K ⟨(match d with | some d => upd tm d (.lit (.bool true)) | none => tm), updH H2 β LO, nx2, df⟩ := by
 show (_ ∧ _) = _
 rw [eq_true h, true_and]
 cases d <;> rfl
theorem rndAs_normal {β : Nat} {LB LO : VObj} {LD : Code → VObj} {o : Oper} {st : St} {K : St → Prop} {tm2 : Nat → VV} {H2 : Nat → Option VObj} {nx2 : Nat} {df2 : List VDef} (h : H2 β = some LO) :
  RndAs P G n β LB LO LD bo o st K .normal ⟨tm2, H2, nx2, df2⟩ = CWp P (G.at (some (some β))) n bo (RndEnd β LB LO LD o st K) ⟨tm2, updH H2 β LB, nx2, df2⟩ := by
 show (_ ∧ _) = _
 rw [eq_true h, true_and]
theorem round_tm {m t p : Nat} {x : VV} (h : t < m) : argsTm (roundTm (tmL m tm) [p] [x]) t = if t = p then x else tm t := by
 unfold argsTm roundTm tmL
 simp only [List.zip_cons_cons, List.zip_nil_right, List.foldl_cons, List.foldl_nil]
 by_cases hp : t = p
 ·subst hp
  rw [if_pos rfl]
  simp [h]
 ·rw [if_neg hp]
  simp [List.getElem?_set, h, Ne.symm hp]
theorem round_tm0 {m t : Nat} (h : t < m) : argsTm (roundTm (tmL m tm) [] []) t = tm t := by
 unfold argsTm roundTm tmL
 simp [h]
theorem tmL_length {m : Nat} : (tmL m tm).length = m := by simp [tmL]
theorem cwp_tmcut {code : Code} (F : (Nat → VV) → Prop) (hF : F tm) (h : ∀ tm, F tm → CWp P G n code Q ⟨tm, H, nx, df⟩) : CWp P G n code Q ⟨tm, H, nx, df⟩ := h tm hF
theorem vcells_yl {β : Nat} : vcells (.yl β) = some [.yl β] := rfl
theorem leaf_yl {β : Nat} : (VV.yl β).leaf = true := rfl
theorem VPure.at {x : Option (Option Nat)} {args : List VV} {r : PRes} (h : VPure P G f args r) : VPure P (G.at x) f args r := h
def rg := And.intro @vcells_yl (And.intro @leaf_yl @cvalK_yl)
theorem opd_coll {fn : Func} {R Rp : VV → (Nat → Option VObj) → Nat → Prop} {β : Nat} (h : H β = some (.deferred (some []))) (h2 : OpenPostD P G fn R Rp .ret ⟨tm, updH H β (.deferred none), nx, df⟩) : OpenPostD P G fn R Rp .ret ⟨tm, H, nx, .coll β :: df⟩ := ⟨h, h2⟩
theorem opd_collN {fn : Func} {R Rp : VV → (Nat → Option VObj) → Nat → Prop} {β : Nat} (h : H β = some (.deferred (some []))) (h2 : OpenPostD P G fn R Rp .normal ⟨tm, updH H β (.deferred none), nx, df⟩) : OpenPostD P G fn R Rp .normal ⟨tm, H, nx, .coll β :: df⟩ := ⟨h, h2⟩
end
end Go.V
end
section
set_option linter.unusedVariables false
set_option linter.unusedSimpArgs false
set_option linter.defProp false
namespace Go.V
open Go
def kIdx {K : Type} (q : K → K → Bool) (k : K) : List K → Nat → Option Nat
 | [], _ => none
 | e :: es, i => cond (q k e) (some i) (kIdx q k es (i + 1))
theorem kIdx_some {K : Type} {q : K → K → Bool} {k : K} : ∀ (es : List K) (i j : Nat), kIdx q k es i = some j → i ≤ j ∧ ∃ e, es[j - i]? = some e ∧ q k e = true
 | [], _, _, h => by cases h
 | e :: es, i, j, h => by
  unfold kIdx at h
  cases hq : q k e with
  | true =>
   rw [hq] at h
   simp only [cond_true, Option.some.injEq] at h
   subst h
   exact ⟨Nat.le_refl _, e, by simp, hq⟩
  | false =>
   rw [hq] at h
   simp only [cond_false] at h
   obtain ⟨h1, x, h2, h3⟩ := kIdx_some es (i + 1) j h
   refine ⟨by omega, x, ?_, h3⟩
   rw [show j - i = (j - (i + 1)) + 1 by omega]
   simpa using h2
def mapGet {K V : Type} (q : K → K → Bool) (z : V) (l : List (K × V)) (k : K) : V := match kIdx q k (l.map (·.1)) 0 with
 | some i => match l[i]? with | some p => p.2 | none => z
 | none => z
def mapSet {K V : Type} (q : K → K → Bool) (l : List (K × V)) (k : K) (v : V) : List (K × V) := match kIdx q k (l.map (·.1)) 0 with
 | some i => l.set i (k, v)
 | none => l ++ [(k, v)]
def encM {K V : Type} (kv : K → Value) (ev : V → VV) (l : List (K × V)) : List (Value × VV) := l.map fun p => (kv p.1, ev p.2)
section
variable {P : Program} {K V : Type} {q : K → K → Bool} {kv : K → Value} {ev : V → VV} {t kt et : TypeId} {H : Nat → Option VObj} {β : Nat}
theorem evalP_ask (he : ∀ a b, evalP P (Op.equal kt (kv a) (kv b)) = some (q a b)) (k : K) : ∀ (ks : List K) (i : Nat), evalP P (Instr.findAsking kt (kv k) ((ks.map kv).map dummy) i) = some ((kIdx q k ks i).map fun j => (j, Value.bool false))
 | [], i => rfl
 | e :: es, i => by
  simp only [List.map_cons, Instr.findAsking, kIdx]
  rw [evalP_bind]
  have h0 : evalP P (Op.equal kt (kv k) (dummy (kv e)).key) = some (q k e) := he k e
  rw [h0, Option.bind_some]
  cases q k e with
  | true => rfl
  | false => exact evalP_ask he k es (i + 1)
theorem kfind_S {fs : Array Field} (hu : P.underlying kt = some (.struct fs)) (he : ∀ a b, evalP P (Op.equal kt (kv a) (kv b)) = some (q a b)) (k : K) (ks : List K) : kfind P kt (kv k) (ks.map kv) = some (kIdx q k ks 0) := by
 unfold kfind Instr.findKey
 rw [evalP_bind, evalP_und hu, Option.bind_some]
 have ha := evalP_ask he k ks 0
 cases ks with
 | nil => rfl
 | cons e es =>
  have hn : Instr.findNow (.struct fs) (kv k) (((e :: es).map kv).map dummy) 0 = none := by
   simp only [List.map_cons, Instr.findNow]
   have : Instr.sameNow (.struct fs) (kv k) (dummy (kv e)).key = none := by cases kv k <;> rfl
   rw [this]
  rw [hn]
  simp only []
  rw [ha]
  cases kIdx q k (e :: es) 0 <;> rfl
theorem encM_keys {l : List (K × V)} : (encM kv ev l).map (·.1) = (l.map (·.1)).map kv := by simp [encM, Function.comp_def]
theorem lookup_own {fs : Array Field} {z : V} (hm : P.underlying t = some (.map kt et)) (hu : P.underlying kt = some (.struct fs)) (he : ∀ a b, evalP P (Op.equal kt (kv a) (kv b)) = some (q a b)) (hc : ∀ b k, evalP P (Instr.checkKey b 10000 kt (kv k)) = some ())
  (hz : ((P.info? et).bind (·.zero)).map ofVal2 = some (ev z)) {l : List (K × V)} {kx : VV} {k : K} (hk : kx.val? = some (kv k)) (hb : H β = some (.map (encM kv ev l))) :
  vlookup P H t (.mp β) kx false = some (ev (mapGet q z l k)) := by
 unfold vlookup
 rw [hm, hk]
 simp only [mapOf, hb]
 rw [hc, encM_keys, kfind_S hu he]
 cases hzz : (P.info? et).bind (·.zero) with
 | none => rw [hzz] at hz; cases hz
 | some z0 =>
  rw [hzz] at hz
  simp only [Option.map_some, Option.some.injEq] at hz
  unfold mapGet
  cases hi : kIdx q k (l.map (·.1)) 0 with
  | none => simp only [Bool.false_eq_true, if_false]; exact congrArg some hz
  | some i =>
   obtain ⟨_, e, h1, _⟩ := kIdx_some _ _ _ hi
   rw [Nat.sub_zero, List.getElem?_map] at h1
   cases hl : l[i]? with
   | none => rw [hl] at h1; cases h1
   | some p =>
    have : (encM kv ev l)[i]? = some (kv p.1, ev p.2) := by unfold encM; rw [List.getElem?_map, hl]; rfl
    simp only [this, hl, Bool.false_eq_true, if_false]
theorem update_own {fs : Array Field} (hm : P.underlying t = some (.map kt et)) (hu : P.underlying kt = some (.struct fs)) (he : ∀ a b, evalP P (Op.equal kt (kv a) (kv b)) = some (q a b)) (hc : ∀ b k, evalP P (Instr.checkKey b 10000 kt (kv k)) = some ())
  (hq : ∀ a b, q a b = true → a = b) (hs : ∀ a, Instr.sameBits 10000 (kv a) (kv a) = true) {l : List (K × V)} {kx : VV} {k : K} {v : V} (hk : kx.val? = some (kv k)) (hb : H β = some (.map (encM kv ev l))) :
  vmapUpdate P H t (.mp β) kx (ev v) = some (.upd β (.map (encM kv ev (mapSet q l k v)))) := by
 unfold vmapUpdate
 rw [hm, hk]
 simp only [hb]
 rw [hc, encM_keys, kfind_S hu he]
 unfold mapSet
 cases hi : kIdx q k (l.map (·.1)) 0 with
 | none => simp only [encM, List.map_append, List.map_cons, List.map_nil]
 | some i =>
  obtain ⟨_, e, h1, h2⟩ := kIdx_some _ _ _ hi
  rw [Nat.sub_zero, List.getElem?_map] at h1
  cases hl : l[i]? with
  | none => rw [hl] at h1; cases h1
  | some p =>
   have h3 : (encM kv ev l)[i]? = some (kv p.1, ev p.2) := by unfold encM; rw [List.getElem?_map, hl]; rfl
   rw [hl] at h1
   simp only [Option.map_some, Option.some.injEq] at h1
   have h4 := hq _ _ h2
   subst h4
   subst h1
   simp only [h3, hs, if_true]
   simp only [encM, List.map_set]
end
section
variable {P : Program} {G : Glob} {γ : Nat} {tm : Nat → VV} {H : Nat → Option VObj} {nx : Nat} {df : List VDef} {K : St → Prop} {Kd : List Nat → List Nat → St → Prop} {Qp : VV → St → Prop}
 {d : Option Tmp} {ty : TypeId} {pos : String} {af : Array Edge} {g : Option (Nat × Bool)}
theorem body_makeMap {t : TypeId} : bodyK P G γ ⟨d, .makeMap t none, ty, pos, af, g⟩ ⟨tm, H, nx, df⟩ K Qp = fin d γ tm H nx df K (.mp γ) (.new (.map [])) := by
 rw [body_op (by simp) (by simp) (by simp)]; rfl
theorem body_lookup {t : TypeId} {x k : Operand} {ok : Bool} : bodyK P G γ ⟨d, .lookup t x k ok, ty, pos, af, g⟩ ⟨tm, H, nx, df⟩ K Qp = oK (vlookup P H t (ev G tm x) (ev G tm k) ok) (fun y => fin d γ tm H nx df K y .none) := by
 rw [body_op (by simp) (by simp) (by simp)]; simp only [vop]; exact oK_map
theorem dbody_makeMap {t : TypeId} : dbodyK P G γ ⟨d, .makeMap t none, ty, pos, af, g⟩ ⟨tm, H, nx, df⟩ Kd = fin d γ tm H nx df (Kd (rdV ⟨d, .makeMap t none, ty, pos, af, g⟩ (ev G tm)) [γ]) (.mp γ) (.new (.map [])) := by
 rw [dbody_op (by simp)]; rfl
theorem dbody_lookup {t : TypeId} {x k : Operand} {ok : Bool} : dbodyK P G γ ⟨d, .lookup t x k ok, ty, pos, af, g⟩ ⟨tm, H, nx, df⟩ Kd = oK (vlookup P H t (ev G tm x) (ev G tm k) ok) (fun y => fin d γ tm H nx df (Kd (rdV ⟨d, .lookup t x k ok, ty, pos, af, g⟩ (ev G tm)) []) y .none) := by
 rw [dbody_op (by simp)]; simp only [vop]
 cases vlookup P H t (ev G tm x) (ev G tm k) ok <;> rfl
def umK (o : Option VEff) (k : VEff → Prop) : Prop := match o with | some e => k e | none => False
theorem umK_some {e : VEff} {k : VEff → Prop} : umK (some e) k = k e := rfl
theorem body_mapUpdate {t : TypeId} {m k x : Operand} : bodyK P G γ ⟨d, .mapUpdate t m k x, ty, pos, af, g⟩ ⟨tm, H, nx, df⟩ K Qp = umK (vmapUpdate P H t (ev G tm m) (ev G tm k) (ev G tm x)) (fun e => fin d γ tm H nx df K .any e) := by
 rw [body_op (by simp) (by simp) (by simp)]; simp only [vop]
 cases vmapUpdate P H t (ev G tm m) (ev G tm k) (ev G tm x) <;> rfl
theorem dbody_mapUpdate {t : TypeId} {m k x : Operand} : dbodyK P G γ ⟨d, .mapUpdate t m k x, ty, pos, af, g⟩ ⟨tm, H, nx, df⟩ Kd = umK (vmapUpdate P H t (ev G tm m) (ev G tm k) (ev G tm x)) (fun e => fin d γ tm H nx df (Kd (rdV ⟨d, .mapUpdate t m k x, ty, pos, af, g⟩ (ev G tm)) (e.wr γ)) .any e) := by
 rw [dbody_op (by simp)]; simp only [vop]
 cases vmapUpdate P H t (ev G tm m) (ev G tm k) (ev G tm x) <;> rfl
theorem vcells_mp {β : Nat} : vcells (.mp β) = some [.mp β] := rfl
theorem leaf_mp {β : Nat} : (VV.mp β).leaf = true := rfl
theorem rd_makeMap {t : TypeId} : rdV ⟨d, .makeMap t none, ty, pos, af, g⟩ (ev G tm) = rdL (ev G tm) [] := rdL_eq []
theorem rd_lookup {t : TypeId} {x k : Operand} {ok : Bool} : rdV ⟨d, .lookup t x k ok, ty, pos, af, g⟩ (ev G tm) = rdL (ev G tm) [x, k] := rdL_eq [x, k]
theorem rd_mapUpdate {t : TypeId} {m k x : Operand} : rdV ⟨d, .mapUpdate t m k x, ty, pos, af, g⟩ (ev G tm) = rdL (ev G tm) [m, k, x] := rdL_eq [m, k, x]
theorem tnL_mp {β : Nat} {l : List Nat} : tnL (.mp β) l = β :: l := rfl
theorem ev_nilmap : ev G tm (.const (.map none)) = .lit (.map none) := rfl
theorem encM_nil {K V : Type} {kv : K → Value} {ew : V → VV} : encM kv ew [] = [] := rfl
def mq := And.intro (And.intro (And.intro @body_makeMap (And.intro @body_lookup @body_mapUpdate)) (And.intro (And.intro @dbody_makeMap (And.intro @dbody_lookup @dbody_mapUpdate)) (And.intro (And.intro @umK_some @vcells_mp) @leaf_mp))) (And.intro (And.intro @rd_makeMap (And.intro @rd_lookup @rd_mapUpdate)) (And.intro @tnL_mp (And.intro @ev_nilmap @encM_nil)))
end
end Go.V
end
section
set_option linter.unusedVariables false
set_option linter.unusedSimpArgs false
set_option linter.defProp false
namespace Go.V
open Go
def RM (y x : VV) (H : Nat → Option VObj) (_ : Nat) : Prop := ∃ β es, x = .mp β ∧ H β = some (.map es) ∧ treeL (es.map (·.2)) = true ∧ y = .mt (es.map (·.1)) (es.map (·.2))
theorem VPure.of_openM {P : Program} {G : Glob} {f : FuncId} {args : List VV} {y : VV} (h : VOpen P G f args (fun _ => none) 0 (RM y) (fun _ _ _ => False)) : VPure P G f args (.tree y) := by
 refine ⟨h.1, fun A W vs hA hG hargs => (h.2 (PCtx A) W vs (pctx_sim hA) rfl (fun β hb => hb.elim) hG hargs).mono ?_⟩
 rintro e W' ⟨c', H', nx', hext, hs', hH', hu, hu', hle, hres⟩
 have hbelow := below_of_ext hext
 have hge : ∀ β, c'.live β → W.heap.size ≤ c'.φ β := by
  intro β hl
  rcases Nat.lt_or_ge (c'.φ β) W.heap.size with h | h
  ·obtain ⟨γ, hγ, _⟩ := hext.old β hl h
   simp [PCtx, Ctx.live] at hγ
  ·exact h
 have hold : ∀ b, c'.A b → A b ∨ W.heap.size ≤ b := by
  intro b hb
  rcases hext.newA b hb with h | h | ⟨β, h, _⟩
  ·exact .inl h
  ·exact .inr h
  ·simp [PCtx, Ctx.live] at h
 have held : ∀ {H0 : Nat → Option VObj}, SubHeap H0 c'.H → ∀ b, heldIn c' H0 b → A b ∨ W.heap.size ≤ b := by
  intro H0 hsub b hb
  rcases hb with h | ⟨β, h, e⟩
  ·exact hold b h
  ·exact .inr (e ▸ hge β (hsub.live h))
 have heldlt : ∀ {H0 : Nat → Option VObj}, SubHeap H0 c'.H → ∀ b, heldIn c' H0 b → b < W'.heap.size := by
  intro H0 hsub b hb
  rcases hb with h | ⟨β, h, e⟩
  ·exact hs'.ltA b h
  ·exact e ▸ hs'.lt β (hsub.live h)
 rcases hres with ⟨x, v, rfl, hrv, β, es, rfl, hβ, ht, rfl⟩ | ⟨x, v, rfl, hv, hF⟩
 ·subst hH'
  refine ⟨heldIn c' c'.H, fun b hb => .inl (hext.A b hb), held (SubHeap.refl _), heldlt (SubHeap.refl _), hbelow, v, rfl, ?_⟩
  have hv : v = .map (some (c'.φ β)) := hrv.2 (by simp [Ctx.live, hβ])
  obtain ⟨ents, clk, h1, h2, h3⟩ := hs'.obj β _ hβ
  have ab : Abides (PCtx c'.A) W' (PCtx (heldIn c' c'.H)) W' := abides_of_p (fun b hb => Or.inl hb)
  exact ⟨_, hv, .inr ⟨β, by simp [hβ], rfl⟩, ents, clk, h1, h2, RepL.abides ab _ (repL_tree ht h3)⟩
 ·exact hF.elim
theorem VPure.runM {P : Program} {G : Glob} (hm : P.follows .mixedOrders = true) {f : FuncId} {fn : Func} {code : Code} {args : List VV} {y : VV} (hc : Callable P f) (hf : P.funcs[f]? = some fn) (hb : fn.body = some code)
  (hst : (decide (args.length ≤ fn.ntmps) && codeOk fn.ntmps code) = true) (h : CWp P (G.at (some none)) fn.ntmps code (OpenPostD P G fn (RM y) (fun _ _ _ => False)) { tm := argsTm args, H := fun _ => none, nx := 0, df := [] }) : VPure P G f args (.tree y) :=
 VPure.of_openM (VOpen.run hm hc hf hb hst h)
def mtK {K V : Type} (kv : K → Value) (l : List (K × V)) : List Value := l.map fun p => kv p.1
def mtV {K V : Type} (ew : V → VV) (l : List (K × V)) : List VV := l.map fun p => ew p.2
theorem mt_tree {K V : Type} {ew : V → VV} (ht : ∀ v, (ew v).tree = true) : ∀ l : List (K × V), treeL (mtV ew l) = true
 | [] => rfl
 | p :: l => by
  show ((ew p.2).tree && treeL (mtV ew l)) = true
  rw [ht, mt_tree ht l]; rfl
theorem rm_map {K V : Type} {kv : K → Value} {ew : V → VV} {β nx : Nat} {H : Nat → Option VObj} {l : List (K × V)} (ht : ∀ v, (ew v).tree = true) (hb : H β = some (.map (encM kv ew l))) : RM (.mt (mtK kv l) (mtV ew l)) (.mp β) H nx := by
 have e1 : (encM kv ew l).map (·.1) = mtK kv l := by simp [encM, mtK, Function.comp_def]
 have e2 : (encM kv ew l).map (·.2) = mtV ew l := by simp [encM, mtV, Function.comp_def]
 exact ⟨β, _, rfl, hb, by rw [e2]; exact mt_tree ht l, by rw [e1, e2]⟩
theorem mt_mapOf {K V : Type} {kv : K → Value} {ew : V → VV} {H : Nat → Option VObj} (l : List (K × V)) : mapOf H (.mt (mtK kv l) (mtV ew l)) = some (encM kv ew l) := by
 simp only [mapOf, mtK, mtV, encM, Option.some.injEq]
 induction l with
 | nil => rfl
 | cons p l ih => simp only [List.map_cons, List.zip_cons_cons, ih]
section
variable {P : Program} {K V : Type} {q : K → K → Bool} {kv : K → Value} {ew : V → VV} {t kt et : TypeId} {H : Nat → Option VObj}
theorem lookup_tree {fs : Array Field} {z : V} (hm : P.underlying t = some (.map kt et)) (hu : P.underlying kt = some (.struct fs)) (he : ∀ a b, evalP P (Op.equal kt (kv a) (kv b)) = some (q a b)) (hc : ∀ b k, evalP P (Instr.checkKey b 10000 kt (kv k)) = some ())
  (hz : ((P.info? et).bind (·.zero)).map ofVal2 = some (ew z)) {l : List (K × V)} {kx : VV} {k : K} (hk : kx.val? = some (kv k)) :
  vlookup P H t (.mt (mtK kv l) (mtV ew l)) kx false = some (ew (mapGet q z l k)) := by
 have := lookup_own (H := fun _ => some (.map (encM kv ew l))) (β := 0) hm hu he hc hz hk rfl
 unfold vlookup at this ⊢
 rw [mt_mapOf]
 exact this
end
theorem leaf_mt {ks : List Value} {vs : List VV} : (VV.mt ks vs).leaf = true := rfl
theorem vcells_mt {ks : List Value} {vs : List VV} : vcells (.mt ks vs) = some [.mt ks vs] := rfl
theorem tnL_mt {ks : List Value} {vs : List VV} {l : List Nat} : tnL (.mt ks vs) l = l := rfl
def mqm := And.intro @leaf_mt (And.intro @vcells_mt @tnL_mt)
end Go.V
end
section
namespace Go.V
open Go Go.Proofs
def kv34 (k : GSightPlace) : Value := .agg ⟨[.int .i64 k.Along, .int .i64 k.Across]⟩
def q34 (a b : GSightPlace) : Bool := (a.Along == b.Along) && ((a.Across == b.Across) && true)
def ev46 (n : Int) : VV := .lit (.int .i64 n)
theorem he34 (a b : GSightPlace) : evalP Tryz.prog (Op.equal 34 (kv34 a) (kv34 b)) = some (q34 a b) := by
 have e : Op.maxDepth = 9998 + 2 := rfl
 unfold Op.equal kv34
 rw [e, evalP_eqS Tryz.underlying34 (by kernel_rfl) (r := q34 a b) (by kernel_rfl)]
theorem hc34 (b : Bool) (k : GSightPlace) : evalP Tryz.prog (Instr.checkKey b 10000 34 (kv34 k)) = some () := by
 cases b <;> kernel_rfl
theorem hq34 (a b : GSightPlace) (h : q34 a b = true) : a = b := by
 cases a; cases b
 simp only [q34, Bool.and_true, Bool.and_eq_true, beq_iff_eq] at h
 rw [h.1, h.2]
theorem hs34 (a : GSightPlace) : Instr.sameBits 10000 (kv34 a) (kv34 a) = true := by
 simp [kv34, Instr.sameBits]
theorem hz46 : ((Tryz.prog.info? 46).bind (·.zero)).map ofVal2 = some (ev46 0) := by kernel_rfl
theorem hk34 (a b : Int) : VV.val? (.agg [.lit (.int .i64 a), .lit (.int .i64 b)]) = some (kv34 ⟨a, b⟩) := rfl
theorem up97 {β : Nat} (l : List (GSightPlace × Int)) (k : GSightPlace) (v : Int) (H : Nat → Option VObj) (hb : H β = some (.map (encM kv34 ev46 l))) : vmapUpdate Tryz.prog H 97 (.mp β) (.agg [.lit (.int .i64 k.Along), .lit (.int .i64 k.Across)]) (.lit (.int .i64 v)) = some (.upd β (.map (encM kv34 ev46 (mapSet q34 l k v)))) :=
 update_own Tryz.underlying97 Tryz.underlying34 he34 hc34 hq34 hs34 (hk34 k.Along k.Across) hb
theorem ld97 {c : VV} {cs : List VV} : vload Tryz.prog 97 (c :: cs) = some c := by
 have h1 : aggT Tryz.prog 97 = some false := by kernel_rfl
 simp [vload, vpart, h1]
theorem sz97 : szT Tryz.prog 97 = some 1 := by kernel_rfl
theorem vzl97 : vzl Tryz.prog 97 = some [.lit (.map none)] := by kernel_rfl
theorem lkt97 {l : List (GSightPlace × Int)} {a b : Int} {H : Nat → Option VObj} : vlookup Tryz.prog H 97 (.mt (mtK kv34 l) (mtV ev46 l)) (.agg [.lit (.int .i64 a), .lit (.int .i64 b)]) false = some (.lit (.int .i64 (mapGet q34 0 l (GSightPlace.mk a b)))) :=
 lookup_tree Tryz.underlying97 Tryz.underlying34 he34 hc34 hz46 (k := ⟨a, b⟩) rfl
theorem et46 (n : Int) : (ev46 n).tree = true := rfl
def mqt := And.intro (And.intro (And.intro @ld97 @sz97) (And.intro @vzl97 @lkt97)) True.intro
end Go.V
end
