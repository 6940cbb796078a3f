/- Part of a proof: a logic of values by content, lifted functions, what follows. -/
import Derived.Test.YtbpeickbdiihcaaGreatDoorYbf
import Derived.Test.YtbpeickbdiihcaaGreatDoorYbn
import Derived.Test.YtbpeickbdiihcaaGreatDoorYbi
import Derived.Test.YtbpeickbdiihcaaGreatDoorYbm
import Derived.Test.YtbpeickbdiihcaaGreatDoorYbp
import Derived.Test.YtbpeickbdiihcaaGreatDoorYbj
import Derived.Test.YtbpeickbdiihcaaGreatDoorYbo
import Derived.Test.YtbpeickbdiihcaaGreatDoorYay
import Derived.Test.YtbpeickbdiihcaaGreatDoorProg
set_option linter.all false
set_option maxRecDepth 4000
set_option maxHeartbeats 4000000
section
namespace Go.V
open Go Go.Proofs
def g_ref02_From_l0 (x0_s : GSightStreet) (x1_b : GSightBoard) : List GSightPlace → Int → (List GSightPlace) → Option (LOut (List GSightPlace) ((List GSightPlace)))
 | [], c0_7, c0_6 => some (.go c0_6)
 | e0 :: p0, c0_7, c0_6 => Option.bind (g_ref02_Surely x0_s x1_b e0) (fun r2 => cond (r2) (cond (roomOk 16 (List.length (c0_6 ++ [e0]))) (g_ref02_From_l0 x0_s x1_b p0 (c0_7 + 1) (c0_6 ++ [e0])) none) (g_ref02_From_l0 x0_s x1_b p0 (c0_7 + 1) c0_6))
def g_ref02_From (x0_s : GSightStreet) (x1_b : GSightBoard) : Option (List GSightPlace) := Option.bind (g_ref02_Places x0_s) (fun r1 => cond (lenOk r1) (lbind (g_ref02_From_l0 x0_s x1_b r1 0 ([] : List GSightPlace)) (fun r4 => some r4) (fun c3 => some c3) (fun _ _ => none)) none)
theorem g_ref02_From_ok (x0_s : GSightStreet) (x1_b : GSightBoard) (R : List GSightPlace) (h : g_ref02_From x0_s x1_b = some R) : VPure Tryz.prog G0 38 [.agg (cGSightStreet x0_s), .agg (cGSightBoard x1_b)] (.tree (.sl (cellsL cGSightPlace R) (List.length R) false)) := by
 refine VPure.runR mixed Tryz.call38 Tryz.func38 rfl (by simp [Tryz.ntmps38]; kernel_rfl) ?_
 obtain ⟨KF, h, kF, kN⟩ := fun_intro h
 simp only [g_ref02_From] at h
 cases o6 : (g_ref02_Places x0_s) with
 | none =>
  simp only [o6, hs, reduceCtorEq] at h
  exact absurd h kN
 | some r5 =>
  simp only [o6, hs, reduceCtorEq] at h
  simp only [vz, mq, mqm, tyf, mqt, nm, seval]
  refine ktree (args0 := [.agg (cGSightStreet x0_s)]) (by first | (simp only [nrm, tynrm] <;> rfl) | rfl) (by simp only [tre, tytre, Bool.and_self]) (g_ref02_Places_ok _ _ o6) ?_
  refine fin_cut (fun tm => tm 2 = .ptr 0 0 ∧ tm 3 = .ptr 1 0 ∧ tm 9 = .sl (cellsL cGSightPlace r5) (List.length r5) false ∧ True) (by refine ⟨?_, ?_, ?_, trivial⟩ <;> first | (simp only [ua, encM_nil, nm, seval] <;> rfl) | rfl) ?_
  rintro tm ⟨e7, e8, e9, _⟩
  cases g11 : (lenOk r5)
  ·simp only [g11, hs, reduceCtorEq] at h
   exact absurd h kN
  simp only [g11, hs, reduceCtorEq] at h
  simp only [vz, mq, mqm, tyf, mqt, e7, e8, e9, g11, nm, seval]
  obtain ⟨K10, h, kR10, kG10, kB10, kN10⟩ := lbind_intro h kN
  obtain ⟨f10, hf10, h⟩ := call3 h
  obtain ⟨I10, hI10⟩ : ∃ I : Nat → St → Prop, I = (fun m st => ∃ (p10 : List GSightPlace) (c10_7 : Int) (c10_6 : List GSightPlace) (y10_0 : VV), m = List.length p10 ∧ 0 ≤ c10_7 ∧ List.drop (Int.toNat c10_7) r5 = p10 ∧ st.df = [] ∧ 8 ≤ st.nx ∧ st.H 0 = some (.cells (some 27) (cGSightStreet x0_s)) ∧ st.H 1 = some (.cells (some 42) (cGSightBoard x1_b)) ∧ st.tm 2 = .ptr 0 0 ∧ st.tm 3 = .ptr 1 0 ∧ st.tm 5 = .sl (cellsL cGSightPlace r5) (List.length r5) false ∧ st.tm 6 = y10_0 ∧ st.tm 7 = .lit (.int .i64 c10_7) ∧ ((∃ (β : Nat) (el : Option TypeId), y10_0 = .ref β 0 (List.length c10_6) 2 (List.length c10_6) ∧ β < st.nx ∧ β ≠ 0 ∧ β ≠ 1 ∧ st.H β = some (.cells el (cellsL cGSightPlace c10_6))) ∨ (y10_0 = .lit (.slice none 0 0) ∧ c10_6 = [])) ∧ K10 (f10 p10 c10_7 c10_6)) := ⟨_, rfl⟩
  refine loopK mixed (by kernel_rfl) I10 (List.length r5) (by rw [hI10]; refine ⟨r5, 0, ([] : List GSightPlace), .lit (.slice none 0 0), rfl, Int.le_refl _, rfl, rfl, (show 8 ≤ 8 by omega), ?_, ?_, e7, e8, ?_, ?_, ?_, Or.inr ⟨rfl, rfl⟩, h⟩ <;> first | (simp only [ua, encM_nil, e7, e8, e9, nm, seval] <;> rfl) | rfl) ?_
  rintro m ⟨tm, H, nx10, df⟩ hinv
  rw [hI10] at hinv
  obtain ⟨p10, c10_7, c10_6, y10_0, rfl, hi10, hp10, hdf, hn10, H12, H13, e14, e15, e16, e17, e18, ow10_0, h⟩ := hinv
  simp only at hdf hn10 H12 H13 e14 e15 e16 e17 e18 ow10_0
  have n19 := base_ne0 (m := 8) (b := nx10) (by omega)
  subst hdf hf10
  rcases ow10_0 with ⟨b10_0, el10_0, rfl, lq21, lq22, lq23, H20⟩ | ⟨rfl, rfl⟩
  ·have q21 := own_lt lq21
   have q22 := ne_f lq22
   have q23 := ne_f lq23
   cases p10 with
   | nil =>
    have d24 : (decide (c10_7 < (List.length r5 : Int))) = false := not_lt_of_drop hi10 hp10
    simp only [g_ref02_From_l0, hs, reduceCtorEq] at h
    replace h := kG10 _ h
    try dsimp only at h
    try simp only [hs] at h
    try simp only [vz, mq, mqm, tyf, mqt, g11, n19, e14, e15, e16, e17, e18, H12, H13, q21, H20, q22, q23, d24, nm, seval]
    refine opd_ret (x := (.ref b10_0 0 (List.length c10_6) 2 (List.length c10_6))) (by first | (simp only [Tryz.results38, resV, resL, resV1, tgt_ptr, tgt_tp, uw, cr, tyf, mqt, g11, n19, H12, H13, q21, H20, q22, q23, d24, nm, seval] <;> rfl) | rfl) ?_
    obtain rfl := kF _ h
    refine rr_tree ?_ ?_
    ·simp only [tre, tytre, Bool.and_self]
    ·first | (simp only [outV, uw, showV_ref, cr, tyf, mqt, nrm, tynrm, g11, n19, e14, e15, e16, e17, e18, H12, H13, q21, H20, q22, q23, d24, nm, seval] <;> rfl) | rfl
   | cons e10 p10 =>
    have d25 : (decide (c10_7 < (List.length r5 : Int))) = true := lt_of_drop hi10 hp10
    have o27 := getI_of_drop hi10 hp10
    have w26 := wrap_next hi10 hp10 g11
    simp only [g_ref02_From_l0, hs, reduceCtorEq] at h
    simp only [vz, mq, mqm, tyf, mqt, g11, n19, e14, e15, e16, e17, e18, H12, H13, q21, H20, q22, q23, d25, (ix73 o27), w26, nm, seval]
    refine cwp_drwQF (fun tm => tm 2 = .ptr 0 0 ∧ tm 3 = .ptr 1 0 ∧ tm 5 = .sl (cellsL cGSightPlace r5) (List.length r5) false ∧ tm 6 = .ref b10_0 0 (List.length c10_6) 2 (List.length c10_6) ∧ tm 7 = .lit (.int .i64 c10_7) ∧ True) (by refine ⟨e14, e15, e16, e17, e18, trivial⟩ <;> first | (simp only [ua, encM_nil, n19, e14, e15, e16, e17, e18, H12, H13, q21, H20, q22, q23, d25, w26, nm, seval] <;> rfl) | rfl) ?_
    rintro tm ⟨e28, e29, e30, e31, e32, _⟩
    cases o34 : (g_ref02_Surely x0_s x1_b e10) with
    | none =>
     simp only [o34, hs, reduceCtorEq] at h
     exact absurd h kN10
    | some r33 =>
     simp only [o34, hs, reduceCtorEq] at h
     simp only [vz, mq, mqm, tyf, mqt, g11, n19, H12, H13, q21, H20, q22, q23, d25, (ix73 o27), w26, e28, e29, e30, e31, e32, nm, seval]
     refine dktree (args0 := [.agg (cGSightStreet x0_s), .agg (cGSightBoard x1_b), .agg (cGSightPlace e10)]) (by first | (simp only [nrm, tynrm] <;> rfl) | rfl) (by simp only [tre, tytre, Bool.and_self]) (g_ref02_Surely_ok _ _ _ _ o34) ?_
     refine fin_cut (fun tm => tm 2 = .ptr 0 0 ∧ tm 3 = .ptr 1 0 ∧ tm 5 = .sl (cellsL cGSightPlace r5) (List.length r5) false ∧ tm 6 = .ref b10_0 0 (List.length c10_6) 2 (List.length c10_6) ∧ tm 7 = .lit (.int .i64 c10_7) ∧ tm 22 = .lit (.bool r33) ∧ True) (by refine ⟨e28, e29, e30, e31, e32, ?_, trivial⟩ <;> first | (simp only [ua, encM_nil, n19, H12, H13, q21, H20, q22, q23, d25, w26, e28, e29, e30, e31, e32, nm, seval] <;> rfl) | rfl) ?_
     rintro tm ⟨e35, e36, e37, e38, e39, e40, _⟩
     cases d41 : (r33)
     ·simp only [d41, hs, reduceCtorEq] at h
      simp only [vz, mq, mqm, tyf, mqt, g11, n19, H12, H13, q21, H20, q22, q23, d25, (ix73 o27), w26, e35, e36, e37, e38, e39, e40, d41, nm, seval]
      exact ⟨List.length p10, Nat.lt_succ_self _, by rw [hI10]; refine ⟨p10, c10_7 + 1, c10_6, .ref b10_0 0 (List.length c10_6) 2 (List.length c10_6), rfl, Int.le_trans hi10 (Int.le_add_one (Int.le_refl _)), drop_next hi10 hp10, rfl, (show 8 ≤ nx10 + 14 by omega), ?_, ?_, e35, e36, e37, ?_, ?_, Or.inl ⟨b10_0, el10_0, rfl, (by first | omega | (simp only [nm, seval]; omega)), (by first | omega | (intro hh; simp only [n19, q21, q22, q23, reduceCtorEq] at hh)), (by first | omega | (intro hh; simp only [n19, q21, q22, q23, reduceCtorEq] at hh)), ?_⟩, h⟩ <;> first | (simp only [ua, encM_nil, n19, H12, H13, q21, H20, q22, q23, d25, w26, e35, e36, e37, e38, e39, e40, d41, nm, seval] <;> rfl) | rfl⟩
     simp only [d41, hs, reduceCtorEq] at h
     cases g42 : (roomOk 16 (List.length (c10_6 ++ [e10])))
     ·simp only [g42, hs, reduceCtorEq] at h
      exact absurd h kN10
     simp only [g42, hs, reduceCtorEq] at h
     simp only [vz, mq, mqm, tyf, mqt, g11, n19, H12, H13, q21, H20, q22, q23, d25, (ix73 o27), w26, e35, e36, e37, e38, e39, e40, d41, g42, nm, seval]
     refine k_app (w := 2) (enc := cGSightPlace) (xs := c10_6) (ys := ([e10])) (el := el10_0) (el2 := (some 29)) (fun _ => rfl) lf73 ao73 Tryz.underlying73 (by first | rfl | assumption | (simp only [updH_apply, without_apply, et73, n19, H12, H13, q21, H20, q22, q23, nm, seval] <;> rfl) | (simp only [updH_apply, without_apply, cellsL_cons, cellsL_nil, mV_app, mV_app0, tyf, mqt, g11, n19, H12, H13, q21, H20, q22, q23, d25, (ix73 o27), w26, e35, e36, e37, e38, e39, e40, d41, g42, nm, seval]; done)) (by first | rfl | assumption | (simp only [updH_apply, without_apply, et73, n19, H12, H13, q21, H20, q22, q23, nm, seval] <;> rfl) | (simp only [updH_apply, without_apply, cellsL_cons, cellsL_nil, mV_app, mV_app0, tyf, mqt, g11, n19, H12, H13, q21, H20, q22, q23, d25, (ix73 o27), w26, e35, e36, e37, e38, e39, e40, d41, g42, nm, seval]; done)) (Nat.zero_lt_succ _) g42 ?_
     simp only [vz, mq, mqm, tyf, mqt, g11, n19, H12, H13, q21, H20, q22, q23, d25, (ix73 o27), w26, e35, e36, e37, e38, e39, e40, d41, g42, nm, seval]
     exact ⟨List.length p10, Nat.lt_succ_self _, by rw [hI10]; refine ⟨p10, c10_7 + 1, (c10_6 ++ [e10]), .ref (nx10 + 17) 0 (List.length (c10_6 ++ [e10])) 2 (List.length (c10_6 ++ [e10])), rfl, Int.le_trans hi10 (Int.le_add_one (Int.le_refl _)), drop_next hi10 hp10, rfl, (show 8 ≤ nx10 + 22 by omega), ?_, ?_, e35, e36, e37, ?_, ?_, Or.inl ⟨nx10 + 17, (sameEl el10_0 29), rfl, (by first | omega | (simp only [nm, seval]; omega)), (by first | omega | (intro hh; simp only [n19, q21, q22, q23, reduceCtorEq] at hh)), (by first | omega | (intro hh; simp only [n19, q21, q22, q23, reduceCtorEq] at hh)), ?_⟩, h⟩ <;> first | (simp only [ua, encM_nil, n19, H12, H13, q21, H20, q22, q23, d25, w26, e35, e36, e37, e38, e39, e40, d41, nm, seval] <;> rfl) | rfl⟩
  ·cases p10 with
   | nil =>
    have d43 : (decide (c10_7 < (List.length r5 : Int))) = false := not_lt_of_drop hi10 hp10
    simp only [g_ref02_From_l0, hs, reduceCtorEq] at h
    replace h := kG10 _ h
    try dsimp only at h
    try simp only [hs] at h
    try simp only [vz, mq, mqm, tyf, mqt, g11, n19, e14, e15, e16, e17, e18, H12, H13, d43, nm, seval]
    refine opd_ret (x := (.lit (.slice none 0 0))) (by first | (simp only [Tryz.results38, resV, resL, resV1, tgt_ptr, tgt_tp, uw, cr, tyf, mqt, g11, n19, H12, H13, d43, nm, seval] <;> rfl) | rfl) ?_
    obtain rfl := kF _ h
    refine rr_tree ?_ ?_
    ·simp only [tre, tytre, Bool.and_self]
    ·first | (simp only [outV, uw, showV_ref, cr, tyf, mqt, nrm, tynrm, g11, n19, e14, e15, e16, e17, e18, H12, H13, d43, nm, seval] <;> rfl) | rfl
   | cons e10 p10 =>
    have d44 : (decide (c10_7 < (List.length r5 : Int))) = true := lt_of_drop hi10 hp10
    have o46 := getI_of_drop hi10 hp10
    have w45 := wrap_next hi10 hp10 g11
    simp only [g_ref02_From_l0, hs, reduceCtorEq] at h
    simp only [vz, mq, mqm, tyf, mqt, g11, n19, e14, e15, e16, e17, e18, H12, H13, d44, (ix73 o46), w45, nm, seval]
    refine cwp_drwQF (fun tm => tm 2 = .ptr 0 0 ∧ tm 3 = .ptr 1 0 ∧ tm 5 = .sl (cellsL cGSightPlace r5) (List.length r5) false ∧ tm 6 = .lit (.slice none 0 0) ∧ tm 7 = .lit (.int .i64 c10_7) ∧ True) (by refine ⟨e14, e15, e16, e17, e18, trivial⟩ <;> first | (simp only [ua, encM_nil, n19, e14, e15, e16, e17, e18, H12, H13, d44, w45, nm, seval] <;> rfl) | rfl) ?_
    rintro tm ⟨e47, e48, e49, e50, e51, _⟩
    cases o53 : (g_ref02_Surely x0_s x1_b e10) with
    | none =>
     simp only [o53, hs, reduceCtorEq] at h
     exact absurd h kN10
    | some r52 =>
     simp only [o53, hs, reduceCtorEq] at h
     simp only [vz, mq, mqm, tyf, mqt, g11, n19, H12, H13, d44, (ix73 o46), w45, e47, e48, e49, e50, e51, nm, seval]
     refine dktree (args0 := [.agg (cGSightStreet x0_s), .agg (cGSightBoard x1_b), .agg (cGSightPlace e10)]) (by first | (simp only [nrm, tynrm] <;> rfl) | rfl) (by simp only [tre, tytre, Bool.and_self]) (g_ref02_Surely_ok _ _ _ _ o53) ?_
     refine fin_cut (fun tm => tm 2 = .ptr 0 0 ∧ tm 3 = .ptr 1 0 ∧ tm 5 = .sl (cellsL cGSightPlace r5) (List.length r5) false ∧ tm 6 = .lit (.slice none 0 0) ∧ tm 7 = .lit (.int .i64 c10_7) ∧ tm 22 = .lit (.bool r52) ∧ True) (by refine ⟨e47, e48, e49, e50, e51, ?_, trivial⟩ <;> first | (simp only [ua, encM_nil, n19, H12, H13, d44, w45, e47, e48, e49, e50, e51, nm, seval] <;> rfl) | rfl) ?_
     rintro tm ⟨e54, e55, e56, e57, e58, e59, _⟩
     cases d60 : (r52)
     ·simp only [d60, hs, reduceCtorEq] at h
      simp only [vz, mq, mqm, tyf, mqt, g11, n19, H12, H13, d44, (ix73 o46), w45, e54, e55, e56, e57, e58, e59, d60, nm, seval]
      exact ⟨List.length p10, Nat.lt_succ_self _, by rw [hI10]; refine ⟨p10, c10_7 + 1, ([] : List GSightPlace), .lit (.slice none 0 0), rfl, Int.le_trans hi10 (Int.le_add_one (Int.le_refl _)), drop_next hi10 hp10, rfl, (show 8 ≤ nx10 + 14 by omega), ?_, ?_, e54, e55, e56, ?_, ?_, Or.inr ⟨rfl, rfl⟩, h⟩ <;> first | (simp only [ua, encM_nil, n19, H12, H13, d44, w45, e54, e55, e56, e57, e58, e59, d60, nm, seval] <;> rfl) | rfl⟩
     simp only [d60, hs, reduceCtorEq] at h
     cases g61 : (roomOk 16 (List.length (([] : List GSightPlace) ++ [e10])))
     ·simp only [g61, hs, reduceCtorEq] at h
      exact absurd h kN10
     simp only [g61, hs, reduceCtorEq] at h
     simp only [vz, mq, mqm, tyf, mqt, g11, n19, H12, H13, d44, (ix73 o46), w45, e54, e55, e56, e57, e58, e59, d60, g61, nm, seval]
     refine k_appN (w := 2) (enc := cGSightPlace) (ys := ([e10])) (el2 := (some 29)) (fun _ => rfl) lf73 ao73 Tryz.underlying73 (by first | rfl | assumption | (simp only [updH_apply, without_apply, et73, n19, H12, H13, nm, seval] <;> rfl) | (simp only [updH_apply, without_apply, cellsL_cons, cellsL_nil, mV_app, mV_app0, tyf, mqt, g11, n19, H12, H13, d44, (ix73 o46), w45, e54, e55, e56, e57, e58, e59, d60, g61, nm, seval]; done)) (Nat.zero_lt_succ _) g61 ?_
     simp only [vz, mq, mqm, tyf, mqt, g11, n19, H12, H13, d44, (ix73 o46), w45, e54, e55, e56, e57, e58, e59, d60, g61, nm, seval]
     exact ⟨List.length p10, Nat.lt_succ_self _, by rw [hI10]; refine ⟨p10, c10_7 + 1, (([] : List GSightPlace) ++ [e10]), .ref (nx10 + 17) 0 (List.length (([] : List GSightPlace) ++ [e10])) 2 (List.length (([] : List GSightPlace) ++ [e10])), rfl, Int.le_trans hi10 (Int.le_add_one (Int.le_refl _)), drop_next hi10 hp10, rfl, (show 8 ≤ nx10 + 22 by omega), ?_, ?_, e54, e55, e56, ?_, ?_, Or.inl ⟨nx10 + 17, (some 29), rfl, (by first | omega | (simp only [nm, seval]; omega)), (by first | omega | (intro hh; simp only [n19, reduceCtorEq] at hh)), (by first | omega | (intro hh; simp only [n19, reduceCtorEq] at hh)), ?_⟩, h⟩ <;> first | (simp only [ua, encM_nil, n19, H12, H13, d44, w45, e54, e55, e56, e57, e58, e59, d60, nm, seval] <;> rfl) | rfl⟩
end Go.V
end
section
namespace Go.V
open Go Go.Proofs
def g_ref02_Maybe_l0 (x0_s : GSightStreet) (x1_b : GSightBoard) : List GSightPlace → Int → Int → Option (LOut (Int) (Int))
 | [], c0_7, c0_6 => some (.go c0_6)
 | e0 :: p0, c0_7, c0_6 => Option.bind (g_ref02_Seen x0_s x1_b e0) (fun r2 => cond (r2 != 1) (g_ref02_Maybe_l0 x0_s x1_b p0 (c0_7 + 1) (IntKind.i64.wrap (c0_6 + 1))) (g_ref02_Maybe_l0 x0_s x1_b p0 (c0_7 + 1) c0_6))
def g_ref02_Maybe (x0_s : GSightStreet) (x1_b : GSightBoard) : Option (Int) := Option.bind (g_ref02_Places x0_s) (fun r1 => cond (lenOk r1) (lbind (g_ref02_Maybe_l0 x0_s x1_b r1 0 0) (fun r4 => some r4) (fun c3 => some c3) (fun _ _ => none)) none)
theorem g_ref02_Maybe_ok (x0_s : GSightStreet) (x1_b : GSightBoard) (R : Int) (h : g_ref02_Maybe x0_s x1_b = some R) : VPure Tryz.prog G0 39 [.agg (cGSightStreet x0_s), .agg (cGSightBoard x1_b)] (.tree (.lit (.int .i64 R))) := by
 refine VPure.runR mixed Tryz.call39 Tryz.func39 rfl (by simp [Tryz.ntmps39]; kernel_rfl) ?_
 obtain ⟨KF, h, kF, kN⟩ := fun_intro h
 simp only [g_ref02_Maybe] at h
 cases o6 : (g_ref02_Places x0_s) with
 | none =>
  simp only [o6, hs, reduceCtorEq] at h
  exact absurd h kN
 | some r5 =>
  simp only [o6, hs, reduceCtorEq] at h
  simp only [vz, mq, mqm, tyf, mqt, nm, seval]
  refine ktree (args0 := [.agg (cGSightStreet x0_s)]) (by first | (simp only [nrm, tynrm] <;> rfl) | rfl) (by simp only [tre, tytre, Bool.and_self]) (g_ref02_Places_ok _ _ o6) ?_
  refine fin_cut (fun tm => tm 2 = .ptr 0 0 ∧ tm 3 = .ptr 1 0 ∧ tm 9 = .sl (cellsL cGSightPlace r5) (List.length r5) false ∧ True) (by refine ⟨?_, ?_, ?_, trivial⟩ <;> first | (simp only [ua, encM_nil, nm, seval] <;> rfl) | rfl) ?_
  rintro tm ⟨e7, e8, e9, _⟩
  cases g11 : (lenOk r5)
  ·simp only [g11, hs, reduceCtorEq] at h
   exact absurd h kN
  simp only [g11, hs, reduceCtorEq] at h
  simp only [vz, mq, mqm, tyf, mqt, e7, e8, e9, g11, nm, seval]
  obtain ⟨K10, h, kR10, kG10, kB10, kN10⟩ := lbind_intro h kN
  obtain ⟨f10, hf10, h⟩ := call3 h
  obtain ⟨I10, hI10⟩ : ∃ I : Nat → St → Prop, I = (fun m st => ∃ (p10 : List GSightPlace) (c10_7 : Int) (c10_6 : Int), m = List.length p10 ∧ 0 ≤ c10_7 ∧ List.drop (Int.toNat c10_7) r5 = p10 ∧ st.df = [] ∧ 8 ≤ st.nx ∧ st.H 0 = some (.cells (some 27) (cGSightStreet x0_s)) ∧ st.H 1 = some (.cells (some 42) (cGSightBoard x1_b)) ∧ st.tm 2 = .ptr 0 0 ∧ st.tm 3 = .ptr 1 0 ∧ st.tm 5 = .sl (cellsL cGSightPlace r5) (List.length r5) false ∧ st.tm 6 = .lit (.int .i64 c10_6) ∧ st.tm 7 = .lit (.int .i64 c10_7) ∧ K10 (f10 p10 c10_7 c10_6)) := ⟨_, rfl⟩
  refine loopK mixed (by kernel_rfl) I10 (List.length r5) (by rw [hI10]; refine ⟨r5, 0, 0, rfl, Int.le_refl _, rfl, rfl, (show 8 ≤ 8 by omega), ?_, ?_, e7, e8, ?_, ?_, ?_, h⟩ <;> first | (simp only [ua, encM_nil, e7, e8, e9, nm, seval] <;> rfl) | rfl) ?_
  rintro m ⟨tm, H, nx10, df⟩ hinv
  rw [hI10] at hinv
  obtain ⟨p10, c10_7, c10_6, rfl, hi10, hp10, hdf, hn10, H12, H13, e14, e15, e16, e17, e18, h⟩ := hinv
  simp only at hdf hn10 H12 H13 e14 e15 e16 e17 e18
  have n19 := base_ne0 (m := 8) (b := nx10) (by omega)
  subst hdf hf10
  cases p10 with
  | nil =>
   have d20 : (decide (c10_7 < (List.length r5 : Int))) = false := not_lt_of_drop hi10 hp10
   simp only [g_ref02_Maybe_l0, hs, reduceCtorEq] at h
   replace h := kG10 _ h
   try dsimp only at h
   try simp only [hs] at h
   try simp only [vz, mq, mqm, tyf, mqt, g11, n19, e14, e15, e16, e17, e18, H12, H13, d20, nm, seval]
   refine opd_ret (x := (.lit (.int .i64 c10_6))) (by first | (simp only [Tryz.results39, resV, resL, resV1, tgt_ptr, tgt_tp, uw, cr, tyf, mqt, g11, n19, H12, H13, d20, nm, seval] <;> rfl) | rfl) ?_
   obtain rfl := kF _ h
   refine rr_tree ?_ ?_
   ·simp only [tre, tytre, Bool.and_self]
   ·first | (simp only [outV, uw, showV_ref, cr, tyf, mqt, nrm, tynrm, g11, n19, e14, e15, e16, e17, e18, H12, H13, d20, nm, seval] <;> rfl) | rfl
  | cons e10 p10 =>
   have d21 : (decide (c10_7 < (List.length r5 : Int))) = true := lt_of_drop hi10 hp10
   have o23 := getI_of_drop hi10 hp10
   have w22 := wrap_next hi10 hp10 g11
   simp only [g_ref02_Maybe_l0, hs, reduceCtorEq] at h
   simp only [vz, mq, mqm, tyf, mqt, g11, n19, e14, e15, e16, e17, e18, H12, H13, d21, (ix73 o23), w22, nm, seval]
   refine cwp_drwQF (fun tm => tm 2 = .ptr 0 0 ∧ tm 3 = .ptr 1 0 ∧ tm 5 = .sl (cellsL cGSightPlace r5) (List.length r5) false ∧ tm 6 = .lit (.int .i64 c10_6) ∧ tm 7 = .lit (.int .i64 c10_7) ∧ True) (by refine ⟨e14, e15, e16, e17, e18, trivial⟩ <;> first | (simp only [ua, encM_nil, n19, e14, e15, e16, e17, e18, H12, H13, d21, w22, nm, seval] <;> rfl) | rfl) ?_
   rintro tm ⟨e24, e25, e26, e27, e28, _⟩
   cases o30 : (g_ref02_Seen x0_s x1_b e10) with
   | none =>
    simp only [o30, hs, reduceCtorEq] at h
    exact absurd h kN10
   | some r29 =>
    simp only [o30, hs, reduceCtorEq] at h
    simp only [vz, mq, mqm, tyf, mqt, g11, n19, H12, H13, d21, (ix73 o23), w22, e24, e25, e26, e27, e28, nm, seval]
    refine dktree (args0 := [.agg (cGSightStreet x0_s), .agg (cGSightBoard x1_b), .agg (cGSightPlace e10)]) (by first | (simp only [nrm, tynrm] <;> rfl) | rfl) (by simp only [tre, tytre, Bool.and_self]) (g_ref02_Seen_ok _ _ _ _ o30) ?_
    refine fin_cut (fun tm => tm 2 = .ptr 0 0 ∧ tm 3 = .ptr 1 0 ∧ tm 5 = .sl (cellsL cGSightPlace r5) (List.length r5) false ∧ tm 6 = .lit (.int .i64 c10_6) ∧ tm 7 = .lit (.int .i64 c10_7) ∧ tm 22 = .lit (.int .i64 r29) ∧ True) (by refine ⟨e24, e25, e26, e27, e28, ?_, trivial⟩ <;> first | (simp only [ua, encM_nil, n19, H12, H13, d21, w22, e24, e25, e26, e27, e28, nm, seval] <;> rfl) | rfl) ?_
    rintro tm ⟨e31, e32, e33, e34, e35, e36, _⟩
    cases d37 : (r29 != 1)
    ·simp only [d37, hs, reduceCtorEq] at h
     simp only [vz, mq, mqm, tyf, mqt, g11, n19, H12, H13, d21, (ix73 o23), w22, e31, e32, e33, e34, e35, e36, d37, nm, seval]
     exact ⟨List.length p10, Nat.lt_succ_self _, by rw [hI10]; refine ⟨p10, c10_7 + 1, c10_6, rfl, Int.le_trans hi10 (Int.le_add_one (Int.le_refl _)), drop_next hi10 hp10, rfl, (show 8 ≤ nx10 + 15 by omega), ?_, ?_, e31, e32, e33, e34, ?_, h⟩ <;> first | (simp only [ua, encM_nil, n19, H12, H13, d21, w22, e31, e32, e33, e34, e35, e36, d37, nm, seval] <;> rfl) | rfl⟩
    simp only [d37, hs, reduceCtorEq] at h
    simp only [vz, mq, mqm, tyf, mqt, g11, n19, H12, H13, d21, (ix73 o23), w22, e31, e32, e33, e34, e35, e36, d37, nm, seval]
    exact ⟨List.length p10, Nat.lt_succ_self _, by rw [hI10]; refine ⟨p10, c10_7 + 1, IntKind.i64.wrap (c10_6 + 1), rfl, Int.le_trans hi10 (Int.le_add_one (Int.le_refl _)), drop_next hi10 hp10, rfl, (show 8 ≤ nx10 + 18 by omega), ?_, ?_, e31, e32, e33, ?_, ?_, h⟩ <;> first | (simp only [ua, encM_nil, n19, H12, H13, d21, w22, e31, e32, e33, e34, e35, e36, d37, nm, seval] <;> rfl) | rfl⟩
end Go.V
end
section
namespace Go.V
open Go Go.Proofs
def g_ref02_Farthest_l0 (x0_b : GSightBoard) : List GSightPlace → Int → Int → Int → Option (LOut (GSightPlace) (Int × Int))
 | [], c0_6, c0_o0, c0_o1 => some (.go (c0_o0, c0_o1))
 | e0 :: p0, c0_6, c0_o0, c0_o1 => Option.bind (g_ref02_Far x0_b.At e0) (fun r4 => Option.bind (g_ref02_Far x0_b.At (GSightPlace.mk c0_o0 c0_o1)) (fun r5 => cond (decide (r4 > r5)) (g_ref02_Farthest_l0 x0_b p0 (c0_6 + 1) e0.Along e0.Across) (g_ref02_Farthest_l0 x0_b p0 (c0_6 + 1) c0_o0 c0_o1)))
def g_ref02_Farthest (x0_b : GSightBoard) (x1_l : List GSightPlace) : Option (GSightPlace) := Option.bind (getI x1_l 0) (fun x1 => cond (lenOk x1_l) (lbind (g_ref02_Farthest_l0 x0_b x1_l 0 x1.Along x1.Across) (fun r7 => some r7) (fun c6 => some (GSightPlace.mk c6.1 c6.2)) (fun _ _ => none)) none)
theorem g_ref02_Farthest_ok (x0_b : GSightBoard) (x1_l : List GSightPlace) (R : GSightPlace) (h : g_ref02_Farthest x0_b x1_l = some R) : VPure Tryz.prog G0 40 [.agg (cGSightBoard x0_b), .sl (cellsL cGSightPlace x1_l) (List.length x1_l) false] (.tree (.agg (cGSightPlace R))) := by
 refine VPure.runR mixed Tryz.call40 Tryz.func40 rfl (by simp [Tryz.ntmps40]; kernel_rfl) ?_
 obtain ⟨KF, h, kF, kN⟩ := fun_intro h
 simp only [g_ref02_Farthest] at h
 cases o9 : (getI x1_l 0) with
 | none =>
  simp only [o9, hs, reduceCtorEq] at h
  exact absurd h kN
 | some x8 =>
  simp only [o9, hs, reduceCtorEq] at h
  cases g11 : (lenOk x1_l)
  ·simp only [g11, hs, reduceCtorEq] at h
   exact absurd h kN
  simp only [g11, hs, reduceCtorEq] at h
  simp only [vz, mq, mqm, tyf, mqt, (ix73 o9), g11, nm, seval]
  obtain ⟨K10, h, kR10, kG10, kB10, kN10⟩ := lbind_intro h kN
  obtain ⟨f10, hf10, h⟩ := call4 h
  obtain ⟨I10, hI10⟩ : ∃ I : Nat → St → Prop, I = (fun m st => ∃ (p10 : List GSightPlace) (c10_6 : Int) (c10_o0 : Int) (c10_o1 : Int), m = List.length p10 ∧ 0 ≤ c10_6 ∧ List.drop (Int.toNat c10_6) x1_l = p10 ∧ st.df = [] ∧ 8 ≤ st.nx ∧ st.H 0 = some (.cells (some 42) (cGSightBoard x0_b)) ∧ st.H 1 = some (.cells (some 29) ([.lit (.int .i64 0)] ++ [.lit (.int .i64 0)])) ∧ st.H 5 = some (.cells (some 29) ([.lit (.int .i64 c10_o0)] ++ [.lit (.int .i64 c10_o1)])) ∧ st.tm 1 = .sl (cellsL cGSightPlace x1_l) (List.length x1_l) false ∧ st.tm 2 = .ptr 0 0 ∧ st.tm 4 = .ptr 1 0 ∧ st.tm 5 = .ptr 5 0 ∧ st.tm 6 = .lit (.int .i64 c10_6) ∧ K10 (f10 p10 c10_6 c10_o0 c10_o1)) := ⟨_, rfl⟩
  refine loopK mixed (by kernel_rfl) I10 (List.length x1_l) (by rw [hI10]; refine ⟨x1_l, 0, x8.Along, x8.Across, rfl, Int.le_refl _, rfl, rfl, (show 8 ≤ 8 by omega), ?_, ?_, ?_, ?_, ?_, ?_, ?_, ?_, h⟩ <;> first | (simp only [ua, encM_nil, nm, seval] <;> rfl) | rfl) ?_
  rintro m ⟨tm, H, nx10, df⟩ hinv
  rw [hI10] at hinv
  obtain ⟨p10, c10_6, c10_o0, c10_o1, rfl, hi10, hp10, hdf, hn10, H12, H13, H14, e15, e16, e17, e18, e19, h⟩ := hinv
  simp only at hdf hn10 H12 H13 H14 e15 e16 e17 e18 e19
  have n20 := base_ne0 (m := 8) (b := nx10) (by omega)
  subst hdf hf10
  cases p10 with
  | nil =>
   have d21 : (decide (c10_6 < (List.length x1_l : Int))) = false := not_lt_of_drop hi10 hp10
   simp only [g_ref02_Farthest_l0, hs, reduceCtorEq] at h
   replace h := kG10 _ h
   try dsimp only at h
   try simp only [hs] at h
   try simp only [vz, mq, mqm, tyf, mqt, (ix73 o9), g11, n20, e15, e16, e17, e18, e19, H12, H13, H14, d21, nm, seval]
   refine opd_ret (x := (.agg ([.lit (.int .i64 c10_o0)] ++ [.lit (.int .i64 c10_o1)]))) (by first | (simp only [Tryz.results40, resV, resL, resV1, tgt_ptr, tgt_tp, uw, cr, tyf, mqt, (ix73 o9), g11, n20, e15, e16, e17, e18, e19, H12, H13, H14, d21, nm, seval] <;> rfl) | rfl) ?_
   obtain rfl := kF _ h
   refine rr_tree ?_ ?_
   ·simp only [tre, tytre, Bool.and_self]
   ·first | (simp only [outV, uw, showV_ref, cr, tyf, mqt, nrm, tynrm, (ix73 o9), g11, n20, e15, e16, e17, e18, e19, H12, H13, H14, d21, nm, seval] <;> rfl) | rfl
  | cons e10 p10 =>
   have d22 : (decide (c10_6 < (List.length x1_l : Int))) = true := lt_of_drop hi10 hp10
   have o24 := getI_of_drop hi10 hp10
   have w23 := wrap_next hi10 hp10 g11
   simp only [g_ref02_Farthest_l0, hs, reduceCtorEq] at h
   simp only [vz, mq, mqm, tyf, mqt, (ix73 o9), g11, n20, e15, e16, e17, e18, e19, H12, H13, H14, d22, (ix73 o24), w23, nm, seval]
   refine cwp_drwQF (fun tm => tm 1 = .sl (cellsL cGSightPlace x1_l) (List.length x1_l) false ∧ tm 2 = .ptr 0 0 ∧ tm 4 = .ptr 1 0 ∧ tm 5 = .ptr 5 0 ∧ tm 6 = .lit (.int .i64 c10_6) ∧ True) (by refine ⟨e15, e16, e17, e18, e19, trivial⟩ <;> first | (simp only [ua, encM_nil, n20, e15, e16, e17, e18, e19, H12, H13, H14, d22, w23, nm, seval] <;> rfl) | rfl) ?_
   rintro tm ⟨e25, e26, e27, e28, e29, _⟩
   cases o31 : (g_ref02_Far x0_b.At e10) with
   | none =>
    simp only [o31, hs, reduceCtorEq] at h
    exact absurd h kN10
   | some r30 =>
    simp only [o31, hs, reduceCtorEq] at h
    simp only [vz, mq, mqm, tyf, mqt, (ix73 o9), g11, n20, H12, H13, H14, d22, (ix73 o24), w23, e25, e26, e27, e28, e29, nm, seval]
    refine dktree (args0 := [.lit (.int .i64 x0_b.At), .agg (cGSightPlace e10)]) (by first | (simp only [nrm, tynrm] <;> rfl) | rfl) (by simp only [tre, tytre, Bool.and_self]) (g_ref02_Far_ok _ _ _ o31) ?_
    refine fin_cut (fun tm => tm 1 = .sl (cellsL cGSightPlace x1_l) (List.length x1_l) false ∧ tm 2 = .ptr 0 0 ∧ tm 4 = .ptr 1 0 ∧ tm 5 = .ptr 5 0 ∧ tm 6 = .lit (.int .i64 c10_6) ∧ tm 22 = .lit (.int .i64 r30) ∧ True) (by refine ⟨e25, e26, e27, e28, e29, ?_, trivial⟩ <;> first | (simp only [ua, encM_nil, n20, H12, H13, H14, d22, w23, e25, e26, e27, e28, e29, nm, seval] <;> rfl) | rfl) ?_
    rintro tm ⟨e32, e33, e34, e35, e36, e37, _⟩
    cases o39 : (g_ref02_Far x0_b.At (GSightPlace.mk c10_o0 c10_o1)) with
    | none =>
     simp only [o39, hs, reduceCtorEq] at h
     exact absurd h kN10
    | some r38 =>
     simp only [o39, hs, reduceCtorEq] at h
     simp only [vz, mq, mqm, tyf, mqt, (ix73 o9), g11, n20, H12, H13, H14, d22, (ix73 o24), w23, e32, e33, e34, e35, e36, e37, nm, seval]
     refine dktree (args0 := [.lit (.int .i64 x0_b.At), .agg (cGSightPlace (GSightPlace.mk c10_o0 c10_o1))]) (by first | (simp only [nrm, tynrm] <;> rfl) | rfl) (by simp only [tre, tytre, Bool.and_self]) (g_ref02_Far_ok _ _ _ o39) ?_
     refine fin_cut (fun tm => tm 1 = .sl (cellsL cGSightPlace x1_l) (List.length x1_l) false ∧ tm 2 = .ptr 0 0 ∧ tm 4 = .ptr 1 0 ∧ tm 5 = .ptr 5 0 ∧ tm 6 = .lit (.int .i64 c10_6) ∧ tm 22 = .lit (.int .i64 r30) ∧ tm 26 = .lit (.int .i64 r38) ∧ True) (by refine ⟨e32, e33, e34, e35, e36, e37, ?_, trivial⟩ <;> first | (simp only [ua, encM_nil, n20, H12, H13, H14, d22, w23, e32, e33, e34, e35, e36, e37, nm, seval] <;> rfl) | rfl) ?_
     rintro tm ⟨e40, e41, e42, e43, e44, e45, e46, _⟩
     cases d47 : (decide (r30 > r38))
     ·simp only [d47, hs, reduceCtorEq] at h
      simp only [vz, mq, mqm, tyf, mqt, (ix73 o9), g11, n20, H12, H13, H14, d22, (ix73 o24), w23, e40, e41, e42, e43, e44, e45, e46, d47, nm, seval]
      exact ⟨List.length p10, Nat.lt_succ_self _, by rw [hI10]; refine ⟨p10, c10_6 + 1, c10_o0, c10_o1, rfl, Int.le_trans hi10 (Int.le_add_one (Int.le_refl _)), drop_next hi10 hp10, rfl, (show 8 ≤ nx10 + 19 by omega), ?_, ?_, ?_, e40, e41, e42, e43, ?_, h⟩ <;> first | (simp only [ua, encM_nil, n20, H12, H13, H14, d22, w23, e40, e41, e42, e43, e44, e45, e46, d47, nm, seval] <;> rfl) | rfl⟩
     simp only [d47, hs, reduceCtorEq] at h
     simp only [vz, mq, mqm, tyf, mqt, (ix73 o9), g11, n20, H12, H13, H14, d22, (ix73 o24), w23, e40, e41, e42, e43, e44, e45, e46, d47, nm, seval]
     exact ⟨List.length p10, Nat.lt_succ_self _, by rw [hI10]; refine ⟨p10, c10_6 + 1, e10.Along, e10.Across, rfl, Int.le_trans hi10 (Int.le_add_one (Int.le_refl _)), drop_next hi10 hp10, rfl, (show 8 ≤ nx10 + 24 by omega), ?_, ?_, ?_, e40, e41, e42, e43, ?_, h⟩ <;> first | (simp only [ua, encM_nil, n20, H12, H13, H14, d22, w23, e40, e41, e42, e43, e44, e45, e46, d47, nm, seval] <;> rfl) | rfl⟩
end Go.V
end
section
namespace Go.V
open Go
def rowP (a : Int) : Nat → Int → List GSightPlace
 | 0, _ => []
 | k + 1, c => ⟨a, c + 1⟩ :: rowP a k (c + 1)
def gridP (w : Nat) : Nat → Int → List GSightPlace
 | 0, _ => []
 | k + 1, c => rowP c w 0 ++ gridP w k (c + 1)
theorem mem_rowP {a : Int} {p : GSightPlace} : ∀ (k : Nat) (c : Int), p ∈ rowP a k c → p.Along = a ∧ c + 1 ≤ p.Across ∧ p.Across ≤ c + k
 | 0, c, h => by cases h
 | k + 1, c, h => by
  rcases List.mem_cons.1 h with rfl | h
  ·exact ⟨rfl, by show c + 1 ≤ c + 1; omega, by show c + 1 ≤ c + ((k + 1 : Nat) : Int); omega⟩
  ·have := mem_rowP k (c + 1) h; exact ⟨this.1, by omega, by omega⟩
theorem mem_gridP {w : Nat} {p : GSightPlace} : ∀ (k : Nat) (c : Int), p ∈ gridP w k c → (c ≤ p.Along ∧ p.Along < c + k) ∧ 1 ≤ p.Across ∧ p.Across ≤ w
 | 0, c, h => by cases h
 | k + 1, c, h => by
  rcases List.mem_append.1 h with h | h
  ·have := mem_rowP _ _ h; exact ⟨⟨by omega, by omega⟩, by omega, by omega⟩
  ·have := mem_gridP k (c + 1) h; exact ⟨⟨by omega, by omega⟩, by omega, by omega⟩
theorem rowP_len {a : Int} : ∀ (k : Nat) (c : Int), (rowP a k c).length = k
 | 0, c => rfl
 | k + 1, c => by simp [rowP, rowP_len k]
theorem gridP_len {w : Nat} (hw : w ≤ 12) : ∀ (k : Nat) (c : Int), (gridP w k c).length ≤ k * 12
 | 0, c => Nat.le_refl _
 | k + 1, c => by simp only [gridP, List.length_append, rowP_len]; have := gridP_len hw k (c + 1); omega
def InvM (f : GSightPlace → Int) (l : List (GSightPlace × Int)) : Prop := ∀ e ∈ l, e.2 = f e.1
def HasK (l : List (GSightPlace × Int)) (k : GSightPlace) : Prop := ∃ e ∈ l, e.1 = k
theorem q29_self (k : GSightPlace) : q29 k k = true := by simp [q29]
theorem kIdx_no {k : GSightPlace} : ∀ (es : List GSightPlace) (i : Nat), kIdx q29 k es i = none → k ∉ es
 | [], i, h => by simp
 | e :: es, i, h => by
  unfold kIdx at h
  cases hq : q29 k e with
  | true => rw [hq] at h; cases h
  | false =>
   rw [hq] at h
   have := kIdx_no es (i + 1) h
   intro hm
   rcases List.mem_cons.1 hm with rfl | hm
   ·rw [q29_self] at hq; cases hq
   ·exact this hm
theorem kIdx_at {k : GSightPlace} {l : List (GSightPlace × Int)} {i : Nat} (h : kIdx q29 k (l.map (·.1)) 0 = some i) : ∃ v, l[i]? = some (k, v) := by
 obtain ⟨_, e, h1, h2⟩ := kIdx_some _ _ _ h
 rw [Nat.sub_zero, List.getElem?_map] at h1
 cases hl : l[i]? with
 | none => rw [hl] at h1; cases h1
 | some p =>
  rw [hl] at h1
  simp only [Option.map_some, Option.some.injEq] at h1
  have := hq29 _ _ h2
  exact ⟨p.2, by rw [this, ← h1]⟩
theorem get_of {f : GSightPlace → Int} {l : List (GSightPlace × Int)} {k : GSightPlace} (h : InvM f l) (hk : HasK l k) : mapGet q29 0 l k = f k := by
 unfold mapGet
 cases hi : kIdx q29 k (l.map (·.1)) 0 with
 | none =>
  obtain ⟨e, he, rfl⟩ := hk
  exact absurd (List.mem_map.2 ⟨e, he, rfl⟩) (kIdx_no _ _ hi)
 | some i =>
  obtain ⟨v, hv⟩ := kIdx_at hi
  simp only [hv]
  exact h _ (List.mem_of_getElem? hv)
theorem set_of {f : GSightPlace → Int} {l : List (GSightPlace × Int)} {k : GSightPlace} (h : InvM f l) : InvM f (mapSet q29 l k (f k)) ∧ HasK (mapSet q29 l k (f k)) k ∧ ∀ k', HasK l k' → HasK (mapSet q29 l k (f k)) k' := by
 unfold mapSet
 cases hi : kIdx q29 k (l.map (·.1)) 0 with
 | none =>
  refine ⟨fun e he => ?_, ⟨_, List.mem_append.2 (.inr (List.mem_singleton.2 rfl)), rfl⟩, fun k' ⟨e, he, hk⟩ => ⟨e, List.mem_append.2 (.inl he), hk⟩⟩
  rcases List.mem_append.1 he with he | he
  ·exact h e he
  ·rw [List.mem_singleton.1 he]
 | some i =>
  obtain ⟨v, hv⟩ := kIdx_at hi
  have hvf : v = f k := h _ (List.mem_of_getElem? hv)
  have hs : l.set i (k, f k) = l := by
   rw [← hvf]
   obtain ⟨hlt, he⟩ := List.getElem?_eq_some_iff.1 hv
   rw [← he, List.set_getElem_self]
  simp only [hs]
  exact ⟨h, ⟨_, List.mem_of_getElem? hv, rfl⟩, fun k' hk => hk⟩
theorem fold_of {f : GSightPlace → Int} : ∀ (L : List GSightPlace) (l : List (GSightPlace × Int)), InvM f l → InvM f (L.foldl (fun m p => mapSet q29 m p (f p)) l) ∧ (∀ p ∈ L, HasK (L.foldl (fun m p => mapSet q29 m p (f p)) l) p) ∧ ∀ k', HasK l k' → HasK (L.foldl (fun m p => mapSet q29 m p (f p)) l) k'
 | [], l, h => ⟨h, fun p hp => (by cases hp), fun k' hk => hk⟩
 | p :: L, l, h => by
  obtain ⟨h1, h2, h3⟩ := set_of (k := p) h
  obtain ⟨g1, g2, g3⟩ := fold_of L _ h1
  refine ⟨g1, fun x hx => ?_, fun k' hk => g3 k' (h3 k' hk)⟩
  rcases List.mem_cons.1 hx with rfl | hx
  ·exact g3 _ h2
  ·exact g2 x hx
theorem bnd_small {n : Int} (h : n ≤ 1000) : boundOk n = true := by unfold boundOk; exact decide_eq_true (by omega)
section
variable {s : GSightStreet} {b : GSightBoard}
theorem rf_l1 (a : Int) : ∀ (k : Nat) (c : Int) (m : List (GSightPlace × Int)), (∀ p ∈ rowP a k c, Good s b p) → g_sight_readFrom_l1 s b a k c m = some (.go ((rowP a k c).foldl (fun m p => mapSet q29 m p (seenI s b p)) m))
 | 0, c, m, h => rfl
 | k + 1, c, m, h => by
  simp only [g_sight_readFrom_l1, seen_eq s b _ (h _ (List.mem_cons_self ..)), Option.bind_some, rowP, List.foldl_cons]
  exact rf_l1 a k (c + 1) _ (fun p hp => h p (List.mem_cons_of_mem _ hp))
theorem rf_l0 (hw : s.Width ≤ 12) : ∀ (k : Nat) (c : Int) (m : List (GSightPlace × Int)), (∀ p ∈ gridP s.Width.toNat k c, Good s b p) → g_sight_readFrom_l0 s b k c m = some (.go ((gridP s.Width.toNat k c).foldl (fun m p => mapSet q29 m p (seenI s b p)) m))
 | 0, c, m, h => rfl
 | k + 1, c, m, h => by
  simp only [g_sight_readFrom_l0, bnd_small (show s.Width ≤ 1000 by omega), cond_true, Int.sub_zero]
  rw [rf_l1 c s.Width.toNat 0 m (fun p hp => h p (List.mem_append.2 (.inl hp))), lbind_go, rf_l0 hw k (c + 1) _ (fun p hp => h p (List.mem_append.2 (.inr hp))), gridP, List.foldl_append]
theorem ct_l1 (r : List (GSightPlace × Int)) (f : GSightPlace → Int) (a : Int) : ∀ (k : Nat) (c o : Int), (∀ p ∈ rowP a k c, mapGet q29 0 r p = f p) → 0 ≤ o → o + k ≤ 1000 → g_sight_Many_l1 r a k c o = some (.go (o + ((rowP a k c).filter (fun p => f p == 3)).length))
 | 0, c, o, h, h0, h1 => by simp [g_sight_Many_l1, rowP]
 | k + 1, c, o, h, h0, h1 => by
  have ih := fun o' => ct_l1 r f a k (c + 1) o' (fun p hp => h p (List.mem_cons_of_mem _ hp))
  simp only [g_sight_Many_l1, h _ (List.mem_cons_self ..), rowP, List.filter_cons]
  cases f ⟨a, c + 1⟩ == 3 with
  | true =>
   simp only [cond_true, if_true, List.length_cons]
   rw [wrap_eq (by omega) (by omega), ih (o + 1) (by omega) (by omega)]
   congr 2; omega
  | false =>
   simp only [cond_false, Bool.false_eq_true, if_false]
   rw [ih o h0 (by omega)]
theorem ct_l3 (r : List (GSightPlace × Int)) (f : GSightPlace → Int) (a : Int) : ∀ (k : Nat) (c o : Int), (∀ p ∈ rowP a k c, mapGet q29 0 r p = f p) → 0 ≤ o → o + k ≤ 1000 → g_sight_Many_l3 r a k c o = some (.go (o + ((rowP a k c).filter (fun p => decide (f p ≥ 2))).length))
 | 0, c, o, h, h0, h1 => by simp [g_sight_Many_l3, rowP]
 | k + 1, c, o, h, h0, h1 => by
  have ih := fun o' => ct_l3 r f a k (c + 1) o' (fun p hp => h p (List.mem_cons_of_mem _ hp))
  simp only [g_sight_Many_l3, h _ (List.mem_cons_self ..), rowP, List.filter_cons]
  cases decide (f ⟨a, c + 1⟩ ≥ 2) with
  | true =>
   simp only [cond_true, if_true, List.length_cons]
   rw [wrap_eq (by omega) (by omega), ih (o + 1) (by omega) (by omega)]
   congr 2; omega
  | false =>
   simp only [cond_false, Bool.false_eq_true, if_false]
   rw [ih o h0 (by omega)]
theorem ct_l0 (hw : s.Width ≤ 12) (hw0 : 0 ≤ s.Width) (r : List (GSightPlace × Int)) (f : GSightPlace → Int) : ∀ (k : Nat) (c o : Int), (∀ p ∈ gridP s.Width.toNat k c, mapGet q29 0 r p = f p) → 0 ≤ o → o + k * 12 ≤ 1000 → g_sight_Many_l0 s r k c o = some (.go (o + ((gridP s.Width.toNat k c).filter (fun p => f p == 3)).length))
 | 0, c, o, h, h0, h1 => by simp [g_sight_Many_l0, gridP]
 | k + 1, c, o, h, h0, h1 => by
  have hl := List.length_filter_le (fun p => f p == 3) (rowP c s.Width.toNat 0)
  rw [rowP_len] at hl
  simp only [g_sight_Many_l0, bnd_small (show s.Width ≤ 1000 by omega), cond_true, Int.sub_zero]
  rw [ct_l1 r f c s.Width.toNat 0 o (fun p hp => h p (List.mem_append.2 (.inl hp))) h0 (by omega), lbind_go, ct_l0 hw hw0 r f k (c + 1) (o + ((rowP c s.Width.toNat 0).filter (fun p => f p == 3)).length) (fun p hp => h p (List.mem_append.2 (.inr hp))) (by omega) (by omega), gridP, List.filter_append, List.length_append]
  congr 2; omega
theorem ct_l2 (hw : s.Width ≤ 12) (hw0 : 0 ≤ s.Width) (r : List (GSightPlace × Int)) (f : GSightPlace → Int) : ∀ (k : Nat) (c o : Int), (∀ p ∈ gridP s.Width.toNat k c, mapGet q29 0 r p = f p) → 0 ≤ o → o + k * 12 ≤ 1000 → g_sight_Many_l2 s r k c o = some (.go (o + ((gridP s.Width.toNat k c).filter (fun p => decide (f p ≥ 2))).length))
 | 0, c, o, h, h0, h1 => by simp [g_sight_Many_l2, gridP]
 | k + 1, c, o, h, h0, h1 => by
  have hl := List.length_filter_le (fun p => decide (f p ≥ 2)) (rowP c s.Width.toNat 0)
  rw [rowP_len] at hl
  simp only [g_sight_Many_l2, bnd_small (show s.Width ≤ 1000 by omega), cond_true, Int.sub_zero]
  rw [ct_l3 r f c s.Width.toNat 0 o (fun p hp => h p (List.mem_append.2 (.inl hp))) h0 (by omega), lbind_go, ct_l2 hw hw0 r f k (c + 1) (o + ((rowP c s.Width.toNat 0).filter (fun p => decide (f p ≥ 2))).length) (fun p hp => h p (List.mem_append.2 (.inr hp))) (by omega) (by omega), gridP, List.filter_append, List.length_append]
  congr 2; omega
theorem pl_l1 (a : Int) (hw : s.Width ≤ 12) : ∀ (k : Nat) (c : Int) (fuel : Nat) (acc : List GSightPlace), k < fuel → 0 ≤ c → c + k = s.Width → acc.length + k ≤ 1000 → g_ref02_Places_l1 s a fuel acc (c + 1) = some (.go (acc ++ rowP a k c, s.Width + 1))
 | k, c, 0, acc, h, h0, h1, h2 => by omega
 | 0, c, fuel + 1, acc, h, h0, h1, h2 => by
  simp only [g_ref02_Places_l1, decide_eq_false (show ¬ (c + 1 ≤ s.Width) by omega), cond_false, rowP, List.append_nil]
  rw [show c = s.Width by omega]
 | k + 1, c, fuel + 1, acc, h, h0, h1, h2 => by
  have hr : roomOk 16 (acc ++ [GSightPlace.mk a (c + 1)]).length = true := room_small _ (by simp; omega) (by omega)
  simp only [g_ref02_Places_l1, decide_eq_true (show c + 1 ≤ s.Width by omega), cond_true, hr]
  rw [wrap_eq (by omega) (by omega), pl_l1 a hw k (c + 1) fuel _ (by omega) (by omega) (by omega) (by simp; omega), rowP, List.append_assoc]
  rfl
theorem pl_l0 (hw : s.Width ≤ 12) (hw1 : 0 ≤ s.Width) (hl : s.Length ≤ 40) : ∀ (k : Nat) (c : Int) (fuel : Nat) (acc : List GSightPlace), k < fuel → 0 ≤ c → c + k = s.Length + 1 → acc.length + k * 12 ≤ 1000 → g_ref02_Places_l0 s fuel acc c = some (.go (acc ++ gridP s.Width.toNat k c, s.Length + 1))
 | k, c, 0, acc, h, h0, h1, h2 => by omega
 | 0, c, fuel + 1, acc, h, h0, h1, h2 => by
  simp only [g_ref02_Places_l0, decide_eq_false (show ¬ (c ≤ s.Length) by omega), cond_false, gridP, List.append_nil]
  rw [show c = s.Length + 1 by omega]
 | k + 1, c, fuel + 1, acc, h, h0, h1, h2 => by
  simp only [g_ref02_Places_l0, decide_eq_true (show c ≤ s.Length by omega), cond_true]
  have := pl_l1 (s := s) c hw s.Width.toNat 0 1000000 acc (by omega) (by omega) (by omega) (by omega)
  rw [Int.zero_add] at this
  rw [this, lbind_go]
  simp only []
  rw [wrap_eq (by omega) (by omega), pl_l0 hw hw1 hl k (c + 1) fuel _ (by omega) (by omega) (by omega) (by simp only [List.length_append, rowP_len]; omega), gridP, List.append_assoc]
def allP (s : GSightStreet) : List GSightPlace := gridP s.Width.toNat (s.Length + 1).toNat 0
theorem places_eq (hw : s.Width ≤ 12) (hw1 : 0 ≤ s.Width) (hl : s.Length ≤ 40) (hl0 : 0 ≤ s.Length) : g_ref02_Places s = some (allP s) := by
 simp only [g_ref02_Places]
 rw [pl_l0 hw hw1 hl (s.Length + 1).toNat 0 1000000 [] (by omega) (by omega) (by omega) (by simp; omega), lbind_go]
 rfl
theorem fr_l0 : ∀ (L : List GSightPlace) (c : Int) (acc : List GSightPlace), (∀ p ∈ L, Good s b p) → acc.length + L.length ≤ 1000 → g_ref02_From_l0 s b L c acc = some (.go (acc ++ L.filter (sureB s b)))
 | [], c, acc, h, h1 => by simp [g_ref02_From_l0]
 | p :: L, c, acc, h, h1 => by
  have ih := fun acc' => fr_l0 L (c + 1) acc' (fun p hp => h p (List.mem_cons_of_mem _ hp))
  simp only [List.length_cons] at h1
  have hr : roomOk 16 (acc ++ [p]).length = true := room_small _ (by simp; omega) (by omega)
  simp only [g_ref02_From_l0, refSurely_eq (fair_good (h p (List.mem_cons_self ..))), Option.bind_some, List.filter_cons, hr, cond_true]
  cases sureB s b p with
  | true => simp only [cond_true, if_true]; rw [ih _ (by simp; omega), List.append_assoc]; rfl
  | false => simp only [cond_false, Bool.false_eq_true, if_false]; rw [ih _ (by omega)]
theorem mb_l0 : ∀ (L : List GSightPlace) (c n : Int), (∀ p ∈ L, Good s b p) → 0 ≤ n → n + L.length ≤ 1000 → g_ref02_Maybe_l0 s b L c n = some (.go (n + (L.filter (fun p => seenI s b p != 1)).length))
 | [], c, n, h, h0, h1 => by simp [g_ref02_Maybe_l0]
 | p :: L, c, n, h, h0, h1 => by
  have ih := fun n' => mb_l0 L (c + 1) n' (fun p hp => h p (List.mem_cons_of_mem _ hp))
  simp only [List.length_cons] at h1
  simp only [g_ref02_Maybe_l0, refSeen_eq s b p (h p (List.mem_cons_self ..)), Option.bind_some, List.filter_cons]
  cases seenI s b p != 1 with
  | true =>
   simp only [cond_true, if_true, List.length_cons]
   rw [wrap_eq (by omega) (by omega), ih _ (by omega) (by omega)]
   congr 2; omega
  | false => simp only [cond_false, Bool.false_eq_true, if_false]; rw [ih _ h0 (by omega)]
def mxP (a : Int) (q p : GSightPlace) : GSightPlace := cond (decide (farI a p > farI a q)) p q
def stP (s : GSightStreet) (b : GSightBoard) (o : Option GSightPlace) (p : GSightPlace) : Option GSightPlace := cond (sureB s b p) (match o with | none => some p | some q => some (mxP b.At q p)) o
def encO : Option GSightPlace → Int × Int × Bool
 | none => (0, 0, false)
 | some p => (p.Along, p.Across, true)
theorem st_some : ∀ (L : List GSightPlace) (q : GSightPlace), L.foldl (stP s b) (some q) = some ((L.filter (sureB s b)).foldl (mxP b.At) q)
 | [], q => rfl
 | p :: L, q => by
  simp only [List.foldl_cons, List.filter_cons, stP]
  cases sureB s b p with
  | true => simp only [cond_true, if_true, List.foldl_cons]; exact st_some L _
  | false => simp only [cond_false, Bool.false_eq_true, if_false]; exact st_some L _
theorem st_none : ∀ (L : List GSightPlace), L.foldl (stP s b) none = match L.filter (sureB s b) with | [] => none | x :: t => some ((x :: t).foldl (mxP b.At) x)
 | [] => rfl
 | p :: L => by
  simp only [List.foldl_cons, List.filter_cons, stP]
  cases sureB s b p with
  | true =>
   simp only [cond_true, if_true, List.foldl_cons]
   rw [st_some]
   have : mxP b.At p p = p := by unfold mxP; rw [decide_eq_false (by omega)]; rfl
   rw [this]
  | false => simp only [cond_false, Bool.false_eq_true, if_false]; exact st_none L
theorem rfa_l0 : ∀ (L : List GSightPlace) (c : Int) (q : GSightPlace), (∀ p ∈ L, PG b.At p) → PG b.At q → g_ref02_Farthest_l0 b L c q.Along q.Across = some (.go ((L.foldl (mxP b.At) q).Along, (L.foldl (mxP b.At) q).Across))
 | [], c, q, h, hq => rfl
 | p :: L, c, q, h, hq => by
  have hp := h p (List.mem_cons_self ..)
  simp only [g_ref02_Farthest_l0, rfar_eq _ _ hp, rfar_eq b.At (GSightPlace.mk q.Along q.Across) hq, Option.bind_some, List.foldl_cons]
  have ih := fun q' => rfa_l0 L (c + 1) q' (fun p hp => h p (List.mem_cons_of_mem _ hp))
  show cond (decide (farI b.At p > farI b.At q)) _ _ = _
  unfold mxP
  cases decide (farI b.At p > farI b.At q) with
  | true => exact ih p hp
  | false => exact ih q hq
theorem sf_l1 (a : Int) : ∀ (k : Nat) (c : Int) (o : Option GSightPlace), (∀ p ∈ rowP a k c, Good s b p) → (∀ q, o = some q → Good s b q) →
  g_sight_Farthest_l1 s b a k c (encO o).1 (encO o).2.1 (encO o).2.2 = some (.go (encO ((rowP a k c).foldl (stP s b) o))) ∧ ∀ q, (rowP a k c).foldl (stP s b) o = some q → Good s b q
 | 0, c, o, h, ho => ⟨rfl, ho⟩
 | k + 1, c, o, h, ho => by
  have hg := h _ (List.mem_cons_self ..)
  have ih := fun o' ho' => sf_l1 a k (c + 1) o' (fun p hp => h p (List.mem_cons_of_mem _ hp)) ho'
  simp only [g_sight_Farthest_l1, surely_eq (fair_good hg), Option.bind_some, rowP, List.foldl_cons]
  cases hS : sureB s b ⟨a, c + 1⟩ with
  | false =>
   have e : stP s b o ⟨a, c + 1⟩ = o := by unfold stP; rw [hS]; rfl
   rw [e]
   exact ih o ho
  | true =>
   cases o with
   | none =>
    have e : stP s b none ⟨a, c + 1⟩ = some ⟨a, c + 1⟩ := by unfold stP; rw [hS]; rfl
    rw [e]
    exact ih (some ⟨a, c + 1⟩) (fun q hq => by cases hq; exact hg)
   | some q =>
    have e : stP s b (some q) ⟨a, c + 1⟩ = some (mxP b.At q ⟨a, c + 1⟩) := by unfold stP; rw [hS]; rfl
    have gq := ho q rfl
    obtain ⟨hp, w1, _⟩ := fair_good hg
    obtain ⟨hq, _⟩ := fair_good gq
    have f1 := far_eq ⟨s, ⟨a, c + 1⟩, b, s.Eye.Low * s.Light.Low⟩ hp
    have f2 := far_eq ⟨s, ⟨q.Along, q.Across⟩, b, s.Eye.Low * s.Light.Low⟩ hq
    rw [e]
    simp only [encO, cond_true, g_sight_atWorst, pw_wrap w1, Option.bind_some, f1, f2]
    unfold mxP
    cases hd : decide (farI b.At ⟨a, c + 1⟩ > farI b.At q) with
    | true =>
     have hd' : decide (farI b.At ⟨a, c + 1⟩ > farI b.At ⟨q.Along, q.Across⟩) = true := hd
     simp only [hd', cond_true]
     exact ih (some ⟨a, c + 1⟩) (fun q hq => by cases hq; exact hg)
    | false =>
     have hd' : decide (farI b.At ⟨a, c + 1⟩ > farI b.At ⟨q.Along, q.Across⟩) = false := hd
     simp only [hd', cond_false]
     exact ih (some q) ho
theorem sf_l0 (hw : s.Width ≤ 12) : ∀ (k : Nat) (c : Int) (o : Option GSightPlace), (∀ p ∈ gridP s.Width.toNat k c, Good s b p) → (∀ q, o = some q → Good s b q) →
  g_sight_Farthest_l0 s b k c (encO o).1 (encO o).2.1 (encO o).2.2 = some (.go (encO ((gridP s.Width.toNat k c).foldl (stP s b) o)))
 | 0, c, o, h, ho => rfl
 | k + 1, c, o, h, ho => by
  obtain ⟨h1, h2⟩ := sf_l1 c s.Width.toNat 0 o (fun p hp => h p (List.mem_append.2 (.inl hp))) ho
  simp only [g_sight_Farthest_l0, bnd_small (show s.Width ≤ 1000 by omega), cond_true, Int.sub_zero]
  rw [h1, lbind_go]
  rw [sf_l0 hw k (c + 1) _ (fun p hp => h p (List.mem_append.2 (.inr hp))) h2, gridP, List.foldl_append]
theorem all_good {n : Int} (h1 : streetB s = true) (h2 : numB s n = true) : ∃ b, getI s.Boards n = some b ∧ (1 ≤ s.Length ∧ s.Length ≤ 40) ∧ (1 ≤ s.Width ∧ s.Width ≤ 12) ∧ ∀ p ∈ allP s, Good s b p := by
 have hs := h1
 simp only [streetB, Bool.and_eq_true, inB_iff] at hs
 obtain ⟨hl, hw, _⟩ := hs
 have h3 : placeB s ⟨0, 1⟩ = true := by simp only [placeB, Bool.and_eq_true, inB_iff]; omega
 obtain ⟨b, b1, _, _⟩ := good_of h1 h2 h3
 refine ⟨b, b1, hl, hw, fun p hp => ?_⟩
 have := mem_gridP _ _ hp
 have h4 : placeB s p = true := by simp only [placeB, Bool.and_eq_true, inB_iff]; omega
 obtain ⟨b', b2, _, b3⟩ := good_of h1 h2 h4
 rw [b1] at b2
 cases b2
 exact b3
theorem readFrom_eq (hl : 1 ≤ s.Length ∧ s.Length ≤ 40) (hw : 1 ≤ s.Width ∧ s.Width ≤ 12) (h : ∀ p ∈ allP s, Good s b p) : ∃ r, g_sight_readFrom s b = some r ∧ ∀ p ∈ allP s, mapGet q29 0 r p = seenI s b p := by
 have hf := fold_of (f := seenI s b) (allP s) [] (fun e he => by cases he)
 refine ⟨_, ?_, fun p hp => get_of hf.1 (hf.2.1 p hp)⟩
 simp only [g_sight_readFrom, wrap_eq (show -9223372036854775808 ≤ s.Length + 1 by omega) (by omega), bnd_small (show s.Length + 1 ≤ 1000 by omega), cond_true, Int.sub_zero]
 rw [rf_l0 hw.2 _ _ _ h, lbind_go]
 rfl
theorem Many_eq {n : Int} (h : FineS s) (h1 : streetB s = true) (h2 : numB s n = true) (hb : getI s.Boards n = some b) (hl : 1 ≤ s.Length ∧ s.Length ≤ 40) (hw : 1 ≤ s.Width ∧ s.Width ≤ 12) (hg : ∀ p ∈ allP s, Good s b p) :
  g_sight_Many s n = some ((((allP s).filter (fun p => seenI s b p == 3)).length : Int), (((allP s).filter (fun p => decide (seenI s b p ≥ 2))).length : Int), 0) := by
 obtain ⟨r, hr, hm⟩ := readFrom_eq hl hw hg
 have h2' := h2
 simp only [numB] at h2'
 simp only [g_sight_Many, isStreet_eq s h, isBoard_eq, h1, h2', Option.bind_some, cond_true, hb, hr, wrap_eq (show -9223372036854775808 ≤ s.Length + 1 by omega) (by omega), bnd_small (show s.Length + 1 ≤ 1000 by omega), Int.sub_zero]
 rw [ct_l0 hw.2 (by omega) r (seenI s b) _ _ _ hm (Int.le_refl 0) (by omega), lbind_go, ct_l2 hw.2 (by omega) r (seenI s b) _ _ _ hm (Int.le_refl 0) (by omega), lbind_go, Int.zero_add, Int.zero_add]
 rfl
theorem Farthest_eq {n : Int} (h : FineS s) (h1 : streetB s = true) (h2 : numB s n = true) (hb : getI s.Boards n = some b) (hl : 1 ≤ s.Length ∧ s.Length ≤ 40) (hw : 1 ≤ s.Width ∧ s.Width ≤ 12) (hg : ∀ p ∈ allP s, Good s b p) :
  g_sight_Farthest s n = some (match (allP s).filter (sureB s b) with | [] => (⟨0, 0⟩, 5) | x :: t => ((x :: t).foldl (mxP b.At) x, 0)) := by
 have h2' := h2
 simp only [numB] at h2'
 have hf := sf_l0 hw.2 (s.Length + 1).toNat 0 none hg (fun q hq => by cases hq)
 simp only [encO] at hf
 simp only [g_sight_Farthest, isStreet_eq s h, isBoard_eq, h1, h2', Option.bind_some, cond_true, hb, wrap_eq (show -9223372036854775808 ≤ s.Length + 1 by omega) (by omega), bnd_small (show s.Length + 1 ≤ 1000 by omega), Int.sub_zero]
 rw [hf, lbind_go]
 have e := st_none (s := s) (b := b) (allP s)
 unfold allP at e
 rw [e]
 unfold allP
 cases List.filter (sureB s b) (gridP s.Width.toNat (s.Length + 1).toNat 0) with
 | nil => rfl
 | cons x t => rfl
theorem From_eq (hl : 1 ≤ s.Length ∧ s.Length ≤ 40) (hw : 1 ≤ s.Width ∧ s.Width ≤ 12) (hg : ∀ p ∈ allP s, Good s b p) : g_ref02_From s b = some ((allP s).filter (sureB s b)) ∧ g_ref02_Maybe s b = some (((allP s).filter (fun p => seenI s b p != 1)).length : Int) := by
 have hn : (allP s).length ≤ 500 := by have := gridP_len (show s.Width.toNat ≤ 12 by omega) (s.Length + 1).toNat 0; unfold allP; omega
 simp only [g_ref02_From, g_ref02_Maybe, places_eq hw.2 (by omega) hl.2 (by omega), Option.bind_some, lenOk_of (show (allP s).length < 9223372036854775808 by omega), cond_true]
 rw [fr_l0 _ _ _ hg (by simp; omega), lbind_go, mb_l0 _ _ _ hg (Int.le_refl 0) (by omega), lbind_go, Int.zero_add]
 exact ⟨rfl, rfl⟩
theorem refFar_eq {x : GSightPlace} {t : List GSightPlace} (hn : (x :: t).length ≤ 1000) (hg : ∀ p ∈ x :: t, PG b.At p) : g_ref02_Farthest b (x :: t) = some ((x :: t).foldl (mxP b.At) x) := by
 have h0 : getI (x :: t) 0 = some x := rfl
 simp only [g_ref02_Farthest, h0, Option.bind_some, lenOk_of (show (x :: t).length < 9223372036854775808 by omega), cond_true]
 rw [rfa_l0 (x :: t) 0 x hg (hg x (List.mem_cons_self ..)), lbind_go]
theorem seen3 (p : GSightPlace) : (seenI s b p == 3) = sureB s b p := by
 unfold seenI
 cases sureB s b p <;> cases mayB s b p <;> rfl
theorem seen2 (p : GSightPlace) : decide (seenI s b p ≥ 2) = (seenI s b p != 1) := by
 unfold seenI
 cases sureB s b p <;> cases mayB s b p <;> rfl
end
end Go.V
end
section
namespace Go.V
open Go Go.Proofs
theorem hmix : Tryz.prog.follows .mixedOrders = true := by kernel_rfl
def kS : VV := (Go.V.VV.agg [(Go.V.VV.lit (Go.Value.int Go.IntKind.i64 (Int.ofNat 20))), (Go.V.VV.lit (Go.Value.int Go.IntKind.i64 (Int.ofNat 6))), (Go.V.VV.lit (Go.Value.int Go.IntKind.i64 (Int.ofNat 4))), (Go.V.VV.lit (Go.Value.int Go.IntKind.i64 (Int.ofNat 6))), (Go.V.VV.lit (Go.Value.int Go.IntKind.i64 (Int.ofNat 50))), (Go.V.VV.lit (Go.Value.int Go.IntKind.i64 (Int.ofNat 100))), (Go.V.VV.sl [(Go.V.VV.lit (Go.Value.int Go.IntKind.i64 (Int.ofNat 10))), (Go.V.VV.sl [(Go.V.VV.lit (Go.Value.int Go.IntKind.i64 (Int.ofNat 6))), (Go.V.VV.lit (Go.Value.int Go.IntKind.i64 (Int.ofNat 4))), (Go.V.VV.lit (Go.Value.int Go.IntKind.i64 (Int.ofNat 1))), (Go.V.VV.lit (Go.Value.int Go.IntKind.i64 (Int.ofNat 1))), (Go.V.VV.lit (Go.Value.int Go.IntKind.i64 (Int.ofNat 8))), (Go.V.VV.lit (Go.Value.int Go.IntKind.i64 (Int.ofNat 5))), (Go.V.VV.lit (Go.Value.int Go.IntKind.i64 (Int.ofNat 2))), (Go.V.VV.lit (Go.Value.int Go.IntKind.i64 (Int.ofNat 0)))] 2 Bool.false), (Go.V.VV.lit (Go.Value.int Go.IntKind.i64 (Int.ofNat 0))), (Go.V.VV.sl [(Go.V.VV.lit (Go.Value.int Go.IntKind.i64 (Int.ofNat 10))), (Go.V.VV.lit (Go.Value.int Go.IntKind.i64 (Int.ofNat 10))), (Go.V.VV.lit (Go.Value.int Go.IntKind.i64 (Int.ofNat 2))), (Go.V.VV.lit (Go.Value.int Go.IntKind.i64 (Int.ofNat 0)))] 1 Bool.false)] 2 Bool.false), (Go.V.VV.sl [(Go.V.VV.lit (Go.Value.int Go.IntKind.i64 (Int.ofNat 12))), (Go.V.VV.lit (Go.Value.int Go.IntKind.i64 (Int.ofNat 13))), (Go.V.VV.lit (Go.Value.int Go.IntKind.i64 (Int.ofNat 2))), (Go.V.VV.lit (Go.Value.int Go.IntKind.i64 (Int.ofNat 3))), (Go.V.VV.lit (Go.Value.bool Bool.true)), (Go.V.VV.lit (Go.Value.int Go.IntKind.i64 (Int.ofNat 5))), (Go.V.VV.lit (Go.Value.int Go.IntKind.i64 (Int.ofNat 6))), (Go.V.VV.lit (Go.Value.int Go.IntKind.i64 (Int.ofNat 4))), (Go.V.VV.lit (Go.Value.int Go.IntKind.i64 (Int.ofNat 5))), (Go.V.VV.lit (Go.Value.bool Bool.false))] 2 Bool.false)])
def kT : VV := (Go.V.VV.agg [(Go.V.VV.lit (Go.Value.int Go.IntKind.i64 (Int.ofNat 4))), (Go.V.VV.lit (Go.Value.int Go.IntKind.i64 (Int.ofNat 2))), (Go.V.VV.lit (Go.Value.int Go.IntKind.i64 (Int.ofNat 1))), (Go.V.VV.lit (Go.Value.int Go.IntKind.i64 (Int.ofNat 1))), (Go.V.VV.lit (Go.Value.int Go.IntKind.i64 (Int.ofNat 100))), (Go.V.VV.lit (Go.Value.int Go.IntKind.i64 (Int.ofNat 100))), (Go.V.VV.sl [(Go.V.VV.lit (Go.Value.int Go.IntKind.i64 (Int.ofNat 0))), (Go.V.VV.sl [(Go.V.VV.lit (Go.Value.int Go.IntKind.i64 (Int.ofNat 3))), (Go.V.VV.lit (Go.Value.int Go.IntKind.i64 (Int.ofNat 2))), (Go.V.VV.lit (Go.Value.int Go.IntKind.i64 (Int.ofNat 1))), (Go.V.VV.lit (Go.Value.int Go.IntKind.i64 (Int.ofNat 0)))] 1 Bool.false)] 1 Bool.false), (Go.V.VV.lit (Go.Value.slice Option.none 0 0))])
def kAt46 : VV := (Go.V.VV.agg [(Go.V.VV.lit (Go.Value.int Go.IntKind.i64 (Int.ofNat 4))), (Go.V.VV.lit (Go.Value.int Go.IntKind.i64 (Int.ofNat 6)))])
def kAt41 : VV := (Go.V.VV.agg [(Go.V.VV.lit (Go.Value.int Go.IntKind.i64 (Int.ofNat 4))), (Go.V.VV.lit (Go.Value.int Go.IntKind.i64 (Int.ofNat 1)))])
def kAt201 : VV := (Go.V.VV.agg [(Go.V.VV.lit (Go.Value.int Go.IntKind.i64 (Int.ofNat 20))), (Go.V.VV.lit (Go.Value.int Go.IntKind.i64 (Int.ofNat 1)))])
def kAt166 : VV := (Go.V.VV.agg [(Go.V.VV.lit (Go.Value.int Go.IntKind.i64 (Int.ofNat 16))), (Go.V.VV.lit (Go.Value.int Go.IntKind.i64 (Int.ofNat 6)))])
def kAt106 : VV := (Go.V.VV.agg [(Go.V.VV.lit (Go.Value.int Go.IntKind.i64 (Int.ofNat 10))), (Go.V.VV.lit (Go.Value.int Go.IntKind.i64 (Int.ofNat 6)))])
def kSeen : VV := (Go.V.VV.tup [(Go.V.VV.lit (Go.Value.int Go.IntKind.i64 (Int.ofNat 2))), (Go.V.VV.lit (Go.Value.int Go.IntKind.i64 (Int.ofNat 0)))])
def kWhy : VV := (Go.V.VV.tup [(Go.V.VV.agg [(Go.V.VV.lit (Go.Value.int Go.IntKind.i64 (Int.ofNat 3))), (Go.V.VV.lit (Go.Value.int Go.IntKind.i64 (Int.ofNat 0)))]), (Go.V.VV.lit (Go.Value.int Go.IntKind.i64 (Int.ofNat 0)))])
def kLetters : VV := (Go.V.VV.tup [(Go.V.VV.sl [(Go.V.VV.lit (Go.Value.int Go.IntKind.i64 (Int.ofNat 2))), (Go.V.VV.lit (Go.Value.int Go.IntKind.i64 (Int.ofNat 2)))] 2 Bool.false), (Go.V.VV.lit (Go.Value.int Go.IntKind.i64 (Int.ofNat 0)))])
def kMelts : VV := (Go.V.VV.tup [(Go.V.VV.sl [(Go.V.VV.lit (Go.Value.int Go.IntKind.i64 (Int.ofNat 3)))] 1 Bool.false), (Go.V.VV.lit (Go.Value.int Go.IntKind.i64 (Int.ofNat 0)))])
def kHidden : VV := (Go.V.VV.tup [(Go.V.VV.sl [(Go.V.VV.lit (Go.Value.int Go.IntKind.i64 (Int.ofNat 0)))] 1 Bool.false), (Go.V.VV.lit (Go.Value.int Go.IntKind.i64 (Int.ofNat 0)))])
def kMany : VV := (Go.V.VV.tup [(Go.V.VV.lit (Go.Value.int Go.IntKind.i64 (Int.ofNat 3))), (Go.V.VV.lit (Go.Value.int Go.IntKind.i64 (Int.ofNat 3))), (Go.V.VV.lit (Go.Value.int Go.IntKind.i64 (Int.ofNat 0)))])
def kFarthest : VV := (Go.V.VV.tup [(Go.V.VV.agg [(Go.V.VV.lit (Go.Value.int Go.IntKind.i64 (Int.ofNat 0))), (Go.V.VV.lit (Go.Value.int Go.IntKind.i64 (Int.ofNat 2)))]), (Go.V.VV.lit (Go.Value.int Go.IntKind.i64 (Int.ofNat 0)))])
def kLeast : VV := (Go.V.VV.tup [(Go.V.VV.lit (Go.Value.int Go.IntKind.i64 (Int.ofNat 5))), (Go.V.VV.lit (Go.Value.int Go.IntKind.i64 (Int.ofNat 0)))])
def kLight : VV := (Go.V.VV.tup [(Go.V.VV.lit (Go.Value.int Go.IntKind.i64 (Int.ofNat 38))), (Go.V.VV.lit (Go.Value.int Go.IntKind.i64 (Int.ofNat 0)))])
def kHang : VV := (Go.V.VV.tup [(Go.V.VV.lit (Go.Value.int Go.IntKind.i64 (Int.ofNat 1))), (Go.V.VV.lit (Go.Value.int Go.IntKind.i64 (Int.ofNat 4))), (Go.V.VV.lit (Go.Value.int Go.IntKind.i64 (Int.ofNat 0)))])
def kRead : VV := (Go.V.VV.tup [(Go.V.VV.agg [(Go.V.VV.lit (Go.Value.int Go.IntKind.i64 (Int.ofNat 1))), (Go.V.VV.lit (Go.Value.int Go.IntKind.i64 (Int.ofNat 1))), (Go.V.VV.lit (Go.Value.int Go.IntKind.i64 (Int.ofNat 1))), (Go.V.VV.lit (Go.Value.int Go.IntKind.i64 (Int.ofNat 1))), (Go.V.VV.lit (Go.Value.int Go.IntKind.i64 (Int.ofNat 1))), (Go.V.VV.lit (Go.Value.int Go.IntKind.i64 (Int.ofNat 1))), (Go.V.VV.sl [(Go.V.VV.lit (Go.Value.int Go.IntKind.i64 (Int.ofNat 0))), (Go.V.VV.sl [(Go.V.VV.lit (Go.Value.int Go.IntKind.i64 (Int.ofNat 1))), (Go.V.VV.lit (Go.Value.int Go.IntKind.i64 (Int.ofNat 1))), (Go.V.VV.lit (Go.Value.int Go.IntKind.i64 (Int.ofNat 1))), (Go.V.VV.lit (Go.Value.int Go.IntKind.i64 (Int.ofNat 0)))] 1 Bool.false)] 1 Bool.false), (Go.V.VV.lit (Go.Value.slice Option.none 0 0))]), (Go.V.VV.lit (Go.Value.int Go.IntKind.i64 (Int.ofNat 0)))])
end Go.V
end
