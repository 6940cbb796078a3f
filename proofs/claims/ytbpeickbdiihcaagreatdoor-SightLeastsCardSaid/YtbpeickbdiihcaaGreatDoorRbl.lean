/- Part of a proof: a logic of values by content, lifted functions, what follows. -/
import Derived.Test.YtbpeickbdiihcaaGreatDoorRbc
import Derived.Test.YtbpeickbdiihcaaGreatDoorRbf
import Derived.Test.YtbpeickbdiihcaaGreatDoorRbj
import Derived.Test.YtbpeickbdiihcaaGreatDoorRbk
import Derived.Test.YtbpeickbdiihcaaGreatDoorRay
import Derived.Test.YtbpeickbdiihcaaGreatDoorProg
set_option linter.all false
set_option maxRecDepth 4000
set_option maxHeartbeats 4000000
section
namespace Go.V
open Go Go.Proofs
def g_ref02_Times_l0 (x1_n : Int) : List GSightLetter → Int → (List GSightLetter) → Option (LOut (GSightBoard) ((List GSightLetter)))
 | [], c0_6, c0_o0 => some (.go c0_o0)
 | e0 :: p0, c0_6, c0_o0 => cond (roomOk 32 (List.length (c0_o0 ++ [(GSightLetter.mk (IntKind.i64.wrap (e0.Height * x1_n)) (IntKind.i64.wrap (e0.Width * x1_n)) (IntKind.i64.wrap (e0.Stroke * x1_n)) (IntKind.i64.wrap (e0.Space * x1_n)))]))) (g_ref02_Times_l0 x1_n p0 (c0_6 + 1) (c0_o0 ++ [(GSightLetter.mk (IntKind.i64.wrap (e0.Height * x1_n)) (IntKind.i64.wrap (e0.Width * x1_n)) (IntKind.i64.wrap (e0.Stroke * x1_n)) (IntKind.i64.wrap (e0.Space * x1_n)))])) none
def g_ref02_Times (x0_b : GSightBoard) (x1_n : Int) : Option (GSightBoard) := cond (lenOk x0_b.Letters) (lbind (g_ref02_Times_l0 x1_n x0_b.Letters 0 ([] : List GSightLetter)) (fun r2 => some r2) (fun c1 => some (GSightBoard.mk x0_b.At c1)) (fun _ _ => none)) none
theorem g_ref02_Times_ok (x0_b : GSightBoard) (x1_n : Int) (R : GSightBoard) (h : g_ref02_Times x0_b x1_n = some R) : VPure Tryz.prog G0 45 [.agg (cGSightBoard x0_b), .lit (.int .i64 x1_n)] (.tree (.agg (cGSightBoard R))) := by
 refine VPure.runR mixed Tryz.call45 Tryz.func45 rfl (by simp [Tryz.ntmps45]; kernel_rfl) ?_
 obtain ⟨KF, h, kF, kN⟩ := fun_intro h
 simp only [g_ref02_Times] at h
 cases g4 : (lenOk x0_b.Letters)
 ·simp only [g4, hs, reduceCtorEq] at h
  exact absurd h kN
 simp only [g4, hs, reduceCtorEq] at h
 simp only [vz, tyf, g4, nm, seval]
 obtain ⟨K3, h, kR3, kG3, kB3, kN3⟩ := lbind_intro h kN
 obtain ⟨f3, hf3, h⟩ := call3 h
 obtain ⟨I3, hI3⟩ : ∃ I : Nat → St → Prop, I = (fun m st => ∃ (p3 : List GSightLetter) (c3_6 : Int) (c3_o0 : List GSightLetter) (y3_0 : VV), m = List.length p3 ∧ 0 ≤ c3_6 ∧ List.drop (Int.toNat c3_6) x0_b.Letters = p3 ∧ st.df = [] ∧ 8 ≤ st.nx ∧ st.H 0 = some (.cells (some 42) (cGSightBoard x0_b)) ∧ st.H 1 = some (.cells (some 42) ([.lit (.int .i64 0)] ++ [.lit (.slice none 0 0)])) ∧ st.H 5 = some (.cells (some 42) ([.lit (.int .i64 x0_b.At)] ++ [y3_0])) ∧ st.tm 1 = .lit (.int .i64 x1_n) ∧ st.tm 2 = .ptr 0 0 ∧ st.tm 4 = .ptr 1 0 ∧ st.tm 5 = .ptr 5 0 ∧ st.tm 6 = .lit (.int .i64 c3_6) ∧ ((∃ (β : Nat) (el : Option TypeId), y3_0 = .ref β 0 (List.length c3_o0) 4 (List.length c3_o0) ∧ β < st.nx ∧ β ≠ 0 ∧ β ≠ 1 ∧ β ≠ 5 ∧ st.H β = some (.cells el (cellsL cGSightLetter c3_o0))) ∨ (y3_0 = .lit (.slice none 0 0) ∧ c3_o0 = [])) ∧ K3 (f3 p3 c3_6 c3_o0)) := ⟨_, rfl⟩
 refine loopK mixed (by kernel_rfl) I3 (List.length x0_b.Letters) (by rw [hI3]; refine ⟨x0_b.Letters, 0, ([] : List GSightLetter), .lit (.slice none 0 0), rfl, Int.le_refl _, rfl, rfl, (show 8 ≤ 8 by omega), ?_, ?_, ?_, ?_, ?_, ?_, ?_, ?_, Or.inr ⟨rfl, rfl⟩, h⟩ <;> first | (simp only [ua, nm, seval] <;> rfl) | rfl) ?_
 rintro m ⟨tm, H, nx3, df⟩ hinv
 rw [hI3] at hinv
 obtain ⟨p3, c3_6, c3_o0, y3_0, rfl, hi3, hp3, hdf, hn3, H5, H6, H7, e8, e9, e10, e11, e12, ow3_0, h⟩ := hinv
 simp only at hdf hn3 H5 H6 H7 e8 e9 e10 e11 e12 ow3_0
 have n13 := base_ne0 (m := 8) (b := nx3) (by omega)
 subst hdf hf3
 rcases ow3_0 with ⟨b3_0, el3_0, rfl, lq15, lq16, lq17, lq18, H14⟩ | ⟨rfl, rfl⟩
 ·have q15 := own_lt lq15
  have q16 := ne_f lq16
  have q17 := ne_f lq17
  have q18 := ne_f lq18
  cases p3 with
  | nil =>
   have d19 : (decide (c3_6 < (List.length x0_b.Letters : Int))) = false := not_lt_of_drop hi3 hp3
   simp only [g_ref02_Times_l0, hs, reduceCtorEq] at h
   replace h := kG3 _ h
   try dsimp only at h
   try simp only [hs] at h
   simp only [vz, tyf, g4, n13, e8, e9, e10, e11, e12, H5, H6, H7, q15, H14, q16, q17, q18, d19, nm, seval]
   refine opd_ret (x := (.agg ([.lit (.int .i64 x0_b.At)] ++ [.ref b3_0 0 (List.length c3_o0) 4 (List.length c3_o0)]))) (by first | (simp only [Tryz.results45, resV, resL, resV1, tgt_ptr, tgt_tp, uw, cr, tyf, g4, n13, e8, e9, e10, e11, e12, H5, H6, H7, q15, H14, q16, q17, q18, d19, nm, seval] <;> rfl) | rfl) ?_
   obtain rfl := kF _ h
   refine rr_tree ?_ ?_
   ·simp only [tre, tytre, Bool.and_self]
   ·first | (simp only [outV, uw, showV_ref, cr, tyf, nrm, tynrm, g4, n13, e8, e9, e10, e11, e12, H5, H6, H7, q15, H14, q16, q17, q18, d19, nm, seval] <;> rfl) | rfl
  | cons e3 p3 =>
   have d20 : (decide (c3_6 < (List.length x0_b.Letters : Int))) = true := lt_of_drop hi3 hp3
   have o22 := getI_of_drop hi3 hp3
   have w21 := wrap_next hi3 hp3 g4
   simp only [g_ref02_Times_l0, hs, reduceCtorEq] at h
   cases g23 : (roomOk 32 (List.length (c3_o0 ++ [(GSightLetter.mk (IntKind.i64.wrap (e3.Height * x1_n)) (IntKind.i64.wrap (e3.Width * x1_n)) (IntKind.i64.wrap (e3.Stroke * x1_n)) (IntKind.i64.wrap (e3.Space * x1_n)))])))
   ·simp only [g23, hs, reduceCtorEq] at h
    exact absurd h kN3
   simp only [g23, hs, reduceCtorEq] at h
   simp only [vz, tyf, g4, n13, e8, e9, e10, e11, e12, H5, H6, H7, q15, H14, q16, q17, q18, d20, (ix40 o22), w21, g23, nm, seval]
   refine k_app (w := 4) (enc := cGSightLetter) (xs := c3_o0) (ys := ([(GSightLetter.mk (IntKind.i64.wrap (e3.Height * x1_n)) (IntKind.i64.wrap (e3.Width * x1_n)) (IntKind.i64.wrap (e3.Stroke * x1_n)) (IntKind.i64.wrap (e3.Space * x1_n)))])) (el := el3_0) (el2 := (some 61)) (fun _ => rfl) lf40 ao40 Tryz.underlying40 (by first | rfl | assumption | (simp only [updH_apply, without_apply, et40, n13, H5, H6, H7, q15, H14, q16, q17, q18, nm, seval] <;> rfl) | (simp only [updH_apply, without_apply, cellsL_cons, cellsL_nil, mV_app, mV_app0, tyf, g4, n13, e8, e9, e10, e11, e12, H5, H6, H7, q15, H14, q16, q17, q18, d20, (ix40 o22), w21, g23, nm, seval]; done)) (by first | rfl | assumption | (simp only [updH_apply, without_apply, et40, n13, H5, H6, H7, q15, H14, q16, q17, q18, nm, seval] <;> rfl) | (simp only [updH_apply, without_apply, cellsL_cons, cellsL_nil, mV_app, mV_app0, tyf, g4, n13, e8, e9, e10, e11, e12, H5, H6, H7, q15, H14, q16, q17, q18, d20, (ix40 o22), w21, g23, nm, seval]; done)) (Nat.zero_lt_succ _) g23 ?_
   simp only [vz, tyf, g4, n13, e8, e9, e10, e11, e12, H5, H6, H7, q15, H14, q16, q17, q18, d20, (ix40 o22), w21, g23, nm, seval]
   exact ⟨List.length p3, Nat.lt_succ_self _, by rw [hI3]; refine ⟨p3, c3_6 + 1, (c3_o0 ++ [(GSightLetter.mk (IntKind.i64.wrap (e3.Height * x1_n)) (IntKind.i64.wrap (e3.Width * x1_n)) (IntKind.i64.wrap (e3.Stroke * x1_n)) (IntKind.i64.wrap (e3.Space * x1_n)))]), .ref (nx3 + 32) 0 (List.length (c3_o0 ++ [(GSightLetter.mk (IntKind.i64.wrap (e3.Height * x1_n)) (IntKind.i64.wrap (e3.Width * x1_n)) (IntKind.i64.wrap (e3.Stroke * x1_n)) (IntKind.i64.wrap (e3.Space * x1_n)))])) 4 (List.length (c3_o0 ++ [(GSightLetter.mk (IntKind.i64.wrap (e3.Height * x1_n)) (IntKind.i64.wrap (e3.Width * x1_n)) (IntKind.i64.wrap (e3.Stroke * x1_n)) (IntKind.i64.wrap (e3.Space * x1_n)))])), rfl, Int.le_trans hi3 (Int.le_add_one (Int.le_refl _)), drop_next hi3 hp3, rfl, (show 8 ≤ nx3 + 38 by omega), ?_, ?_, ?_, e8, e9, e10, e11, ?_, Or.inl ⟨nx3 + 32, (sameEl el3_0 61), rfl, (by first | omega | (simp only [nm, seval]; omega)), (by first | omega | (intro hh; simp only [n13, q15, q16, q17, q18, reduceCtorEq] at hh)), (by first | omega | (intro hh; simp only [n13, q15, q16, q17, q18, reduceCtorEq] at hh)), (by first | omega | (intro hh; simp only [n13, q15, q16, q17, q18, reduceCtorEq] at hh)), ?_⟩, h⟩ <;> first | (simp only [ua, n13, e8, e9, e10, e11, e12, H5, H6, H7, q15, H14, q16, q17, q18, d20, w21, nm, seval] <;> rfl) | rfl⟩
 ·cases p3 with
  | nil =>
   have d24 : (decide (c3_6 < (List.length x0_b.Letters : Int))) = false := not_lt_of_drop hi3 hp3
   simp only [g_ref02_Times_l0, hs, reduceCtorEq] at h
   replace h := kG3 _ h
   try dsimp only at h
   try simp only [hs] at h
   simp only [vz, tyf, g4, n13, e8, e9, e10, e11, e12, H5, H6, H7, d24, nm, seval]
   refine opd_ret (x := (.agg ([.lit (.int .i64 x0_b.At)] ++ [.lit (.slice none 0 0)]))) (by first | (simp only [Tryz.results45, resV, resL, resV1, tgt_ptr, tgt_tp, uw, cr, tyf, g4, n13, e8, e9, e10, e11, e12, H5, H6, H7, d24, nm, seval] <;> rfl) | rfl) ?_
   obtain rfl := kF _ h
   refine rr_tree ?_ ?_
   ·simp only [tre, tytre, Bool.and_self]
   ·first | (simp only [outV, uw, showV_ref, cr, tyf, nrm, tynrm, g4, n13, e8, e9, e10, e11, e12, H5, H6, H7, d24, nm, seval] <;> rfl) | rfl
  | cons e3 p3 =>
   have d25 : (decide (c3_6 < (List.length x0_b.Letters : Int))) = true := lt_of_drop hi3 hp3
   have o27 := getI_of_drop hi3 hp3
   have w26 := wrap_next hi3 hp3 g4
   simp only [g_ref02_Times_l0, hs, reduceCtorEq] at h
   cases g28 : (roomOk 32 (List.length (([] : List GSightLetter) ++ [(GSightLetter.mk (IntKind.i64.wrap (e3.Height * x1_n)) (IntKind.i64.wrap (e3.Width * x1_n)) (IntKind.i64.wrap (e3.Stroke * x1_n)) (IntKind.i64.wrap (e3.Space * x1_n)))])))
   ·simp only [g28, hs, reduceCtorEq] at h
    exact absurd h kN3
   simp only [g28, hs, reduceCtorEq] at h
   simp only [vz, tyf, g4, n13, e8, e9, e10, e11, e12, H5, H6, H7, d25, (ix40 o27), w26, g28, nm, seval]
   refine k_appN (w := 4) (enc := cGSightLetter) (ys := ([(GSightLetter.mk (IntKind.i64.wrap (e3.Height * x1_n)) (IntKind.i64.wrap (e3.Width * x1_n)) (IntKind.i64.wrap (e3.Stroke * x1_n)) (IntKind.i64.wrap (e3.Space * x1_n)))])) (el2 := (some 61)) (fun _ => rfl) lf40 ao40 Tryz.underlying40 (by first | rfl | assumption | (simp only [updH_apply, without_apply, et40, n13, H5, H6, H7, nm, seval] <;> rfl) | (simp only [updH_apply, without_apply, cellsL_cons, cellsL_nil, mV_app, mV_app0, tyf, g4, n13, e8, e9, e10, e11, e12, H5, H6, H7, d25, (ix40 o27), w26, g28, nm, seval]; done)) (Nat.zero_lt_succ _) g28 ?_
   simp only [vz, tyf, g4, n13, e8, e9, e10, e11, e12, H5, H6, H7, d25, (ix40 o27), w26, g28, nm, seval]
   exact ⟨List.length p3, Nat.lt_succ_self _, by rw [hI3]; refine ⟨p3, c3_6 + 1, (([] : List GSightLetter) ++ [(GSightLetter.mk (IntKind.i64.wrap (e3.Height * x1_n)) (IntKind.i64.wrap (e3.Width * x1_n)) (IntKind.i64.wrap (e3.Stroke * x1_n)) (IntKind.i64.wrap (e3.Space * x1_n)))]), .ref (nx3 + 32) 0 (List.length (([] : List GSightLetter) ++ [(GSightLetter.mk (IntKind.i64.wrap (e3.Height * x1_n)) (IntKind.i64.wrap (e3.Width * x1_n)) (IntKind.i64.wrap (e3.Stroke * x1_n)) (IntKind.i64.wrap (e3.Space * x1_n)))])) 4 (List.length (([] : List GSightLetter) ++ [(GSightLetter.mk (IntKind.i64.wrap (e3.Height * x1_n)) (IntKind.i64.wrap (e3.Width * x1_n)) (IntKind.i64.wrap (e3.Stroke * x1_n)) (IntKind.i64.wrap (e3.Space * x1_n)))])), rfl, Int.le_trans hi3 (Int.le_add_one (Int.le_refl _)), drop_next hi3 hp3, rfl, (show 8 ≤ nx3 + 38 by omega), ?_, ?_, ?_, e8, e9, e10, e11, ?_, Or.inl ⟨nx3 + 32, (some 61), rfl, (by first | omega | (simp only [nm, seval]; omega)), (by first | omega | (intro hh; simp only [n13, reduceCtorEq] at hh)), (by first | omega | (intro hh; simp only [n13, reduceCtorEq] at hh)), (by first | omega | (intro hh; simp only [n13, reduceCtorEq] at hh)), ?_⟩, h⟩ <;> first | (simp only [ua, n13, e8, e9, e10, e11, e12, H5, H6, H7, d25, w26, nm, seval] <;> rfl) | rfl⟩
end Go.V
end
section
namespace Go.V
open Go Go.Proofs
def g_ref02_Least_l0 (x0_s : GSightStreet) (x1_b : GSightBoard) (x2_p : GSightPlace) : Nat → Int → Option (LOut (Int × Bool) (Int))
 | 0, _ => none
 | k0 + 1, c0_8 => cond (decide (c0_8 ≤ 9)) (Option.bind (g_ref02_Times x1_b c0_8) (fun r1 => Option.bind (g_ref02_Surely x0_s r1 x2_p) (fun r2 => cond (r2) (some (.ret (c0_8, true))) (g_ref02_Least_l0 x0_s x1_b x2_p k0 (IntKind.i64.wrap (c0_8 + 1)))))) (some (.go c0_8))
def g_ref02_Least (x0_s : GSightStreet) (x1_b : GSightBoard) (x2_p : GSightPlace) : Option (Int × Bool) := lbind (g_ref02_Least_l0 x0_s x1_b x2_p 1000000 1) (fun r4 => some r4) (fun c3 => some (0, false)) (fun _ _ => none)
theorem g_ref02_Least_ok (x0_s : GSightStreet) (x1_b : GSightBoard) (x2_p : GSightPlace) (R : Int × Bool) (h : g_ref02_Least x0_s x1_b x2_p = some R) : VPure Tryz.prog G0 43 [.agg (cGSightStreet x0_s), .agg (cGSightBoard x1_b), .agg (cGSightPlace x2_p)] (.tree (.tup [.lit (.int .i64 R.1), .lit (.bool R.2)])) := by
 refine VPure.runR mixed Tryz.call43 Tryz.func43 rfl (by simp [Tryz.ntmps43]; kernel_rfl) ?_
 obtain ⟨KF, h, kF, kN⟩ := fun_intro h
 simp only [g_ref02_Least] at h
 simp only [vz, tyf, nm, seval]
 obtain ⟨K5, h, kR5, kG5, kB5, kN5⟩ := lbind_intro h kN
 obtain ⟨f5, hf5, h⟩ := call2 h
 obtain ⟨I5, hI5⟩ : ∃ I : Nat → St → Prop, I = (fun m st => ∃ (p5 : Nat) (c5_8 : Int), p5 = m ∧ st.df = [] ∧ 6 ≤ st.nx ∧ st.H 0 = some (.cells (some 27) (cGSightStreet x0_s)) ∧ st.H 1 = some (.cells (some 42) (cGSightBoard x1_b)) ∧ st.H 2 = some (.cells (some 29) (cGSightPlace x2_p)) ∧ st.tm 3 = .ptr 0 0 ∧ st.tm 4 = .ptr 1 0 ∧ st.tm 5 = .ptr 2 0 ∧ st.tm 8 = .lit (.int .i64 c5_8) ∧ K5 (f5 p5 c5_8)) := ⟨_, rfl⟩
 refine loopK mixed (by kernel_rfl) I5 1000000 (by rw [hI5]; refine ⟨1000000, 1, rfl, rfl, (show 6 ≤ 6 by omega), ?_, ?_, ?_, ?_, ?_, ?_, ?_, h⟩ <;> first | (simp only [ua, nm, seval] <;> rfl) | rfl) ?_
 rintro m ⟨tm, H, nx5, df⟩ hinv
 rw [hI5] at hinv
 obtain ⟨p5, c5_8, rfl, hdf, hn5, H6, H7, H8, e9, e10, e11, e12, h⟩ := hinv
 simp only at hdf hn5 H6 H7 H8 e9 e10 e11 e12
 have n13 := base_ne0 (m := 6) (b := nx5) (by omega)
 subst hdf hf5
 cases p5 with
 | zero =>
  simp only [g_ref02_Least_l0, hs, reduceCtorEq] at h
  exact absurd h kN5
 | succ p5 =>
  simp only [g_ref02_Least_l0, hs, reduceCtorEq] at h
  cases d14 : (decide (c5_8 ≤ 9))
  ·simp only [d14, hs, reduceCtorEq] at h
   replace h := kG5 _ h
   try dsimp only at h
   try simp only [hs] at h
   simp only [vz, tyf, n13, e9, e10, e11, e12, H6, H7, H8, d14, nm, seval]
   refine opd_ret (x := (.tup [.lit (.int .i64 0), .lit (.bool false)])) (by first | (simp only [Tryz.results43, resV, resL, resV1, tgt_ptr, tgt_tp, uw, cr, tyf, n13, H6, H7, H8, d14, nm, seval] <;> rfl) | rfl) ?_
   obtain rfl := kF _ h
   refine rr_tree ?_ ?_
   ·simp only [tre, tytre, Bool.and_self]
   ·first | (simp only [outV, uw, showV_ref, cr, tyf, nrm, tynrm, n13, e9, e10, e11, e12, H6, H7, H8, d14, nm, seval] <;> rfl) | rfl
  simp only [d14, hs, reduceCtorEq] at h
  simp only [vz, tyf, n13, e9, e10, e11, e12, H6, H7, H8, d14, nm, seval]
  refine cwp_drwQF (fun tm => tm 3 = .ptr 0 0 ∧ tm 4 = .ptr 1 0 ∧ tm 5 = .ptr 2 0 ∧ tm 8 = .lit (.int .i64 c5_8) ∧ True) (by refine ⟨e9, e10, e11, e12, trivial⟩ <;> first | (simp only [ua, n13, e9, e10, e11, e12, H6, H7, H8, d14, nm, seval] <;> rfl) | rfl) ?_
  rintro tm ⟨e15, e16, e17, e18, _⟩
  cases o20 : (g_ref02_Times x1_b c5_8) with
  | none =>
   simp only [o20, hs, reduceCtorEq] at h
   exact absurd h kN5
  | some r19 =>
   simp only [o20, hs, reduceCtorEq] at h
   simp only [vz, tyf, n13, H6, H7, H8, d14, e15, e16, e17, e18, nm, seval]
   refine dktree (args0 := [.agg (cGSightBoard x1_b), .lit (.int .i64 c5_8)]) (by first | (simp only [nrm, tynrm] <;> rfl) | rfl) (by simp only [tre, tytre, Bool.and_self]) (g_ref02_Times_ok _ _ _ o20) ?_
   refine fin_cut (fun tm => tm 3 = .ptr 0 0 ∧ tm 4 = .ptr 1 0 ∧ tm 5 = .ptr 2 0 ∧ tm 8 = .lit (.int .i64 c5_8) ∧ tm 13 = .agg (cGSightStreet x0_s) ∧ tm 16 = .agg (cGSightBoard r19) ∧ True) (by refine ⟨e15, e16, e17, e18, ?_, ?_, trivial⟩ <;> first | (simp only [ua, n13, H6, H7, H8, d14, e15, e16, e17, e18, nm, seval] <;> rfl) | rfl) ?_
   rintro tm ⟨e21, e22, e23, e24, e25, e26, _⟩
   cases o28 : (g_ref02_Surely x0_s r19 x2_p) with
   | none =>
    simp only [o28, hs, reduceCtorEq] at h
    exact absurd h kN5
   | some r27 =>
    simp only [o28, hs, reduceCtorEq] at h
    simp only [vz, tyf, n13, H6, H7, H8, d14, e21, e22, e23, e24, e25, e26, nm, seval]
    refine dktree (args0 := [.agg (cGSightStreet x0_s), .agg (cGSightBoard r19), .agg (cGSightPlace x2_p)]) (by first | (simp only [nrm, tynrm] <;> rfl) | rfl) (by simp only [tre, tytre, Bool.and_self]) (g_ref02_Surely_ok _ _ _ _ o28) ?_
    refine fin_cut (fun tm => tm 3 = .ptr 0 0 ∧ tm 4 = .ptr 1 0 ∧ tm 5 = .ptr 2 0 ∧ tm 8 = .lit (.int .i64 c5_8) ∧ tm 18 = .lit (.bool r27) ∧ True) (by refine ⟨e21, e22, e23, e24, ?_, trivial⟩ <;> first | (simp only [ua, n13, H6, H7, H8, d14, e21, e22, e23, e24, e25, e26, nm, seval] <;> rfl) | rfl) ?_
    rintro tm ⟨e29, e30, e31, e32, e33, _⟩
    cases d34 : (r27)
    ·simp only [d34, hs, reduceCtorEq] at h
     simp only [vz, tyf, n13, H6, H7, H8, d14, e29, e30, e31, e32, e33, d34, nm, seval]
     exact ⟨p5, Nat.lt_succ_self _, by rw [hI5]; refine ⟨p5, IntKind.i64.wrap (c5_8 + 1), rfl, rfl, (show 6 ≤ nx5 + 11 by omega), ?_, ?_, ?_, e29, e30, e31, ?_, h⟩ <;> first | (simp only [ua, n13, H6, H7, H8, d14, e29, e30, e31, e32, e33, d34, nm, seval] <;> rfl) | rfl⟩
    simp only [d34, hs, reduceCtorEq] at h
    simp only [vz, tyf, n13, H6, H7, H8, d14, e29, e30, e31, e32, e33, d34, nm, seval]
    refine opd_ret (x := (.tup [.lit (.int .i64 c5_8), .lit (.bool true)])) (by first | (simp only [Tryz.results43, resV, resL, resV1, tgt_ptr, tgt_tp, uw, cr, tyf, n13, H6, H7, H8, d14, d34, nm, seval] <;> rfl) | rfl) ?_
    replace h := kR5 _ h
    try dsimp only at h
    obtain rfl := kF _ h
    refine rr_tree ?_ ?_
    ·simp only [tre, tytre, Bool.and_self]
    ·first | (simp only [outV, uw, showV_ref, cr, tyf, nrm, tynrm, n13, H6, H7, H8, d14, e29, e30, e31, e32, e33, d34, nm, seval] <;> rfl) | rfl
end Go.V
end
section
namespace Go.V
open Go Go.Proofs
def g_ref02_Lit (x0_s : GSightStreet) (x1_light : Int) : Option (GSightStreet) := some (GSightStreet.mk x0_s.Length x0_s.Width x0_s.Eye (GSpan.mk x1_light x1_light) x0_s.Boards x0_s.Blocks)
theorem g_ref02_Lit_ok (x0_s : GSightStreet) (x1_light : Int) (R : GSightStreet) (h : g_ref02_Lit x0_s x1_light = some R) : VPure Tryz.prog G0 46 [.agg (cGSightStreet x0_s), .lit (.int .i64 x1_light)] (.tree (.agg (cGSightStreet R))) := by
 refine VPure.runR mixed Tryz.call46 Tryz.func46 rfl (by simp [Tryz.ntmps46]; kernel_rfl) ?_
 obtain ⟨KF, h, kF, kN⟩ := fun_intro h
 simp only [g_ref02_Lit] at h
 simp only [vz, tyf, nm, seval]
 refine opd_ret (x := (.agg ([.lit (.int .i64 x0_s.Length)] ++ [.lit (.int .i64 x0_s.Width)] ++ (cGSpan x0_s.Eye) ++ [.lit (.int .i64 x1_light)] ++ [.lit (.int .i64 x1_light)] ++ [.sl (cellsL cGSightBoard x0_s.Boards) (List.length x0_s.Boards) false] ++ [.sl (cellsL cGSightBlock x0_s.Blocks) (List.length x0_s.Blocks) false]))) (by first | (simp only [Tryz.results46, resV, resL, resV1, tgt_ptr, tgt_tp, uw, cr, tyf, nm, seval] <;> rfl) | rfl) ?_
 obtain rfl := kF _ h
 refine rr_tree ?_ ?_
 ·simp only [tre, tytre, Bool.and_self]
 ·first | (simp only [outV, uw, showV_ref, cr, tyf, nrm, tynrm, nm, seval] <;> rfl) | rfl
end Go.V
end
section
namespace Go.V
open Go Go.Proofs
def g_ref02_Light_l0 (x0_s : GSightStreet) (x1_b : GSightBoard) (x2_p : GSightPlace) : Nat → Int → Option (LOut (Int × Bool) (Int))
 | 0, _ => none
 | k0 + 1, c0_8 => cond (decide (c0_8 ≤ 100)) (Option.bind (g_ref02_Lit x0_s c0_8) (fun r1 => Option.bind (g_ref02_Surely r1 x1_b x2_p) (fun r2 => cond (r2) (some (.ret (c0_8, true))) (g_ref02_Light_l0 x0_s x1_b x2_p k0 (IntKind.i64.wrap (c0_8 + 1)))))) (some (.go c0_8))
def g_ref02_Light (x0_s : GSightStreet) (x1_b : GSightBoard) (x2_p : GSightPlace) : Option (Int × Bool) := lbind (g_ref02_Light_l0 x0_s x1_b x2_p 1000000 1) (fun r4 => some r4) (fun c3 => some (0, false)) (fun _ _ => none)
theorem g_ref02_Light_ok (x0_s : GSightStreet) (x1_b : GSightBoard) (x2_p : GSightPlace) (R : Int × Bool) (h : g_ref02_Light x0_s x1_b x2_p = some R) : VPure Tryz.prog G0 44 [.agg (cGSightStreet x0_s), .agg (cGSightBoard x1_b), .agg (cGSightPlace x2_p)] (.tree (.tup [.lit (.int .i64 R.1), .lit (.bool R.2)])) := by
 refine VPure.runR mixed Tryz.call44 Tryz.func44 rfl (by simp [Tryz.ntmps44]; kernel_rfl) ?_
 obtain ⟨KF, h, kF, kN⟩ := fun_intro h
 simp only [g_ref02_Light] at h
 simp only [vz, tyf, nm, seval]
 obtain ⟨K5, h, kR5, kG5, kB5, kN5⟩ := lbind_intro h kN
 obtain ⟨f5, hf5, h⟩ := call2 h
 obtain ⟨I5, hI5⟩ : ∃ I : Nat → St → Prop, I = (fun m st => ∃ (p5 : Nat) (c5_8 : Int), p5 = m ∧ st.df = [] ∧ 6 ≤ st.nx ∧ st.H 0 = some (.cells (some 27) (cGSightStreet x0_s)) ∧ st.H 1 = some (.cells (some 42) (cGSightBoard x1_b)) ∧ st.H 2 = some (.cells (some 29) (cGSightPlace x2_p)) ∧ st.tm 3 = .ptr 0 0 ∧ st.tm 4 = .ptr 1 0 ∧ st.tm 5 = .ptr 2 0 ∧ st.tm 8 = .lit (.int .i64 c5_8) ∧ K5 (f5 p5 c5_8)) := ⟨_, rfl⟩
 refine loopK mixed (by kernel_rfl) I5 1000000 (by rw [hI5]; refine ⟨1000000, 1, rfl, rfl, (show 6 ≤ 6 by omega), ?_, ?_, ?_, ?_, ?_, ?_, ?_, h⟩ <;> first | (simp only [ua, nm, seval] <;> rfl) | rfl) ?_
 rintro m ⟨tm, H, nx5, df⟩ hinv
 rw [hI5] at hinv
 obtain ⟨p5, c5_8, rfl, hdf, hn5, H6, H7, H8, e9, e10, e11, e12, h⟩ := hinv
 simp only at hdf hn5 H6 H7 H8 e9 e10 e11 e12
 have n13 := base_ne0 (m := 6) (b := nx5) (by omega)
 subst hdf hf5
 cases p5 with
 | zero =>
  simp only [g_ref02_Light_l0, hs, reduceCtorEq] at h
  exact absurd h kN5
 | succ p5 =>
  simp only [g_ref02_Light_l0, hs, reduceCtorEq] at h
  cases d14 : (decide (c5_8 ≤ 100))
  ·simp only [d14, hs, reduceCtorEq] at h
   replace h := kG5 _ h
   try dsimp only at h
   try simp only [hs] at h
   simp only [vz, tyf, n13, e9, e10, e11, e12, H6, H7, H8, d14, nm, seval]
   refine opd_ret (x := (.tup [.lit (.int .i64 0), .lit (.bool false)])) (by first | (simp only [Tryz.results44, resV, resL, resV1, tgt_ptr, tgt_tp, uw, cr, tyf, n13, H6, H7, H8, d14, nm, seval] <;> rfl) | rfl) ?_
   obtain rfl := kF _ h
   refine rr_tree ?_ ?_
   ·simp only [tre, tytre, Bool.and_self]
   ·first | (simp only [outV, uw, showV_ref, cr, tyf, nrm, tynrm, n13, e9, e10, e11, e12, H6, H7, H8, d14, nm, seval] <;> rfl) | rfl
  simp only [d14, hs, reduceCtorEq] at h
  simp only [vz, tyf, n13, e9, e10, e11, e12, H6, H7, H8, d14, nm, seval]
  refine cwp_drwQF (fun tm => tm 3 = .ptr 0 0 ∧ tm 4 = .ptr 1 0 ∧ tm 5 = .ptr 2 0 ∧ tm 8 = .lit (.int .i64 c5_8) ∧ True) (by refine ⟨e9, e10, e11, e12, trivial⟩ <;> first | (simp only [ua, n13, e9, e10, e11, e12, H6, H7, H8, d14, nm, seval] <;> rfl) | rfl) ?_
  rintro tm ⟨e15, e16, e17, e18, _⟩
  cases o20 : (g_ref02_Lit x0_s c5_8) with
  | none =>
   simp only [o20, hs, reduceCtorEq] at h
   exact absurd h kN5
  | some r19 =>
   simp only [o20, hs, reduceCtorEq] at h
   simp only [vz, tyf, n13, H6, H7, H8, d14, e15, e16, e17, e18, nm, seval]
   refine dktree (args0 := [.agg (cGSightStreet x0_s), .lit (.int .i64 c5_8)]) (by first | (simp only [nrm, tynrm] <;> rfl) | rfl) (by simp only [tre, tytre, Bool.and_self]) (g_ref02_Lit_ok _ _ _ o20) ?_
   refine fin_cut (fun tm => tm 3 = .ptr 0 0 ∧ tm 4 = .ptr 1 0 ∧ tm 5 = .ptr 2 0 ∧ tm 8 = .lit (.int .i64 c5_8) ∧ tm 15 = .agg (cGSightStreet r19) ∧ True) (by refine ⟨e15, e16, e17, e18, ?_, trivial⟩ <;> first | (simp only [ua, n13, H6, H7, H8, d14, e15, e16, e17, e18, nm, seval] <;> rfl) | rfl) ?_
   rintro tm ⟨e21, e22, e23, e24, e25, _⟩
   cases o27 : (g_ref02_Surely r19 x1_b x2_p) with
   | none =>
    simp only [o27, hs, reduceCtorEq] at h
    exact absurd h kN5
   | some r26 =>
    simp only [o27, hs, reduceCtorEq] at h
    simp only [vz, tyf, n13, H6, H7, H8, d14, e21, e22, e23, e24, e25, nm, seval]
    refine dktree (args0 := [.agg (cGSightStreet r19), .agg (cGSightBoard x1_b), .agg (cGSightPlace x2_p)]) (by first | (simp only [nrm, tynrm] <;> rfl) | rfl) (by simp only [tre, tytre, Bool.and_self]) (g_ref02_Surely_ok _ _ _ _ o27) ?_
    refine fin_cut (fun tm => tm 3 = .ptr 0 0 ∧ tm 4 = .ptr 1 0 ∧ tm 5 = .ptr 2 0 ∧ tm 8 = .lit (.int .i64 c5_8) ∧ tm 18 = .lit (.bool r26) ∧ True) (by refine ⟨e21, e22, e23, e24, ?_, trivial⟩ <;> first | (simp only [ua, n13, H6, H7, H8, d14, e21, e22, e23, e24, e25, nm, seval] <;> rfl) | rfl) ?_
    rintro tm ⟨e28, e29, e30, e31, e32, _⟩
    cases d33 : (r26)
    ·simp only [d33, hs, reduceCtorEq] at h
     simp only [vz, tyf, n13, H6, H7, H8, d14, e28, e29, e30, e31, e32, d33, nm, seval]
     exact ⟨p5, Nat.lt_succ_self _, by rw [hI5]; refine ⟨p5, IntKind.i64.wrap (c5_8 + 1), rfl, rfl, (show 6 ≤ nx5 + 11 by omega), ?_, ?_, ?_, e28, e29, e30, ?_, h⟩ <;> first | (simp only [ua, n13, H6, H7, H8, d14, e28, e29, e30, e31, e32, d33, nm, seval] <;> rfl) | rfl⟩
    simp only [d33, hs, reduceCtorEq] at h
    simp only [vz, tyf, n13, H6, H7, H8, d14, e28, e29, e30, e31, e32, d33, nm, seval]
    refine opd_ret (x := (.tup [.lit (.int .i64 c5_8), .lit (.bool true)])) (by first | (simp only [Tryz.results44, resV, resL, resV1, tgt_ptr, tgt_tp, uw, cr, tyf, n13, H6, H7, H8, d14, d33, nm, seval] <;> rfl) | rfl) ?_
    replace h := kR5 _ h
    try dsimp only at h
    obtain rfl := kF _ h
    refine rr_tree ?_ ?_
    ·simp only [tre, tytre, Bool.and_self]
    ·first | (simp only [outV, uw, showV_ref, cr, tyf, nrm, tynrm, n13, H6, H7, H8, d14, e28, e29, e30, e31, e32, d33, nm, seval] <;> rfl) | rfl
end Go.V
end
section
namespace Go.V
open Go
def timesL (n : Int) (l : GSightLetter) : GSightLetter := ⟨l.Height * n, l.Width * n, l.Stroke * n, l.Space * n⟩
def timesB (b : GSightBoard) (n : Int) : GSightBoard := ⟨b.At, b.Letters.map (timesL n)⟩
theorem times_range {a n A : Int} (h0 : 0 ≤ a) (h1 : a ≤ A) (n0 : 1 ≤ n) (n1 : n ≤ 9) : 0 ≤ a * n ∧ a * n ≤ A * 9 := mulR h0 h1 (by omega) n1
theorem times_wrap {l : GSightLetter} {n : Int} (h : letterB l = true) (n0 : 1 ≤ n) (n1 : n ≤ 9) : GSightLetter.mk (IntKind.i64.wrap (l.Height * n)) (IntKind.i64.wrap (l.Width * n)) (IntKind.i64.wrap (l.Stroke * n)) (IntKind.i64.wrap (l.Space * n)) = timesL n l := by
 simp only [letterB, Bool.and_eq_true, inB_iff] at h
 have q1 := times_range (A := 30) (a := l.Height) (by omega) (by omega) n0 n1
 have q2 := times_range (A := 30) (a := l.Width) (by omega) (by omega) n0 n1
 have q3 := times_range (A := 10) (a := l.Stroke) (by omega) (by omega) n0 n1
 have q4 := times_range (A := 20) (a := l.Space) (by omega) (by omega) n0 n1
 rw [wrap_eq (n := l.Height * n) (by omega) (by omega), wrap_eq (n := l.Width * n) (by omega) (by omega), wrap_eq (n := l.Stroke * n) (by omega) (by omega), wrap_eq (n := l.Space * n) (by omega) (by omega)]
 rfl
theorem times_BL {l : GSightLetter} {n : Int} (h : letterB l = true) (n0 : 1 ≤ n) (n1 : n ≤ 9) : BL (timesL n l) := by
 simp only [letterB, Bool.and_eq_true, inB_iff] at h
 have q1 := times_range (A := 30) (a := l.Height) (by omega) (by omega) n0 n1
 have q2 := times_range (A := 30) (a := l.Width) (by omega) (by omega) n0 n1
 have q3 := times_range (A := 10) (a := l.Stroke) (by omega) (by omega) n0 n1
 have q4 := times_range (A := 20) (a := l.Space) (by omega) (by omega) n0 n1
 unfold BL timesL
 simp only []
 omega
theorem enlarged_l0 (n : Int) (n0 : 1 ≤ n) (n1 : n ≤ 9) : ∀ (p : List GSightLetter) (c : Int) (o : List GSightLetter), 0 ≤ c → o.drop c.toNat = p → (∀ l ∈ p, letterB l = true) → g_sight_enlarged_l0 n p c o = some (.go (o.take c.toNat ++ p.map (timesL n)))
 | [], c, o, h0, hd, _ => by
  have : o.length ≤ c.toNat := List.drop_eq_nil_iff.1 hd
  simp only [g_sight_enlarged_l0, List.map_nil, List.append_nil, List.take_of_length_le this]
 | e :: p, c, o, h0, hd, h => by
  have hi := getI_of_drop h0 hd
  have hlt := (getI_lt hi).2
  have hx := drop_next h0 hd
  have hn : (c + 1).toNat = c.toNat + 1 := by omega
  have hs : (o.set c.toNat (timesL n e)).drop (c + 1).toNat = p := by
   rw [hn, List.drop_set_of_lt (by omega), ← hn, hx]
  have ih := enlarged_l0 n n0 n1 p (c + 1) (o.set c.toNat (timesL n e)) (by omega) hs (fun l hl => h l (List.mem_cons_of_mem _ hl))
  simp only [g_sight_enlarged_l0, hi, Option.bind_some, times_wrap (h e (List.mem_cons_self ..)) n0 n1, ih, List.map_cons]
  congr 2
  have ht : (o.set c.toNat (timesL n e)).take (c + 1).toNat = o.take c.toNat ++ [timesL n e] := by
   rw [hn, List.take_succ, List.take_set_of_le (Nat.le_refl _)]
   congr 1
   rw [List.getElem?_set_self (by omega)]
   rfl
  rw [ht, List.append_assoc]
  rfl
theorem enlarged_eq {s : GSightStreet} {b : GSightBoard} {p : GSightPlace} (h : Good s b p) (n : Int) (n0 : 1 ≤ n) (n1 : n ≤ 9) : g_sight_enlarged b n = some (timesB b n) := by
 have h1 := h.n1; have h5 := h.n5
 have hne : neB b.Letters = true := by unfold neB; cases hb : b.Letters with
  | nil => rw [hb] at h1; simp at h1
  | cons a l => rfl
 have hr : roomOk 32 b.Letters.length = true := room_small 32 (by omega) (by omega)
 have hl : lenOk b.Letters = true := lenOk_of (by omega)
 simp only [g_sight_enlarged, g_slices_Clone_SightLetter, hne, hr, cond_true, Option.bind_some, hl, enlarged_l0 n n0 n1 b.Letters 0 b.Letters (by omega) rfl h.lets, lbind_go]
 rfl
theorem times_l0 (n : Int) (n0 : 1 ≤ n) (n1 : n ≤ 9) : ∀ (p : List GSightLetter) (c : Int) (acc : List GSightLetter), acc.length + p.length ≤ 100 → (∀ l ∈ p, letterB l = true) → g_ref02_Times_l0 n p c acc = some (.go (acc ++ p.map (timesL n)))
 | [], c, acc, _, _ => by simp [g_ref02_Times_l0]
 | e :: p, c, acc, hl, h => by
  simp only [List.length_cons] at hl
  simp only [g_ref02_Times_l0, times_wrap (h e (List.mem_cons_self ..)) n0 n1, room_small 32 (n := (acc ++ [timesL n e]).length) (by simp; omega) (by omega), cond_true]
  rw [times_l0 n n0 n1 p (c + 1) (acc ++ [timesL n e]) (by simp; omega) (fun l hl => h l (List.mem_cons_of_mem _ hl))]
  simp
theorem times_eq {s : GSightStreet} {b : GSightBoard} {p : GSightPlace} (h : Good s b p) (n : Int) (n0 : 1 ≤ n) (n1 : n ≤ 9) : g_ref02_Times b n = some (timesB b n) := by
 have h1 := h.n1; have h5 := h.n5
 have hl : lenOk b.Letters = true := lenOk_of (by omega)
 simp only [g_ref02_Times, hl, cond_true, times_l0 n n0 n1 b.Letters 0 [] (by simp; omega) h.lets, lbind_go, List.nil_append]
 rfl
def Fair (s : GSightStreet) (b : GSightBoard) (p : GSightPlace) : Prop := PG b.At p ∧ PW (s.Eye.Low * s.Light.Low) ∧ (∀ l ∈ b.Letters, BL l) ∧ 1 ≤ b.Letters.length ∧ b.Letters.length ≤ 5 ∧ (∀ k ∈ s.Blocks, BK k) ∧ s.Blocks.length ≤ 4
theorem fair_good {s : GSightStreet} {b : GSightBoard} {p : GSightPlace} (h : Good s b p) : Fair s b p := by
 obtain ⟨hp, hl, hk, w1, _⟩ := goods h
 exact ⟨hp, w1, hl, h.n1, h.n5, hk, h.nb⟩
theorem fair_times {s : GSightStreet} {b : GSightBoard} {p : GSightPlace} (h : Good s b p) {n : Int} (n0 : 1 ≤ n) (n1 : n ≤ 9) : Fair s (timesB b n) p := by
 obtain ⟨hp, hl, hk, w1, _⟩ := goods h
 refine ⟨hp, w1, ?_, ?_, ?_, hk, h.nb⟩
 ·intro l hl'
  simp only [timesB, List.mem_map] at hl'
  obtain ⟨l0, h0, rfl⟩ := hl'
  exact times_BL (h.lets l0 h0) n0 n1
 ·simp only [timesB, List.length_map]; exact h.n1
 ·simp only [timesB, List.length_map]; exact h.n5
theorem surely_eq {s : GSightStreet} {b : GSightBoard} {p : GSightPlace} (h : Fair s b p) : g_sight_isSurelyRead s b p = some (sureB s b p) := by
 obtain ⟨hp, w1, hl, n1, n5, hk, nb⟩ := h
 have r1 := isRead_eq ⟨s, p, b, s.Eye.Low * s.Light.Low⟩ hp w1 hl n1 n5 hk nb
 simp only [g_sight_isSurelyRead, g_sight_atWorst, pw_wrap w1, Option.bind_some, r1, readB, sureB]
theorem refSurely_eq {s : GSightStreet} {b : GSightBoard} {p : GSightPlace} (h : Fair s b p) : g_ref02_Surely s b p = some (sureB s b p) := by
 obtain ⟨hp, w1, hl, n1, n5, hk, nb⟩ := h
 simp only [g_ref02_Surely, pw_wrap w1, refClear_eq b p _ hp w1 hl n5, refHidden_eq s b p hp hk nb, Option.bind_some, hids_beq, csome, sureB]
def firstN (S : Int → Bool) : Nat → Int → Option Int
 | 0, _ => none
 | k + 1, c => cond (S c) (some c) (firstN S k (c + 1))
theorem firstN_some {S : Int → Bool} : ∀ (k : Nat) (c n : Int), firstN S k c = some n → c ≤ n ∧ n < c + k ∧ S n = true ∧ ∀ m, c ≤ m → m < n → S m = false
 | 0, _, _, h => by cases h
 | k + 1, c, n, h => by
  unfold firstN at h
  cases hs : S c with
  | true =>
   rw [hs] at h
   simp only [cond_true, Option.some.injEq] at h
   subst h
   exact ⟨Int.le_refl _, by omega, hs, fun m h1 h2 => by omega⟩
  | false =>
   rw [hs] at h
   simp only [cond_false] at h
   obtain ⟨h1, h2, h3, h4⟩ := firstN_some k (c + 1) n h
   refine ⟨by omega, by omega, h3, fun m m1 m2 => ?_⟩
   by_cases hm : m = c
   ·rw [hm]; exact hs
   ·exact h4 m (by omega) m2
theorem firstN_none {S : Int → Bool} : ∀ (k : Nat) (c : Int), firstN S k c = none → ∀ m, c ≤ m → m < c + k → S m = false
 | 0, _, _, _, _, _ => by omega
 | k + 1, c, h, m, m1, m2 => by
  unfold firstN at h
  cases hs : S c with
  | true => rw [hs] at h; cases h
  | false =>
   rw [hs] at h
   by_cases hm : m = c
   ·rw [hm]; exact hs
   ·exact firstN_none k (c + 1) h m (by omega) (by omega)
def outN (o : Option Int) : Int × Int := match o with | some n => (n, 0) | none => (0, 5)
def outR (o : Option Int) : Int × Bool := match o with | some n => (n, true) | none => (0, false)
theorem outN_cond (a : Bool) (n : Int) (o : Option Int) : some (outN (cond a (some n) o)) = cond a (some (n, 0)) (some (outN o)) := by cases a <;> rfl
theorem Least_good {s : GSightStreet} {b : GSightBoard} {p : GSightPlace} {n : Int} (h : Good s b p) (hb : getI s.Boards n = some b) (hv : g_sight_isView s n p = some true) : g_sight_Least s n p = some (outN (firstN (fun k => sureB s (timesB b k) p) 9 1)) := by
 have e := fun k k0 k1 => enlarged_eq h k k0 k1
 have f := fun k k0 k1 => surely_eq (fair_times h (n := k) k0 k1)
 simp only [g_sight_Least, hv, Option.bind_some, cond_true, hb, e 1 (by omega) (by omega), e 2 (by omega) (by omega), e 3 (by omega) (by omega), e 4 (by omega) (by omega), e 5 (by omega) (by omega), e 6 (by omega) (by omega), e 7 (by omega) (by omega), e 8 (by omega) (by omega), e 9 (by omega) (by omega),
  f 1 (by omega) (by omega), f 2 (by omega) (by omega), f 3 (by omega) (by omega), f 4 (by omega) (by omega), f 5 (by omega) (by omega), f 6 (by omega) (by omega), f 7 (by omega) (by omega), f 8 (by omega) (by omega), f 9 (by omega) (by omega), firstN, outN_cond]
 rfl
theorem refLeast_l0 {s : GSightStreet} {b : GSightBoard} {p : GSightPlace} (h : Good s b p) : ∀ (k : Nat) (c : Int) (fuel : Nat), 1 ≤ c → c + k = 10 → k < fuel → ∃ z, g_ref02_Least_l0 s b p fuel c = match firstN (fun k => sureB s (timesB b k) p) k c with | some n => some (.ret (n, true)) | none => some (.go z)
 | 0, c, fuel + 1, h0, hk, _ => by
  have : decide (c ≤ 9) = false := decide_eq_false (by omega)
  exact ⟨c, by simp only [g_ref02_Least_l0, this, cond_false, firstN]⟩
 | k + 1, c, fuel + 1, h0, hk, hf => by
  have : decide (c ≤ 9) = true := decide_eq_true (by omega)
  have w : IntKind.i64.wrap (c + 1) = c + 1 := wrap_eq (by omega) (by omega)
  obtain ⟨z, ih⟩ := refLeast_l0 h k (c + 1) fuel (by omega) (by omega) (by omega)
  refine ⟨z, ?_⟩
  simp only [g_ref02_Least_l0, this, cond_true, times_eq h c h0 (by omega), refSurely_eq (fair_times h h0 (by omega)), Option.bind_some, w, ih, firstN]
  cases sureB s (timesB b c) p <;> rfl
theorem refLeast_eq {s : GSightStreet} {b : GSightBoard} {p : GSightPlace} (h : Good s b p) : g_ref02_Least s b p = some (outR (firstN (fun k => sureB s (timesB b k) p) 9 1)) := by
 obtain ⟨z, e⟩ := refLeast_l0 h 9 1 1000000 (by omega) (by omega) (by omega)
 simp only [g_ref02_Least, e]
 cases firstN (fun k => sureB s (timesB b k) p) 9 1 <;> rfl
def litS (s : GSightStreet) (l : Int) : GSightStreet := ⟨s.Length, s.Width, s.Eye, ⟨l, l⟩, s.Boards, s.Blocks⟩
theorem lit_good {s : GSightStreet} {b : GSightBoard} {p : GSightPlace} {l : Int} (h : Good s b p) (h1 : 1 ≤ l) (h2 : l ≤ 100) : Good (litS s l) b p :=
 ⟨h.el, h.em, h.eh, h1, Int.le_refl _, h2, h.a0, h.a1, h.n1, h.n5, h.lets, h.last, h.p0, h.p1, h.q0, h.q1, h.nb, h.blks⟩
theorem light_l0 {s : GSightStreet} {b : GSightBoard} {p : GSightPlace} {n : Int} (h : Good s b p) (hb : getI s.Boards n = some b) : ∀ (k : Nat) (c x y : Int), 0 ≤ c → c + k ≤ 100 →
  ∃ z, g_sight_Light_l0 s n p k c x y = match firstN (fun v => sureB (litS s v) b p) k (c + 1) with | some v => some (.ret (v, 0)) | none => some (.go z)
 | 0, c, x, y, _, _ => ⟨_, rfl⟩
 | k + 1, c, x, y, h0, hk => by
  have hs := surely_eq (fair_good (lit_good (l := c + 1) h (by omega) (by omega)))
  obtain ⟨z, ih⟩ := light_l0 h hb k (c + 1) (c + 1) (c + 1) (by omega) (by omega)
  refine ⟨z, ?_⟩
  have hs' : g_sight_isSurelyRead (GSightStreet.mk s.Length s.Width s.Eye (GSpan.mk (c + 1) (c + 1)) s.Boards s.Blocks) b p = some (sureB (litS s (c + 1)) b p) := hs
  simp only [g_sight_Light_l0, hb, Option.bind_some, hs', ih, firstN]
  cases sureB (litS s (c + 1)) b p <;> rfl
theorem Light_good {s : GSightStreet} {b : GSightBoard} {p : GSightPlace} {n : Int} (h : Good s b p) (hb : getI s.Boards n = some b) (hv : g_sight_isView s n p = some true) : g_sight_Light s n p = some (outN (firstN (fun v => sureB (litS s v) b p) 100 1)) := by
 obtain ⟨z, e⟩ := light_l0 h hb 100 0 s.Light.Low s.Light.High (by omega) (by omega)
 have e1 : boundOk 100 = true := rfl
 have e2 : Int.toNat (100 - 0) = 100 := rfl
 have e3 : (0 : Int) + 1 = 1 := rfl
 rw [e3] at e
 simp only [g_sight_Light, hv, Option.bind_some, cond_true, e1, e2, e]
 cases firstN (fun v => sureB (litS s v) b p) 100 1 <;> rfl
theorem refLight_l0 {s : GSightStreet} {b : GSightBoard} {p : GSightPlace} (h : Good s b p) : ∀ (k : Nat) (c : Int) (fuel : Nat), 1 ≤ c → c + k = 101 → k < fuel → ∃ z, g_ref02_Light_l0 s b p fuel c = match firstN (fun v => sureB (litS s v) b p) k c with | some n => some (.ret (n, true)) | none => some (.go z)
 | 0, c, fuel + 1, h0, hk, _ => by
  have : decide (c ≤ 100) = false := decide_eq_false (by omega)
  exact ⟨c, by simp only [g_ref02_Light_l0, this, cond_false, firstN]⟩
 | k + 1, c, fuel + 1, h0, hk, hf => by
  have : decide (c ≤ 100) = true := decide_eq_true (by omega)
  have w : IntKind.i64.wrap (c + 1) = c + 1 := wrap_eq (by omega) (by omega)
  obtain ⟨z, ih⟩ := refLight_l0 h k (c + 1) fuel (by omega) (by omega) (by omega)
  have el : g_ref02_Lit s c = some (litS s c) := rfl
  refine ⟨z, ?_⟩
  simp only [g_ref02_Light_l0, this, cond_true, el, refSurely_eq (fair_good (lit_good (l := c) h h0 (by omega))), Option.bind_some, w, ih, firstN]
  cases sureB (litS s c) b p <;> rfl
theorem refLight_eq {s : GSightStreet} {b : GSightBoard} {p : GSightPlace} (h : Good s b p) : g_ref02_Light s b p = some (outR (firstN (fun v => sureB (litS s v) b p) 100 1)) := by
 obtain ⟨z, e⟩ := refLight_l0 h 100 1 1000000 (by omega) (by omega) (by omega)
 simp only [g_ref02_Light, e]
 cases firstN (fun v => sureB (litS s v) b p) 100 1 <;> rfl
end Go.V
end
section
namespace Go.V
open Go Go.Proofs
theorem hmix : Tryz.prog.follows .mixedOrders = true := by kernel_rfl
def kS : VV := (Go.V.VV.agg [(Go.V.VV.lit (Go.Value.int Go.IntKind.i64 (Int.ofNat 20))), (Go.V.VV.lit (Go.Value.int Go.IntKind.i64 (Int.ofNat 6))), (Go.V.VV.lit (Go.Value.int Go.IntKind.i64 (Int.ofNat 4))), (Go.V.VV.lit (Go.Value.int Go.IntKind.i64 (Int.ofNat 6))), (Go.V.VV.lit (Go.Value.int Go.IntKind.i64 (Int.ofNat 50))), (Go.V.VV.lit (Go.Value.int Go.IntKind.i64 (Int.ofNat 100))), (Go.V.VV.sl [(Go.V.VV.lit (Go.Value.int Go.IntKind.i64 (Int.ofNat 10))), (Go.V.VV.sl [(Go.V.VV.lit (Go.Value.int Go.IntKind.i64 (Int.ofNat 6))), (Go.V.VV.lit (Go.Value.int Go.IntKind.i64 (Int.ofNat 4))), (Go.V.VV.lit (Go.Value.int Go.IntKind.i64 (Int.ofNat 1))), (Go.V.VV.lit (Go.Value.int Go.IntKind.i64 (Int.ofNat 1))), (Go.V.VV.lit (Go.Value.int Go.IntKind.i64 (Int.ofNat 8))), (Go.V.VV.lit (Go.Value.int Go.IntKind.i64 (Int.ofNat 5))), (Go.V.VV.lit (Go.Value.int Go.IntKind.i64 (Int.ofNat 2))), (Go.V.VV.lit (Go.Value.int Go.IntKind.i64 (Int.ofNat 0)))] 2 Bool.false), (Go.V.VV.lit (Go.Value.int Go.IntKind.i64 (Int.ofNat 0))), (Go.V.VV.sl [(Go.V.VV.lit (Go.Value.int Go.IntKind.i64 (Int.ofNat 10))), (Go.V.VV.lit (Go.Value.int Go.IntKind.i64 (Int.ofNat 10))), (Go.V.VV.lit (Go.Value.int Go.IntKind.i64 (Int.ofNat 2))), (Go.V.VV.lit (Go.Value.int Go.IntKind.i64 (Int.ofNat 0)))] 1 Bool.false)] 2 Bool.false), (Go.V.VV.sl [(Go.V.VV.lit (Go.Value.int Go.IntKind.i64 (Int.ofNat 12))), (Go.V.VV.lit (Go.Value.int Go.IntKind.i64 (Int.ofNat 13))), (Go.V.VV.lit (Go.Value.int Go.IntKind.i64 (Int.ofNat 2))), (Go.V.VV.lit (Go.Value.int Go.IntKind.i64 (Int.ofNat 3))), (Go.V.VV.lit (Go.Value.bool Bool.true)), (Go.V.VV.lit (Go.Value.int Go.IntKind.i64 (Int.ofNat 5))), (Go.V.VV.lit (Go.Value.int Go.IntKind.i64 (Int.ofNat 6))), (Go.V.VV.lit (Go.Value.int Go.IntKind.i64 (Int.ofNat 4))), (Go.V.VV.lit (Go.Value.int Go.IntKind.i64 (Int.ofNat 5))), (Go.V.VV.lit (Go.Value.bool Bool.false))] 2 Bool.false)])
def kT : VV := (Go.V.VV.agg [(Go.V.VV.lit (Go.Value.int Go.IntKind.i64 (Int.ofNat 4))), (Go.V.VV.lit (Go.Value.int Go.IntKind.i64 (Int.ofNat 2))), (Go.V.VV.lit (Go.Value.int Go.IntKind.i64 (Int.ofNat 1))), (Go.V.VV.lit (Go.Value.int Go.IntKind.i64 (Int.ofNat 1))), (Go.V.VV.lit (Go.Value.int Go.IntKind.i64 (Int.ofNat 100))), (Go.V.VV.lit (Go.Value.int Go.IntKind.i64 (Int.ofNat 100))), (Go.V.VV.sl [(Go.V.VV.lit (Go.Value.int Go.IntKind.i64 (Int.ofNat 0))), (Go.V.VV.sl [(Go.V.VV.lit (Go.Value.int Go.IntKind.i64 (Int.ofNat 3))), (Go.V.VV.lit (Go.Value.int Go.IntKind.i64 (Int.ofNat 2))), (Go.V.VV.lit (Go.Value.int Go.IntKind.i64 (Int.ofNat 1))), (Go.V.VV.lit (Go.Value.int Go.IntKind.i64 (Int.ofNat 0)))] 1 Bool.false)] 1 Bool.false), (Go.V.VV.lit (Go.Value.slice Option.none 0 0))])
def kAt46 : VV := (Go.V.VV.agg [(Go.V.VV.lit (Go.Value.int Go.IntKind.i64 (Int.ofNat 4))), (Go.V.VV.lit (Go.Value.int Go.IntKind.i64 (Int.ofNat 6)))])
def kAt41 : VV := (Go.V.VV.agg [(Go.V.VV.lit (Go.Value.int Go.IntKind.i64 (Int.ofNat 4))), (Go.V.VV.lit (Go.Value.int Go.IntKind.i64 (Int.ofNat 1)))])
def kAt201 : VV := (Go.V.VV.agg [(Go.V.VV.lit (Go.Value.int Go.IntKind.i64 (Int.ofNat 20))), (Go.V.VV.lit (Go.Value.int Go.IntKind.i64 (Int.ofNat 1)))])
def kAt166 : VV := (Go.V.VV.agg [(Go.V.VV.lit (Go.Value.int Go.IntKind.i64 (Int.ofNat 16))), (Go.V.VV.lit (Go.Value.int Go.IntKind.i64 (Int.ofNat 6)))])
def kAt106 : VV := (Go.V.VV.agg [(Go.V.VV.lit (Go.Value.int Go.IntKind.i64 (Int.ofNat 10))), (Go.V.VV.lit (Go.Value.int Go.IntKind.i64 (Int.ofNat 6)))])
def kSeen : VV := (Go.V.VV.tup [(Go.V.VV.lit (Go.Value.int Go.IntKind.i64 (Int.ofNat 2))), (Go.V.VV.lit (Go.Value.int Go.IntKind.i64 (Int.ofNat 0)))])
def kWhy : VV := (Go.V.VV.tup [(Go.V.VV.agg [(Go.V.VV.lit (Go.Value.int Go.IntKind.i64 (Int.ofNat 3))), (Go.V.VV.lit (Go.Value.int Go.IntKind.i64 (Int.ofNat 0)))]), (Go.V.VV.lit (Go.Value.int Go.IntKind.i64 (Int.ofNat 0)))])
def kLetters : VV := (Go.V.VV.tup [(Go.V.VV.sl [(Go.V.VV.lit (Go.Value.int Go.IntKind.i64 (Int.ofNat 2))), (Go.V.VV.lit (Go.Value.int Go.IntKind.i64 (Int.ofNat 2)))] 2 Bool.false), (Go.V.VV.lit (Go.Value.int Go.IntKind.i64 (Int.ofNat 0)))])
def kMelts : VV := (Go.V.VV.tup [(Go.V.VV.sl [(Go.V.VV.lit (Go.Value.int Go.IntKind.i64 (Int.ofNat 3)))] 1 Bool.false), (Go.V.VV.lit (Go.Value.int Go.IntKind.i64 (Int.ofNat 0)))])
def kHidden : VV := (Go.V.VV.tup [(Go.V.VV.sl [(Go.V.VV.lit (Go.Value.int Go.IntKind.i64 (Int.ofNat 0)))] 1 Bool.false), (Go.V.VV.lit (Go.Value.int Go.IntKind.i64 (Int.ofNat 0)))])
def kMany : VV := (Go.V.VV.tup [(Go.V.VV.lit (Go.Value.int Go.IntKind.i64 (Int.ofNat 3))), (Go.V.VV.lit (Go.Value.int Go.IntKind.i64 (Int.ofNat 3))), (Go.V.VV.lit (Go.Value.int Go.IntKind.i64 (Int.ofNat 0)))])
def kFarthest : VV := (Go.V.VV.tup [(Go.V.VV.agg [(Go.V.VV.lit (Go.Value.int Go.IntKind.i64 (Int.ofNat 0))), (Go.V.VV.lit (Go.Value.int Go.IntKind.i64 (Int.ofNat 2)))]), (Go.V.VV.lit (Go.Value.int Go.IntKind.i64 (Int.ofNat 0)))])
def kLeast : VV := (Go.V.VV.tup [(Go.V.VV.lit (Go.Value.int Go.IntKind.i64 (Int.ofNat 5))), (Go.V.VV.lit (Go.Value.int Go.IntKind.i64 (Int.ofNat 0)))])
def kLight : VV := (Go.V.VV.tup [(Go.V.VV.lit (Go.Value.int Go.IntKind.i64 (Int.ofNat 38))), (Go.V.VV.lit (Go.Value.int Go.IntKind.i64 (Int.ofNat 0)))])
def kHang : VV := (Go.V.VV.tup [(Go.V.VV.lit (Go.Value.int Go.IntKind.i64 (Int.ofNat 1))), (Go.V.VV.lit (Go.Value.int Go.IntKind.i64 (Int.ofNat 4))), (Go.V.VV.lit (Go.Value.int Go.IntKind.i64 (Int.ofNat 0)))])
def kRead : VV := (Go.V.VV.tup [(Go.V.VV.agg [(Go.V.VV.lit (Go.Value.int Go.IntKind.i64 (Int.ofNat 1))), (Go.V.VV.lit (Go.Value.int Go.IntKind.i64 (Int.ofNat 1))), (Go.V.VV.lit (Go.Value.int Go.IntKind.i64 (Int.ofNat 1))), (Go.V.VV.lit (Go.Value.int Go.IntKind.i64 (Int.ofNat 1))), (Go.V.VV.lit (Go.Value.int Go.IntKind.i64 (Int.ofNat 1))), (Go.V.VV.lit (Go.Value.int Go.IntKind.i64 (Int.ofNat 1))), (Go.V.VV.sl [(Go.V.VV.lit (Go.Value.int Go.IntKind.i64 (Int.ofNat 0))), (Go.V.VV.sl [(Go.V.VV.lit (Go.Value.int Go.IntKind.i64 (Int.ofNat 1))), (Go.V.VV.lit (Go.Value.int Go.IntKind.i64 (Int.ofNat 1))), (Go.V.VV.lit (Go.Value.int Go.IntKind.i64 (Int.ofNat 1))), (Go.V.VV.lit (Go.Value.int Go.IntKind.i64 (Int.ofNat 0)))] 1 Bool.false)] 1 Bool.false), (Go.V.VV.lit (Go.Value.slice Option.none 0 0))]), (Go.V.VV.lit (Go.Value.int Go.IntKind.i64 (Int.ofNat 0)))])
end Go.V
end
section
namespace Go.V
open Go Go.Proofs
theorem pS : VPure Tryz.prog G0 50 [] (.tree kS) := VPure.closedB hmix 1000 (by kernel_rfl)
theorem pT : VPure Tryz.prog G0 51 [] (.tree kT) := VPure.closedB hmix 1000 (by kernel_rfl)
theorem pAt46 : VPure Tryz.prog G0 49 [.lit (.int .i64 (4)), .lit (.int .i64 (6))] (.tree kAt46) := VPure.closedB hmix 1000 (by kernel_rfl)
theorem pAt41 : VPure Tryz.prog G0 49 [.lit (.int .i64 (4)), .lit (.int .i64 (1))] (.tree kAt41) := VPure.closedB hmix 1000 (by kernel_rfl)
theorem pAt201 : VPure Tryz.prog G0 49 [.lit (.int .i64 (20)), .lit (.int .i64 (1))] (.tree kAt201) := VPure.closedB hmix 1000 (by kernel_rfl)
theorem pAt166 : VPure Tryz.prog G0 49 [.lit (.int .i64 (16)), .lit (.int .i64 (6))] (.tree kAt166) := VPure.closedB hmix 1000 (by kernel_rfl)
theorem pAt106 : VPure Tryz.prog G0 49 [.lit (.int .i64 (10)), .lit (.int .i64 (6))] (.tree kAt106) := VPure.closedB hmix 1000 (by kernel_rfl)
theorem pSeen : VPure Tryz.prog G0 18 [kS, .lit (.int .i64 (0)), kAt46] (.tree kSeen) := VPure.closedB hmix 1000 (by kernel_rfl)
theorem pWhy : VPure Tryz.prog G0 26 [kS, .lit (.int .i64 (0)), kAt41] (.tree kWhy) := VPure.closedB hmix 1000 (by kernel_rfl)
theorem pLetters : VPure Tryz.prog G0 28 [kS, .lit (.int .i64 (0)), kAt46] (.tree kLetters) := VPure.closedB hmix 1000 (by kernel_rfl)
theorem pMelts : VPure Tryz.prog G0 29 [kS, .lit (.int .i64 (0)), kAt201] (.tree kMelts) := VPure.closedB hmix 1000 (by kernel_rfl)
theorem pHidden : VPure Tryz.prog G0 30 [kS, .lit (.int .i64 (0)), kAt166] (.tree kHidden) := VPure.closedB hmix 1000 (by kernel_rfl)
end Go.V
end
section
namespace Go.V
open Go Go.Proofs
theorem pMany : VPure Tryz.prog G0 36 [kT, .lit (.int .i64 (0))] (.tree kMany) := VPure.closedB hmix 1000 (by kernel_rfl)
theorem pFarthest : VPure Tryz.prog G0 37 [kT, .lit (.int .i64 (0))] (.tree kFarthest) := VPure.closedB hmix 1000 (by kernel_rfl)
theorem pLeast : VPure Tryz.prog G0 41 [kS, .lit (.int .i64 (0)), kAt41] (.tree kLeast) := VPure.closedB hmix 1000 (by kernel_rfl)
theorem pLight : VPure Tryz.prog G0 42 [kS, .lit (.int .i64 (0)), kAt106] (.tree kLight) := VPure.closedB hmix 1000 (by kernel_rfl)
end Go.V
end
section
namespace Go.V
open Go Go.Proofs
theorem pHang : VPure Tryz.prog G0 52 [kT, .lit (.int .i64 (0))] (.tree kHang) := VPure.closedB hmix 1000 (by kernel_rfl)
end Go.V
end
section
namespace Go.V
open Go Go.Proofs
theorem pRead : VPure Tryz.prog G0 53 [.lit (.string ⟨⟨[115, 105, 103, 104, 116, 32, 49, 32, 49, 32, 49, 32, 49, 32, 49, 32, 49, 10, 98, 111, 97, 114, 100, 32, 48, 10, 108, 101, 116, 116, 101, 114, 32, 49, 32, 49, 32, 49, 32, 48, 10, 101, 110, 100, 32, 48, 49, 57, 10]⟩⟩)] (.tree kRead) := VPure.closedB hmix 1000 (by kernel_rfl)
end Go.V
end
section
namespace Go.V
open Go Go.Proofs
def kTab : KTab := [
  (50, [], kS),
  (51, [], kT),
  (49, [.lit (.int .i64 (4)), .lit (.int .i64 (6))], kAt46),
  (49, [.lit (.int .i64 (4)), .lit (.int .i64 (1))], kAt41),
  (49, [.lit (.int .i64 (20)), .lit (.int .i64 (1))], kAt201),
  (49, [.lit (.int .i64 (16)), .lit (.int .i64 (6))], kAt166),
  (49, [.lit (.int .i64 (10)), .lit (.int .i64 (6))], kAt106),
  (18, [kS, .lit (.int .i64 (0)), kAt46], kSeen),
  (26, [kS, .lit (.int .i64 (0)), kAt41], kWhy),
  (28, [kS, .lit (.int .i64 (0)), kAt46], kLetters),
  (29, [kS, .lit (.int .i64 (0)), kAt201], kMelts),
  (30, [kS, .lit (.int .i64 (0)), kAt166], kHidden),
  (36, [kT, .lit (.int .i64 (0))], kMany),
  (37, [kT, .lit (.int .i64 (0))], kFarthest),
  (41, [kS, .lit (.int .i64 (0)), kAt41], kLeast),
  (42, [kS, .lit (.int .i64 (0)), kAt106], kLight),
  (52, [kT, .lit (.int .i64 (0))], kHang),
  (53, [.lit (.string ⟨⟨[115, 105, 103, 104, 116, 32, 49, 32, 49, 32, 49, 32, 49, 32, 49, 32, 49, 10, 98, 111, 97, 114, 100, 32, 48, 10, 108, 101, 116, 116, 101, 114, 32, 49, 32, 49, 32, 49, 32, 48, 10, 101, 110, 100, 32, 48, 49, 57, 10]⟩⟩)], kRead)]
theorem kTabOk : KTabOk Tryz.prog G0 kTab := ⟨⟨by kernel_rfl, pS⟩, ⟨⟨by kernel_rfl, pT⟩, ⟨⟨by kernel_rfl, pAt46⟩, ⟨⟨by kernel_rfl, pAt41⟩, ⟨⟨by kernel_rfl, pAt201⟩, ⟨⟨by kernel_rfl, pAt166⟩, ⟨⟨by kernel_rfl, pAt106⟩, ⟨⟨by kernel_rfl, pSeen⟩, ⟨⟨by kernel_rfl, pWhy⟩, ⟨⟨by kernel_rfl, pLetters⟩, ⟨⟨by kernel_rfl, pMelts⟩, ⟨⟨by kernel_rfl, pHidden⟩, ⟨⟨by kernel_rfl, pMany⟩, ⟨⟨by kernel_rfl, pFarthest⟩, ⟨⟨by kernel_rfl, pLeast⟩, ⟨⟨by kernel_rfl, pLight⟩, ⟨⟨by kernel_rfl, pHang⟩, ⟨⟨by kernel_rfl, pRead⟩, trivial⟩⟩⟩⟩⟩⟩⟩⟩⟩⟩⟩⟩⟩⟩⟩⟩⟩⟩
theorem pKnown : VPure Tryz.prog G0 16 [] (.tree (.lit (.bool true))) := VPure.closedT hmix kTabOk 1000 (by kernel_rfl)
#print axioms pKnown
end Go.V
end
section
namespace Go.V
open Go Go.Proofs
def g_law02_known : Option Bool := some true
theorem g_law02_known_ok (R : Bool) (h : g_law02_known = some R) : VPure Tryz.prog G0 16 [] (.tree (.lit (.bool R))) := by
 cases h
 exact pKnown
end Go.V
end
