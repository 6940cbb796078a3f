/- Part of a proof: a logic of values by content, lifted functions, what follows. -/
import Derived.Test.YtdhkepdioiicfaaGreatDoorTbf
import Derived.Test.YtdhkepdioiicfaaGreatDoorTbi
import Derived.Test.YtdhkepdioiicfaaGreatDoorTbk
import Derived.Test.YtdhkepdioiicfaaGreatDoorTbl
import Derived.Test.YtdhkepdioiicfaaGreatDoorTbg
import Derived.Test.YtdhkepdioiicfaaGreatDoorTbe
import Derived.Test.YtdhkepdioiicfaaGreatDoorTbj
set_option linter.all false
set_option maxRecDepth 4000
set_option maxHeartbeats 4000000
section
namespace Go.V
open Go Go.Proofs
def g_ref02_Hidden_l0 (x1_b : GSightBoard) (x2_p : GSightPlace) : List GSightBlock → Int → (List Int) → Option (LOut (List Int) ((List Int)))
 | [], c0_8, c0_7 => some (.go c0_7)
 | e0 :: p0, c0_8, c0_7 => Option.bind (g_ref02_Blocks e0 x1_b.At x2_p) (fun r1 => cond (r1) (cond (roomOk 8 (List.length (c0_7 ++ [c0_8]))) (g_ref02_Hidden_l0 x1_b x2_p p0 (c0_8 + 1) (c0_7 ++ [c0_8])) none) (g_ref02_Hidden_l0 x1_b x2_p p0 (c0_8 + 1) c0_7))
def g_ref02_Hidden (x0_s : GSightStreet) (x1_b : GSightBoard) (x2_p : GSightPlace) : Option (List Int) := cond (lenOk x0_s.Blocks) (lbind (g_ref02_Hidden_l0 x1_b x2_p x0_s.Blocks 0 ([] : List Int)) (fun r3 => some r3) (fun c2 => some c2) (fun _ _ => none)) none
theorem g_ref02_Hidden_ok (x0_s : GSightStreet) (x1_b : GSightBoard) (x2_p : GSightPlace) (R : List Int) (h : g_ref02_Hidden x0_s x1_b x2_p = some R) : VPure Tryz.prog G0 103 [.agg (cGSightStreet x0_s), .agg (cGSightBoard x1_b), .agg (cGSightPlace x2_p)] (.tree (.sl (cellsL eI R) (List.length R) false)) := by
 refine VPure.runR mixed Tryz.call103 Tryz.func103 rfl (by simp [Tryz.ntmps103]; kernel_rfl) ?_
 obtain ⟨KF, h, kF, kN⟩ := fun_intro h
 simp only [g_ref02_Hidden] at h
 cases g5 : (lenOk x0_s.Blocks)
 ·simp only [g5, hs] at h
  exact absurd h kN
 simp only [g5, hs] at h
 simp only [vz, tyf, g5, nm, seval]
 obtain ⟨K4, h, kR4, kG4, kB4, kN4⟩ := lbind_intro h kN
 obtain ⟨f4, hf4, h⟩ := call3 h
 obtain ⟨I4, hI4⟩ : ∃ I : Nat → St → Prop, I = (fun m st => ∃ (p4 : List GSightBlock) (c4_8 : Int) (c4_7 : List Int) (y4_0 : VV), m = List.length p4 ∧ 0 ≤ c4_8 ∧ List.drop (Int.toNat c4_8) x0_s.Blocks = p4 ∧ st.df = [] ∧ 6 ≤ st.nx ∧ st.H 0 = some (.cells (some 27) (cGSightStreet x0_s)) ∧ st.H 1 = some (.cells (some 40) (cGSightBoard x1_b)) ∧ st.H 2 = some (.cells (some 34) (cGSightPlace x2_p)) ∧ st.tm 3 = .ptr 0 0 ∧ st.tm 4 = .ptr 1 0 ∧ st.tm 5 = .ptr 2 0 ∧ st.tm 7 = y4_0 ∧ st.tm 8 = .lit (.int .i64 c4_8) ∧ ((∃ (β : Nat) (el : Option TypeId), y4_0 = .ref β 0 (List.length c4_7) 1 (List.length c4_7) ∧ β < st.nx ∧ β ≠ 0 ∧ β ≠ 1 ∧ β ≠ 2 ∧ st.H β = some (.cells el (cellsL eI c4_7))) ∨ (y4_0 = .lit (.slice none 0 0) ∧ c4_7 = [])) ∧ K4 (f4 p4 c4_8 c4_7)) := ⟨_, rfl⟩
 refine loopK mixed (by kernel_rfl) I4 (List.length x0_s.Blocks) (by rw [hI4]; refine ⟨x0_s.Blocks, 0, ([] : List Int), .lit (.slice none 0 0), rfl, Int.le_refl _, rfl, rfl, (show 6 ≤ 6 by omega), ?_, ?_, ?_, ?_, ?_, ?_, ?_, ?_, Or.inr ⟨rfl, rfl⟩, h⟩ <;> first | (simp only [ua, nm, seval] <;> rfl) | rfl) ?_
 rintro m ⟨tm, H, nx4, df⟩ hinv
 rw [hI4] at hinv
 obtain ⟨p4, c4_8, c4_7, y4_0, rfl, hi4, hp4, hdf, hn4, H6, H7, H8, e9, e10, e11, e12, e13, ow4_0, h⟩ := hinv
 simp only at hdf hn4 H6 H7 H8 e9 e10 e11 e12 e13 ow4_0
 have n14 := base_ne0 (m := 6) (b := nx4) (by omega)
 subst hdf hf4
 rcases ow4_0 with ⟨b4_0, el4_0, rfl, lq16, lq17, lq18, lq19, H15⟩ | ⟨rfl, rfl⟩
 ·have q16 := own_lt lq16
  have q17 := ne_f lq17
  have q18 := ne_f lq18
  have q19 := ne_f lq19
  cases p4 with
  | nil =>
   have d20 : (decide (c4_8 < (List.length x0_s.Blocks : Int))) = false := not_lt_of_drop hi4 hp4
   simp only [g_ref02_Hidden_l0, hs, reduceCtorEq] at h
   replace h := kG4 _ h
   try dsimp only at h
   try simp only [hs] at h
   try simp only [vz, tyf, g5, n14, e9, e10, e11, e12, e13, H6, H7, H8, q16, H15, q17, q18, q19, d20, nm, seval]
   refine opd_ret (x := (.ref b4_0 0 (List.length c4_7) 1 (List.length c4_7))) (by first | (simp only [Tryz.results103, resV, resL, resV1, tgt_ptr, tgt_tp, uw, cr, tyf, g5, n14, H6, H7, H8, q16, H15, q17, q18, q19, d20, nm, seval] <;> rfl) | rfl) ?_
   obtain rfl := kF _ h
   refine rr_tree ?_ ?_
   ·simp only [tre, tytre, Bool.and_self]
   ·first | (simp only [outV, uw, showV_ref, cr, tyf, nrm, tynrm, g5, n14, e9, e10, e11, e12, e13, H6, H7, H8, q16, H15, q17, q18, q19, d20, nm, seval] <;> rfl) | rfl
  | cons e4 p4 =>
   have d21 : (decide (c4_8 < (List.length x0_s.Blocks : Int))) = true := lt_of_drop hi4 hp4
   have o23 := getI_of_drop hi4 hp4
   have w22 := wrap_next hi4 hp4 g5
   simp only [g_ref02_Hidden_l0, hs, reduceCtorEq] at h
   simp only [vz, tyf, g5, n14, e9, e10, e11, e12, e13, H6, H7, H8, q16, H15, q17, q18, q19, d21, (ix25 o23), w22, nm, seval]
   refine cwp_drwQF (fun tm => tm 3 = .ptr 0 0 ∧ tm 4 = .ptr 1 0 ∧ tm 5 = .ptr 2 0 ∧ tm 7 = .ref b4_0 0 (List.length c4_7) 1 (List.length c4_7) ∧ tm 8 = .lit (.int .i64 c4_8) ∧ True) (by refine ⟨e9, e10, e11, e12, e13, trivial⟩ <;> first | (simp only [ua, n14, e9, e10, e11, e12, e13, H6, H7, H8, q16, H15, q17, q18, q19, d21, w22, nm, seval] <;> rfl) | rfl) ?_
   rintro tm ⟨e24, e25, e26, e27, e28, _⟩
   have b29 := And.intro g5 (And.intro n14 (And.intro H6 (And.intro H7 (And.intro H8 (And.intro q16 (And.intro H15 (And.intro q17 (And.intro q18 (And.intro q19 (And.intro d21 w22))))))))))
   rcases o31 : (g_ref02_Blocks e4 x1_b.At x2_p) with _ | r30
   ·simp only [o31, hs] at h
    exact absurd h kN4
   simp only [o31, hs] at h
   simp only [vz, tyf, b29, (ix25 o23), e24, e25, e26, e27, e28, nm, seval]
   refine dktree (args0 := [.agg (cGSightBlock e4), .lit (.int .i64 x1_b.At), .agg (cGSightPlace x2_p)]) (by first | (simp only [nrm, tynrm] <;> rfl) | rfl) (by simp only [tre, tytre, Bool.and_self]) (g_ref02_Blocks_ok _ _ _ _ o31) ?_
   refine fin_cut (fun tm => tm 3 = .ptr 0 0 ∧ tm 4 = .ptr 1 0 ∧ tm 5 = .ptr 2 0 ∧ tm 7 = .ref b4_0 0 (List.length c4_7) 1 (List.length c4_7) ∧ tm 8 = .lit (.int .i64 c4_8) ∧ tm 24 = .lit (.bool r30) ∧ True) (by refine ⟨e24, e25, e26, e27, e28, ?_, trivial⟩ <;> first | (simp only [ua, b29, e24, e25, e26, e27, e28, nm, seval] <;> rfl) | rfl) ?_
   rintro tm ⟨e32, e33, e34, e35, e36, e37, _⟩
   cases d38 : (r30)
   ·simp only [d38, hs] at h
    simp only [vz, tyf, b29, (ix25 o23), e32, e33, e34, e35, e36, e37, d38, nm, seval]
    exact ⟨List.length p4, Nat.lt_succ_self _, by rw [hI4]; refine ⟨p4, c4_8 + 1, c4_7, .ref b4_0 0 (List.length c4_7) 1 (List.length c4_7), rfl, Int.le_trans hi4 (Int.le_add_one (Int.le_refl _)), drop_next hi4 hp4, rfl, (show 6 ≤ nx4 + 17 by omega), ?_, ?_, ?_, e32, e33, e34, ?_, ?_, Or.inl ⟨b4_0, el4_0, rfl, (by first | omega | (simp only [nm, seval]; omega)), (by first | omega | (intro hh; simp only [b29, reduceCtorEq] at hh)), (by first | omega | (intro hh; simp only [b29, reduceCtorEq] at hh)), (by first | omega | (intro hh; simp only [b29, reduceCtorEq] at hh)), ?_⟩, h⟩ <;> first | (simp only [ua, b29, e32, e33, e34, e35, e36, e37, d38, nm, seval] <;> rfl) | rfl⟩
   simp only [d38, hs] at h
   cases g39 : (roomOk 8 (List.length (c4_7 ++ [c4_8])))
   ·simp only [g39, hs] at h
    exact absurd h kN4
   simp only [g39, hs] at h
   simp only [vz, tyf, b29, (ix25 o23), e32, e33, e34, e35, e36, e37, d38, g39, nm, seval]
   refine k_app (w := 1) (enc := eI) (xs := c4_7) (ys := ([c4_8])) (el := el4_0) (el2 := (some 3)) (fun _ => rfl) lf78 ao78 Tryz.underlying78 (by first | rfl | assumption | (simp only [updH_apply, without_apply, et78, b29, nm, seval] <;> rfl) | (simp only [updH_apply, without_apply, cellsL_cons, cellsL_nil, mV_app, mV_app0, tyf, b29, (ix25 o23), e32, e33, e34, e35, e36, e37, d38, g39, nm, seval]; done)) (by first | rfl | assumption | (simp only [updH_apply, without_apply, et78, b29, nm, seval] <;> rfl) | (simp only [updH_apply, without_apply, cellsL_cons, cellsL_nil, mV_app, mV_app0, tyf, b29, (ix25 o23), e32, e33, e34, e35, e36, e37, d38, g39, nm, seval]; done)) (Nat.zero_lt_succ _) g39 ?_
   simp only [vz, tyf, b29, (ix25 o23), e32, e33, e34, e35, e36, e37, d38, g39, nm, seval]
   exact ⟨List.length p4, Nat.lt_succ_self _, by rw [hI4]; refine ⟨p4, c4_8 + 1, (c4_7 ++ [c4_8]), .ref (nx4 + 17) 0 (List.length (c4_7 ++ [c4_8])) 1 (List.length (c4_7 ++ [c4_8])), rfl, Int.le_trans hi4 (Int.le_add_one (Int.le_refl _)), drop_next hi4 hp4, rfl, (show 6 ≤ nx4 + 22 by omega), ?_, ?_, ?_, e32, e33, e34, ?_, ?_, Or.inl ⟨nx4 + 17, (sameEl el4_0 3), rfl, (by first | omega | (simp only [nm, seval]; omega)), (by first | omega | (intro hh; simp only [b29, reduceCtorEq] at hh)), (by first | omega | (intro hh; simp only [b29, reduceCtorEq] at hh)), (by first | omega | (intro hh; simp only [b29, reduceCtorEq] at hh)), ?_⟩, h⟩ <;> first | (simp only [ua, b29, e32, e33, e34, e35, e36, e37, d38, nm, seval] <;> rfl) | rfl⟩
 ·cases p4 with
  | nil =>
   have d40 : (decide (c4_8 < (List.length x0_s.Blocks : Int))) = false := not_lt_of_drop hi4 hp4
   simp only [g_ref02_Hidden_l0, hs, reduceCtorEq] at h
   replace h := kG4 _ h
   try dsimp only at h
   try simp only [hs] at h
   try simp only [vz, tyf, g5, n14, e9, e10, e11, e12, e13, H6, H7, H8, d40, nm, seval]
   refine opd_ret (x := (.lit (.slice none 0 0))) (by first | (simp only [Tryz.results103, resV, resL, resV1, tgt_ptr, tgt_tp, uw, cr, tyf, g5, n14, H6, H7, H8, d40, nm, seval] <;> rfl) | rfl) ?_
   obtain rfl := kF _ h
   refine rr_tree ?_ ?_
   ·simp only [tre, tytre, Bool.and_self]
   ·first | (simp only [outV, uw, showV_ref, cr, tyf, nrm, tynrm, g5, n14, e9, e10, e11, e12, e13, H6, H7, H8, d40, nm, seval] <;> rfl) | rfl
  | cons e4 p4 =>
   have d41 : (decide (c4_8 < (List.length x0_s.Blocks : Int))) = true := lt_of_drop hi4 hp4
   have o43 := getI_of_drop hi4 hp4
   have w42 := wrap_next hi4 hp4 g5
   simp only [g_ref02_Hidden_l0, hs, reduceCtorEq] at h
   simp only [vz, tyf, g5, n14, e9, e10, e11, e12, e13, H6, H7, H8, d41, (ix25 o43), w42, nm, seval]
   refine cwp_drwQF (fun tm => tm 3 = .ptr 0 0 ∧ tm 4 = .ptr 1 0 ∧ tm 5 = .ptr 2 0 ∧ tm 7 = .lit (.slice none 0 0) ∧ tm 8 = .lit (.int .i64 c4_8) ∧ True) (by refine ⟨e9, e10, e11, e12, e13, trivial⟩ <;> first | (simp only [ua, n14, e9, e10, e11, e12, e13, H6, H7, H8, d41, w42, nm, seval] <;> rfl) | rfl) ?_
   rintro tm ⟨e44, e45, e46, e47, e48, _⟩
   have b49 := And.intro g5 (And.intro n14 (And.intro H6 (And.intro H7 (And.intro H8 (And.intro d41 w42)))))
   rcases o51 : (g_ref02_Blocks e4 x1_b.At x2_p) with _ | r50
   ·simp only [o51, hs] at h
    exact absurd h kN4
   simp only [o51, hs] at h
   simp only [vz, tyf, b49, (ix25 o43), e44, e45, e46, e47, e48, nm, seval]
   refine dktree (args0 := [.agg (cGSightBlock e4), .lit (.int .i64 x1_b.At), .agg (cGSightPlace x2_p)]) (by first | (simp only [nrm, tynrm] <;> rfl) | rfl) (by simp only [tre, tytre, Bool.and_self]) (g_ref02_Blocks_ok _ _ _ _ o51) ?_
   refine fin_cut (fun tm => tm 3 = .ptr 0 0 ∧ tm 4 = .ptr 1 0 ∧ tm 5 = .ptr 2 0 ∧ tm 7 = .lit (.slice none 0 0) ∧ tm 8 = .lit (.int .i64 c4_8) ∧ tm 24 = .lit (.bool r50) ∧ True) (by refine ⟨e44, e45, e46, e47, e48, ?_, trivial⟩ <;> first | (simp only [ua, b49, e44, e45, e46, e47, e48, nm, seval] <;> rfl) | rfl) ?_
   rintro tm ⟨e52, e53, e54, e55, e56, e57, _⟩
   cases d58 : (r50)
   ·simp only [d58, hs] at h
    simp only [vz, tyf, b49, (ix25 o43), e52, e53, e54, e55, e56, e57, d58, nm, seval]
    exact ⟨List.length p4, Nat.lt_succ_self _, by rw [hI4]; refine ⟨p4, c4_8 + 1, ([] : List Int), .lit (.slice none 0 0), rfl, Int.le_trans hi4 (Int.le_add_one (Int.le_refl _)), drop_next hi4 hp4, rfl, (show 6 ≤ nx4 + 17 by omega), ?_, ?_, ?_, e52, e53, e54, ?_, ?_, Or.inr ⟨rfl, rfl⟩, h⟩ <;> first | (simp only [ua, b49, e52, e53, e54, e55, e56, e57, d58, nm, seval] <;> rfl) | rfl⟩
   simp only [d58, hs] at h
   cases g59 : (roomOk 8 (List.length (([] : List Int) ++ [c4_8])))
   ·simp only [g59, hs] at h
    exact absurd h kN4
   simp only [g59, hs] at h
   simp only [vz, tyf, b49, (ix25 o43), e52, e53, e54, e55, e56, e57, d58, g59, nm, seval]
   refine k_appN (w := 1) (enc := eI) (ys := ([c4_8])) (el2 := (some 3)) (fun _ => rfl) lf78 ao78 Tryz.underlying78 (by first | rfl | assumption | (simp only [updH_apply, without_apply, et78, b49, nm, seval] <;> rfl) | (simp only [updH_apply, without_apply, cellsL_cons, cellsL_nil, mV_app, mV_app0, tyf, b49, (ix25 o43), e52, e53, e54, e55, e56, e57, d58, g59, nm, seval]; done)) (Nat.zero_lt_succ _) g59 ?_
   simp only [vz, tyf, b49, (ix25 o43), e52, e53, e54, e55, e56, e57, d58, g59, nm, seval]
   exact ⟨List.length p4, Nat.lt_succ_self _, by rw [hI4]; refine ⟨p4, c4_8 + 1, (([] : List Int) ++ [c4_8]), .ref (nx4 + 17) 0 (List.length (([] : List Int) ++ [c4_8])) 1 (List.length (([] : List Int) ++ [c4_8])), rfl, Int.le_trans hi4 (Int.le_add_one (Int.le_refl _)), drop_next hi4 hp4, rfl, (show 6 ≤ nx4 + 22 by omega), ?_, ?_, ?_, e52, e53, e54, ?_, ?_, Or.inl ⟨nx4 + 17, (some 3), rfl, (by first | omega | (simp only [nm, seval]; omega)), (by first | omega | (intro hh; simp only [b49, reduceCtorEq] at hh)), (by first | omega | (intro hh; simp only [b49, reduceCtorEq] at hh)), (by first | omega | (intro hh; simp only [b49, reduceCtorEq] at hh)), ?_⟩, h⟩ <;> first | (simp only [ua, b49, e52, e53, e54, e55, e56, e57, d58, nm, seval] <;> rfl) | rfl⟩
end Go.V
end
section
namespace Go.V
open Go Go.Proofs
def g_ref02_Surely (x0_s : GSightStreet) (x1_b : GSightBoard) (x2_p : GSightPlace) : Option (Bool) := Option.bind (g_ref02_Clear x1_b x2_p (IntKind.i64.wrap (x0_s.Eye.Low * x0_s.Light.Low))) (fun r1 => cond (r1) (Option.bind (g_ref02_Hidden x0_s x1_b x2_p) (fun r2 => some ((List.length r2 : Int) == 0))) (some false))
theorem g_ref02_Surely_ok (x0_s : GSightStreet) (x1_b : GSightBoard) (x2_p : GSightPlace) (R : Bool) (h : g_ref02_Surely x0_s x1_b x2_p = some R) : VPure Tryz.prog G0 71 [.agg (cGSightStreet x0_s), .agg (cGSightBoard x1_b), .agg (cGSightPlace x2_p)] (.tree (.lit (.bool R))) := by
 refine VPure.runR mixed Tryz.call71 Tryz.func71 rfl (by simp [Tryz.ntmps71]; kernel_rfl) ?_
 obtain ⟨KF, h, kF, kN⟩ := fun_intro h
 simp only [g_ref02_Surely] at h
 rcases o4 : (g_ref02_Clear x1_b x2_p (IntKind.i64.wrap (x0_s.Eye.Low * x0_s.Light.Low))) with _ | r3
 ·simp only [o4, hs] at h
  exact absurd h kN
 simp only [o4, hs] at h
 simp only [vz, tyf, nm, seval]
 refine ktree (args0 := [.agg (cGSightBoard x1_b), .agg (cGSightPlace x2_p), .lit (.int .i64 (IntKind.i64.wrap (x0_s.Eye.Low * x0_s.Light.Low)))]) (by first | (simp only [nrm, tynrm] <;> rfl) | rfl) (by simp only [tre, tytre, Bool.and_self]) (g_ref02_Clear_ok _ _ _ _ o4) ?_
 refine fin_cut (fun tm => tm 3 = .ptr 0 0 ∧ tm 4 = .ptr 1 0 ∧ tm 5 = .ptr 2 0 ∧ tm 16 = .lit (.bool r3) ∧ True) (by refine ⟨?_, ?_, ?_, ?_, trivial⟩ <;> first | (simp only [ua, nm, seval] <;> rfl) | rfl) ?_
 rintro tm ⟨e5, e6, e7, e8, _⟩
 cases d9 : (r3)
 ·simp only [d9, hs] at h
  try simp only [vz, tyf, e5, e6, e7, e8, d9, nm, seval]
  obtain rfl := kF _ h
  exact opd_bool Tryz.results71 rfl
 simp only [d9, hs] at h
 rcases o11 : (g_ref02_Hidden x0_s x1_b x2_p) with _ | r10
 ·simp only [o11, hs] at h
  exact absurd h kN
 simp only [o11, hs] at h
 simp only [vz, tyf, e5, e6, e7, e8, d9, nm, seval]
 refine ktree (args0 := [.agg (cGSightStreet x0_s), .agg (cGSightBoard x1_b), .agg (cGSightPlace x2_p)]) (by first | (simp only [nrm, tynrm] <;> rfl) | rfl) (by simp only [tre, tytre, Bool.and_self]) (g_ref02_Hidden_ok _ _ _ _ o11) ?_
 refine fin_cut (fun tm => tm 17 = .lit (.bool true) ∧ tm 21 = .sl (cellsL eI r10) (List.length r10) false ∧ True) (by refine ⟨?_, ?_, trivial⟩ <;> first | (simp only [ua, e5, e6, e7, e8, d9, nm, seval] <;> rfl) | rfl) ?_
 rintro tm ⟨e12, e13, _⟩
 try simp only [vz, tyf, d9, e12, e13, nm, seval]
 obtain rfl := kF _ h
 exact opd_bool Tryz.results71 rfl
end Go.V
end
section
namespace Go.V
open Go Go.Proofs
def g_ref02_May_l0 (x0_s : GSightStreet) : List Int → Int → Option (LOut (Bool) (Unit))
 | [], c0_8 => some (.go ())
 | e0 :: p0, c0_8 => Option.bind (getI x0_s.Blocks e0) (fun x2 => cond (x2.Sure) (some (.ret false)) (g_ref02_May_l0 x0_s p0 (c0_8 + 1)))
def g_ref02_May (x0_s : GSightStreet) (x1_b : GSightBoard) (x2_p : GSightPlace) : Option (Bool) := Option.bind (g_ref02_Hidden x0_s x1_b x2_p) (fun r1 => cond (lenOk r1) (lbind (g_ref02_May_l0 x0_s r1 0) (fun r5 => some r5) (fun c3 => Option.bind (g_ref02_Clear x1_b x2_p (IntKind.i64.wrap (x0_s.Eye.High * x0_s.Light.High))) (fun r4 => some r4)) (fun _ _ => none)) none)
end Go.V
end
section
namespace Go.V
open Go Go.Proofs
def g_ref02_word (x0_surely : Bool) (x1_may : Bool) : Option (Int) := cond (x0_surely) (some 3) (cond (x1_may) (some 2) (some 1))
end Go.V
end
section
namespace Go.V
open Go Go.Proofs
def g_ref02_Seen (x0_s : GSightStreet) (x1_b : GSightBoard) (x2_p : GSightPlace) : Option (Int) := Option.bind (g_ref02_Surely x0_s x1_b x2_p) (fun r1 => Option.bind (g_ref02_May x0_s x1_b x2_p) (fun r2 => Option.bind (g_ref02_word r1 r2) (fun r3 => some r3)))
end Go.V
end
section
namespace Go.V
open Go
def faultO (k : Int) (o : Option Int) : Option (LOut (GSightFault × Bool) Unit) := match o with | none => some (.go ()) | some i => some (.ret (⟨k, i⟩, true))
section
variable (v : Gsightview) (hp : PG v.board.At v.SightPlace) (hw : PW v.power)
include hp hw
theorem ff_l0 : ∀ (p : List GSightBlock) (c : Int), (∀ k ∈ p, BK k) → g_sight_view_firstFault_l0 v p c = faultO 1 (fnd (behB v.board.At v.SightPlace) p c)
 | [], _, _ => rfl
 | e :: p, c, h => by
  simp only [g_sight_view_firstFault_l0, isBehind_eq v e hp (h e (List.mem_cons_self ..)), Option.bind_some, g_sight_must, fnd]
  cases behB v.board.At v.SightPlace e with
  | true => rfl
  | false => exact ff_l0 p (c + 1) (fun k hk => h k (List.mem_cons_of_mem _ hk))
theorem ff_l1 : ∀ (p : List GSightLetter) (c : Int), 0 ≤ c → v.board.Letters.drop c.toNat = p → (∀ l ∈ p, BL l) → g_sight_view_firstFault_l1 v p c = faultO 2 (fnd (fun l => !tallB v.power v.board.At v.SightPlace l) p c)
 | [], _, _, _, _ => rfl
 | e :: p, c, h0, hd, h => by
  simp only [g_sight_view_firstFault_l1, isTall_eq v c e hp hw (h e (List.mem_cons_self ..)) (getI_of_drop h0 hd), Option.bind_some, g_sight_must, fnd]
  cases tallB v.power v.board.At v.SightPlace e with
  | false => rfl
  | true => exact ff_l1 p (c + 1) (by omega) (drop_next h0 hd) (fun k hk => h k (List.mem_cons_of_mem _ hk))
theorem ff_l2 : ∀ (p : List GSightLetter) (c : Int), 0 ≤ c → v.board.Letters.drop c.toNat = p → (∀ l ∈ p, BL l) → g_sight_view_firstFault_l2 v p c = faultO 3 (fnd (fun l => !broadB v.power v.board.At v.SightPlace l) p c)
 | [], _, _, _, _ => rfl
 | e :: p, c, h0, hd, h => by
  simp only [g_sight_view_firstFault_l2, isBroad_eq v c e hp hw (h e (List.mem_cons_self ..)) (getI_of_drop h0 hd), Option.bind_some, g_sight_must, fnd]
  cases broadB v.power v.board.At v.SightPlace e with
  | false => rfl
  | true => exact ff_l2 p (c + 1) (by omega) (drop_next h0 hd) (fun k hk => h k (List.mem_cons_of_mem _ hk))
theorem ff_l3 : ∀ (p : List GSightLetter) (c : Int), 0 ≤ c → v.board.Letters.drop c.toNat = p → (∀ l ∈ p, BL l) → g_sight_view_firstFault_l3 v p c = faultO 4 (fnd (fun l => !thickB v.power v.board.At v.SightPlace l) p c)
 | [], _, _, _, _ => rfl
 | e :: p, c, h0, hd, h => by
  simp only [g_sight_view_firstFault_l3, isThick_eq v c e hp hw (h e (List.mem_cons_self ..)) (getI_of_drop h0 hd), Option.bind_some, g_sight_must, fnd]
  cases thickB v.power v.board.At v.SightPlace e with
  | false => rfl
  | true => exact ff_l3 p (c + 1) (by omega) (drop_next h0 hd) (fun k hk => h k (List.mem_cons_of_mem _ hk))
theorem ff_l4 : ∀ (k : Nat) (c : Int), 0 ≤ c → c + k ≤ v.board.Letters.length → (∀ l ∈ v.board.Letters, BL l) → g_sight_view_firstFault_l4 v k c = faultO 5 (fnd (fun l => !apartB v.power v.board.At v.SightPlace l) ((v.board.Letters.drop c.toNat).take k) c)
 | 0, _, _, _, _ => by simp only [g_sight_view_firstFault_l4, List.take_zero, fnd, faultO]
 | k + 1, c, h0, hk, h => by
  obtain ⟨e, he, hm⟩ := getI_some (xs := v.board.Letters) (i := c) h0 (by omega)
  have hd := (getI_drop he).2.2
  have hn : c.toNat + 1 = (c + 1).toNat := by omega
  rw [hd, List.take_succ_cons]
  simp only [g_sight_view_firstFault_l4, isApart_eq v c e hp hw (h e hm) he, Option.bind_some, g_sight_must, fnd, hn]
  cases apartB v.power v.board.At v.SightPlace e with
  | false => rfl
  | true => exact ff_l4 k (c + 1) (by omega) (by omega) h
end
def whyF (w a : Int) (p : GSightPlace) (ks : List GSightBlock) (ls : List GSightLetter) : Option GSightFault :=
 match fnd (behB a p) ks 0 with
 | some i => some ⟨1, i⟩
 | none => match fnd (fun l => !tallB w a p l) ls 0 with
  | some i => some ⟨2, i⟩
  | none => match fnd (fun l => !broadB w a p l) ls 0 with
   | some i => some ⟨3, i⟩
   | none => match fnd (fun l => !thickB w a p l) ls 0 with
    | some i => some ⟨4, i⟩
    | none => match fnd (fun l => !apartB w a p l) (ls.take (ls.length - 1)) 0 with
     | some i => some ⟨5, i⟩
     | none => none
def whyP (o : Option GSightFault) : GSightFault × Bool := match o with | some f => (f, true) | none => (⟨0, 0⟩, false)
theorem firstFault_eq (v : Gsightview) (hp : PG v.board.At v.SightPlace) (hw : PW v.power) (hl : ∀ l ∈ v.board.Letters, BL l) (hn : 1 ≤ v.board.Letters.length) (hn2 : v.board.Letters.length ≤ 5) (hk : ∀ k ∈ v.SightStreet.Blocks, BK k) (hb : v.SightStreet.Blocks.length ≤ 4) :
  g_sight_view_firstFault v = some (whyP (whyF v.power v.board.At v.SightPlace v.SightStreet.Blocks v.board.Letters)) := by
 have l1 : lenOk v.SightStreet.Blocks = true := lenOk_of (by omega)
 have l2 : lenOk v.board.Letters = true := lenOk_of (by omega)
 have w1 : IntKind.i64.wrap ((v.board.Letters.length : Int) - 1) = (v.board.Letters.length : Int) - 1 := wrap_eq (by omega) (by omega)
 have b1 : boundOk ((v.board.Letters.length : Int) - 1) = true := by unfold boundOk; exact decide_eq_true (by omega)
 have t1 : (((v.board.Letters.length : Int) - 1) - 0).toNat = v.board.Letters.length - 1 := by omega
 simp only [g_sight_view_firstFault, l1, l2, cond_true, ff_l0 v hp hw _ _ hk, ff_l1 v hp hw v.board.Letters 0 (by omega) rfl hl, ff_l2 v hp hw v.board.Letters 0 (by omega) rfl hl, ff_l3 v hp hw v.board.Letters 0 (by omega) rfl hl, w1, b1, t1, ff_l4 v hp hw (v.board.Letters.length - 1) 0 (by omega) (by omega) hl, whyF]
 cases fnd (behB v.board.At v.SightPlace) v.SightStreet.Blocks 0 with
 | some i => rfl
 | none =>
  simp only [faultO, lbind_go]
  cases fnd (fun l => !tallB v.power v.board.At v.SightPlace l) v.board.Letters 0 with
  | some i => rfl
  | none =>
   simp only [lbind_go]
   cases fnd (fun l => !broadB v.power v.board.At v.SightPlace l) v.board.Letters 0 with
   | some i => rfl
   | none =>
    simp only [lbind_go]
    cases fnd (fun l => !thickB v.power v.board.At v.SightPlace l) v.board.Letters 0 with
    | some i => rfl
    | none =>
     simp only [lbind_go]
     have e : List.drop (Int.toNat 0) v.board.Letters = v.board.Letters := rfl
     rw [e]
     cases fnd (fun l => !apartB v.power v.board.At v.SightPlace l) (v.board.Letters.take (v.board.Letters.length - 1)) 0 with
     | some i => rfl
     | none => rfl
def clearB (w a : Int) (p : GSightPlace) : List GSightLetter → Bool
 | [] => true
 | [e] => legB w a p e
 | e :: e' :: ls => legB w a p e && (apartB w a p e && clearB w a p (e' :: ls))
theorem clear_iff {w a : Int} {p : GSightPlace} : ∀ (ls : List GSightLetter), clearB w a p ls = true ↔ (∀ l ∈ ls, legB w a p l = true) ∧ ∀ l ∈ ls.take (ls.length - 1), apartB w a p l = true
 | [] => by simp [clearB]
 | [e] => by simp [clearB]
 | e :: e' :: ls => by
  have ih := clear_iff (w := w) (a := a) (p := p) (e' :: ls)
  have ht : (e :: e' :: ls).take ((e :: e' :: ls).length - 1) = e :: (e' :: ls).take ((e' :: ls).length - 1) := by simp
  rw [ht]
  unfold clearB
  rw [Bool.and_eq_true, Bool.and_eq_true, ih]
  constructor
  ·rintro ⟨h1, h2, h3, h4⟩
   constructor
   ·intro l hl
    rcases List.mem_cons.1 hl with rfl | hl
    ·exact h1
    ·exact h3 l hl
   ·intro l hl
    rcases List.mem_cons.1 hl with rfl | hl
    ·exact h2
    ·exact h4 l hl
  ·rintro ⟨h1, h2⟩
   exact ⟨h1 e (List.mem_cons_self ..), h2 e (List.mem_cons_self ..), fun l hl => h1 l (List.mem_cons_of_mem _ hl), fun l hl => h2 l (List.mem_cons_of_mem _ hl)⟩
theorem leg_iff {w a : Int} {p : GSightPlace} {l : GSightLetter} : legB w a p l = true ↔ tallB w a p l = true ∧ broadB w a p l = true ∧ thickB w a p l = true := by
 simp [legB]
theorem why_none {w a : Int} {p : GSightPlace} {ks : List GSightBlock} {ls : List GSightLetter} : whyF w a p ks ls = none ↔ (∀ k ∈ ks, behB a p k = false) ∧ clearB w a p ls = true := by
 rw [clear_iff]
 unfold whyF
 cases h0 : fnd (behB a p) ks 0 with
 | some i =>
  simp only [reduceCtorEq, false_iff, not_and]
  intro h
  rw [(fnd_none ks 0).2 h] at h0; cases h0
 | none =>
  have g0 := (fnd_none ks 0).1 h0
  cases h1 : fnd (fun l => !tallB w a p l) ls 0 with
  | some i =>
   simp only [reduceCtorEq, false_iff, not_and]
   intro _ h
   rw [(fnd_none ls 0).2 (fun l hl => by simp [(leg_iff.1 (h l hl)).1])] at h1; cases h1
  | none =>
   have g1 := (fnd_none ls 0).1 h1
   cases h2 : fnd (fun l => !broadB w a p l) ls 0 with
   | some i =>
    simp only [reduceCtorEq, false_iff, not_and]
    intro _ h
    rw [(fnd_none ls 0).2 (fun l hl => by simp [(leg_iff.1 (h l hl)).2.1])] at h2; cases h2
   | none =>
    have g2 := (fnd_none ls 0).1 h2
    cases h3 : fnd (fun l => !thickB w a p l) ls 0 with
    | some i =>
     simp only [reduceCtorEq, false_iff, not_and]
     intro _ h
     rw [(fnd_none ls 0).2 (fun l hl => by simp [(leg_iff.1 (h l hl)).2.2])] at h3; cases h3
    | none =>
     have g3 := (fnd_none ls 0).1 h3
     cases h4 : fnd (fun l => !apartB w a p l) (ls.take (ls.length - 1)) 0 with
     | some i =>
      simp only [reduceCtorEq, false_iff, not_and]
      intro _ _ h
      rw [(fnd_none _ 0).2 (fun l hl => by simp [h l hl])] at h4; cases h4
     | none =>
      have g4 := (fnd_none _ 0).1 h4
      simp only [true_iff]
      exact ⟨g0, fun l hl => leg_iff.2 ⟨by simpa using g1 l hl, by simpa using g2 l hl, by simpa using g3 l hl⟩, fun l hl => by simpa using g4 l hl⟩
def readB (w a : Int) (p : GSightPlace) (ks : List GSightBlock) (ls : List GSightLetter) : Bool := clearB w a p ls && ks.all (fun k => !behB a p k)
theorem isRead_eq (v : Gsightview) (hp : PG v.board.At v.SightPlace) (hw : PW v.power) (hl : ∀ l ∈ v.board.Letters, BL l) (hn : 1 ≤ v.board.Letters.length) (hn2 : v.board.Letters.length ≤ 5) (hk : ∀ k ∈ v.SightStreet.Blocks, BK k) (hb : v.SightStreet.Blocks.length ≤ 4) :
  g_sight_view_isRead v = some (readB v.power v.board.At v.SightPlace v.SightStreet.Blocks v.board.Letters) := by
 simp only [g_sight_view_isRead, firstFault_eq v hp hw hl hn hn2 hk hb, Option.bind_some, Option.some.injEq]
 cases h : whyF v.power v.board.At v.SightPlace v.SightStreet.Blocks v.board.Letters with
 | none =>
  have := why_none.1 h
  symm
  simp only [whyP, readB, this.2, Bool.true_and, Bool.not_false, List.all_eq_true]
  intro k hk; simp [this.1 k hk]
 | some f =>
  have hne : ¬ ((∀ k ∈ v.SightStreet.Blocks, behB v.board.At v.SightPlace k = false) ∧ clearB v.power v.board.At v.SightPlace v.board.Letters = true) := by
   rw [← why_none, h]; simp
  simp only [whyP, readB, Bool.not_true]
  symm
  rw [Bool.eq_false_iff]
  intro hr
  rw [Bool.and_eq_true, List.all_eq_true] at hr
  exact hne ⟨fun k hk => by simpa using hr.2 k hk, hr.1⟩
def hids {α : Type} (f : α → Bool) : List α → Int → List Int
 | [], _ => []
 | e :: p, i => cond (f e) (i :: hids f p (i + 1)) (hids f p (i + 1))
theorem hids_len {α : Type} {f : α → Bool} : ∀ (p : List α) (i : Int), (hids f p i).length ≤ p.length
 | [], _ => Nat.le_refl _
 | e :: p, i => by
  unfold hids
  have := hids_len (f := f) p (i + 1)
  cases f e <;> simp <;> omega
theorem hids_fnd {α : Type} {f : α → Bool} : ∀ (p : List α) (i : Int), (hids f p i)[0]? = fnd f p i
 | [], _ => rfl
 | e :: p, i => by
  unfold hids fnd
  cases f e
  ·exact hids_fnd p (i + 1)
  ·rfl
theorem hids_nil {α : Type} {f : α → Bool} (p : List α) (i : Int) : hids f p i = [] ↔ ∀ x ∈ p, f x = false := by
 rw [← fnd_none p i, ← hids_fnd]
 cases hids f p i <;> simp
theorem room_small {n : Nat} (b : Nat) (h : n ≤ 1000) (hb : b ≤ 100) : roomOk b n = true := by
 unfold roomOk
 refine decide_eq_true ?_
 have : n * b ≤ 1000 * 100 := Nat.mul_le_mul h hb
 omega
theorem refHidden_l0_eq (b : GSightBoard) (p : GSightPlace) (hp : PG b.At p) : ∀ (ks : List GSightBlock) (i : Int) (acc : List Int), (∀ k ∈ ks, BK k) → acc.length + ks.length ≤ 100 → g_ref02_Hidden_l0 b p ks i acc = some (.go (acc ++ hids (behB b.At p) ks i))
 | [], _, acc, _, _ => by simp [g_ref02_Hidden_l0, hids]
 | e :: ks, i, acc, h, hl => by
  have hk := refHidden_l0_eq b p hp ks
  simp only [List.length_cons] at hl
  simp only [g_ref02_Hidden_l0, refBlocks_eq e b.At p hp (h e (List.mem_cons_self ..)), Option.bind_some, hids]
  have ht : ∀ k ∈ ks, BK k := fun k hk => h k (List.mem_cons_of_mem _ hk)
  cases behB b.At p e with
  | true =>
   rw [room_small 8 (by simp; omega) (by omega)]
   simp only [cond_true]
   rw [hk (i + 1) (acc ++ [i]) ht (by simp; omega)]
   simp
  | false => exact hk (i + 1) acc ht (by omega)
theorem refHidden_eq (s : GSightStreet) (b : GSightBoard) (p : GSightPlace) (hp : PG b.At p) (hk : ∀ k ∈ s.Blocks, BK k) (hb : s.Blocks.length ≤ 4) : g_ref02_Hidden s b p = some (hids (behB b.At p) s.Blocks 0) := by
 have l1 : lenOk s.Blocks = true := lenOk_of (by omega)
 simp only [g_ref02_Hidden, l1, cond_true, refHidden_l0_eq b p hp s.Blocks 0 [] hk (by simp; omega), lbind_go, List.nil_append]
theorem faultK_zero {w a : Int} {p : GSightPlace} {l : GSightLetter} : (faultK w a p l != 0) = !legB w a p l := by
 unfold faultK legB
 cases tallB w a p l <;> cases broadB w a p l <;> cases thickB w a p l <;> rfl
theorem refClear_l0_eq (b : GSightBoard) (p : GSightPlace) (w : Int) (hp : PG b.At p) (hw : PW w) (hn2 : b.Letters.length ≤ 5) : ∀ (ls : List GSightLetter) (c : Int), 0 ≤ c → b.Letters.drop c.toNat = ls → (∀ l ∈ ls, BL l) → g_ref02_Clear_l0 b p w ls c = goB (clearB w b.At p ls)
 | [], _, _, _, _ => rfl
 | [e], c, h0, hd, h => by
  have hx := drop_next h0 hd
  have : decide (c + 1 < (b.Letters.length : Int)) = false := not_lt_of_drop (by omega) hx
  simp only [g_ref02_Clear_l0, refFault_eq e b.At p w hp hw (h e (List.mem_cons_self ..)), Option.bind_some, faultK_zero, this, cond_false, clearB, cnot, goB]
 | e :: e' :: ls, c, h0, hd, h => by
  have hx := drop_next h0 hd
  have : decide (c + 1 < (b.Letters.length : Int)) = true := lt_of_drop (by omega) hx
  have ih := refClear_l0_eq b p w hp hw hn2 (e' :: ls) (c + 1) (by omega) hx (fun l hl => h l (List.mem_cons_of_mem _ hl))
  have he := h e (List.mem_cons_self ..)
  unfold g_ref02_Clear_l0 clearB
  simp only [refFault_eq e b.At p w hp hw he, refMelts_eq e b.At p w hp hw he, Option.bind_some, faultK_zero, this, cond_true, ih, goB_and, cnot]
theorem refClear_eq (b : GSightBoard) (p : GSightPlace) (w : Int) (hp : PG b.At p) (hw : PW w) (hl : ∀ l ∈ b.Letters, BL l) (hn2 : b.Letters.length ≤ 5) : g_ref02_Clear b p w = some (clearB w b.At p b.Letters) := by
 have l2 : lenOk b.Letters = true := lenOk_of (by omega)
 simp only [g_ref02_Clear, l2, cond_true, refClear_l0_eq b p w hp hw hn2 b.Letters 0 (by omega) rfl hl, goB_lbind]
 cases clearB w b.At p b.Letters <;> rfl
theorem hids_beq {α : Type} {f : α → Bool} (p : List α) (i : Int) : (((hids f p i).length : Int) == 0) = p.all (fun x => !f x) := by
 by_cases h : hids f p i = []
 ·have := (hids_nil p i).1 h
  rw [h]
  symm
  simp only [List.length_nil]
  rw [show (((0 : Nat) : Int) == 0) = true from rfl, List.all_eq_true]
  intro x hx; simp [this x hx]
 ·have hl : (hids f p i).length ≠ 0 := fun hh => h (List.length_eq_zero_iff.1 hh)
  have : (((hids f p i).length : Int) == 0) = false := by simp only [beq_eq_false_iff_ne, ne_eq]; omega
  rw [this]
  symm
  rw [Bool.eq_false_iff]
  intro ha
  rw [List.all_eq_true] at ha
  exact h ((hids_nil p i).2 (fun x hx => by simpa using ha x hx))
theorem mayhids {f : GSightBlock → Bool} (ks : List GSightBlock) : ∀ (p : List GSightBlock) (i c : Int) (s : GSightStreet), s.Blocks = ks → 0 ≤ i → ks.drop i.toNat = p → g_ref02_May_l0 s (hids f p i) c = goB (p.all (fun k => !(f k && k.Sure)))
 | [], _, _, _, _, _, _ => rfl
 | e :: p, i, c, s, hs, h0, hd => by
  have ih := mayhids (f := f) ks p (i + 1)
  have hx := drop_next h0 hd
  unfold hids
  rw [List.all_cons, goB_and]
  cases hf : f e with
  | false =>
   simp only [cond_false, Bool.false_and, Bool.not_false, cond_true]
   exact ih c s hs (by omega) hx
  | true =>
   simp only [cond_true, Bool.true_and, g_ref02_May_l0, hs, getI_of_drop h0 hd, Option.bind_some, cnot]
   rw [ih (c + 1) s hs (by omega) hx]
theorem goods {s : GSightStreet} {b : GSightBoard} {p : GSightPlace} (h : Good s b p) : PG b.At p ∧ (∀ l ∈ b.Letters, BL l) ∧ (∀ k ∈ s.Blocks, BK k) ∧ PW (s.Eye.Low * s.Light.Low) ∧ PW (s.Eye.High * s.Light.High) := by
 refine ⟨⟨h.a0, h.a1, h.p0, h.p1, h.q0, h.q1⟩, ?_, h.blks, ?_, ?_⟩
 ·intro l hl
  have := h.lets l hl
  simp only [letterB, Bool.and_eq_true, inB_iff] at this
  unfold BL; omega
 ·have h1 := h.el; have h2 := h.em; have h3 := h.eh; have h4 := h.ll; have h5 := h.lm; have h6 := h.lh
  exact mulR (a := s.Eye.Low) (A := 40) (b := s.Light.Low) (B := 100) (by omega) (by omega) (by omega) (by omega)
 ·have h1 := h.el; have h2 := h.em; have h3 := h.eh; have h4 := h.ll; have h5 := h.lm; have h6 := h.lh
  exact mulR (a := s.Eye.High) (A := 40) (b := s.Light.High) (B := 100) (by omega) (by omega) (by omega) (by omega)
theorem pw_wrap {w : Int} (h : PW w) : IntKind.i64.wrap w = w := wrap_eq (by unfold PW at h; omega) (by unfold PW at h; omega)
def sureB (s : GSightStreet) (b : GSightBoard) (p : GSightPlace) : Bool := clearB (s.Eye.Low * s.Light.Low) b.At p b.Letters && s.Blocks.all (fun k => !behB b.At p k)
def mayB (s : GSightStreet) (b : GSightBoard) (p : GSightPlace) : Bool := clearB (s.Eye.High * s.Light.High) b.At p b.Letters && s.Blocks.all (fun k => !(behB b.At p k && k.Sure))
def seenI (s : GSightStreet) (b : GSightBoard) (p : GSightPlace) : Int := cond (sureB s b p) 3 (cond (mayB s b p) 2 1)
theorem refSeen_eq (s : GSightStreet) (b : GSightBoard) (p : GSightPlace) (h : Good s b p) : g_ref02_Seen s b p = some (seenI s b p) := by
 obtain ⟨hp, hl, hk, w1, w2⟩ := goods h
 have hb := h.nb
 have hh := refHidden_eq s b p hp hk hb
 have l1 : lenOk (hids (behB b.At p) s.Blocks 0) = true := lenOk_of (by have := hids_len (f := behB b.At p) s.Blocks 0; omega)
 have hm := mayhids (f := behB b.At p) s.Blocks s.Blocks 0 0 s rfl (by omega) rfl
 simp only [g_ref02_Seen, g_ref02_Surely, g_ref02_May, g_ref02_word, pw_wrap w1, pw_wrap w2, refClear_eq b p _ hp w1 hl h.n5, refClear_eq b p _ hp w2 hl h.n5, hh, Option.bind_some, hids_beq, csome, l1, cond_true, hm, goB_lbind, seenI, sureB, mayB]
 cases clearB (s.Eye.Low * s.Light.Low) b.At p b.Letters <;> cases s.Blocks.all (fun k => !behB b.At p k) <;> cases s.Blocks.all (fun k => !(behB b.At p k && k.Sure)) <;> cases clearB (s.Eye.High * s.Light.High) b.At p b.Letters <;> rfl
end Go.V
end
section
namespace Go.V
open Go
end Go.V
end
section
namespace Go.V
open Go
def Fair (s : GSightStreet) (b : GSightBoard) (p : GSightPlace) : Prop := PG b.At p ∧ PW (s.Eye.Low * s.Light.Low) ∧ (∀ l ∈ b.Letters, BL l) ∧ 1 ≤ b.Letters.length ∧ b.Letters.length ≤ 5 ∧ (∀ k ∈ s.Blocks, BK k) ∧ s.Blocks.length ≤ 4
theorem fair_good {s : GSightStreet} {b : GSightBoard} {p : GSightPlace} (h : Good s b p) : Fair s b p := by
 obtain ⟨hp, hl, hk, w1, _⟩ := goods h
 exact ⟨hp, w1, hl, h.n1, h.n5, hk, h.nb⟩
theorem surely_eq {s : GSightStreet} {b : GSightBoard} {p : GSightPlace} (h : Fair s b p) : g_sight_isSurelyRead s b p = some (sureB s b p) := by
 obtain ⟨hp, w1, hl, n1, n5, hk, nb⟩ := h
 have r1 := isRead_eq ⟨s, p, b, s.Eye.Low * s.Light.Low⟩ hp w1 hl n1 n5 hk nb
 simp only [g_sight_isSurelyRead, g_sight_atWorst, pw_wrap w1, Option.bind_some, r1, readB, sureB]
theorem refSurely_eq {s : GSightStreet} {b : GSightBoard} {p : GSightPlace} (h : Fair s b p) : g_ref02_Surely s b p = some (sureB s b p) := by
 obtain ⟨hp, w1, hl, n1, n5, hk, nb⟩ := h
 simp only [g_ref02_Surely, pw_wrap w1, refClear_eq b p _ hp w1 hl n5, refHidden_eq s b p hp hk nb, Option.bind_some, hids_beq, csome, sureB]
end Go.V
end
section
namespace Go.V
def ea : Option Bool → Bool | none => true | some b => b
def eo : Option Bool → Bool | none => false | some b => b
end Go.V
end
section
set_option linter.unusedVariables false
set_option linter.defProp false
namespace Go.V
open Go
section
variable {P : Program} {G : Glob} {n : Nat} {x : Code} {Q : VExit → St → Prop} {st : St}
end
end Go.V
end
section
set_option linter.unusedVariables false
set_option linter.unusedSimpArgs false
set_option linter.defProp false
namespace Go.V
open Go
section
variable {P : Program} {G : Glob} {n : Nat} {Q : VExit → St → Prop} {tm : Nat → VV} {H : Nat → Option VObj} {nx : Nat} {df : List VDef} {g : Operand} {ps : Array Tmp} {az bo : Code} {f : FuncId} {first captured : List VV}
theorem range_open (hg : ev (G.at (some none)) tm g = .fn (.func f) first captured)
  (h : ∀ LO, LO = VObj.loop .ready none (tmL n tm) ps az bo nx → VOpen P (G.at (some none)) f (first ++ [.yl (nx + 1)] ++ captured) (updH (updH H nx (.deferred (some []))) (nx + 1) LO) (nx + 2)
   (fun _ H' nx' => RangeEnd P (G.at (some none)) n Q ⟨tm, H, nx, df⟩ H' nx') (fun x H' nx' => Q (.panic x) ⟨tm, H', nx', .coll nx :: df⟩)) : CWp P (G.at (some none)) n (.rangeFunc g ps az bo) Q ⟨tm, H, nx, df⟩ := by
 unfold CWp
 refine ⟨rfl, ?_⟩
 rw [show St.ρ (G.at (some none)) ⟨tm, H, nx, df⟩ g = ev (G.at (some none)) tm g from ev_eq .. ▸ rfl, hg]
 exact h _ rfl
theorem rangeEnd_go {H' : Nat → Option VObj} {nx' : Nat} {LO : VObj} {tml : List VV} {d : Nat} (hL : LO = VObj.loop .ready none tml ps az bo d) (h : H' (nx + 1) = some LO) (hq : ∀ LX, Q .normal ⟨tm, updH H' (nx + 1) LX, nx', .coll nx :: df⟩) : RangeEnd P G n Q ⟨tm, H, nx, df⟩ H' nx' :=
 ⟨.ready, none, tml, ps, az, bo, d, by rw [h, hL], by simp, hq _⟩
def RndEnd (β : Nat) (LB LO : VObj) (LD : Code → VObj) (o : Oper) (st : St) (K : St → Prop) : VExit → St → Prop
 | .normal, s2 => s2.H β = some LB ∧ K { st.put o.dst (.lit (.bool true)) with H := updH s2.H β LO, nx := s2.nx }
 | .ret, s2 => s2.H β = some LB ∧ K { st.put o.dst (.lit (.bool false)) with H := updH s2.H β (LD .ret), nx := s2.nx }
 | .exit id, s2 => s2.H β = some LB ∧ K { st.put o.dst (.lit (.bool false)) with H := updH s2.H β (LD (.exit id)), nx := s2.nx }
 | _, _ => False
def RndAs (P : Program) (G : Glob) (n β : Nat) (LB LO : VObj) (LD : Code → VObj) (bo : Code) (o : Oper) (st : St) (K : St → Prop) : VExit → St → Prop
 | .normal, s1 => s1.H β = some LO ∧ CWp P (G.at (some (some β))) n bo (RndEnd β LB LO LD o st K) { s1 with H := updH s1.H β LB }
 | _, _ => False
theorem yield_open (hm : P.follows .mixedOrders = true) {o : Oper} {β : Nat} {args : List VV} {st : St} {K : St → Prop} {LO : VObj} {tml : List VV} {d : Nat} {psl : List Tmp} (hL : LO = VObj.loop .ready none tml ⟨psl⟩ az bo d) (hβ : st.H β = some LO) (hn : tml.length = n) (ha : args.length = psl.length)
  (h1 : codeOk n az = true) (h2 : codeOk n bo = true)
  (h : ∀ LB LD, LB = VObj.loop .busy none tml ⟨psl⟩ az bo d → LD = (fun c => VObj.loop .done (some c) tml ⟨psl⟩ az bo d) →
   CWp P (G.at (some (some β))) n az (RndAs P G n β LB LO LD bo o st K) ⟨argsTm (roundTm tml psl args), st.H, st.nx, []⟩) : yieldK P G o β args st K := by
 unfold yieldK
 rw [hβ, hL]
 subst hn
 refine ⟨ha, (CWp_sound hm az _ _ h1 (h _ _ rfl rfl)).mono ?_⟩
 intro e s1 hs
 cases e with
 | normal =>
  obtain ⟨q1, q2⟩ := hs
  refine ⟨none, tml, ⟨psl⟩, az, bo, d, by rw [q1, hL], (CWp_sound hm bo _ _ h2 q2).mono ?_⟩
  intro e s2 hs2
  cases e with
  | normal =>
   obtain ⟨r1, r2⟩ := hs2
   refine ⟨_, _, _, _, _, _, _, r1, ?_⟩
   rw [hL] at r2
   exact r2
  | ret =>
   obtain ⟨r1, r2⟩ := hs2
   exact ⟨_, _, _, _, _, _, _, r1, r2⟩
  | exit id =>
   obtain ⟨r1, r2⟩ := hs2
   exact ⟨_, _, _, _, _, _, _, r1, r2⟩
  | goto l => exact hs2.elim
  | panic x => exact hs2.elim
 | _ => exact hs.elim
theorem rnd_normal {β : Nat} {LB LO : VObj} {LD : Code → VObj} {d : Option Tmp} {op : Op} {ty : TypeId} {pos : String} {af : Array Edge} {gd : Option (Nat × Bool)} {K : St → Prop} {tm2 : Nat → VV} {H2 : Nat → Option VObj} {nx2 : Nat} {df2 : List VDef} (h : H2 β = some LB) :
  RndEnd β LB LO LD ⟨d, op, ty, pos, af, gd⟩ ⟨tm, H, nx, df⟩ K .normal ⟨tm2, H2, nx2, df2⟩ = K ⟨(match d with | some d => upd tm d (.lit (.bool true)) | none => tm), updH H2 β LO, nx2, df⟩ := by
 show (_ ∧ _) = _
 rw [eq_true h, true_and]
 cases d <;> rfl
theorem rndAs_normal {β : Nat} {LB LO : VObj} {LD : Code → VObj} {o : Oper} {st : St} {K : St → Prop} {tm2 : Nat → VV} {H2 : Nat → Option VObj} {nx2 : Nat} {df2 : List VDef} (h : H2 β = some LO) :
  RndAs P G n β LB LO LD bo o st K .normal ⟨tm2, H2, nx2, df2⟩ = CWp P (G.at (some (some β))) n bo (RndEnd β LB LO LD o st K) ⟨tm2, updH H2 β LB, nx2, df2⟩ := by
 show (_ ∧ _) = _
 rw [eq_true h, true_and]
theorem round_tm {m t p : Nat} {x : VV} (h : t < m) : argsTm (roundTm (tmL m tm) [p] [x]) t = if t = p then x else tm t := by
 unfold argsTm roundTm tmL
 simp only [List.zip_cons_cons, List.zip_nil_right, List.foldl_cons, List.foldl_nil]
 by_cases hp : t = p
 ·subst hp
  rw [if_pos rfl]
  simp [h]
 ·rw [if_neg hp]
  simp [List.getElem?_set, h, Ne.symm hp]
theorem round_tm0 {m t : Nat} (h : t < m) : argsTm (roundTm (tmL m tm) [] []) t = tm t := by
 unfold argsTm roundTm tmL
 simp [h]
theorem tmL_length {m : Nat} : (tmL m tm).length = m := by simp [tmL]
theorem cwp_tmcut {code : Code} (F : (Nat → VV) → Prop) (hF : F tm) (h : ∀ tm, F tm → CWp P G n code Q ⟨tm, H, nx, df⟩) : CWp P G n code Q ⟨tm, H, nx, df⟩ := h tm hF
theorem vcells_yl {β : Nat} : vcells (.yl β) = some [.yl β] := rfl
theorem leaf_yl {β : Nat} : (VV.yl β).leaf = true := rfl
theorem VPure.at {x : Option (Option Nat)} {args : List VV} {r : PRes} (h : VPure P G f args r) : VPure P (G.at x) f args r := h
def rg := And.intro @vcells_yl (And.intro @leaf_yl @cvalK_yl)
theorem opd_coll {fn : Func} {R Rp : VV → (Nat → Option VObj) → Nat → Prop} {β : Nat} (h : H β = some (.deferred (some []))) (h2 : OpenPostD P G fn R Rp .ret ⟨tm, updH H β (.deferred none), nx, df⟩) : OpenPostD P G fn R Rp .ret ⟨tm, H, nx, .coll β :: df⟩ := ⟨h, h2⟩
theorem opd_collN {fn : Func} {R Rp : VV → (Nat → Option VObj) → Nat → Prop} {β : Nat} (h : H β = some (.deferred (some []))) (h2 : OpenPostD P G fn R Rp .normal ⟨tm, updH H β (.deferred none), nx, df⟩) : OpenPostD P G fn R Rp .normal ⟨tm, H, nx, .coll β :: df⟩ := ⟨h, h2⟩
end
end Go.V
end
section
set_option linter.unusedVariables false
set_option linter.unusedSimpArgs false
set_option linter.defProp false
namespace Go.V
open Go
def kIdx {K : Type} (q : K → K → Bool) (k : K) : List K → Nat → Option Nat
 | [], _ => none
 | e :: es, i => cond (q k e) (some i) (kIdx q k es (i + 1))
theorem kIdx_some {K : Type} {q : K → K → Bool} {k : K} : ∀ (es : List K) (i j : Nat), kIdx q k es i = some j → i ≤ j ∧ ∃ e, es[j - i]? = some e ∧ q k e = true
 | [], _, _, h => by cases h
 | e :: es, i, j, h => by
  unfold kIdx at h
  cases hq : q k e with
  | true =>
   rw [hq] at h
   simp only [cond_true, Option.some.injEq] at h
   subst h
   exact ⟨Nat.le_refl _, e, by simp, hq⟩
  | false =>
   rw [hq] at h
   simp only [cond_false] at h
   obtain ⟨h1, x, h2, h3⟩ := kIdx_some es (i + 1) j h
   refine ⟨by omega, x, ?_, h3⟩
   rw [show j - i = (j - (i + 1)) + 1 by omega]
   simpa using h2
def mapGet {K V : Type} (q : K → K → Bool) (z : V) (l : List (K × V)) (k : K) : V := match kIdx q k (l.map (·.1)) 0 with
 | some i => match l[i]? with | some p => p.2 | none => z
 | none => z
def encM {K V : Type} (kv : K → Value) (ev : V → VV) (l : List (K × V)) : List (Value × VV) := l.map fun p => (kv p.1, ev p.2)
section
variable {P : Program} {K V : Type} {q : K → K → Bool} {kv : K → Value} {ev : V → VV} {t kt et : TypeId} {H : Nat → Option VObj} {β : Nat}
theorem evalP_ask (he : ∀ a b, evalP P (Op.equal kt (kv a) (kv b)) = some (q a b)) (k : K) : ∀ (ks : List K) (i : Nat), evalP P (Instr.findAsking kt (kv k) ((ks.map kv).map dummy) i) = some ((kIdx q k ks i).map fun j => (j, Value.bool false))
 | [], i => rfl
 | e :: es, i => by
  simp only [List.map_cons, Instr.findAsking, kIdx]
  rw [evalP_bind]
  have h0 : evalP P (Op.equal kt (kv k) (dummy (kv e)).key) = some (q k e) := he k e
  rw [h0, Option.bind_some]
  cases q k e with
  | true => rfl
  | false => exact evalP_ask he k es (i + 1)
theorem kfind_S {fs : Array Field} (hu : P.underlying kt = some (.struct fs)) (he : ∀ a b, evalP P (Op.equal kt (kv a) (kv b)) = some (q a b)) (k : K) (ks : List K) : kfind P kt (kv k) (ks.map kv) = some (kIdx q k ks 0) := by
 unfold kfind Instr.findKey
 rw [evalP_bind, evalP_und hu, Option.bind_some]
 have ha := evalP_ask he k ks 0
 cases ks with
 | nil => rfl
 | cons e es =>
  have hn : Instr.findNow (.struct fs) (kv k) (((e :: es).map kv).map dummy) 0 = none := by
   simp only [List.map_cons, Instr.findNow]
   have : Instr.sameNow (.struct fs) (kv k) (dummy (kv e)).key = none := by cases kv k <;> rfl
   rw [this]
  rw [hn]
  simp only []
  rw [ha]
  cases kIdx q k (e :: es) 0 <;> rfl
theorem encM_keys {l : List (K × V)} : (encM kv ev l).map (·.1) = (l.map (·.1)).map kv := by simp [encM, Function.comp_def]
theorem lookup_own {fs : Array Field} {z : V} (hm : P.underlying t = some (.map kt et)) (hu : P.underlying kt = some (.struct fs)) (he : ∀ a b, evalP P (Op.equal kt (kv a) (kv b)) = some (q a b)) (hc : ∀ b k, evalP P (Instr.checkKey b 10000 kt (kv k)) = some ())
  (hz : ((P.info? et).bind (·.zero)).map ofVal2 = some (ev z)) {l : List (K × V)} {kx : VV} {k : K} (hk : kx.val? = some (kv k)) (hb : H β = some (.map (encM kv ev l))) :
  vlookup P H t (.mp β) kx false = some (ev (mapGet q z l k)) := by
 unfold vlookup
 rw [hm, hk]
 simp only [mapOf, hb]
 rw [hc, encM_keys, kfind_S hu he]
 cases hzz : (P.info? et).bind (·.zero) with
 | none => rw [hzz] at hz; cases hz
 | some z0 =>
  rw [hzz] at hz
  simp only [Option.map_some, Option.some.injEq] at hz
  unfold mapGet
  cases hi : kIdx q k (l.map (·.1)) 0 with
  | none => simp only [Bool.false_eq_true, if_false]; exact congrArg some hz
  | some i =>
   obtain ⟨_, e, h1, _⟩ := kIdx_some _ _ _ hi
   rw [Nat.sub_zero, List.getElem?_map] at h1
   cases hl : l[i]? with
   | none => rw [hl] at h1; cases h1
   | some p =>
    have : (encM kv ev l)[i]? = some (kv p.1, ev p.2) := by unfold encM; rw [List.getElem?_map, hl]; rfl
    simp only [this, hl, Bool.false_eq_true, if_false]
end
section
variable {P : Program} {G : Glob} {γ : Nat} {tm : Nat → VV} {H : Nat → Option VObj} {nx : Nat} {df : List VDef} {K : St → Prop} {Kd : List Nat → List Nat → St → Prop} {Qp : VV → St → Prop}
 {d : Option Tmp} {ty : TypeId} {pos : String} {af : Array Edge} {g : Option (Nat × Bool)}
theorem body_makeMap {t : TypeId} : bodyK P G γ ⟨d, .makeMap t none, ty, pos, af, g⟩ ⟨tm, H, nx, df⟩ K Qp = fin d γ tm H nx df K (.mp γ) (.new (.map [])) := by
 rw [body_op (by simp) (by simp) (by simp)]; rfl
theorem body_lookup {t : TypeId} {x k : Operand} {ok : Bool} : bodyK P G γ ⟨d, .lookup t x k ok, ty, pos, af, g⟩ ⟨tm, H, nx, df⟩ K Qp = oK (vlookup P H t (ev G tm x) (ev G tm k) ok) (fun y => fin d γ tm H nx df K y .none) := by
 rw [body_op (by simp) (by simp) (by simp)]; simp only [vop]; exact oK_map
theorem dbody_makeMap {t : TypeId} : dbodyK P G γ ⟨d, .makeMap t none, ty, pos, af, g⟩ ⟨tm, H, nx, df⟩ Kd = fin d γ tm H nx df (Kd (rdV ⟨d, .makeMap t none, ty, pos, af, g⟩ (ev G tm)) [γ]) (.mp γ) (.new (.map [])) := by
 rw [dbody_op (by simp)]; rfl
theorem dbody_lookup {t : TypeId} {x k : Operand} {ok : Bool} : dbodyK P G γ ⟨d, .lookup t x k ok, ty, pos, af, g⟩ ⟨tm, H, nx, df⟩ Kd = oK (vlookup P H t (ev G tm x) (ev G tm k) ok) (fun y => fin d γ tm H nx df (Kd (rdV ⟨d, .lookup t x k ok, ty, pos, af, g⟩ (ev G tm)) []) y .none) := by
 rw [dbody_op (by simp)]; simp only [vop]
 cases vlookup P H t (ev G tm x) (ev G tm k) ok <;> rfl
def umK (o : Option VEff) (k : VEff → Prop) : Prop := match o with | some e => k e | none => False
theorem umK_some {e : VEff} {k : VEff → Prop} : umK (some e) k = k e := rfl
theorem body_mapUpdate {t : TypeId} {m k x : Operand} : bodyK P G γ ⟨d, .mapUpdate t m k x, ty, pos, af, g⟩ ⟨tm, H, nx, df⟩ K Qp = umK (vmapUpdate P H t (ev G tm m) (ev G tm k) (ev G tm x)) (fun e => fin d γ tm H nx df K .any e) := by
 rw [body_op (by simp) (by simp) (by simp)]; simp only [vop]
 cases vmapUpdate P H t (ev G tm m) (ev G tm k) (ev G tm x) <;> rfl
theorem dbody_mapUpdate {t : TypeId} {m k x : Operand} : dbodyK P G γ ⟨d, .mapUpdate t m k x, ty, pos, af, g⟩ ⟨tm, H, nx, df⟩ Kd = umK (vmapUpdate P H t (ev G tm m) (ev G tm k) (ev G tm x)) (fun e => fin d γ tm H nx df (Kd (rdV ⟨d, .mapUpdate t m k x, ty, pos, af, g⟩ (ev G tm)) (e.wr γ)) .any e) := by
 rw [dbody_op (by simp)]; simp only [vop]
 cases vmapUpdate P H t (ev G tm m) (ev G tm k) (ev G tm x) <;> rfl
theorem vcells_mp {β : Nat} : vcells (.mp β) = some [.mp β] := rfl
theorem leaf_mp {β : Nat} : (VV.mp β).leaf = true := rfl
theorem rd_makeMap {t : TypeId} : rdV ⟨d, .makeMap t none, ty, pos, af, g⟩ (ev G tm) = rdL (ev G tm) [] := rdL_eq []
theorem rd_lookup {t : TypeId} {x k : Operand} {ok : Bool} : rdV ⟨d, .lookup t x k ok, ty, pos, af, g⟩ (ev G tm) = rdL (ev G tm) [x, k] := rdL_eq [x, k]
theorem rd_mapUpdate {t : TypeId} {m k x : Operand} : rdV ⟨d, .mapUpdate t m k x, ty, pos, af, g⟩ (ev G tm) = rdL (ev G tm) [m, k, x] := rdL_eq [m, k, x]
theorem tnL_mp {β : Nat} {l : List Nat} : tnL (.mp β) l = β :: l := rfl
theorem ev_nilmap : ev G tm (.const (.map none)) = .lit (.map none) := rfl
theorem encM_nil {K V : Type} {kv : K → Value} {ew : V → VV} : encM kv ew [] = [] := rfl
def mq := And.intro (And.intro (And.intro @body_makeMap (And.intro @body_lookup @body_mapUpdate)) (And.intro (And.intro @dbody_makeMap (And.intro @dbody_lookup @dbody_mapUpdate)) (And.intro (And.intro @umK_some @vcells_mp) @leaf_mp))) (And.intro (And.intro @rd_makeMap (And.intro @rd_lookup @rd_mapUpdate)) (And.intro @tnL_mp (And.intro @ev_nilmap @encM_nil)))
end
end Go.V
end
section
set_option linter.unusedVariables false
set_option linter.unusedSimpArgs false
set_option linter.defProp false
namespace Go.V
open Go
def mtK {K V : Type} (kv : K → Value) (l : List (K × V)) : List Value := l.map fun p => kv p.1
def mtV {K V : Type} (ew : V → VV) (l : List (K × V)) : List VV := l.map fun p => ew p.2
theorem mt_mapOf {K V : Type} {kv : K → Value} {ew : V → VV} {H : Nat → Option VObj} (l : List (K × V)) : mapOf H (.mt (mtK kv l) (mtV ew l)) = some (encM kv ew l) := by
 simp only [mapOf, mtK, mtV, encM, Option.some.injEq]
 induction l with
 | nil => rfl
 | cons p l ih => simp only [List.map_cons, List.zip_cons_cons, ih]
section
variable {P : Program} {K V : Type} {q : K → K → Bool} {kv : K → Value} {ew : V → VV} {t kt et : TypeId} {H : Nat → Option VObj}
theorem lookup_tree {fs : Array Field} {z : V} (hm : P.underlying t = some (.map kt et)) (hu : P.underlying kt = some (.struct fs)) (he : ∀ a b, evalP P (Op.equal kt (kv a) (kv b)) = some (q a b)) (hc : ∀ b k, evalP P (Instr.checkKey b 10000 kt (kv k)) = some ())
  (hz : ((P.info? et).bind (·.zero)).map ofVal2 = some (ew z)) {l : List (K × V)} {kx : VV} {k : K} (hk : kx.val? = some (kv k)) :
  vlookup P H t (.mt (mtK kv l) (mtV ew l)) kx false = some (ew (mapGet q z l k)) := by
 have := lookup_own (H := fun _ => some (.map (encM kv ew l))) (β := 0) hm hu he hc hz hk rfl
 unfold vlookup at this ⊢
 rw [mt_mapOf]
 exact this
end
theorem leaf_mt {ks : List Value} {vs : List VV} : (VV.mt ks vs).leaf = true := rfl
theorem vcells_mt {ks : List Value} {vs : List VV} : vcells (.mt ks vs) = some [.mt ks vs] := rfl
theorem tnL_mt {ks : List Value} {vs : List VV} {l : List Nat} : tnL (.mt ks vs) l = l := rfl
def mqm := And.intro @leaf_mt (And.intro @vcells_mt @tnL_mt)
end Go.V
end
section
namespace Go.V
open Go Go.Proofs
def kv34 (k : GSightPlace) : Value := .agg ⟨[.int .i64 k.Along, .int .i64 k.Across]⟩
def q34 (a b : GSightPlace) : Bool := (a.Along == b.Along) && ((a.Across == b.Across) && true)
def ev46 (n : Int) : VV := .lit (.int .i64 n)
theorem he34 (a b : GSightPlace) : evalP Tryz.prog (Op.equal 34 (kv34 a) (kv34 b)) = some (q34 a b) := by
 have e : Op.maxDepth = 9998 + 2 := rfl
 unfold Op.equal kv34
 rw [e, evalP_eqS Tryz.underlying34 (by kernel_rfl) (r := q34 a b) (by kernel_rfl)]
theorem hc34 (b : Bool) (k : GSightPlace) : evalP Tryz.prog (Instr.checkKey b 10000 34 (kv34 k)) = some () := by
 cases b <;> kernel_rfl
theorem hz46 : ((Tryz.prog.info? 46).bind (·.zero)).map ofVal2 = some (ev46 0) := by kernel_rfl
theorem ld97 {c : VV} {cs : List VV} : vload Tryz.prog 97 (c :: cs) = some c := by
 have h1 : aggT Tryz.prog 97 = some false := by kernel_rfl
 simp [vload, vpart, h1]
theorem sz97 : szT Tryz.prog 97 = some 1 := by kernel_rfl
theorem vzl97 : vzl Tryz.prog 97 = some [.lit (.map none)] := by kernel_rfl
theorem lkt97 {l : List (GSightPlace × Int)} {a b : Int} {H : Nat → Option VObj} : vlookup Tryz.prog H 97 (.mt (mtK kv34 l) (mtV ev46 l)) (.agg [.lit (.int .i64 a), .lit (.int .i64 b)]) false = some (.lit (.int .i64 (mapGet q34 0 l (GSightPlace.mk a b)))) :=
 lookup_tree Tryz.underlying97 Tryz.underlying34 he34 hc34 hz46 (k := ⟨a, b⟩) rfl
def mqt := And.intro (And.intro (And.intro @ld97 @sz97) (And.intro @vzl97 @lkt97)) True.intro
end Go.V
end
section
namespace Go.V
open Go Go.Proofs
end Go.V
end
section
namespace Go.V
open Go Go.Proofs
end Go.V
end
section
namespace Go.V
open Go Go.Proofs
end Go.V
end
