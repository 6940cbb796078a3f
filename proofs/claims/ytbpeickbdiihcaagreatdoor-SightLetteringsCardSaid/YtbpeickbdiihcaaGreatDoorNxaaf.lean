/- Part of the proof of statements of YtbpeickbdiihcaaGreatDoor: a logic of values by content, the lifted functions, and what follows. -/
import Derived.Test.YtbpeickbdiihcaaGreatDoorNbc
import Derived.Test.YtbpeickbdiihcaaGreatDoorNbe
import Derived.Test.YtbpeickbdiihcaaGreatDoorNbf
import Derived.Test.YtbpeickbdiihcaaGreatDoorNbh
import Derived.Test.YtbpeickbdiihcaaGreatDoorNbi
import Derived.Test.YtbpeickbdiihcaaGreatDoorNbj
set_option linter.unusedVariables false
set_option linter.unusedSimpArgs false
set_option linter.unusedSectionVars false
set_option linter.constructorNameAsVariable false
set_option linter.defProp false
set_option maxRecDepth 4000
set_option maxHeartbeats 4000000
section
namespace Go.V
open Go Go.Proofs
def g_sight_Hidden_l0 (r3 : Gsightview) : List GSightBlock → Int → (List Int) → Option (LOut ((List Int) × Int) ((List Int)))
 | [], c0_29, c0_9 => some (.go c0_9)
 | e0 :: p0, c0_29, c0_9 => Option.bind (g_sight_view_isBehind r3 e0) (fun r4 => cond (r4) (cond (roomOk 8 (List.length (c0_9 ++ [c0_29]))) (g_sight_Hidden_l0 r3 p0 (c0_29 + 1) (c0_9 ++ [c0_29])) none) (g_sight_Hidden_l0 r3 p0 (c0_29 + 1) c0_9))
def g_sight_Hidden (x0_s : GSightStreet) (x1_board : Int) (x2_from : GSightPlace) : Option ((List Int) × Int) := Option.bind (g_sight_isView x0_s x1_board x2_from) (fun r1 => cond (r1) (Option.bind (getI x0_s.Boards x1_board) (fun x2 => Option.bind (g_sight_atWorst x0_s x2 x2_from) (fun r3 => cond (lenOk r3.SightStreet.Blocks) (lbind (g_sight_Hidden_l0 r3 r3.SightStreet.Blocks 0 ([] : List Int)) (fun r6 => some r6) (fun c5 => some (c5, 0)) (fun _ _ => none)) none))) (some (([] : List Int), 2)))
theorem g_sight_Hidden_ok (x0_s : GSightStreet) (x1_board : Int) (x2_from : GSightPlace) (R : (List Int) × Int) (h : g_sight_Hidden x0_s x1_board x2_from = some R) : VPure Tryz.prog G0 30 [.agg (cGSightStreet x0_s), .lit (.int .i64 x1_board), .agg (cGSightPlace x2_from)] (.tree (.tup [.sl (cellsL eI R.1) (List.length R.1) false, .lit (.int .i64 R.2)])) := by
 refine VPure.runR mixed Tryz.call30 Tryz.func30 rfl (by simp [Tryz.ntmps30]; kernel_rfl) ?_
 obtain ⟨KF, h, kF, kN⟩ := fun_intro h
 simp only [g_sight_Hidden] at h
 cases o8 : (g_sight_isView x0_s x1_board x2_from) with
 | none =>
  simp only [o8, hs, reduceCtorEq] at h
  exact absurd h kN
 | some r7 =>
  simp only [o8, hs, reduceCtorEq] at h
  simp only [vz, tyf, nm, seval]
  refine ktree (args0 := [.agg (cGSightStreet x0_s), .lit (.int .i64 x1_board), .agg (cGSightPlace x2_from)]) (by first | (simp only [nrm, tynrm] <;> rfl) | rfl) (by simp only [tre, tytre, Bool.and_self]) (g_sight_isView_ok _ _ _ _ o8) ?_
  refine fin_cut (fun tm => tm 1 = .lit (.int .i64 x1_board) ∧ tm 3 = .ptr 0 0 ∧ tm 5 = .ptr 1 0 ∧ tm 15 = .lit (.bool r7) ∧ True) (by refine ⟨?_, ?_, ?_, ?_, trivial⟩ <;> first | (simp only [ua, nm, seval] <;> rfl) | rfl) ?_
  rintro tm ⟨e9, e10, e11, e12, _⟩
  cases d13 : (r7)
  ·simp only [d13, hs, reduceCtorEq] at h
   simp only [vz, tyf, e9, e10, e11, e12, d13, nm, seval]
   refine opd_ret (x := (.tup [.lit (.slice none 0 0), .lit (.int .i64 2)])) (by first | (simp only [Tryz.results30, resV, resL, resV1, tgt_ptr, tgt_tp, uw, cr, tyf, e9, e10, e11, e12, d13, nm, seval] <;> rfl) | rfl) ?_
   obtain rfl := kF _ h
   refine rr_tree ?_ ?_
   ·simp only [tre, tytre, Bool.and_self]
   ·first | (simp only [outV, uw, showV_ref, cr, tyf, nrm, tynrm, e9, e10, e11, e12, d13, nm, seval] <;> rfl) | rfl
  simp only [d13, hs, reduceCtorEq] at h
  simp only [vz, tyf, e9, e10, e11, e12, d13, nm, seval]
  refine cwp_drawTF (fun tm => tm 1 = .lit (.int .i64 x1_board) ∧ tm 3 = .ptr 0 0 ∧ tm 5 = .ptr 1 0 ∧ True) (by refine ⟨e9, e10, e11, trivial⟩ <;> first | (simp only [ua, e9, e10, e11, e12, d13, nm, seval] <;> rfl) | rfl) ?_
  rintro tm ⟨e14, e15, e16, _⟩
  cases o18 : (getI x0_s.Boards x1_board) with
  | none =>
   simp only [o18, hs, reduceCtorEq] at h
   exact absurd h kN
  | some x17 =>
   simp only [o18, hs, reduceCtorEq] at h
   cases o20 : (g_sight_atWorst x0_s x17 x2_from) with
   | none =>
    simp only [o20, hs, reduceCtorEq] at h
    exact absurd h kN
   | some r19 =>
    simp only [o20, hs, reduceCtorEq] at h
    simp only [vz, tyf, d13, e14, e15, e16, (ix24 o18), nm, seval]
    refine dktree (args0 := [.agg (cGSightStreet x0_s), .agg (cGSightBoard x17), .agg (cGSightPlace x2_from)]) (by first | (simp only [nrm, tynrm] <;> rfl) | rfl) (by simp only [tre, tytre, Bool.and_self]) (g_sight_atWorst_ok _ _ _ _ o20) ?_
    refine fin_cut (fun tm => tm 24 = .agg (cGsightview r19) ∧ True) (by refine ⟨?_, trivial⟩ <;> first | (simp only [ua, d13, e14, e15, e16, nm, seval] <;> rfl) | rfl) ?_
    rintro tm ⟨e21, _⟩
    simp only [vz, tyf, d13, (ix24 o18), e21, nm, seval]
    refine drawK_nil ⟨?_, ?_⟩
    ·simp only [traceR_cons, traceR_nil, hitK_quiet, hitK_nil, and_true, true_and]
     repeat' (first | exact trivial | refine And.intro ?_ ?_ | rw [hitK_quiet] | rw [hitK_cons] | exact Or.inl (by decide +kernel) | exact Or.inl (by dsimp only; decide +kernel) | (refine Or.inr ⟨?_, ?_⟩ <;> simp; done) | (refine Or.inr ⟨?_, ?_⟩ <;> simp <;> omega))
    cases g23 : (lenOk r19.SightStreet.Blocks)
    ·simp only [g23, hs, reduceCtorEq] at h
     exact absurd h kN
    simp only [g23, hs, reduceCtorEq] at h
    simp only [vz, tyf, d13, (ix24 o18), e21, g23, nm, seval]
    obtain ⟨K22, h, kR22, kG22, kB22, kN22⟩ := lbind_intro h kN
    obtain ⟨f22, hf22, h⟩ := call3 h
    obtain ⟨I22, hI22⟩ : ∃ I : Nat → St → Prop, I = (fun m st => ∃ (p22 : List GSightBlock) (c22_29 : Int) (c22_9 : List Int) (y22_0 : VV), m = List.length p22 ∧ 0 ≤ c22_29 ∧ List.drop (Int.toNat c22_29) r19.SightStreet.Blocks = p22 ∧ st.df = [] ∧ 25 ≤ st.nx ∧ st.H 17 = some (.cells (some 97) (cGsightview r19)) ∧ st.tm 8 = .ptr 17 0 ∧ st.tm 27 = .sl (cellsL cGSightBlock r19.SightStreet.Blocks) (List.length r19.SightStreet.Blocks) false ∧ st.tm 28 = .lit (.int .i64 (List.length r19.SightStreet.Blocks : Int)) ∧ st.tm 9 = y22_0 ∧ st.tm 29 = .lit (.int .i64 c22_29) ∧ ((∃ (β : Nat) (el : Option TypeId), y22_0 = .ref β 0 (List.length c22_9) 1 (List.length c22_9) ∧ β < st.nx ∧ β ≠ 17 ∧ st.H β = some (.cells el (cellsL eI c22_9))) ∨ (y22_0 = .lit (.slice none 0 0) ∧ c22_9 = [])) ∧ K22 (f22 p22 c22_29 c22_9)) := ⟨_, rfl⟩
    refine loopK mixed (by kernel_rfl) I22 (List.length r19.SightStreet.Blocks) (by rw [hI22]; refine ⟨r19.SightStreet.Blocks, 0, ([] : List Int), .lit (.slice none 0 0), rfl, Int.le_refl _, rfl, rfl, (show 25 ≤ 25 by omega), ?_, ?_, ?_, ?_, ?_, ?_, Or.inr ⟨rfl, rfl⟩, h⟩ <;> first | (simp only [ua, d13, e21, nm, seval] <;> rfl) | rfl) ?_
    rintro m ⟨tm, H, nx22, df⟩ hinv
    rw [hI22] at hinv
    obtain ⟨p22, c22_29, c22_9, y22_0, rfl, hi22, hp22, hdf, hn22, H24, e25, e26, e27, e28, e29, ow22_0, h⟩ := hinv
    simp only at hdf hn22 H24 e25 e26 e27 e28 e29 ow22_0
    have n30 := base_ne0 (m := 25) (b := nx22) (by omega)
    subst hdf hf22
    rcases ow22_0 with ⟨b22_0, el22_0, rfl, lq32, lq33, H31⟩ | ⟨rfl, rfl⟩
    ·have q32 := own_lt lq32
     have q33 := ne_f lq33
     cases p22 with
     | nil =>
      have d34 : (decide (c22_29 < (List.length r19.SightStreet.Blocks : Int))) = false := not_lt_of_drop hi22 hp22
      simp only [g_sight_Hidden_l0, hs, reduceCtorEq] at h
      replace h := kG22 _ h
      try dsimp only at h
      try simp only [hs] at h
      simp only [vz, tyf, d13, (ix24 o18), g23, n30, e25, e26, e27, e28, e29, H24, q32, H31, q33, d34, nm, seval]
      refine opd_ret (x := (.tup [.ref b22_0 0 (List.length c22_9) 1 (List.length c22_9), .lit (.int .i64 0)])) (by first | (simp only [Tryz.results30, resV, resL, resV1, tgt_ptr, tgt_tp, uw, cr, tyf, d13, (ix24 o18), g23, n30, e25, e26, e27, e28, e29, H24, q32, H31, q33, d34, nm, seval] <;> rfl) | rfl) ?_
      obtain rfl := kF _ h
      refine rr_tree ?_ ?_
      ·simp only [tre, tytre, Bool.and_self]
      ·first | (simp only [outV, uw, showV_ref, cr, tyf, nrm, tynrm, d13, (ix24 o18), g23, n30, e25, e26, e27, e28, e29, H24, q32, H31, q33, d34, nm, seval] <;> rfl) | rfl
     | cons e22 p22 =>
      have d35 : (decide (c22_29 < (List.length r19.SightStreet.Blocks : Int))) = true := lt_of_drop hi22 hp22
      have o37 := getI_of_drop hi22 hp22
      have w36 := wrap_next hi22 hp22 g23
      simp only [g_sight_Hidden_l0, hs, reduceCtorEq] at h
      cases o39 : (g_sight_view_isBehind r19 e22) with
      | none =>
       simp only [o39, hs, reduceCtorEq] at h
       exact absurd h kN22
      | some r38 =>
       simp only [o39, hs, reduceCtorEq] at h
       simp only [vz, tyf, d13, (ix24 o18), g23, n30, e25, e26, e27, e28, e29, H24, q32, H31, q33, d35, (ix25 o37), w36, nm, seval]
       refine ktree (args0 := [.agg (cGsightview r19), .agg (cGSightBlock e22)]) (by first | (simp only [nrm, tynrm] <;> rfl) | rfl) (by simp only [tre, tytre, Bool.and_self]) (g_sight_view_isBehind_ok _ _ _ o39) ?_
       refine fin_cut (fun tm => tm 8 = .ptr 17 0 ∧ tm 9 = .ref b22_0 0 (List.length c22_9) 1 (List.length c22_9) ∧ tm 10 = .lit (.int .i64 c22_29) ∧ tm 27 = .sl (cellsL cGSightBlock r19.SightStreet.Blocks) (List.length r19.SightStreet.Blocks) false ∧ tm 28 = .lit (.int .i64 (List.length r19.SightStreet.Blocks : Int)) ∧ tm 29 = .lit (.int .i64 c22_29) ∧ tm 36 = .lit (.bool r38) ∧ True) (by refine ⟨e25, e28, ?_, e26, e27, e29, ?_, trivial⟩ <;> first | (simp only [ua, d13, n30, e25, e26, e27, e28, e29, H24, q32, H31, q33, d35, w36, nm, seval] <;> rfl) | rfl) ?_
       rintro tm ⟨e40, e41, e42, e43, e44, e45, e46, _⟩
       cases d47 : (r38)
       ·simp only [d47, hs, reduceCtorEq] at h
        simp only [vz, tyf, d13, (ix24 o18), g23, n30, H24, q32, H31, q33, d35, (ix25 o37), w36, e40, e41, e42, e43, e44, e45, e46, d47, nm, seval]
        exact ⟨List.length p22, Nat.lt_succ_self _, by rw [hI22]; refine ⟨p22, c22_29 + 1, c22_9, .ref b22_0 0 (List.length c22_9) 1 (List.length c22_9), rfl, Int.le_trans hi22 (Int.le_add_one (Int.le_refl _)), drop_next hi22 hp22, rfl, (show 25 ≤ nx22 + 12 by omega), ?_, e40, e43, e44, ?_, ?_, Or.inl ⟨b22_0, el22_0, rfl, (by first | omega | (simp only [nm, seval]; omega)), (by first | omega | (intro hh; simp only [n30, q32, q33, reduceCtorEq] at hh)), ?_⟩, h⟩ <;> first | (simp only [ua, d13, n30, H24, q32, H31, q33, d35, w36, e40, e41, e42, e43, e44, e45, e46, d47, nm, seval] <;> rfl) | rfl⟩
       simp only [d47, hs, reduceCtorEq] at h
       cases g48 : (roomOk 8 (List.length (c22_9 ++ [c22_29])))
       ·simp only [g48, hs, reduceCtorEq] at h
        exact absurd h kN22
       simp only [g48, hs, reduceCtorEq] at h
       simp only [vz, tyf, d13, (ix24 o18), g23, n30, H24, q32, H31, q33, d35, (ix25 o37), w36, e40, e41, e42, e43, e44, e45, e46, d47, g48, nm, seval]
       refine k_app (w := 1) (enc := eI) (xs := c22_9) (ys := ([c22_29])) (el := el22_0) (el2 := (some 3)) (fun _ => rfl) lf57 ao57 Tryz.underlying57 (by first | rfl | assumption | (simp only [updH_apply, without_apply, et57, n30, H24, q32, H31, q33, nm, seval] <;> rfl) | (simp only [updH_apply, without_apply, cellsL_cons, cellsL_nil, mV_app, mV_app0, tyf, d13, (ix24 o18), g23, n30, H24, q32, H31, q33, d35, (ix25 o37), w36, e40, e41, e42, e43, e44, e45, e46, d47, g48, nm, seval]; done)) (by first | rfl | assumption | (simp only [updH_apply, without_apply, et57, n30, H24, q32, H31, q33, nm, seval] <;> rfl) | (simp only [updH_apply, without_apply, cellsL_cons, cellsL_nil, mV_app, mV_app0, tyf, d13, (ix24 o18), g23, n30, H24, q32, H31, q33, d35, (ix25 o37), w36, e40, e41, e42, e43, e44, e45, e46, d47, g48, nm, seval]; done)) (Nat.zero_lt_succ _) g48 ?_
       simp only [vz, tyf, d13, (ix24 o18), g23, n30, H24, q32, H31, q33, d35, (ix25 o37), w36, e40, e41, e42, e43, e44, e45, e46, d47, g48, nm, seval]
       exact ⟨List.length p22, Nat.lt_succ_self _, by rw [hI22]; refine ⟨p22, c22_29 + 1, (c22_9 ++ [c22_29]), .ref (nx22 + 13) 0 (List.length (c22_9 ++ [c22_29])) 1 (List.length (c22_9 ++ [c22_29])), rfl, Int.le_trans hi22 (Int.le_add_one (Int.le_refl _)), drop_next hi22 hp22, rfl, (show 25 ≤ nx22 + 17 by omega), ?_, e40, e43, e44, ?_, ?_, Or.inl ⟨nx22 + 13, (sameEl el22_0 3), rfl, (by first | omega | (simp only [nm, seval]; omega)), (by first | omega | (intro hh; simp only [n30, q32, q33, reduceCtorEq] at hh)), ?_⟩, h⟩ <;> first | (simp only [ua, d13, n30, H24, q32, H31, q33, d35, w36, e40, e41, e42, e43, e44, e45, e46, d47, nm, seval] <;> rfl) | rfl⟩
    ·cases p22 with
     | nil =>
      have d49 : (decide (c22_29 < (List.length r19.SightStreet.Blocks : Int))) = false := not_lt_of_drop hi22 hp22
      simp only [g_sight_Hidden_l0, hs, reduceCtorEq] at h
      replace h := kG22 _ h
      try dsimp only at h
      try simp only [hs] at h
      simp only [vz, tyf, d13, (ix24 o18), g23, n30, e25, e26, e27, e28, e29, H24, d49, nm, seval]
      refine opd_ret (x := (.tup [.lit (.slice none 0 0), .lit (.int .i64 0)])) (by first | (simp only [Tryz.results30, resV, resL, resV1, tgt_ptr, tgt_tp, uw, cr, tyf, d13, (ix24 o18), g23, n30, e25, e26, e27, e28, e29, H24, d49, nm, seval] <;> rfl) | rfl) ?_
      obtain rfl := kF _ h
      refine rr_tree ?_ ?_
      ·simp only [tre, tytre, Bool.and_self]
      ·first | (simp only [outV, uw, showV_ref, cr, tyf, nrm, tynrm, d13, (ix24 o18), g23, n30, e25, e26, e27, e28, e29, H24, d49, nm, seval] <;> rfl) | rfl
     | cons e22 p22 =>
      have d50 : (decide (c22_29 < (List.length r19.SightStreet.Blocks : Int))) = true := lt_of_drop hi22 hp22
      have o52 := getI_of_drop hi22 hp22
      have w51 := wrap_next hi22 hp22 g23
      simp only [g_sight_Hidden_l0, hs, reduceCtorEq] at h
      cases o54 : (g_sight_view_isBehind r19 e22) with
      | none =>
       simp only [o54, hs, reduceCtorEq] at h
       exact absurd h kN22
      | some r53 =>
       simp only [o54, hs, reduceCtorEq] at h
       simp only [vz, tyf, d13, (ix24 o18), g23, n30, e25, e26, e27, e28, e29, H24, d50, (ix25 o52), w51, nm, seval]
       refine ktree (args0 := [.agg (cGsightview r19), .agg (cGSightBlock e22)]) (by first | (simp only [nrm, tynrm] <;> rfl) | rfl) (by simp only [tre, tytre, Bool.and_self]) (g_sight_view_isBehind_ok _ _ _ o54) ?_
       refine fin_cut (fun tm => tm 8 = .ptr 17 0 ∧ tm 9 = .lit (.slice none 0 0) ∧ tm 10 = .lit (.int .i64 c22_29) ∧ tm 27 = .sl (cellsL cGSightBlock r19.SightStreet.Blocks) (List.length r19.SightStreet.Blocks) false ∧ tm 28 = .lit (.int .i64 (List.length r19.SightStreet.Blocks : Int)) ∧ tm 29 = .lit (.int .i64 c22_29) ∧ tm 36 = .lit (.bool r53) ∧ True) (by refine ⟨e25, e28, ?_, e26, e27, e29, ?_, trivial⟩ <;> first | (simp only [ua, d13, n30, e25, e26, e27, e28, e29, H24, d50, w51, nm, seval] <;> rfl) | rfl) ?_
       rintro tm ⟨e55, e56, e57, e58, e59, e60, e61, _⟩
       cases d62 : (r53)
       ·simp only [d62, hs, reduceCtorEq] at h
        simp only [vz, tyf, d13, (ix24 o18), g23, n30, H24, d50, (ix25 o52), w51, e55, e56, e57, e58, e59, e60, e61, d62, nm, seval]
        exact ⟨List.length p22, Nat.lt_succ_self _, by rw [hI22]; refine ⟨p22, c22_29 + 1, ([] : List Int), .lit (.slice none 0 0), rfl, Int.le_trans hi22 (Int.le_add_one (Int.le_refl _)), drop_next hi22 hp22, rfl, (show 25 ≤ nx22 + 12 by omega), ?_, e55, e58, e59, ?_, ?_, Or.inr ⟨rfl, rfl⟩, h⟩ <;> first | (simp only [ua, d13, n30, H24, d50, w51, e55, e56, e57, e58, e59, e60, e61, d62, nm, seval] <;> rfl) | rfl⟩
       simp only [d62, hs, reduceCtorEq] at h
       cases g63 : (roomOk 8 (List.length (([] : List Int) ++ [c22_29])))
       ·simp only [g63, hs, reduceCtorEq] at h
        exact absurd h kN22
       simp only [g63, hs, reduceCtorEq] at h
       simp only [vz, tyf, d13, (ix24 o18), g23, n30, H24, d50, (ix25 o52), w51, e55, e56, e57, e58, e59, e60, e61, d62, g63, nm, seval]
       refine k_appN (w := 1) (enc := eI) (ys := ([c22_29])) (el2 := (some 3)) (fun _ => rfl) lf57 ao57 Tryz.underlying57 (by first | rfl | assumption | (simp only [updH_apply, without_apply, et57, n30, H24, nm, seval] <;> rfl) | (simp only [updH_apply, without_apply, cellsL_cons, cellsL_nil, mV_app, mV_app0, tyf, d13, (ix24 o18), g23, n30, H24, d50, (ix25 o52), w51, e55, e56, e57, e58, e59, e60, e61, d62, g63, nm, seval]; done)) (Nat.zero_lt_succ _) g63 ?_
       simp only [vz, tyf, d13, (ix24 o18), g23, n30, H24, d50, (ix25 o52), w51, e55, e56, e57, e58, e59, e60, e61, d62, g63, nm, seval]
       exact ⟨List.length p22, Nat.lt_succ_self _, by rw [hI22]; refine ⟨p22, c22_29 + 1, (([] : List Int) ++ [c22_29]), .ref (nx22 + 13) 0 (List.length (([] : List Int) ++ [c22_29])) 1 (List.length (([] : List Int) ++ [c22_29])), rfl, Int.le_trans hi22 (Int.le_add_one (Int.le_refl _)), drop_next hi22 hp22, rfl, (show 25 ≤ nx22 + 17 by omega), ?_, e55, e58, e59, ?_, ?_, Or.inl ⟨nx22 + 13, (some 3), rfl, (by first | omega | (simp only [nm, seval]; omega)), (by first | omega | (intro hh; simp only [n30, reduceCtorEq] at hh)), ?_⟩, h⟩ <;> first | (simp only [ua, d13, n30, H24, d50, w51, e55, e56, e57, e58, e59, e60, e61, d62, nm, seval] <;> rfl) | rfl⟩
end Go.V
end
section
namespace Go.V
open Go Go.Proofs
def g_ref02_Letters_l0 (x0_s : GSightStreet) (x1_b : GSightBoard) (x2_p : GSightPlace) : List GSightLetter → Int → (List Int) → Option (LOut (List Int) ((List Int)))
 | [], c0_8, c0_7 => some (.go c0_7)
 | e0 :: p0, c0_8, c0_7 => Option.bind (g_ref02_Fault e0 x1_b.At x2_p (IntKind.i64.wrap (x0_s.Eye.Low * x0_s.Light.Low))) (fun r1 => Option.bind (g_ref02_Fault e0 x1_b.At x2_p (IntKind.i64.wrap (x0_s.Eye.High * x0_s.Light.High))) (fun r2 => Option.bind (g_ref02_word (r1 == 0) (r2 == 0)) (fun r3 => cond (roomOk 8 (List.length (c0_7 ++ [r3]))) (g_ref02_Letters_l0 x0_s x1_b x2_p p0 (c0_8 + 1) (c0_7 ++ [r3])) none)))
def g_ref02_Letters (x0_s : GSightStreet) (x1_b : GSightBoard) (x2_p : GSightPlace) : Option (List Int) := cond (lenOk x1_b.Letters) (lbind (g_ref02_Letters_l0 x0_s x1_b x2_p x1_b.Letters 0 ([] : List Int)) (fun r5 => some r5) (fun c4 => some c4) (fun _ _ => none)) none
theorem g_ref02_Letters_ok (x0_s : GSightStreet) (x1_b : GSightBoard) (x2_p : GSightPlace) (R : List Int) (h : g_ref02_Letters x0_s x1_b x2_p = some R) : VPure Tryz.prog G0 32 [.agg (cGSightStreet x0_s), .agg (cGSightBoard x1_b), .agg (cGSightPlace x2_p)] (.tree (.sl (cellsL eI R) (List.length R) false)) := by
 refine VPure.runR mixed Tryz.call32 Tryz.func32 rfl (by simp [Tryz.ntmps32]; kernel_rfl) ?_
 obtain ⟨KF, h, kF, kN⟩ := fun_intro h
 simp only [g_ref02_Letters] at h
 cases g7 : (lenOk x1_b.Letters)
 ·simp only [g7, hs, reduceCtorEq] at h
  exact absurd h kN
 simp only [g7, hs, reduceCtorEq] at h
 simp only [vz, tyf, g7, nm, seval]
 obtain ⟨K6, h, kR6, kG6, kB6, kN6⟩ := lbind_intro h kN
 obtain ⟨f6, hf6, h⟩ := call3 h
 obtain ⟨I6, hI6⟩ : ∃ I : Nat → St → Prop, I = (fun m st => ∃ (p6 : List GSightLetter) (c6_8 : Int) (c6_7 : List Int) (y6_0 : VV), m = List.length p6 ∧ 0 ≤ c6_8 ∧ List.drop (Int.toNat c6_8) x1_b.Letters = p6 ∧ st.df = [] ∧ 6 ≤ st.nx ∧ st.H 0 = some (.cells (some 27) (cGSightStreet x0_s)) ∧ st.H 1 = some (.cells (some 42) (cGSightBoard x1_b)) ∧ st.H 2 = some (.cells (some 29) (cGSightPlace x2_p)) ∧ st.tm 3 = .ptr 0 0 ∧ st.tm 4 = .ptr 1 0 ∧ st.tm 5 = .ptr 2 0 ∧ st.tm 7 = y6_0 ∧ st.tm 8 = .lit (.int .i64 c6_8) ∧ ((∃ (β : Nat) (el : Option TypeId), y6_0 = .ref β 0 (List.length c6_7) 1 (List.length c6_7) ∧ β < st.nx ∧ β ≠ 0 ∧ β ≠ 1 ∧ β ≠ 2 ∧ st.H β = some (.cells el (cellsL eI c6_7))) ∨ (y6_0 = .lit (.slice none 0 0) ∧ c6_7 = [])) ∧ K6 (f6 p6 c6_8 c6_7)) := ⟨_, rfl⟩
 refine loopK mixed (by kernel_rfl) I6 (List.length x1_b.Letters) (by rw [hI6]; refine ⟨x1_b.Letters, 0, ([] : List Int), .lit (.slice none 0 0), rfl, Int.le_refl _, rfl, rfl, (show 6 ≤ 6 by omega), ?_, ?_, ?_, ?_, ?_, ?_, ?_, ?_, Or.inr ⟨rfl, rfl⟩, h⟩ <;> first | (simp only [ua, nm, seval] <;> rfl) | rfl) ?_
 rintro m ⟨tm, H, nx6, df⟩ hinv
 rw [hI6] at hinv
 obtain ⟨p6, c6_8, c6_7, y6_0, rfl, hi6, hp6, hdf, hn6, H8, H9, H10, e11, e12, e13, e14, e15, ow6_0, h⟩ := hinv
 simp only at hdf hn6 H8 H9 H10 e11 e12 e13 e14 e15 ow6_0
 have n16 := base_ne0 (m := 6) (b := nx6) (by omega)
 subst hdf hf6
 rcases ow6_0 with ⟨b6_0, el6_0, rfl, lq18, lq19, lq20, lq21, H17⟩ | ⟨rfl, rfl⟩
 ·have q18 := own_lt lq18
  have q19 := ne_f lq19
  have q20 := ne_f lq20
  have q21 := ne_f lq21
  cases p6 with
  | nil =>
   have d22 : (decide (c6_8 < (List.length x1_b.Letters : Int))) = false := not_lt_of_drop hi6 hp6
   simp only [g_ref02_Letters_l0, hs, reduceCtorEq] at h
   replace h := kG6 _ h
   try dsimp only at h
   try simp only [hs] at h
   simp only [vz, tyf, g7, n16, e11, e12, e13, e14, e15, H8, H9, H10, q18, H17, q19, q20, q21, d22, nm, seval]
   refine opd_ret (x := (.ref b6_0 0 (List.length c6_7) 1 (List.length c6_7))) (by first | (simp only [Tryz.results32, resV, resL, resV1, tgt_ptr, tgt_tp, uw, cr, tyf, g7, n16, e11, e12, e13, e14, e15, H8, H9, H10, q18, H17, q19, q20, q21, d22, nm, seval] <;> rfl) | rfl) ?_
   obtain rfl := kF _ h
   refine rr_tree ?_ ?_
   ·simp only [tre, tytre, Bool.and_self]
   ·first | (simp only [outV, uw, showV_ref, cr, tyf, nrm, tynrm, g7, n16, e11, e12, e13, e14, e15, H8, H9, H10, q18, H17, q19, q20, q21, d22, nm, seval] <;> rfl) | rfl
  | cons e6 p6 =>
   have d23 : (decide (c6_8 < (List.length x1_b.Letters : Int))) = true := lt_of_drop hi6 hp6
   have o25 := getI_of_drop hi6 hp6
   have w24 := wrap_next hi6 hp6 g7
   simp only [g_ref02_Letters_l0, hs, reduceCtorEq] at h
   simp only [vz, tyf, g7, n16, e11, e12, e13, e14, e15, H8, H9, H10, q18, H17, q19, q20, q21, d23, (ix40 o25), w24, nm, seval]
   refine cwp_drawTF (fun tm => tm 3 = .ptr 0 0 ∧ tm 4 = .ptr 1 0 ∧ tm 5 = .ptr 2 0 ∧ tm 7 = .ref b6_0 0 (List.length c6_7) 1 (List.length c6_7) ∧ tm 8 = .lit (.int .i64 c6_8) ∧ tm 9 = .ptr (nx6 + 10) 0 ∧ True) (by refine ⟨e11, e12, e13, e14, e15, ?_, trivial⟩ <;> first | (simp only [ua, n16, e11, e12, e13, e14, e15, H8, H9, H10, q18, H17, q19, q20, q21, d23, w24, nm, seval] <;> rfl) | rfl) ?_
   rintro tm ⟨e26, e27, e28, e29, e30, e31, _⟩
   cases o33 : (g_ref02_Fault e6 x1_b.At x2_p (IntKind.i64.wrap (x0_s.Eye.Low * x0_s.Light.Low))) with
   | none =>
    simp only [o33, hs, reduceCtorEq] at h
    exact absurd h kN6
   | some r32 =>
    simp only [o33, hs, reduceCtorEq] at h
    simp only [vz, tyf, g7, n16, H8, H9, H10, q18, H17, q19, q20, q21, d23, (ix40 o25), w24, e26, e27, e28, e29, e30, e31, nm, seval]
    refine dktree (args0 := [.agg (cGSightLetter e6), .lit (.int .i64 x1_b.At), .agg (cGSightPlace x2_p), .lit (.int .i64 (IntKind.i64.wrap (x0_s.Eye.Low * x0_s.Light.Low)))]) (by first | (simp only [nrm, tynrm] <;> rfl) | rfl) (by simp only [tre, tytre, Bool.and_self]) (g_ref02_Fault_ok _ _ _ _ _ o33) ?_
    refine fin_cut (fun tm => tm 3 = .ptr 0 0 ∧ tm 4 = .ptr 1 0 ∧ tm 5 = .ptr 2 0 ∧ tm 8 = .lit (.int .i64 c6_8) ∧ tm 9 = .ptr (nx6 + 10) 0 ∧ tm 22 = .ref b6_0 0 (List.length c6_7) 1 (List.length c6_7) ∧ tm 34 = .lit (.int .i64 r32) ∧ True) (by refine ⟨e26, e27, e28, e30, e31, ?_, ?_, trivial⟩ <;> first | (simp only [ua, n16, H8, H9, H10, q18, H17, q19, q20, q21, d23, w24, e26, e27, e28, e29, e30, e31, nm, seval] <;> rfl) | rfl) ?_
    rintro tm ⟨e34, e35, e36, e37, e38, e39, e40, _⟩
    cases o42 : (g_ref02_Fault e6 x1_b.At x2_p (IntKind.i64.wrap (x0_s.Eye.High * x0_s.Light.High))) with
    | none =>
     simp only [o42, hs, reduceCtorEq] at h
     exact absurd h kN6
    | some r41 =>
     simp only [o42, hs, reduceCtorEq] at h
     simp only [vz, tyf, g7, n16, H8, H9, H10, q18, H17, q19, q20, q21, d23, (ix40 o25), w24, e34, e35, e36, e37, e38, e39, e40, nm, seval]
     refine dktree (args0 := [.agg (cGSightLetter e6), .lit (.int .i64 x1_b.At), .agg (cGSightPlace x2_p), .lit (.int .i64 (IntKind.i64.wrap (x0_s.Eye.High * x0_s.Light.High)))]) (by first | (simp only [nrm, tynrm] <;> rfl) | rfl) (by simp only [tre, tytre, Bool.and_self]) (g_ref02_Fault_ok _ _ _ _ _ o42) ?_
     refine fin_cut (fun tm => tm 3 = .ptr 0 0 ∧ tm 4 = .ptr 1 0 ∧ tm 5 = .ptr 2 0 ∧ tm 8 = .lit (.int .i64 c6_8) ∧ tm 22 = .ref b6_0 0 (List.length c6_7) 1 (List.length c6_7) ∧ tm 35 = .lit (.bool (r32 == 0)) ∧ tm 47 = .lit (.int .i64 r41) ∧ True) (by refine ⟨e34, e35, e36, e37, e39, ?_, ?_, trivial⟩ <;> first | (simp only [ua, n16, H8, H9, H10, q18, H17, q19, q20, q21, d23, w24, e34, e35, e36, e37, e38, e39, e40, nm, seval] <;> rfl) | rfl) ?_
     rintro tm ⟨e43, e44, e45, e46, e47, e48, e49, _⟩
     cases o51 : (g_ref02_word (r32 == 0) (r41 == 0)) with
     | none =>
      simp only [o51, hs, reduceCtorEq] at h
      exact absurd h kN6
     | some r50 =>
      simp only [o51, hs, reduceCtorEq] at h
      simp only [vz, tyf, g7, n16, H8, H9, H10, q18, H17, q19, q20, q21, d23, (ix40 o25), w24, e43, e44, e45, e46, e47, e48, e49, nm, seval]
      refine dktree (args0 := [.lit (.bool (r32 == 0)), .lit (.bool (r41 == 0))]) (by first | (simp only [nrm, tynrm] <;> rfl) | rfl) (by simp only [tre, tytre, Bool.and_self]) (g_ref02_word_ok _ _ _ o51) ?_
      refine fin_cut (fun tm => tm 3 = .ptr 0 0 ∧ tm 4 = .ptr 1 0 ∧ tm 5 = .ptr 2 0 ∧ tm 8 = .lit (.int .i64 c6_8) ∧ tm 22 = .ref b6_0 0 (List.length c6_7) 1 (List.length c6_7) ∧ tm 49 = .lit (.int .i64 r50) ∧ True) (by refine ⟨e43, e44, e45, e46, e47, ?_, trivial⟩ <;> first | (simp only [ua, n16, H8, H9, H10, q18, H17, q19, q20, q21, d23, w24, e43, e44, e45, e46, e47, e48, e49, nm, seval] <;> rfl) | rfl) ?_
      rintro tm ⟨e52, e53, e54, e55, e56, e57, _⟩
      cases g58 : (roomOk 8 (List.length (c6_7 ++ [r50])))
      ·simp only [g58, hs, reduceCtorEq] at h
       exact absurd h kN6
      simp only [g58, hs, reduceCtorEq] at h
      simp only [vz, tyf, g7, n16, H8, H9, H10, q18, H17, q19, q20, q21, d23, (ix40 o25), w24, e52, e53, e54, e55, e56, e57, g58, nm, seval]
      refine k_app (w := 1) (enc := eI) (xs := c6_7) (ys := ([r50])) (el := el6_0) (el2 := (some 34)) (fun _ => rfl) lf54 ao54 Tryz.underlying54 (by first | rfl | assumption | (simp only [updH_apply, without_apply, et54, n16, H8, H9, H10, q18, H17, q19, q20, q21, nm, seval] <;> rfl) | (simp only [updH_apply, without_apply, cellsL_cons, cellsL_nil, mV_app, mV_app0, tyf, g7, n16, H8, H9, H10, q18, H17, q19, q20, q21, d23, (ix40 o25), w24, e52, e53, e54, e55, e56, e57, g58, nm, seval]; done)) (by first | rfl | assumption | (simp only [updH_apply, without_apply, et54, n16, H8, H9, H10, q18, H17, q19, q20, q21, nm, seval] <;> rfl) | (simp only [updH_apply, without_apply, cellsL_cons, cellsL_nil, mV_app, mV_app0, tyf, g7, n16, H8, H9, H10, q18, H17, q19, q20, q21, d23, (ix40 o25), w24, e52, e53, e54, e55, e56, e57, g58, nm, seval]; done)) (Nat.zero_lt_succ _) g58 ?_
      simp only [vz, tyf, g7, n16, H8, H9, H10, q18, H17, q19, q20, q21, d23, (ix40 o25), w24, e52, e53, e54, e55, e56, e57, g58, nm, seval]
      refine drawK_nil ⟨?_, ?_⟩
      ·simp only [traceR_cons, traceR_nil, hitK_quiet, hitK_nil, and_true, true_and]
       repeat' (first | exact trivial | refine And.intro ?_ ?_ | rw [hitK_quiet] | rw [hitK_cons] | exact Or.inl (by decide +kernel) | exact Or.inl (by dsimp only; decide +kernel) | (refine Or.inr ⟨?_, ?_⟩ <;> simp; done) | (refine Or.inr ⟨?_, ?_⟩ <;> simp <;> omega))
      simp only [vz, tyf, g7, n16, H8, H9, H10, q18, H17, q19, q20, q21, d23, (ix40 o25), w24, e52, e53, e54, e55, e56, e57, g58, nm, seval]
      exact ⟨List.length p6, Nat.lt_succ_self _, by rw [hI6]; refine ⟨p6, c6_8 + 1, (c6_7 ++ [r50]), .ref (nx6 + 41) 0 (List.length (c6_7 ++ [r50])) 1 (List.length (c6_7 ++ [r50])), rfl, Int.le_trans hi6 (Int.le_add_one (Int.le_refl _)), drop_next hi6 hp6, rfl, (show 6 ≤ nx6 + 46 by omega), ?_, ?_, ?_, e52, e53, e54, ?_, ?_, Or.inl ⟨nx6 + 41, (sameEl el6_0 34), rfl, (by first | omega | (simp only [nm, seval]; omega)), (by first | omega | (intro hh; simp only [n16, q18, q19, q20, q21, reduceCtorEq] at hh)), (by first | omega | (intro hh; simp only [n16, q18, q19, q20, q21, reduceCtorEq] at hh)), (by first | omega | (intro hh; simp only [n16, q18, q19, q20, q21, reduceCtorEq] at hh)), ?_⟩, h⟩ <;> first | (simp only [ua, n16, H8, H9, H10, q18, H17, q19, q20, q21, d23, w24, e52, e53, e54, e55, e56, e57, nm, seval] <;> rfl) | rfl⟩
 ·cases p6 with
  | nil =>
   have d59 : (decide (c6_8 < (List.length x1_b.Letters : Int))) = false := not_lt_of_drop hi6 hp6
   simp only [g_ref02_Letters_l0, hs, reduceCtorEq] at h
   replace h := kG6 _ h
   try dsimp only at h
   try simp only [hs] at h
   simp only [vz, tyf, g7, n16, e11, e12, e13, e14, e15, H8, H9, H10, d59, nm, seval]
   refine opd_ret (x := (.lit (.slice none 0 0))) (by first | (simp only [Tryz.results32, resV, resL, resV1, tgt_ptr, tgt_tp, uw, cr, tyf, g7, n16, e11, e12, e13, e14, e15, H8, H9, H10, d59, nm, seval] <;> rfl) | rfl) ?_
   obtain rfl := kF _ h
   refine rr_tree ?_ ?_
   ·simp only [tre, tytre, Bool.and_self]
   ·first | (simp only [outV, uw, showV_ref, cr, tyf, nrm, tynrm, g7, n16, e11, e12, e13, e14, e15, H8, H9, H10, d59, nm, seval] <;> rfl) | rfl
  | cons e6 p6 =>
   have d60 : (decide (c6_8 < (List.length x1_b.Letters : Int))) = true := lt_of_drop hi6 hp6
   have o62 := getI_of_drop hi6 hp6
   have w61 := wrap_next hi6 hp6 g7
   simp only [g_ref02_Letters_l0, hs, reduceCtorEq] at h
   simp only [vz, tyf, g7, n16, e11, e12, e13, e14, e15, H8, H9, H10, d60, (ix40 o62), w61, nm, seval]
   refine cwp_drawTF (fun tm => tm 3 = .ptr 0 0 ∧ tm 4 = .ptr 1 0 ∧ tm 5 = .ptr 2 0 ∧ tm 7 = .lit (.slice none 0 0) ∧ tm 8 = .lit (.int .i64 c6_8) ∧ tm 9 = .ptr (nx6 + 10) 0 ∧ True) (by refine ⟨e11, e12, e13, e14, e15, ?_, trivial⟩ <;> first | (simp only [ua, n16, e11, e12, e13, e14, e15, H8, H9, H10, d60, w61, nm, seval] <;> rfl) | rfl) ?_
   rintro tm ⟨e63, e64, e65, e66, e67, e68, _⟩
   cases o70 : (g_ref02_Fault e6 x1_b.At x2_p (IntKind.i64.wrap (x0_s.Eye.Low * x0_s.Light.Low))) with
   | none =>
    simp only [o70, hs, reduceCtorEq] at h
    exact absurd h kN6
   | some r69 =>
    simp only [o70, hs, reduceCtorEq] at h
    simp only [vz, tyf, g7, n16, H8, H9, H10, d60, (ix40 o62), w61, e63, e64, e65, e66, e67, e68, nm, seval]
    refine dktree (args0 := [.agg (cGSightLetter e6), .lit (.int .i64 x1_b.At), .agg (cGSightPlace x2_p), .lit (.int .i64 (IntKind.i64.wrap (x0_s.Eye.Low * x0_s.Light.Low)))]) (by first | (simp only [nrm, tynrm] <;> rfl) | rfl) (by simp only [tre, tytre, Bool.and_self]) (g_ref02_Fault_ok _ _ _ _ _ o70) ?_
    refine fin_cut (fun tm => tm 3 = .ptr 0 0 ∧ tm 4 = .ptr 1 0 ∧ tm 5 = .ptr 2 0 ∧ tm 8 = .lit (.int .i64 c6_8) ∧ tm 9 = .ptr (nx6 + 10) 0 ∧ tm 22 = .lit (.slice none 0 0) ∧ tm 34 = .lit (.int .i64 r69) ∧ True) (by refine ⟨e63, e64, e65, e67, e68, ?_, ?_, trivial⟩ <;> first | (simp only [ua, n16, H8, H9, H10, d60, w61, e63, e64, e65, e66, e67, e68, nm, seval] <;> rfl) | rfl) ?_
    rintro tm ⟨e71, e72, e73, e74, e75, e76, e77, _⟩
    cases o79 : (g_ref02_Fault e6 x1_b.At x2_p (IntKind.i64.wrap (x0_s.Eye.High * x0_s.Light.High))) with
    | none =>
     simp only [o79, hs, reduceCtorEq] at h
     exact absurd h kN6
    | some r78 =>
     simp only [o79, hs, reduceCtorEq] at h
     simp only [vz, tyf, g7, n16, H8, H9, H10, d60, (ix40 o62), w61, e71, e72, e73, e74, e75, e76, e77, nm, seval]
     refine dktree (args0 := [.agg (cGSightLetter e6), .lit (.int .i64 x1_b.At), .agg (cGSightPlace x2_p), .lit (.int .i64 (IntKind.i64.wrap (x0_s.Eye.High * x0_s.Light.High)))]) (by first | (simp only [nrm, tynrm] <;> rfl) | rfl) (by simp only [tre, tytre, Bool.and_self]) (g_ref02_Fault_ok _ _ _ _ _ o79) ?_
     refine fin_cut (fun tm => tm 3 = .ptr 0 0 ∧ tm 4 = .ptr 1 0 ∧ tm 5 = .ptr 2 0 ∧ tm 8 = .lit (.int .i64 c6_8) ∧ tm 22 = .lit (.slice none 0 0) ∧ tm 35 = .lit (.bool (r69 == 0)) ∧ tm 47 = .lit (.int .i64 r78) ∧ True) (by refine ⟨e71, e72, e73, e74, e76, ?_, ?_, trivial⟩ <;> first | (simp only [ua, n16, H8, H9, H10, d60, w61, e71, e72, e73, e74, e75, e76, e77, nm, seval] <;> rfl) | rfl) ?_
     rintro tm ⟨e80, e81, e82, e83, e84, e85, e86, _⟩
     cases o88 : (g_ref02_word (r69 == 0) (r78 == 0)) with
     | none =>
      simp only [o88, hs, reduceCtorEq] at h
      exact absurd h kN6
     | some r87 =>
      simp only [o88, hs, reduceCtorEq] at h
      simp only [vz, tyf, g7, n16, H8, H9, H10, d60, (ix40 o62), w61, e80, e81, e82, e83, e84, e85, e86, nm, seval]
      refine dktree (args0 := [.lit (.bool (r69 == 0)), .lit (.bool (r78 == 0))]) (by first | (simp only [nrm, tynrm] <;> rfl) | rfl) (by simp only [tre, tytre, Bool.and_self]) (g_ref02_word_ok _ _ _ o88) ?_
      refine fin_cut (fun tm => tm 3 = .ptr 0 0 ∧ tm 4 = .ptr 1 0 ∧ tm 5 = .ptr 2 0 ∧ tm 8 = .lit (.int .i64 c6_8) ∧ tm 22 = .lit (.slice none 0 0) ∧ tm 49 = .lit (.int .i64 r87) ∧ True) (by refine ⟨e80, e81, e82, e83, e84, ?_, trivial⟩ <;> first | (simp only [ua, n16, H8, H9, H10, d60, w61, e80, e81, e82, e83, e84, e85, e86, nm, seval] <;> rfl) | rfl) ?_
      rintro tm ⟨e89, e90, e91, e92, e93, e94, _⟩
      cases g95 : (roomOk 8 (List.length (([] : List Int) ++ [r87])))
      ·simp only [g95, hs, reduceCtorEq] at h
       exact absurd h kN6
      simp only [g95, hs, reduceCtorEq] at h
      simp only [vz, tyf, g7, n16, H8, H9, H10, d60, (ix40 o62), w61, e89, e90, e91, e92, e93, e94, g95, nm, seval]
      refine k_appN (w := 1) (enc := eI) (ys := ([r87])) (el2 := (some 34)) (fun _ => rfl) lf54 ao54 Tryz.underlying54 (by first | rfl | assumption | (simp only [updH_apply, without_apply, et54, n16, H8, H9, H10, nm, seval] <;> rfl) | (simp only [updH_apply, without_apply, cellsL_cons, cellsL_nil, mV_app, mV_app0, tyf, g7, n16, H8, H9, H10, d60, (ix40 o62), w61, e89, e90, e91, e92, e93, e94, g95, nm, seval]; done)) (Nat.zero_lt_succ _) g95 ?_
      simp only [vz, tyf, g7, n16, H8, H9, H10, d60, (ix40 o62), w61, e89, e90, e91, e92, e93, e94, g95, nm, seval]
      refine drawK_nil ⟨?_, ?_⟩
      ·simp only [traceR_cons, traceR_nil, hitK_quiet, hitK_nil, and_true, true_and]
       repeat' (first | exact trivial | refine And.intro ?_ ?_ | rw [hitK_quiet] | rw [hitK_cons] | exact Or.inl (by decide +kernel) | exact Or.inl (by dsimp only; decide +kernel) | (refine Or.inr ⟨?_, ?_⟩ <;> simp; done) | (refine Or.inr ⟨?_, ?_⟩ <;> simp <;> omega))
      simp only [vz, tyf, g7, n16, H8, H9, H10, d60, (ix40 o62), w61, e89, e90, e91, e92, e93, e94, g95, nm, seval]
      exact ⟨List.length p6, Nat.lt_succ_self _, by rw [hI6]; refine ⟨p6, c6_8 + 1, (([] : List Int) ++ [r87]), .ref (nx6 + 41) 0 (List.length (([] : List Int) ++ [r87])) 1 (List.length (([] : List Int) ++ [r87])), rfl, Int.le_trans hi6 (Int.le_add_one (Int.le_refl _)), drop_next hi6 hp6, rfl, (show 6 ≤ nx6 + 46 by omega), ?_, ?_, ?_, e89, e90, e91, ?_, ?_, Or.inl ⟨nx6 + 41, (some 34), rfl, (by first | omega | (simp only [nm, seval]; omega)), (by first | omega | (intro hh; simp only [n16, reduceCtorEq] at hh)), (by first | omega | (intro hh; simp only [n16, reduceCtorEq] at hh)), (by first | omega | (intro hh; simp only [n16, reduceCtorEq] at hh)), ?_⟩, h⟩ <;> first | (simp only [ua, n16, H8, H9, H10, d60, w61, e89, e90, e91, e92, e93, e94, nm, seval] <;> rfl) | rfl⟩
end Go.V
end
section
namespace Go.V
open Go Go.Proofs
def g_ref02_Pairs_l0 (x0_s : GSightStreet) (x1_b : GSightBoard) (x2_p : GSightPlace) : Nat → (List Int) → Int → Option (LOut (List Int) ((List Int) × Int))
 | 0, _, _ => none
 | k0 + 1, c0_7, c0_8 => cond (decide ((IntKind.i64.wrap (c0_8 + 1)) < (List.length x1_b.Letters : Int))) (Option.bind (getI x1_b.Letters c0_8) (fun x1 => Option.bind (g_ref02_Melts x1 x1_b.At x2_p (IntKind.i64.wrap (x0_s.Eye.High * x0_s.Light.High))) (fun r2 => Option.bind (g_ref02_Melts x1 x1_b.At x2_p (IntKind.i64.wrap (x0_s.Eye.Low * x0_s.Light.Low))) (fun r3 => Option.bind (g_ref02_word r2 r3) (fun r4 => cond (roomOk 8 (List.length (c0_7 ++ [r4]))) (g_ref02_Pairs_l0 x0_s x1_b x2_p k0 (c0_7 ++ [r4]) (IntKind.i64.wrap (c0_8 + 1))) none))))) (some (.go (c0_7, c0_8)))
def g_ref02_Pairs (x0_s : GSightStreet) (x1_b : GSightBoard) (x2_p : GSightPlace) : Option (List Int) := lbind (g_ref02_Pairs_l0 x0_s x1_b x2_p 1000000 ([] : List Int) 0) (fun r6 => some r6) (fun c5 => some c5.1) (fun _ _ => none)
theorem g_ref02_Pairs_ok (x0_s : GSightStreet) (x1_b : GSightBoard) (x2_p : GSightPlace) (R : List Int) (h : g_ref02_Pairs x0_s x1_b x2_p = some R) : VPure Tryz.prog G0 33 [.agg (cGSightStreet x0_s), .agg (cGSightBoard x1_b), .agg (cGSightPlace x2_p)] (.tree (.sl (cellsL eI R) (List.length R) false)) := by
 refine VPure.runR mixed Tryz.call33 Tryz.func33 rfl (by simp [Tryz.ntmps33]; kernel_rfl) ?_
 obtain ⟨KF, h, kF, kN⟩ := fun_intro h
 simp only [g_ref02_Pairs] at h
 simp only [vz, tyf, nm, seval]
 obtain ⟨K7, h, kR7, kG7, kB7, kN7⟩ := lbind_intro h kN
 obtain ⟨f7, hf7, h⟩ := call3 h
 obtain ⟨I7, hI7⟩ : ∃ I : Nat → St → Prop, I = (fun m st => ∃ (p7 : Nat) (c7_7 : List Int) (c7_8 : Int) (y7_0 : VV), p7 = m ∧ st.df = [] ∧ 6 ≤ st.nx ∧ st.H 0 = some (.cells (some 27) (cGSightStreet x0_s)) ∧ st.H 1 = some (.cells (some 42) (cGSightBoard x1_b)) ∧ st.H 2 = some (.cells (some 29) (cGSightPlace x2_p)) ∧ st.tm 3 = .ptr 0 0 ∧ st.tm 4 = .ptr 1 0 ∧ st.tm 5 = .ptr 2 0 ∧ st.tm 7 = y7_0 ∧ st.tm 8 = .lit (.int .i64 c7_8) ∧ ((∃ (β : Nat) (el : Option TypeId), y7_0 = .ref β 0 (List.length c7_7) 1 (List.length c7_7) ∧ β < st.nx ∧ β ≠ 0 ∧ β ≠ 1 ∧ β ≠ 2 ∧ st.H β = some (.cells el (cellsL eI c7_7))) ∨ (y7_0 = .lit (.slice none 0 0) ∧ c7_7 = [])) ∧ K7 (f7 p7 c7_7 c7_8)) := ⟨_, rfl⟩
 refine loopK mixed (by kernel_rfl) I7 1000000 (by rw [hI7]; refine ⟨1000000, ([] : List Int), 0, .lit (.slice none 0 0), rfl, rfl, (show 6 ≤ 6 by omega), ?_, ?_, ?_, ?_, ?_, ?_, ?_, ?_, Or.inr ⟨rfl, rfl⟩, h⟩ <;> first | (simp only [ua, nm, seval] <;> rfl) | rfl) ?_
 rintro m ⟨tm, H, nx7, df⟩ hinv
 rw [hI7] at hinv
 obtain ⟨p7, c7_7, c7_8, y7_0, rfl, hdf, hn7, H8, H9, H10, e11, e12, e13, e14, e15, ow7_0, h⟩ := hinv
 simp only at hdf hn7 H8 H9 H10 e11 e12 e13 e14 e15 ow7_0
 have n16 := base_ne0 (m := 6) (b := nx7) (by omega)
 subst hdf hf7
 rcases ow7_0 with ⟨b7_0, el7_0, rfl, lq18, lq19, lq20, lq21, H17⟩ | ⟨rfl, rfl⟩
 ·have q18 := own_lt lq18
  have q19 := ne_f lq19
  have q20 := ne_f lq20
  have q21 := ne_f lq21
  cases p7 with
  | zero =>
   simp only [g_ref02_Pairs_l0, hs, reduceCtorEq] at h
   exact absurd h kN7
  | succ p7 =>
   simp only [g_ref02_Pairs_l0, hs, reduceCtorEq] at h
   cases d22 : (decide ((IntKind.i64.wrap (c7_8 + 1)) < (List.length x1_b.Letters : Int)))
   ·simp only [d22, hs, reduceCtorEq] at h
    replace h := kG7 _ h
    try dsimp only at h
    try simp only [hs] at h
    simp only [vz, tyf, n16, e11, e12, e13, e14, e15, H8, H9, H10, q18, H17, q19, q20, q21, d22, nm, seval]
    refine opd_ret (x := (.ref b7_0 0 (List.length c7_7) 1 (List.length c7_7))) (by first | (simp only [Tryz.results33, resV, resL, resV1, tgt_ptr, tgt_tp, uw, cr, tyf, n16, e11, e12, e13, e14, e15, H8, H9, H10, q18, H17, q19, q20, q21, d22, nm, seval] <;> rfl) | rfl) ?_
    obtain rfl := kF _ h
    refine rr_tree ?_ ?_
    ·simp only [tre, tytre, Bool.and_self]
    ·first | (simp only [outV, uw, showV_ref, cr, tyf, nrm, tynrm, n16, e11, e12, e13, e14, e15, H8, H9, H10, q18, H17, q19, q20, q21, d22, nm, seval] <;> rfl) | rfl
   simp only [d22, hs, reduceCtorEq] at h
   cases o24 : (getI x1_b.Letters c7_8) with
   | none =>
    simp only [o24, hs, reduceCtorEq] at h
    exact absurd h kN7
   | some x23 =>
    simp only [o24, hs, reduceCtorEq] at h
    simp only [vz, tyf, n16, e11, e12, e13, e14, e15, H8, H9, H10, q18, H17, q19, q20, q21, d22, (ix40 o24), nm, seval]
    refine cwp_drawTF (fun tm => tm 3 = .ptr 0 0 ∧ tm 4 = .ptr 1 0 ∧ tm 5 = .ptr 2 0 ∧ tm 7 = .ref b7_0 0 (List.length c7_7) 1 (List.length c7_7) ∧ tm 8 = .lit (.int .i64 c7_8) ∧ tm 9 = .ptr (nx7 + 11) 0 ∧ True) (by refine ⟨e11, e12, e13, e14, e15, ?_, trivial⟩ <;> first | (simp only [ua, n16, e11, e12, e13, e14, e15, H8, H9, H10, q18, H17, q19, q20, q21, d22, nm, seval] <;> rfl) | rfl) ?_
    rintro tm ⟨e25, e26, e27, e28, e29, e30, _⟩
    cases o32 : (g_ref02_Melts x23 x1_b.At x2_p (IntKind.i64.wrap (x0_s.Eye.High * x0_s.Light.High))) with
    | none =>
     simp only [o32, hs, reduceCtorEq] at h
     exact absurd h kN7
    | some r31 =>
     simp only [o32, hs, reduceCtorEq] at h
     simp only [vz, tyf, n16, H8, H9, H10, q18, H17, q19, q20, q21, d22, (ix40 o24), e25, e26, e27, e28, e29, e30, nm, seval]
     refine dktree (args0 := [.agg (cGSightLetter x23), .lit (.int .i64 x1_b.At), .agg (cGSightPlace x2_p), .lit (.int .i64 (IntKind.i64.wrap (x0_s.Eye.High * x0_s.Light.High)))]) (by first | (simp only [nrm, tynrm] <;> rfl) | rfl) (by simp only [tre, tytre, Bool.and_self]) (g_ref02_Melts_ok _ _ _ _ _ o32) ?_
     refine fin_cut (fun tm => tm 3 = .ptr 0 0 ∧ tm 4 = .ptr 1 0 ∧ tm 5 = .ptr 2 0 ∧ tm 8 = .lit (.int .i64 c7_8) ∧ tm 9 = .ptr (nx7 + 11) 0 ∧ tm 23 = .ref b7_0 0 (List.length c7_7) 1 (List.length c7_7) ∧ tm 35 = .lit (.bool r31) ∧ True) (by refine ⟨e25, e26, e27, e29, e30, ?_, ?_, trivial⟩ <;> first | (simp only [ua, n16, H8, H9, H10, q18, H17, q19, q20, q21, d22, e25, e26, e27, e28, e29, e30, nm, seval] <;> rfl) | rfl) ?_
     rintro tm ⟨e33, e34, e35, e36, e37, e38, e39, _⟩
     cases o41 : (g_ref02_Melts x23 x1_b.At x2_p (IntKind.i64.wrap (x0_s.Eye.Low * x0_s.Light.Low))) with
     | none =>
      simp only [o41, hs, reduceCtorEq] at h
      exact absurd h kN7
     | some r40 =>
      simp only [o41, hs, reduceCtorEq] at h
      simp only [vz, tyf, n16, H8, H9, H10, q18, H17, q19, q20, q21, d22, (ix40 o24), e33, e34, e35, e36, e37, e38, e39, nm, seval]
      refine dktree (args0 := [.agg (cGSightLetter x23), .lit (.int .i64 x1_b.At), .agg (cGSightPlace x2_p), .lit (.int .i64 (IntKind.i64.wrap (x0_s.Eye.Low * x0_s.Light.Low)))]) (by first | (simp only [nrm, tynrm] <;> rfl) | rfl) (by simp only [tre, tytre, Bool.and_self]) (g_ref02_Melts_ok _ _ _ _ _ o41) ?_
      refine fin_cut (fun tm => tm 3 = .ptr 0 0 ∧ tm 4 = .ptr 1 0 ∧ tm 5 = .ptr 2 0 ∧ tm 8 = .lit (.int .i64 c7_8) ∧ tm 23 = .ref b7_0 0 (List.length c7_7) 1 (List.length c7_7) ∧ tm 35 = .lit (.bool r31) ∧ tm 47 = .lit (.bool r40) ∧ True) (by refine ⟨e33, e34, e35, e36, e38, e39, ?_, trivial⟩ <;> first | (simp only [ua, n16, H8, H9, H10, q18, H17, q19, q20, q21, d22, e33, e34, e35, e36, e37, e38, e39, nm, seval] <;> rfl) | rfl) ?_
      rintro tm ⟨e42, e43, e44, e45, e46, e47, e48, _⟩
      cases o50 : (g_ref02_word r31 r40) with
      | none =>
       simp only [o50, hs, reduceCtorEq] at h
       exact absurd h kN7
      | some r49 =>
       simp only [o50, hs, reduceCtorEq] at h
       simp only [vz, tyf, n16, H8, H9, H10, q18, H17, q19, q20, q21, d22, (ix40 o24), e42, e43, e44, e45, e46, e47, e48, nm, seval]
       refine dktree (args0 := [.lit (.bool r31), .lit (.bool r40)]) (by first | (simp only [nrm, tynrm] <;> rfl) | rfl) (by simp only [tre, tytre, Bool.and_self]) (g_ref02_word_ok _ _ _ o50) ?_
       refine fin_cut (fun tm => tm 3 = .ptr 0 0 ∧ tm 4 = .ptr 1 0 ∧ tm 5 = .ptr 2 0 ∧ tm 8 = .lit (.int .i64 c7_8) ∧ tm 23 = .ref b7_0 0 (List.length c7_7) 1 (List.length c7_7) ∧ tm 48 = .lit (.int .i64 r49) ∧ True) (by refine ⟨e42, e43, e44, e45, e46, ?_, trivial⟩ <;> first | (simp only [ua, n16, H8, H9, H10, q18, H17, q19, q20, q21, d22, e42, e43, e44, e45, e46, e47, e48, nm, seval] <;> rfl) | rfl) ?_
       rintro tm ⟨e51, e52, e53, e54, e55, e56, _⟩
       cases g57 : (roomOk 8 (List.length (c7_7 ++ [r49])))
       ·simp only [g57, hs, reduceCtorEq] at h
        exact absurd h kN7
       simp only [g57, hs, reduceCtorEq] at h
       simp only [vz, tyf, n16, H8, H9, H10, q18, H17, q19, q20, q21, d22, (ix40 o24), e51, e52, e53, e54, e55, e56, g57, nm, seval]
       refine k_app (w := 1) (enc := eI) (xs := c7_7) (ys := ([r49])) (el := el7_0) (el2 := (some 34)) (fun _ => rfl) lf54 ao54 Tryz.underlying54 (by first | rfl | assumption | (simp only [updH_apply, without_apply, et54, n16, H8, H9, H10, q18, H17, q19, q20, q21, nm, seval] <;> rfl) | (simp only [updH_apply, without_apply, cellsL_cons, cellsL_nil, mV_app, mV_app0, tyf, n16, H8, H9, H10, q18, H17, q19, q20, q21, d22, (ix40 o24), e51, e52, e53, e54, e55, e56, g57, nm, seval]; done)) (by first | rfl | assumption | (simp only [updH_apply, without_apply, et54, n16, H8, H9, H10, q18, H17, q19, q20, q21, nm, seval] <;> rfl) | (simp only [updH_apply, without_apply, cellsL_cons, cellsL_nil, mV_app, mV_app0, tyf, n16, H8, H9, H10, q18, H17, q19, q20, q21, d22, (ix40 o24), e51, e52, e53, e54, e55, e56, g57, nm, seval]; done)) (Nat.zero_lt_succ _) g57 ?_
       simp only [vz, tyf, n16, H8, H9, H10, q18, H17, q19, q20, q21, d22, (ix40 o24), e51, e52, e53, e54, e55, e56, g57, nm, seval]
       refine drawK_nil ⟨?_, ?_⟩
       ·simp only [traceR_cons, traceR_nil, hitK_quiet, hitK_nil, and_true, true_and]
        repeat' (first | exact trivial | refine And.intro ?_ ?_ | rw [hitK_quiet] | rw [hitK_cons] | exact Or.inl (by decide +kernel) | exact Or.inl (by dsimp only; decide +kernel) | (refine Or.inr ⟨?_, ?_⟩ <;> simp; done) | (refine Or.inr ⟨?_, ?_⟩ <;> simp <;> omega))
       simp only [vz, tyf, n16, H8, H9, H10, q18, H17, q19, q20, q21, d22, (ix40 o24), e51, e52, e53, e54, e55, e56, g57, nm, seval]
       exact ⟨p7, Nat.lt_succ_self _, by rw [hI7]; refine ⟨p7, (c7_7 ++ [r49]), IntKind.i64.wrap (c7_8 + 1), .ref (nx7 + 40) 0 (List.length (c7_7 ++ [r49])) 1 (List.length (c7_7 ++ [r49])), rfl, rfl, (show 6 ≤ nx7 + 45 by omega), ?_, ?_, ?_, e51, e52, e53, ?_, ?_, Or.inl ⟨nx7 + 40, (sameEl el7_0 34), rfl, (by first | omega | (simp only [nm, seval]; omega)), (by first | omega | (intro hh; simp only [n16, q18, q19, q20, q21, reduceCtorEq] at hh)), (by first | omega | (intro hh; simp only [n16, q18, q19, q20, q21, reduceCtorEq] at hh)), (by first | omega | (intro hh; simp only [n16, q18, q19, q20, q21, reduceCtorEq] at hh)), ?_⟩, h⟩ <;> first | (simp only [ua, n16, H8, H9, H10, q18, H17, q19, q20, q21, d22, e51, e52, e53, e54, e55, e56, nm, seval] <;> rfl) | rfl⟩
 ·cases p7 with
  | zero =>
   simp only [g_ref02_Pairs_l0, hs, reduceCtorEq] at h
   exact absurd h kN7
  | succ p7 =>
   simp only [g_ref02_Pairs_l0, hs, reduceCtorEq] at h
   cases d58 : (decide ((IntKind.i64.wrap (c7_8 + 1)) < (List.length x1_b.Letters : Int)))
   ·simp only [d58, hs, reduceCtorEq] at h
    replace h := kG7 _ h
    try dsimp only at h
    try simp only [hs] at h
    simp only [vz, tyf, n16, e11, e12, e13, e14, e15, H8, H9, H10, d58, nm, seval]
    refine opd_ret (x := (.lit (.slice none 0 0))) (by first | (simp only [Tryz.results33, resV, resL, resV1, tgt_ptr, tgt_tp, uw, cr, tyf, n16, e11, e12, e13, e14, e15, H8, H9, H10, d58, nm, seval] <;> rfl) | rfl) ?_
    obtain rfl := kF _ h
    refine rr_tree ?_ ?_
    ·simp only [tre, tytre, Bool.and_self]
    ·first | (simp only [outV, uw, showV_ref, cr, tyf, nrm, tynrm, n16, e11, e12, e13, e14, e15, H8, H9, H10, d58, nm, seval] <;> rfl) | rfl
   simp only [d58, hs, reduceCtorEq] at h
   cases o60 : (getI x1_b.Letters c7_8) with
   | none =>
    simp only [o60, hs, reduceCtorEq] at h
    exact absurd h kN7
   | some x59 =>
    simp only [o60, hs, reduceCtorEq] at h
    simp only [vz, tyf, n16, e11, e12, e13, e14, e15, H8, H9, H10, d58, (ix40 o60), nm, seval]
    refine cwp_drawTF (fun tm => tm 3 = .ptr 0 0 ∧ tm 4 = .ptr 1 0 ∧ tm 5 = .ptr 2 0 ∧ tm 7 = .lit (.slice none 0 0) ∧ tm 8 = .lit (.int .i64 c7_8) ∧ tm 9 = .ptr (nx7 + 11) 0 ∧ True) (by refine ⟨e11, e12, e13, e14, e15, ?_, trivial⟩ <;> first | (simp only [ua, n16, e11, e12, e13, e14, e15, H8, H9, H10, d58, nm, seval] <;> rfl) | rfl) ?_
    rintro tm ⟨e61, e62, e63, e64, e65, e66, _⟩
    cases o68 : (g_ref02_Melts x59 x1_b.At x2_p (IntKind.i64.wrap (x0_s.Eye.High * x0_s.Light.High))) with
    | none =>
     simp only [o68, hs, reduceCtorEq] at h
     exact absurd h kN7
    | some r67 =>
     simp only [o68, hs, reduceCtorEq] at h
     simp only [vz, tyf, n16, H8, H9, H10, d58, (ix40 o60), e61, e62, e63, e64, e65, e66, nm, seval]
     refine dktree (args0 := [.agg (cGSightLetter x59), .lit (.int .i64 x1_b.At), .agg (cGSightPlace x2_p), .lit (.int .i64 (IntKind.i64.wrap (x0_s.Eye.High * x0_s.Light.High)))]) (by first | (simp only [nrm, tynrm] <;> rfl) | rfl) (by simp only [tre, tytre, Bool.and_self]) (g_ref02_Melts_ok _ _ _ _ _ o68) ?_
     refine fin_cut (fun tm => tm 3 = .ptr 0 0 ∧ tm 4 = .ptr 1 0 ∧ tm 5 = .ptr 2 0 ∧ tm 8 = .lit (.int .i64 c7_8) ∧ tm 9 = .ptr (nx7 + 11) 0 ∧ tm 23 = .lit (.slice none 0 0) ∧ tm 35 = .lit (.bool r67) ∧ True) (by refine ⟨e61, e62, e63, e65, e66, ?_, ?_, trivial⟩ <;> first | (simp only [ua, n16, H8, H9, H10, d58, e61, e62, e63, e64, e65, e66, nm, seval] <;> rfl) | rfl) ?_
     rintro tm ⟨e69, e70, e71, e72, e73, e74, e75, _⟩
     cases o77 : (g_ref02_Melts x59 x1_b.At x2_p (IntKind.i64.wrap (x0_s.Eye.Low * x0_s.Light.Low))) with
     | none =>
      simp only [o77, hs, reduceCtorEq] at h
      exact absurd h kN7
     | some r76 =>
      simp only [o77, hs, reduceCtorEq] at h
      simp only [vz, tyf, n16, H8, H9, H10, d58, (ix40 o60), e69, e70, e71, e72, e73, e74, e75, nm, seval]
      refine dktree (args0 := [.agg (cGSightLetter x59), .lit (.int .i64 x1_b.At), .agg (cGSightPlace x2_p), .lit (.int .i64 (IntKind.i64.wrap (x0_s.Eye.Low * x0_s.Light.Low)))]) (by first | (simp only [nrm, tynrm] <;> rfl) | rfl) (by simp only [tre, tytre, Bool.and_self]) (g_ref02_Melts_ok _ _ _ _ _ o77) ?_
      refine fin_cut (fun tm => tm 3 = .ptr 0 0 ∧ tm 4 = .ptr 1 0 ∧ tm 5 = .ptr 2 0 ∧ tm 8 = .lit (.int .i64 c7_8) ∧ tm 23 = .lit (.slice none 0 0) ∧ tm 35 = .lit (.bool r67) ∧ tm 47 = .lit (.bool r76) ∧ True) (by refine ⟨e69, e70, e71, e72, e74, e75, ?_, trivial⟩ <;> first | (simp only [ua, n16, H8, H9, H10, d58, e69, e70, e71, e72, e73, e74, e75, nm, seval] <;> rfl) | rfl) ?_
      rintro tm ⟨e78, e79, e80, e81, e82, e83, e84, _⟩
      cases o86 : (g_ref02_word r67 r76) with
      | none =>
       simp only [o86, hs, reduceCtorEq] at h
       exact absurd h kN7
      | some r85 =>
       simp only [o86, hs, reduceCtorEq] at h
       simp only [vz, tyf, n16, H8, H9, H10, d58, (ix40 o60), e78, e79, e80, e81, e82, e83, e84, nm, seval]
       refine dktree (args0 := [.lit (.bool r67), .lit (.bool r76)]) (by first | (simp only [nrm, tynrm] <;> rfl) | rfl) (by simp only [tre, tytre, Bool.and_self]) (g_ref02_word_ok _ _ _ o86) ?_
       refine fin_cut (fun tm => tm 3 = .ptr 0 0 ∧ tm 4 = .ptr 1 0 ∧ tm 5 = .ptr 2 0 ∧ tm 8 = .lit (.int .i64 c7_8) ∧ tm 23 = .lit (.slice none 0 0) ∧ tm 48 = .lit (.int .i64 r85) ∧ True) (by refine ⟨e78, e79, e80, e81, e82, ?_, trivial⟩ <;> first | (simp only [ua, n16, H8, H9, H10, d58, e78, e79, e80, e81, e82, e83, e84, nm, seval] <;> rfl) | rfl) ?_
       rintro tm ⟨e87, e88, e89, e90, e91, e92, _⟩
       cases g93 : (roomOk 8 (List.length (([] : List Int) ++ [r85])))
       ·simp only [g93, hs, reduceCtorEq] at h
        exact absurd h kN7
       simp only [g93, hs, reduceCtorEq] at h
       simp only [vz, tyf, n16, H8, H9, H10, d58, (ix40 o60), e87, e88, e89, e90, e91, e92, g93, nm, seval]
       refine k_appN (w := 1) (enc := eI) (ys := ([r85])) (el2 := (some 34)) (fun _ => rfl) lf54 ao54 Tryz.underlying54 (by first | rfl | assumption | (simp only [updH_apply, without_apply, et54, n16, H8, H9, H10, nm, seval] <;> rfl) | (simp only [updH_apply, without_apply, cellsL_cons, cellsL_nil, mV_app, mV_app0, tyf, n16, H8, H9, H10, d58, (ix40 o60), e87, e88, e89, e90, e91, e92, g93, nm, seval]; done)) (Nat.zero_lt_succ _) g93 ?_
       simp only [vz, tyf, n16, H8, H9, H10, d58, (ix40 o60), e87, e88, e89, e90, e91, e92, g93, nm, seval]
       refine drawK_nil ⟨?_, ?_⟩
       ·simp only [traceR_cons, traceR_nil, hitK_quiet, hitK_nil, and_true, true_and]
        repeat' (first | exact trivial | refine And.intro ?_ ?_ | rw [hitK_quiet] | rw [hitK_cons] | exact Or.inl (by decide +kernel) | exact Or.inl (by dsimp only; decide +kernel) | (refine Or.inr ⟨?_, ?_⟩ <;> simp; done) | (refine Or.inr ⟨?_, ?_⟩ <;> simp <;> omega))
       simp only [vz, tyf, n16, H8, H9, H10, d58, (ix40 o60), e87, e88, e89, e90, e91, e92, g93, nm, seval]
       exact ⟨p7, Nat.lt_succ_self _, by rw [hI7]; refine ⟨p7, (([] : List Int) ++ [r85]), IntKind.i64.wrap (c7_8 + 1), .ref (nx7 + 40) 0 (List.length (([] : List Int) ++ [r85])) 1 (List.length (([] : List Int) ++ [r85])), rfl, rfl, (show 6 ≤ nx7 + 45 by omega), ?_, ?_, ?_, e87, e88, e89, ?_, ?_, Or.inl ⟨nx7 + 40, (some 34), rfl, (by first | omega | (simp only [nm, seval]; omega)), (by first | omega | (intro hh; simp only [n16, reduceCtorEq] at hh)), (by first | omega | (intro hh; simp only [n16, reduceCtorEq] at hh)), (by first | omega | (intro hh; simp only [n16, reduceCtorEq] at hh)), ?_⟩, h⟩ <;> first | (simp only [ua, n16, H8, H9, H10, d58, e87, e88, e89, e90, e91, e92, nm, seval] <;> rfl) | rfl⟩
end Go.V
end
section
namespace Go.V
open Go Go.Proofs
def g_ref02_SameWords_l0 (x1_b : List Int) : List Int → Int → Option (LOut (Bool) (Unit))
 | [], c0_5 => some (.go ())
 | e0 :: p0, c0_5 => Option.bind (getI x1_b c0_5) (fun x1 => cond (e0 != x1) (some (.ret false)) (g_ref02_SameWords_l0 x1_b p0 (c0_5 + 1)))
def g_ref02_SameWords (x0_a : List Int) (x1_b : List Int) : Option (Bool) := cond ((List.length x0_a : Int) != (List.length x1_b : Int)) (some false) (cond (lenOk x0_a) (lbind (g_ref02_SameWords_l0 x1_b x0_a 0) (fun r3 => some r3) (fun c2 => some true) (fun _ _ => none)) none)
theorem g_ref02_SameWords_ok (x0_a : List Int) (x1_b : List Int) (R : Bool) (h : g_ref02_SameWords x0_a x1_b = some R) : VPure Tryz.prog G0 31 [.sl (cellsL eI x0_a) (List.length x0_a) false, .sl (cellsL eI x1_b) (List.length x1_b) false] (.tree (.lit (.bool R))) := by
 refine VPure.runR mixed Tryz.call31 Tryz.func31 rfl (by simp [Tryz.ntmps31]; kernel_rfl) ?_
 obtain ⟨KF, h, kF, kN⟩ := fun_intro h
 simp only [g_ref02_SameWords] at h
 cases d4 : ((List.length x0_a : Int) != (List.length x1_b : Int))
 ·simp only [d4, hs, reduceCtorEq] at h
  cases g6 : (lenOk x0_a)
  ·simp only [g6, hs, reduceCtorEq] at h
   exact absurd h kN
  simp only [g6, hs, reduceCtorEq] at h
  simp only [vz, tyf, d4, g6, nm, seval]
  obtain ⟨K5, h, kR5, kG5, kB5, kN5⟩ := lbind_intro h kN
  obtain ⟨f5, hf5, h⟩ := call2 h
  obtain ⟨I5, hI5⟩ : ∃ I : Nat → St → Prop, I = (fun m st => ∃ (p5 : List Int) (c5_5 : Int), m = List.length p5 ∧ 0 ≤ c5_5 ∧ List.drop (Int.toNat c5_5) x0_a = p5 ∧ st.df = [] ∧ 7 ≤ st.nx ∧ st.tm 0 = .sl (cellsL eI x0_a) (List.length x0_a) false ∧ st.tm 1 = .sl (cellsL eI x1_b) (List.length x1_b) false ∧ st.tm 5 = .lit (.int .i64 c5_5) ∧ K5 (f5 p5 c5_5)) := ⟨_, rfl⟩
  refine loopK mixed (by kernel_rfl) I5 (List.length x0_a) (by rw [hI5]; refine ⟨x0_a, 0, rfl, Int.le_refl _, rfl, rfl, (show 7 ≤ 7 by omega), ?_, ?_, ?_, h⟩ <;> first | (simp only [ua, d4, nm, seval] <;> rfl) | rfl) ?_
  rintro m ⟨tm, H, nx5, df⟩ hinv
  rw [hI5] at hinv
  obtain ⟨p5, c5_5, rfl, hi5, hp5, hdf, hn5, e7, e8, e9, h⟩ := hinv
  simp only at hdf hn5 e7 e8 e9
  have n10 := base_ne0 (m := 7) (b := nx5) (by omega)
  subst hdf hf5
  cases p5 with
  | nil =>
   have d11 : (decide (c5_5 < (List.length x0_a : Int))) = false := not_lt_of_drop hi5 hp5
   simp only [g_ref02_SameWords_l0, hs, reduceCtorEq] at h
   replace h := kG5 _ h
   try dsimp only at h
   try simp only [hs] at h
   simp only [vz, tyf, d4, g6, n10, e7, e8, e9, d11, nm, seval]
   obtain rfl := kF _ h
   exact opd_bool Tryz.results31 (by first | rfl | (simp only [upd_apply, e7, e8, e9, seval] <;> rfl))
  | cons e5 p5 =>
   have d12 : (decide (c5_5 < (List.length x0_a : Int))) = true := lt_of_drop hi5 hp5
   have o14 := getI_of_drop hi5 hp5
   have w13 := wrap_next hi5 hp5 g6
   simp only [g_ref02_SameWords_l0, hs, reduceCtorEq] at h
   simp only [vz, tyf, d4, g6, n10, e7, e8, e9, d12, (ix54 o14), w13, nm, seval]
   refine cwp_drwQF (fun tm => tm 0 = .sl (cellsL eI x0_a) (List.length x0_a) false ∧ tm 1 = .sl (cellsL eI x1_b) (List.length x1_b) false ∧ tm 5 = .lit (.int .i64 c5_5) ∧ True) (by refine ⟨e7, e8, e9, trivial⟩ <;> first | (simp only [ua, d4, n10, e7, e8, e9, d12, w13, nm, seval] <;> rfl) | rfl) ?_
   rintro tm ⟨e15, e16, e17, _⟩
   cases o19 : (getI x1_b c5_5) with
   | none =>
    simp only [o19, hs, reduceCtorEq] at h
    exact absurd h kN5
   | some x18 =>
    simp only [o19, hs, reduceCtorEq] at h
    cases d20 : (e5 != x18)
    ·simp only [d20, hs, reduceCtorEq] at h
     simp only [vz, tyf, d4, g6, n10, d12, (ix54 o14), w13, e15, e16, e17, (ix54 o19), d20, nm, seval]
     exact ⟨List.length p5, Nat.lt_succ_self _, by rw [hI5]; refine ⟨p5, c5_5 + 1, rfl, Int.le_trans hi5 (Int.le_add_one (Int.le_refl _)), drop_next hi5 hp5, rfl, (show 7 ≤ nx5 + 16 by omega), e15, e16, ?_, h⟩ <;> first | (simp only [ua, d4, n10, d12, w13, e15, e16, e17, d20, nm, seval] <;> rfl) | rfl⟩
    simp only [d20, hs, reduceCtorEq] at h
    simp only [vz, tyf, d4, g6, n10, d12, (ix54 o14), w13, e15, e16, e17, (ix54 o19), d20, nm, seval]
    replace h := kR5 _ h
    try dsimp only at h
    obtain rfl := kF _ h
    exact opd_bool Tryz.results31 (by first | rfl | (simp only [upd_apply, e15, e16, e17, seval] <;> rfl))
 simp only [d4, hs, reduceCtorEq] at h
 simp only [vz, tyf, d4, nm, seval]
 obtain rfl := kF _ h
 exact opd_bool Tryz.results31 (by first | rfl | (simp only [upd_apply, seval] <;> rfl))
end Go.V
end
