/- Part of a proof: a logic of values by content, lifted functions, what follows. -/
import Derived.Test.YtbpeickbdiihcaaGreatDoorQbf
import Derived.Test.YtbpeickbdiihcaaGreatDoorQbi
import Derived.Test.YtbpeickbdiihcaaGreatDoorQbk
import Derived.Test.YtbpeickbdiihcaaGreatDoorQbl
import Derived.Test.YtbpeickbdiihcaaGreatDoorQbm
import Derived.Test.YtbpeickbdiihcaaGreatDoorQbn
import Derived.Test.YtbpeickbdiihcaaGreatDoorQbo
import Derived.Test.YtbpeickbdiihcaaGreatDoorQay
import Derived.Test.YtbpeickbdiihcaaGreatDoorProg
import Derived.Test.YtbpeickbdiihcaaGreatDoorQbj
set_option linter.all false
set_option maxRecDepth 4000
set_option maxHeartbeats 4000000
section
namespace Go.V
open Go Go.Proofs
def g_sight_Hidden_l0 (r3 : Gsightview) : List GSightBlock → Int → (List Int) → Option (LOut ((List Int) × Int) ((List Int)))
 | [], c0_29, c0_9 => some (.go c0_9)
 | e0 :: p0, c0_29, c0_9 => Option.bind (g_sight_view_isBehind r3 e0) (fun r4 => cond (r4) (cond (roomOk 8 (List.length (c0_9 ++ [c0_29]))) (g_sight_Hidden_l0 r3 p0 (c0_29 + 1) (c0_9 ++ [c0_29])) none) (g_sight_Hidden_l0 r3 p0 (c0_29 + 1) c0_9))
def g_sight_Hidden (x0_s : GSightStreet) (x1_board : Int) (x2_from : GSightPlace) : Option ((List Int) × Int) := Option.bind (g_sight_isView x0_s x1_board x2_from) (fun r1 => cond (r1) (Option.bind (getI x0_s.Boards x1_board) (fun x2 => Option.bind (g_sight_atWorst x0_s x2 x2_from) (fun r3 => cond (lenOk r3.SightStreet.Blocks) (lbind (g_sight_Hidden_l0 r3 r3.SightStreet.Blocks 0 ([] : List Int)) (fun r6 => some r6) (fun c5 => some (c5, 0)) (fun _ _ => none)) none))) (some (([] : List Int), 2)))
theorem g_sight_Hidden_ok (x0_s : GSightStreet) (x1_board : Int) (x2_from : GSightPlace) (R : (List Int) × Int) (h : g_sight_Hidden x0_s x1_board x2_from = some R) : VPure Tryz.prog G0 30 [.agg (cGSightStreet x0_s), .lit (.int .i64 x1_board), .agg (cGSightPlace x2_from)] (.tree (.tup [.sl (cellsL eI R.1) (List.length R.1) false, .lit (.int .i64 R.2)])) := by
 refine VPure.runR mixed Tryz.call30 Tryz.func30 rfl (by simp [Tryz.ntmps30]; kernel_rfl) ?_
 obtain ⟨KF, h, kF, kN⟩ := fun_intro h
 simp only [g_sight_Hidden] at h
 cases o8 : (g_sight_isView x0_s x1_board x2_from) with
 | none =>
  simp only [o8, hs, reduceCtorEq] at h
  exact absurd h kN
 | some r7 =>
  simp only [o8, hs, reduceCtorEq] at h
  simp only [vz, tyf, nm, seval]
  refine ktree (args0 := [.agg (cGSightStreet x0_s), .lit (.int .i64 x1_board), .agg (cGSightPlace x2_from)]) (by first | (simp only [nrm, tynrm] <;> rfl) | rfl) (by simp only [tre, tytre, Bool.and_self]) (g_sight_isView_ok _ _ _ _ o8) ?_
  refine fin_cut (fun tm => tm 1 = .lit (.int .i64 x1_board) ∧ tm 3 = .ptr 0 0 ∧ tm 5 = .ptr 1 0 ∧ tm 15 = .lit (.bool r7) ∧ True) (by refine ⟨?_, ?_, ?_, ?_, trivial⟩ <;> first | (simp only [ua, nm, seval] <;> rfl) | rfl) ?_
  rintro tm ⟨e9, e10, e11, e12, _⟩
  cases d13 : (r7)
  ·simp only [d13, hs, reduceCtorEq] at h
   simp only [vz, tyf, e9, e10, e11, e12, d13, nm, seval]
   refine opd_ret (x := (.tup [.lit (.slice none 0 0), .lit (.int .i64 2)])) (by first | (simp only [Tryz.results30, resV, resL, resV1, tgt_ptr, tgt_tp, uw, cr, tyf, d13, nm, seval] <;> rfl) | rfl) ?_
   obtain rfl := kF _ h
   refine rr_tree ?_ ?_
   ·simp only [tre, tytre, Bool.and_self]
   ·first | (simp only [outV, uw, showV_ref, cr, tyf, nrm, tynrm, e9, e10, e11, e12, d13, nm, seval] <;> rfl) | rfl
  simp only [d13, hs, reduceCtorEq] at h
  simp only [vz, tyf, e9, e10, e11, e12, d13, nm, seval]
  refine cwp_drawTF (fun tm => tm 1 = .lit (.int .i64 x1_board) ∧ tm 3 = .ptr 0 0 ∧ tm 5 = .ptr 1 0 ∧ True) (by refine ⟨e9, e10, e11, trivial⟩ <;> first | (simp only [ua, e9, e10, e11, e12, d13, nm, seval] <;> rfl) | rfl) ?_
  rintro tm ⟨e14, e15, e16, _⟩
  cases o18 : (getI x0_s.Boards x1_board) with
  | none =>
   simp only [o18, hs, reduceCtorEq] at h
   exact absurd h kN
  | some x17 =>
   simp only [o18, hs, reduceCtorEq] at h
   cases o20 : (g_sight_atWorst x0_s x17 x2_from) with
   | none =>
    simp only [o20, hs, reduceCtorEq] at h
    exact absurd h kN
   | some r19 =>
    simp only [o20, hs, reduceCtorEq] at h
    simp only [vz, tyf, d13, e14, e15, e16, (ix24 o18), nm, seval]
    refine dktree (args0 := [.agg (cGSightStreet x0_s), .agg (cGSightBoard x17), .agg (cGSightPlace x2_from)]) (by first | (simp only [nrm, tynrm] <;> rfl) | rfl) (by simp only [tre, tytre, Bool.and_self]) (g_sight_atWorst_ok _ _ _ _ o20) ?_
    refine fin_cut (fun tm => tm 24 = .agg (cGsightview r19) ∧ True) (by refine ⟨?_, trivial⟩ <;> first | (simp only [ua, d13, e14, e15, e16, nm, seval] <;> rfl) | rfl) ?_
    rintro tm ⟨e21, _⟩
    simp only [vz, tyf, d13, (ix24 o18), e21, nm, seval]
    refine drawK_nil ⟨?_, ?_⟩
    ·simp only [traceR_cons, traceR_nil, hitK_quiet, hitK_nil, and_true, true_and]
     repeat' (first | exact trivial | refine And.intro ?_ ?_ | rw [hitK_quiet] | rw [hitK_cons] | exact Or.inl (by decide +kernel) | exact Or.inl (by dsimp only; decide +kernel) | (refine Or.inr ⟨?_, ?_⟩ <;> simp; done) | (refine Or.inr ⟨?_, ?_⟩ <;> simp <;> omega))
    cases g23 : (lenOk r19.SightStreet.Blocks)
    ·simp only [g23, hs, reduceCtorEq] at h
     exact absurd h kN
    simp only [g23, hs, reduceCtorEq] at h
    simp only [vz, tyf, d13, (ix24 o18), e21, g23, nm, seval]
    obtain ⟨K22, h, kR22, kG22, kB22, kN22⟩ := lbind_intro h kN
    obtain ⟨f22, hf22, h⟩ := call3 h
    obtain ⟨I22, hI22⟩ : ∃ I : Nat → St → Prop, I = (fun m st => ∃ (p22 : List GSightBlock) (c22_29 : Int) (c22_9 : List Int) (y22_0 : VV), m = List.length p22 ∧ 0 ≤ c22_29 ∧ List.drop (Int.toNat c22_29) r19.SightStreet.Blocks = p22 ∧ st.df = [] ∧ 25 ≤ st.nx ∧ st.H 17 = some (.cells (some 97) (cGsightview r19)) ∧ st.tm 8 = .ptr 17 0 ∧ st.tm 27 = .sl (cellsL cGSightBlock r19.SightStreet.Blocks) (List.length r19.SightStreet.Blocks) false ∧ st.tm 28 = .lit (.int .i64 (List.length r19.SightStreet.Blocks : Int)) ∧ st.tm 9 = y22_0 ∧ st.tm 29 = .lit (.int .i64 c22_29) ∧ ((∃ (β : Nat) (el : Option TypeId), y22_0 = .ref β 0 (List.length c22_9) 1 (List.length c22_9) ∧ β < st.nx ∧ β ≠ 17 ∧ st.H β = some (.cells el (cellsL eI c22_9))) ∨ (y22_0 = .lit (.slice none 0 0) ∧ c22_9 = [])) ∧ K22 (f22 p22 c22_29 c22_9)) := ⟨_, rfl⟩
    refine loopK mixed (by kernel_rfl) I22 (List.length r19.SightStreet.Blocks) (by rw [hI22]; refine ⟨r19.SightStreet.Blocks, 0, ([] : List Int), .lit (.slice none 0 0), rfl, Int.le_refl _, rfl, rfl, (show 25 ≤ 25 by omega), ?_, ?_, ?_, ?_, ?_, ?_, Or.inr ⟨rfl, rfl⟩, h⟩ <;> first | (simp only [ua, d13, e21, nm, seval] <;> rfl) | rfl) ?_
    rintro m ⟨tm, H, nx22, df⟩ hinv
    rw [hI22] at hinv
    obtain ⟨p22, c22_29, c22_9, y22_0, rfl, hi22, hp22, hdf, hn22, H24, e25, e26, e27, e28, e29, ow22_0, h⟩ := hinv
    simp only at hdf hn22 H24 e25 e26 e27 e28 e29 ow22_0
    have n30 := base_ne0 (m := 25) (b := nx22) (by omega)
    subst hdf hf22
    rcases ow22_0 with ⟨b22_0, el22_0, rfl, lq32, lq33, H31⟩ | ⟨rfl, rfl⟩
    ·have q32 := own_lt lq32
     have q33 := ne_f lq33
     cases p22 with
     | nil =>
      have d34 : (decide (c22_29 < (List.length r19.SightStreet.Blocks : Int))) = false := not_lt_of_drop hi22 hp22
      simp only [g_sight_Hidden_l0, hs, reduceCtorEq] at h
      replace h := kG22 _ h
      try dsimp only at h
      try simp only [hs] at h
      simp only [vz, tyf, d13, (ix24 o18), g23, n30, e25, e26, e27, e28, e29, H24, q32, H31, q33, d34, nm, seval]
      refine opd_ret (x := (.tup [.ref b22_0 0 (List.length c22_9) 1 (List.length c22_9), .lit (.int .i64 0)])) (by first | (simp only [Tryz.results30, resV, resL, resV1, tgt_ptr, tgt_tp, uw, cr, tyf, d13, (ix24 o18), g23, n30, H24, q32, H31, q33, d34, nm, seval] <;> rfl) | rfl) ?_
      obtain rfl := kF _ h
      refine rr_tree ?_ ?_
      ·simp only [tre, tytre, Bool.and_self]
      ·first | (simp only [outV, uw, showV_ref, cr, tyf, nrm, tynrm, d13, (ix24 o18), g23, n30, e25, e26, e27, e28, e29, H24, q32, H31, q33, d34, nm, seval] <;> rfl) | rfl
     | cons e22 p22 =>
      have d35 : (decide (c22_29 < (List.length r19.SightStreet.Blocks : Int))) = true := lt_of_drop hi22 hp22
      have o37 := getI_of_drop hi22 hp22
      have w36 := wrap_next hi22 hp22 g23
      simp only [g_sight_Hidden_l0, hs, reduceCtorEq] at h
      cases o39 : (g_sight_view_isBehind r19 e22) with
      | none =>
       simp only [o39, hs, reduceCtorEq] at h
       exact absurd h kN22
      | some r38 =>
       simp only [o39, hs, reduceCtorEq] at h
       simp only [vz, tyf, d13, (ix24 o18), g23, n30, e25, e26, e27, e28, e29, H24, q32, H31, q33, d35, (ix25 o37), w36, nm, seval]
       refine ktree (args0 := [.agg (cGsightview r19), .agg (cGSightBlock e22)]) (by first | (simp only [nrm, tynrm] <;> rfl) | rfl) (by simp only [tre, tytre, Bool.and_self]) (g_sight_view_isBehind_ok _ _ _ o39) ?_
       refine fin_cut (fun tm => tm 8 = .ptr 17 0 ∧ tm 9 = .ref b22_0 0 (List.length c22_9) 1 (List.length c22_9) ∧ tm 10 = .lit (.int .i64 c22_29) ∧ tm 27 = .sl (cellsL cGSightBlock r19.SightStreet.Blocks) (List.length r19.SightStreet.Blocks) false ∧ tm 28 = .lit (.int .i64 (List.length r19.SightStreet.Blocks : Int)) ∧ tm 29 = .lit (.int .i64 c22_29) ∧ tm 36 = .lit (.bool r38) ∧ True) (by refine ⟨e25, e28, ?_, e26, e27, e29, ?_, trivial⟩ <;> first | (simp only [ua, d13, n30, e25, e26, e27, e28, e29, H24, q32, H31, q33, d35, w36, nm, seval] <;> rfl) | rfl) ?_
       rintro tm ⟨e40, e41, e42, e43, e44, e45, e46, _⟩
       cases d47 : (r38)
       ·simp only [d47, hs, reduceCtorEq] at h
        simp only [vz, tyf, d13, (ix24 o18), g23, n30, H24, q32, H31, q33, d35, (ix25 o37), w36, e40, e41, e42, e43, e44, e45, e46, d47, nm, seval]
        exact ⟨List.length p22, Nat.lt_succ_self _, by rw [hI22]; refine ⟨p22, c22_29 + 1, c22_9, .ref b22_0 0 (List.length c22_9) 1 (List.length c22_9), rfl, Int.le_trans hi22 (Int.le_add_one (Int.le_refl _)), drop_next hi22 hp22, rfl, (show 25 ≤ nx22 + 12 by omega), ?_, e40, e43, e44, ?_, ?_, Or.inl ⟨b22_0, el22_0, rfl, (by first | omega | (simp only [nm, seval]; omega)), (by first | omega | (intro hh; simp only [n30, q32, q33, reduceCtorEq] at hh)), ?_⟩, h⟩ <;> first | (simp only [ua, d13, n30, H24, q32, H31, q33, d35, w36, e40, e41, e42, e43, e44, e45, e46, d47, nm, seval] <;> rfl) | rfl⟩
       simp only [d47, hs, reduceCtorEq] at h
       cases g48 : (roomOk 8 (List.length (c22_9 ++ [c22_29])))
       ·simp only [g48, hs, reduceCtorEq] at h
        exact absurd h kN22
       simp only [g48, hs, reduceCtorEq] at h
       simp only [vz, tyf, d13, (ix24 o18), g23, n30, H24, q32, H31, q33, d35, (ix25 o37), w36, e40, e41, e42, e43, e44, e45, e46, d47, g48, nm, seval]
       refine k_app (w := 1) (enc := eI) (xs := c22_9) (ys := ([c22_29])) (el := el22_0) (el2 := (some 3)) (fun _ => rfl) lf57 ao57 Tryz.underlying57 (by first | rfl | assumption | (simp only [updH_apply, without_apply, et57, n30, H24, q32, H31, q33, nm, seval] <;> rfl) | (simp only [updH_apply, without_apply, cellsL_cons, cellsL_nil, mV_app, mV_app0, tyf, d13, (ix24 o18), g23, n30, H24, q32, H31, q33, d35, (ix25 o37), w36, e40, e41, e42, e43, e44, e45, e46, d47, g48, nm, seval]; done)) (by first | rfl | assumption | (simp only [updH_apply, without_apply, et57, n30, H24, q32, H31, q33, nm, seval] <;> rfl) | (simp only [updH_apply, without_apply, cellsL_cons, cellsL_nil, mV_app, mV_app0, tyf, d13, (ix24 o18), g23, n30, H24, q32, H31, q33, d35, (ix25 o37), w36, e40, e41, e42, e43, e44, e45, e46, d47, g48, nm, seval]; done)) (Nat.zero_lt_succ _) g48 ?_
       simp only [vz, tyf, d13, (ix24 o18), g23, n30, H24, q32, H31, q33, d35, (ix25 o37), w36, e40, e41, e42, e43, e44, e45, e46, d47, g48, nm, seval]
       exact ⟨List.length p22, Nat.lt_succ_self _, by rw [hI22]; refine ⟨p22, c22_29 + 1, (c22_9 ++ [c22_29]), .ref (nx22 + 13) 0 (List.length (c22_9 ++ [c22_29])) 1 (List.length (c22_9 ++ [c22_29])), rfl, Int.le_trans hi22 (Int.le_add_one (Int.le_refl _)), drop_next hi22 hp22, rfl, (show 25 ≤ nx22 + 17 by omega), ?_, e40, e43, e44, ?_, ?_, Or.inl ⟨nx22 + 13, (sameEl el22_0 3), rfl, (by first | omega | (simp only [nm, seval]; omega)), (by first | omega | (intro hh; simp only [n30, q32, q33, reduceCtorEq] at hh)), ?_⟩, h⟩ <;> first | (simp only [ua, d13, n30, H24, q32, H31, q33, d35, w36, e40, e41, e42, e43, e44, e45, e46, d47, nm, seval] <;> rfl) | rfl⟩
    ·cases p22 with
     | nil =>
      have d49 : (decide (c22_29 < (List.length r19.SightStreet.Blocks : Int))) = false := not_lt_of_drop hi22 hp22
      simp only [g_sight_Hidden_l0, hs, reduceCtorEq] at h
      replace h := kG22 _ h
      try dsimp only at h
      try simp only [hs] at h
      simp only [vz, tyf, d13, (ix24 o18), g23, n30, e25, e26, e27, e28, e29, H24, d49, nm, seval]
      refine opd_ret (x := (.tup [.lit (.slice none 0 0), .lit (.int .i64 0)])) (by first | (simp only [Tryz.results30, resV, resL, resV1, tgt_ptr, tgt_tp, uw, cr, tyf, d13, (ix24 o18), g23, n30, H24, d49, nm, seval] <;> rfl) | rfl) ?_
      obtain rfl := kF _ h
      refine rr_tree ?_ ?_
      ·simp only [tre, tytre, Bool.and_self]
      ·first | (simp only [outV, uw, showV_ref, cr, tyf, nrm, tynrm, d13, (ix24 o18), g23, n30, e25, e26, e27, e28, e29, H24, d49, nm, seval] <;> rfl) | rfl
     | cons e22 p22 =>
      have d50 : (decide (c22_29 < (List.length r19.SightStreet.Blocks : Int))) = true := lt_of_drop hi22 hp22
      have o52 := getI_of_drop hi22 hp22
      have w51 := wrap_next hi22 hp22 g23
      simp only [g_sight_Hidden_l0, hs, reduceCtorEq] at h
      cases o54 : (g_sight_view_isBehind r19 e22) with
      | none =>
       simp only [o54, hs, reduceCtorEq] at h
       exact absurd h kN22
      | some r53 =>
       simp only [o54, hs, reduceCtorEq] at h
       simp only [vz, tyf, d13, (ix24 o18), g23, n30, e25, e26, e27, e28, e29, H24, d50, (ix25 o52), w51, nm, seval]
       refine ktree (args0 := [.agg (cGsightview r19), .agg (cGSightBlock e22)]) (by first | (simp only [nrm, tynrm] <;> rfl) | rfl) (by simp only [tre, tytre, Bool.and_self]) (g_sight_view_isBehind_ok _ _ _ o54) ?_
       refine fin_cut (fun tm => tm 8 = .ptr 17 0 ∧ tm 9 = .lit (.slice none 0 0) ∧ tm 10 = .lit (.int .i64 c22_29) ∧ tm 27 = .sl (cellsL cGSightBlock r19.SightStreet.Blocks) (List.length r19.SightStreet.Blocks) false ∧ tm 28 = .lit (.int .i64 (List.length r19.SightStreet.Blocks : Int)) ∧ tm 29 = .lit (.int .i64 c22_29) ∧ tm 36 = .lit (.bool r53) ∧ True) (by refine ⟨e25, e28, ?_, e26, e27, e29, ?_, trivial⟩ <;> first | (simp only [ua, d13, n30, e25, e26, e27, e28, e29, H24, d50, w51, nm, seval] <;> rfl) | rfl) ?_
       rintro tm ⟨e55, e56, e57, e58, e59, e60, e61, _⟩
       cases d62 : (r53)
       ·simp only [d62, hs, reduceCtorEq] at h
        simp only [vz, tyf, d13, (ix24 o18), g23, n30, H24, d50, (ix25 o52), w51, e55, e56, e57, e58, e59, e60, e61, d62, nm, seval]
        exact ⟨List.length p22, Nat.lt_succ_self _, by rw [hI22]; refine ⟨p22, c22_29 + 1, ([] : List Int), .lit (.slice none 0 0), rfl, Int.le_trans hi22 (Int.le_add_one (Int.le_refl _)), drop_next hi22 hp22, rfl, (show 25 ≤ nx22 + 12 by omega), ?_, e55, e58, e59, ?_, ?_, Or.inr ⟨rfl, rfl⟩, h⟩ <;> first | (simp only [ua, d13, n30, H24, d50, w51, e55, e56, e57, e58, e59, e60, e61, d62, nm, seval] <;> rfl) | rfl⟩
       simp only [d62, hs, reduceCtorEq] at h
       cases g63 : (roomOk 8 (List.length (([] : List Int) ++ [c22_29])))
       ·simp only [g63, hs, reduceCtorEq] at h
        exact absurd h kN22
       simp only [g63, hs, reduceCtorEq] at h
       simp only [vz, tyf, d13, (ix24 o18), g23, n30, H24, d50, (ix25 o52), w51, e55, e56, e57, e58, e59, e60, e61, d62, g63, nm, seval]
       refine k_appN (w := 1) (enc := eI) (ys := ([c22_29])) (el2 := (some 3)) (fun _ => rfl) lf57 ao57 Tryz.underlying57 (by first | rfl | assumption | (simp only [updH_apply, without_apply, et57, n30, H24, nm, seval] <;> rfl) | (simp only [updH_apply, without_apply, cellsL_cons, cellsL_nil, mV_app, mV_app0, tyf, d13, (ix24 o18), g23, n30, H24, d50, (ix25 o52), w51, e55, e56, e57, e58, e59, e60, e61, d62, g63, nm, seval]; done)) (Nat.zero_lt_succ _) g63 ?_
       simp only [vz, tyf, d13, (ix24 o18), g23, n30, H24, d50, (ix25 o52), w51, e55, e56, e57, e58, e59, e60, e61, d62, g63, nm, seval]
       exact ⟨List.length p22, Nat.lt_succ_self _, by rw [hI22]; refine ⟨p22, c22_29 + 1, (([] : List Int) ++ [c22_29]), .ref (nx22 + 13) 0 (List.length (([] : List Int) ++ [c22_29])) 1 (List.length (([] : List Int) ++ [c22_29])), rfl, Int.le_trans hi22 (Int.le_add_one (Int.le_refl _)), drop_next hi22 hp22, rfl, (show 25 ≤ nx22 + 17 by omega), ?_, e55, e58, e59, ?_, ?_, Or.inl ⟨nx22 + 13, (some 3), rfl, (by first | omega | (simp only [nm, seval]; omega)), (by first | omega | (intro hh; simp only [n30, reduceCtorEq] at hh)), ?_⟩, h⟩ <;> first | (simp only [ua, d13, n30, H24, d50, w51, e55, e56, e57, e58, e59, e60, e61, d62, nm, seval] <;> rfl) | rfl⟩
end Go.V
end
section
namespace Go.V
open Go Go.Proofs
end Go.V
end
section
namespace Go.V
open Go Go.Proofs
end Go.V
end
section
namespace Go.V
open Go Go.Proofs
end Go.V
end
section
namespace Go.V
open Go Go.Proofs
end Go.V
end
section
namespace Go.V
open Go
def powI (s : GSightStreet) (i j : Int) : Int := (s.Eye.Low + i) * (s.Light.Low + j)
theorem pow_ok {s : GSightStreet} {i j : Int} (h1 : 0 ≤ s.Eye.Low + i) (h2 : s.Eye.Low + i ≤ 40) (h3 : 0 ≤ s.Light.Low + j) (h4 : s.Light.Low + j ≤ 100) : PW (powI s i j) := mulR h1 h2 h3 h4
theorem pow_wrap {s : GSightStreet} {i j : Int} (h1 : 0 ≤ s.Eye.Low + i) (h2 : s.Eye.Low + i ≤ 40) (h3 : 0 ≤ s.Light.Low + j) (h4 : s.Light.Low + j ≤ 100) : IntKind.i64.wrap (IntKind.i64.wrap (s.Eye.Low + i) * IntKind.i64.wrap (s.Light.Low + j)) = powI s i j := by
 rw [wrap_eq (n := s.Eye.Low + i) (by omega) (by omega), wrap_eq (n := s.Light.Low + j) (by omega) (by omega)]
 exact pw_wrap (pow_ok h1 h2 h3 h4)
theorem let_l2 (r : Gsightview) (c0 c1 : Int) (l : GSightLetter) (hp : PG r.board.At r.SightPlace) (hl : BL l) (hi : getI r.board.Letters c0 = some l) (e1 : 0 ≤ r.SightStreet.Eye.Low + c1) (e2 : r.SightStreet.Eye.Low + c1 ≤ 40) (e3 : 0 ≤ r.SightStreet.Light.Low) :
  ∀ (k : Nat) (c : Int) (st : Option Bool) (pw : Int), 0 ≤ c → r.SightStreet.Light.Low + c + k ≤ 101 → ∃ pw', g_sight_Letters_l2 r c0 c1 k c (ea st) (eo st) pw = match cmb st (rowT (fun j => legB (powI r.SightStreet c1 j) r.board.At r.SightPlace l) k c) with | some st' => some (.go (ea st', eo st', pw')) | none => some (.brk 0 (false, true, pw'))
 | 0, c, st, pw, h0, hk => ⟨pw, by cases st <;> rfl⟩
 | k + 1, c, st, pw, h0, hk => by
  have hw := pow_ok (s := r.SightStreet) (i := c1) (j := c) e1 e2 (by omega) (by omega)
  have hww := pow_wrap (s := r.SightStreet) (i := c1) (j := c) e1 e2 (by omega) (by omega)
  have hleg := isLegible_eq ⟨r.SightStreet, r.SightPlace, r.board, powI r.SightStreet c1 c⟩ c0 l hp hw hl hi
  simp only [] at hleg
  have ih := fun st => let_l2 r c0 c1 l hp hl hi e1 e2 e3 k (c + 1) st (powI r.SightStreet c1 c) (by omega) (by omega)
  unfold g_sight_Letters_l2
  simp only [hww, hleg, Option.bind_some, rowT]
  cases hT : legB (powI r.SightStreet c1 c) r.board.At r.SightPlace l with
  | true =>
   obtain ⟨pw', ih'⟩ := ih (some true)
   cases st with
   | none => exact ⟨pw', ih'⟩
   | some b => cases b with
    | true => exact ⟨pw', ih'⟩
    | false => exact ⟨_, rfl⟩
  | false =>
   obtain ⟨pw', ih'⟩ := ih (some false)
   cases st with
   | none => exact ⟨pw', ih'⟩
   | some b => cases b with
    | true => exact ⟨_, rfl⟩
    | false => exact ⟨pw', ih'⟩
theorem light_n {s : GSightStreet} (h1 : 0 ≤ s.Light.Low) (h2 : s.Light.Low ≤ s.Light.High) (h3 : s.Light.High ≤ 100) : IntKind.i64.wrap (IntKind.i64.wrap (s.Light.High - s.Light.Low) + 1) = s.Light.High - s.Light.Low + 1 := by
 rw [wrap_eq (n := s.Light.High - s.Light.Low) (by omega) (by omega), wrap_eq (by omega) (by omega)]
theorem eye_n {s : GSightStreet} (h1 : 0 ≤ s.Eye.Low) (h2 : s.Eye.Low ≤ s.Eye.High) (h3 : s.Eye.High ≤ 100) : IntKind.i64.wrap (IntKind.i64.wrap (s.Eye.High - s.Eye.Low) + 1) = s.Eye.High - s.Eye.Low + 1 := by
 rw [wrap_eq (n := s.Eye.High - s.Eye.Low) (by omega) (by omega), wrap_eq (by omega) (by omega)]
theorem bound_small {n : Int} (h : n ≤ 1000) : boundOk n = true := by unfold boundOk; exact decide_eq_true (by omega)
def lightN (s : GSightStreet) : Nat := (s.Light.High - s.Light.Low + 1).toNat
def eyeN (s : GSightStreet) : Nat := (s.Eye.High - s.Eye.Low + 1).toNat
theorem let_l1 (r : Gsightview) (c0 : Int) (l : GSightLetter) (hp : PG r.board.At r.SightPlace) (hl : BL l) (hi : getI r.board.Letters c0 = some l) (e1 : 0 ≤ r.SightStreet.Eye.Low) (e3 : 0 ≤ r.SightStreet.Light.Low) (e4 : r.SightStreet.Light.Low ≤ r.SightStreet.Light.High) (e5 : r.SightStreet.Light.High ≤ 100) :
  ∀ (k : Nat) (c : Int) (st : Option Bool) (pw : Int), 0 ≤ c → r.SightStreet.Eye.Low + c + k ≤ 41 → ∃ pw', g_sight_Letters_l1 r c0 k c (ea st) (eo st) pw = match cmb st (gridT (fun i j => legB (powI r.SightStreet i j) r.board.At r.SightPlace l) (lightN r.SightStreet) k c) with | some st' => some (.go (ea st', eo st', pw')) | none => some (.go (false, true, pw'))
 | 0, c, st, pw, h0, hk => ⟨pw, by cases st <;> rfl⟩
 | k + 1, c, st, pw, h0, hk => by
  have hn := light_n e3 e4 e5
  have hb : boundOk (r.SightStreet.Light.High - r.SightStreet.Light.Low + 1) = true := bound_small (by omega)
  obtain ⟨pw1, h2⟩ := let_l2 r c0 c l hp hl hi (by omega) (by omega) e3 (lightN r.SightStreet) 0 st pw (by omega) (by unfold lightN; omega)
  have hN : Int.toNat (r.SightStreet.Light.High - r.SightStreet.Light.Low + 1 - 0) = lightN r.SightStreet := by unfold lightN; omega
  unfold g_sight_Letters_l1
  simp only [hn, hb, cond_true, hN, h2, gridT, cmb_append]
  cases cmb st (rowT (fun j => legB (powI r.SightStreet c j) r.board.At r.SightPlace l) (lightN r.SightStreet) 0) with
  | none => exact ⟨pw1, rfl⟩
  | some st' =>
   simp only [lbind_go]
   exact let_l1 r c0 l hp hl hi e1 e3 e4 e5 k (c + 1) st' pw1 (by omega) (by omega)
def howI (m M : Bool) : Int := cond m 3 (cond M 2 1)
theorem pow_range {s : GSightStreet} {i j : Int} (e0 : 0 ≤ s.Eye.Low) (l0 : 0 ≤ s.Light.Low) (i0 : 0 ≤ i) (i1 : s.Eye.Low + i ≤ s.Eye.High) (j0 : 0 ≤ j) (j1 : s.Light.Low + j ≤ s.Light.High) : 0 ≤ s.Eye.Low * s.Light.Low ∧ s.Eye.Low * s.Light.Low ≤ powI s i j ∧ powI s i j ≤ s.Eye.High * s.Light.High :=
 ⟨Int.mul_nonneg e0 l0, Int.mul_le_mul (by omega) (by omega) l0 (by omega), Int.mul_le_mul i1 j1 (by omega) (by omega)⟩
theorem pow_low {s : GSightStreet} : powI s 0 0 = s.Eye.Low * s.Light.Low := by unfold powI; rw [Int.add_zero, Int.add_zero]
theorem pow_high {s : GSightStreet} : powI s (s.Eye.High - s.Eye.Low) (s.Light.High - s.Light.Low) = s.Eye.High * s.Light.High := by
 unfold powI
 congr 1 <;> omega
section
variable {s : GSightStreet} {b : GSightBoard} {p : GSightPlace} (h : Good s b p)
include h
theorem grid_leg {l : GSightLetter} (hl : BL l) : wordT (cmb none (gridT (fun i j => legB (powI s i j) b.At p l) (lightN s) (eyeN s) 0)) = howI (legB (s.Eye.Low * s.Light.Low) b.At p l) (legB (s.Eye.High * s.Light.High) b.At p l) := by
 have hp := (goods h).1
 have h1 := h.el; have h2 := h.em; have h3 := h.eh; have h4 := h.ll; have h5 := h.lm; have h6 := h.lh
 refine word_grid ?_ ?_ ?_ ?_
 ·exact (mem_grid _ _).2 ⟨0, 0, by omega, by unfold eyeN; omega, by omega, by unfold lightN; omega, by rw [pow_low]⟩
 ·exact (mem_grid _ _).2 ⟨s.Eye.High - s.Eye.Low, s.Light.High - s.Light.Low, by omega, by unfold eyeN; omega, by omega, by unfold lightN; omega, by rw [pow_high]⟩
 ·intro hm x hx
  obtain ⟨i, j, i0, i1, j0, j1, rfl⟩ := (mem_grid _ _).1 hx
  unfold eyeN at i1; unfold lightN at j1
  have := pow_range (s := s) (i := i) (j := j) (by omega) (by omega) i0 (by omega) j0 (by omega)
  exact leg_mono hl hp this.1 this.2.1 hm
 ·intro hM x hx
  obtain ⟨i, j, i0, i1, j0, j1, rfl⟩ := (mem_grid _ _).1 hx
  unfold eyeN at i1; unfold lightN at j1
  have := pow_range (s := s) (i := i) (j := j) (by omega) (by omega) i0 (by omega) j0 (by omega)
  rw [Bool.eq_false_iff]
  intro ht
  rw [leg_mono hl hp (Int.le_trans this.1 this.2.1) this.2.2 ht] at hM
  cases hM
theorem grid_melt {l : GSightLetter} (hl : BL l) : wordT (cmb none (gridT (fun i j => !apartB (powI s i j) b.At p l) (lightN s) (eyeN s) 0)) = howI (!apartB (s.Eye.High * s.Light.High) b.At p l) (!apartB (s.Eye.Low * s.Light.Low) b.At p l) := by
 have hp := (goods h).1
 have h1 := h.el; have h2 := h.em; have h3 := h.eh; have h4 := h.ll; have h5 := h.lm; have h6 := h.lh
 refine word_grid ?_ ?_ ?_ ?_
 ·exact (mem_grid _ _).2 ⟨s.Eye.High - s.Eye.Low, s.Light.High - s.Light.Low, by omega, by unfold eyeN; omega, by omega, by unfold lightN; omega, by rw [pow_high]⟩
 ·exact (mem_grid _ _).2 ⟨0, 0, by omega, by unfold eyeN; omega, by omega, by unfold lightN; omega, by rw [pow_low]⟩
 ·intro hm x hx
  obtain ⟨i, j, i0, i1, j0, j1, rfl⟩ := (mem_grid _ _).1 hx
  unfold eyeN at i1; unfold lightN at j1
  have := pow_range (s := s) (i := i) (j := j) (by omega) (by omega) i0 (by omega) j0 (by omega)
  cases ht : apartB (powI s i j) b.At p l with
  | false => rfl
  | true => rw [apart_mono hl hp this.2.2 ht] at hm; cases hm
 ·intro hM x hx
  obtain ⟨i, j, i0, i1, j0, j1, rfl⟩ := (mem_grid _ _).1 hx
  unfold eyeN at i1; unfold lightN at j1
  have := pow_range (s := s) (i := i) (j := j) (by omega) (by omega) i0 (by omega) j0 (by omega)
  have hl' : apartB (s.Eye.Low * s.Light.Low) b.At p l = true := by simpa using hM
  rw [apart_mono hl hp this.2.1 hl']; rfl
def legW (s : GSightStreet) (b : GSightBoard) (p : GSightPlace) (l : GSightLetter) : Int := howI (legB (s.Eye.Low * s.Light.Low) b.At p l) (legB (s.Eye.High * s.Light.High) b.At p l)
def meltW (s : GSightStreet) (b : GSightBoard) (p : GSightPlace) (l : GSightLetter) : Int := howI (!apartB (s.Eye.High * s.Light.High) b.At p l) (!apartB (s.Eye.Low * s.Light.Low) b.At p l)
theorem let_l0 (w : Int) : ∀ (ls : List GSightLetter) (c : Int) (acc : List Int), 0 ≤ c → b.Letters.drop c.toNat = ls → acc.length + ls.length ≤ 100 → g_sight_Letters_l0 ⟨s, p, b, w⟩ ls c acc = some (.go (acc ++ ls.map (legW s b p)))
 | [], c, acc, _, _, _ => by simp [g_sight_Letters_l0]
 | e :: ls, c, acc, h0, hd, hlen => by
  obtain ⟨hp, hl, hk, w1, w2⟩ := goods h
  have h1 := h.el; have h2 := h.em; have h3 := h.eh; have h4 := h.ll; have h5 := h.lm; have h6 := h.lh
  simp only [List.length_cons] at hlen
  have hi := getI_of_drop h0 hd
  have hle := hl e (getI_mem hi)
  have hn := eye_n (s := s) (by omega) h2 (by omega)
  have hb : boundOk (s.Eye.High - s.Eye.Low + 1) = true := bound_small (by omega)
  have hN : Int.toNat (s.Eye.High - s.Eye.Low + 1 - 0) = eyeN s := by unfold eyeN; omega
  obtain ⟨pw', hx⟩ := let_l1 ⟨s, p, b, w⟩ c e hp hle hi (show 0 ≤ s.Eye.Low by omega) (show 0 ≤ s.Light.Low by omega) h5 h6 (eyeN s) 0 none w (by omega) (show s.Eye.Low + 0 + eyeN s ≤ 41 by unfold eyeN; omega)
  simp only [ea, eo] at hx
  have ih := let_l0 w ls (c + 1)
  have hgl := grid_leg h hle
  unfold g_sight_Letters_l0
  have room : ∀ v : Int, roomOk 8 (acc ++ [v]).length = true := fun v => room_small 8 (by simp; omega) (by omega)
  have ih' : ∀ v : Int, g_sight_Letters_l0 ⟨s, p, b, w⟩ ls (c + 1) (acc ++ [v]) = some (.go (acc ++ [v] ++ ls.map (legW s b p))) := fun v => ih (acc ++ [v]) (by omega) (drop_next h0 hd) (by simp; omega)
  simp only [hn, hb, cond_true, hN, hx, room, ih', List.map_cons]
  have hlw : legW s b p e = wordT (cmb none (gridT (fun i j => legB (powI s i j) b.At p e) (lightN s) (eyeN s) 0)) := hgl.symm
  rw [hlw]
  cases cmb none (gridT (fun i j => legB (powI s i j) b.At p e) (lightN s) (eyeN s) 0) with
  | none => simp [lbind_go, wordT]
  | some st => cases st with
   | none => simp [lbind_go, wordT]
   | some t => cases t <;> simp [lbind_go, wordT]
theorem melt_l2 (w c0 c1 : Int) (l : GSightLetter) (hl : BL l) (hi : getI b.Letters c0 = some l) (e1 : 0 ≤ s.Eye.Low + c1) (e2 : s.Eye.Low + c1 ≤ 40) :
  ∀ (k : Nat) (c : Int) (st : Option Bool) (pw : Int), 0 ≤ c → s.Light.Low + c + k ≤ 101 → ∃ pw', g_sight_Melts_l2 ⟨s, p, b, w⟩ c0 c1 k c (ea st) (eo st) pw = match cmb st (rowT (fun j => !apartB (powI s c1 j) b.At p l) k c) with | some st' => some (.go (ea st', eo st', pw')) | none => some (.brk 0 (false, true, pw'))
 | 0, c, st, pw, h0, hk => ⟨pw, by cases st <;> rfl⟩
 | k + 1, c, st, pw, h0, hk => by
  have hp := (goods h).1
  have h4 := h.ll
  have hw := pow_ok (s := s) (i := c1) (j := c) e1 e2 (by omega) (by omega)
  have hww := pow_wrap (s := s) (i := c1) (j := c) e1 e2 (by omega) (by omega)
  have hleg := isApart_eq ⟨s, p, b, powI s c1 c⟩ c0 l hp hw hl hi
  simp only [] at hleg
  have ih := fun st => melt_l2 w c0 c1 l hl hi e1 e2 k (c + 1) st (powI s c1 c) (by omega) (by omega)
  unfold g_sight_Melts_l2
  simp only [hww, hleg, Option.bind_some, rowT]
  cases hT : apartB (powI s c1 c) b.At p l with
  | false =>
   obtain ⟨pw', ih'⟩ := ih (some true)
   cases st with
   | none => exact ⟨pw', ih'⟩
   | some b => cases b with
    | true => exact ⟨pw', ih'⟩
    | false => exact ⟨_, rfl⟩
  | true =>
   obtain ⟨pw', ih'⟩ := ih (some false)
   cases st with
   | none => exact ⟨pw', ih'⟩
   | some b => cases b with
    | true => exact ⟨_, rfl⟩
    | false => exact ⟨pw', ih'⟩
theorem melt_l1 (w c0 : Int) (l : GSightLetter) (hl : BL l) (hi : getI b.Letters c0 = some l) :
  ∀ (k : Nat) (c : Int) (st : Option Bool) (pw : Int), 0 ≤ c → s.Eye.Low + c + k ≤ 41 → ∃ pw', g_sight_Melts_l1 ⟨s, p, b, w⟩ c0 k c (ea st) (eo st) pw = match cmb st (gridT (fun i j => !apartB (powI s i j) b.At p l) (lightN s) k c) with | some st' => some (.go (ea st', eo st', pw')) | none => some (.go (false, true, pw'))
 | 0, c, st, pw, h0, hk => ⟨pw, by cases st <;> rfl⟩
 | k + 1, c, st, pw, h0, hk => by
  have h1 := h.el; have h2 := h.em; have h3 := h.eh; have h4 := h.ll; have h5 := h.lm; have h6 := h.lh
  have hn := light_n (s := s) (by omega) h5 h6
  have hb : boundOk (s.Light.High - s.Light.Low + 1) = true := bound_small (by omega)
  obtain ⟨pw1, h2⟩ := melt_l2 h w c0 c l hl hi (by omega) (by omega) (lightN s) 0 st pw (by omega) (by unfold lightN; omega)
  have hN : Int.toNat (s.Light.High - s.Light.Low + 1 - 0) = lightN s := by unfold lightN; omega
  unfold g_sight_Melts_l1
  simp only [hn, hb, cond_true, hN, h2, gridT, cmb_append]
  cases cmb st (rowT (fun j => !apartB (powI s c j) b.At p l) (lightN s) 0) with
  | none => exact ⟨pw1, rfl⟩
  | some st' =>
   simp only [lbind_go]
   exact melt_l1 w c0 l hl hi k (c + 1) st' pw1 (by omega) (by omega)
theorem melt_l0 (w : Int) : ∀ (k : Nat) (c : Int) (acc : List Int), 0 ≤ c → c + k ≤ b.Letters.length → acc.length + k ≤ 100 → g_sight_Melts_l0 ⟨s, p, b, w⟩ k c acc = some (.go (acc ++ ((b.Letters.drop c.toNat).take k).map (meltW s b p)))
 | 0, c, acc, _, _, _ => by simp [g_sight_Melts_l0]
 | k + 1, c, acc, h0, hk0, hlen => by
  obtain ⟨hp, hl, hk, w1, w2⟩ := goods h
  have h1 := h.el; have h2 := h.em; have h3 := h.eh; have h4 := h.ll; have h5 := h.lm; have h6 := h.lh
  obtain ⟨e, hi, hm⟩ := getI_some (xs := b.Letters) (i := c) h0 (by omega)
  have hd := (getI_drop hi).2.2
  have hcc : c.toNat + 1 = (c + 1).toNat := by omega
  rw [hcc] at hd
  have hle := hl e hm
  have hn := eye_n (s := s) (by omega) h2 (by omega)
  have hb : boundOk (s.Eye.High - s.Eye.Low + 1) = true := bound_small (by omega)
  have hN : Int.toNat (s.Eye.High - s.Eye.Low + 1 - 0) = eyeN s := by unfold eyeN; omega
  obtain ⟨pw', hx⟩ := melt_l1 h w c e hle hi (eyeN s) 0 none w (by omega) (show s.Eye.Low + 0 + eyeN s ≤ 41 by unfold eyeN; omega)
  simp only [ea, eo] at hx
  have ih := melt_l0 w k (c + 1)
  have hgl := grid_melt h hle
  unfold g_sight_Melts_l0
  have room : ∀ v : Int, roomOk 8 (acc ++ [v]).length = true := fun v => room_small 8 (by simp; omega) (by omega)
  have ih' : ∀ v : Int, g_sight_Melts_l0 ⟨s, p, b, w⟩ k (c + 1) (acc ++ [v]) = some (.go (acc ++ [v] ++ ((b.Letters.drop (c + 1).toNat).take k).map (meltW s b p))) := fun v => ih (acc ++ [v]) (by omega) (by omega) (by simp; omega)
  rw [hd, List.take_succ_cons]
  simp only [hn, hb, cond_true, hN, hx, room, ih', List.map_cons]
  have hlw : meltW s b p e = wordT (cmb none (gridT (fun i j => !apartB (powI s i j) b.At p e) (lightN s) (eyeN s) 0)) := hgl.symm
  rw [hlw]
  cases cmb none (gridT (fun i j => !apartB (powI s i j) b.At p e) (lightN s) (eyeN s) 0) with
  | none => simp [lbind_go, wordT]
  | some st => cases st with
   | none => simp [lbind_go, wordT]
   | some t => cases t <;> simp [lbind_go, wordT]
theorem hid_l0 (w : Int) : ∀ (ks : List GSightBlock) (i : Int) (acc : List Int), (∀ k ∈ ks, BK k) → acc.length + ks.length ≤ 100 → g_sight_Hidden_l0 ⟨s, p, b, w⟩ ks i acc = some (.go (acc ++ hids (behB b.At p) ks i))
 | [], _, acc, _, _ => by simp [g_sight_Hidden_l0, hids]
 | e :: ks, i, acc, hk, hl => by
  have hp := (goods h).1
  have ih := hid_l0 w ks
  simp only [List.length_cons] at hl
  have hb := isBehind_eq ⟨s, p, b, w⟩ e hp (hk e (List.mem_cons_self ..))
  simp only [] at hb
  simp only [g_sight_Hidden_l0, hb, Option.bind_some, hids]
  have ht : ∀ k ∈ ks, BK k := fun k hk' => hk k (List.mem_cons_of_mem _ hk')
  cases behB b.At p e with
  | true =>
   rw [room_small 8 (by simp; omega) (by omega)]
   simp only [cond_true]
   rw [ih (i + 1) (acc ++ [i]) ht (by simp; omega)]
   simp
  | false => exact ih (i + 1) acc ht (by omega)
end
def legsL (s : GSightStreet) (b : GSightBoard) (p : GSightPlace) : List Int := b.Letters.map (legW s b p)
def meltsL (s : GSightStreet) (b : GSightBoard) (p : GSightPlace) : List Int := (b.Letters.take (b.Letters.length - 1)).map (meltW s b p)
def hidL (s : GSightStreet) (b : GSightBoard) (p : GSightPlace) : List Int := hids (behB b.At p) s.Blocks 0
theorem LMH_eq (s : GSightStreet) (n : Int) (p : GSightPlace) (h : FineS s) : (∃ b, getI s.Boards n = some b ∧ b ∈ s.Boards ∧ Good s b p ∧ streetB s = true ∧ numB s n = true ∧ placeB s p = true ∧ g_sight_Letters s n p = some (legsL s b p, 0) ∧ g_sight_Melts s n p = some (meltsL s b p, 0) ∧ g_sight_Hidden s n p = some (hidL s b p, 0)) ∨ ((streetB s && (numB s n && placeB s p)) = false ∧ g_sight_Letters s n p = some ([], 2) ∧ g_sight_Melts s n p = some ([], 2) ∧ g_sight_Hidden s n p = some ([], 2)) := by
 simp only [g_sight_Letters, g_sight_Melts, g_sight_Hidden, isView_eq s n p h, Option.bind_some]
 cases h1 : streetB s with
 | false => exact .inr ⟨rfl, rfl, rfl, rfl⟩
 | true =>
  cases h2 : numB s n with
  | false => exact .inr ⟨rfl, rfl, rfl, rfl⟩
  | true =>
   cases h3 : placeB s p with
   | false => exact .inr ⟨rfl, rfl, rfl, rfl⟩
   | true =>
    obtain ⟨b, b1, b2, b3⟩ := good_of h1 h2 h3
    obtain ⟨hp, hl, hk, w1, w2⟩ := goods b3
    have n1 := b3.n1; have n5 := b3.n5; have nb := b3.nb
    have l1 : lenOk s.Blocks = true := lenOk_of (by omega)
    have l2 : lenOk b.Letters = true := lenOk_of (by omega)
    have e1 : IntKind.i64.wrap ((b.Letters.length : Int) - 1) = (b.Letters.length : Int) - 1 := wrap_eq (by omega) (by omega)
    have e2 : boundOk ((b.Letters.length : Int) - 1) = true := bound_small (by omega)
    have e3 : Int.toNat ((b.Letters.length : Int) - 1 - 0) = b.Letters.length - 1 := by omega
    refine .inl ⟨b, b1, b2, b3, rfl, rfl, rfl, ?_, ?_, ?_⟩
    ·simp only [Bool.and_self, cond_true, b1, Option.bind_some, g_sight_atWorst, l2, let_l0 b3 _ b.Letters 0 [] (by omega) rfl (by simp; omega), lbind_go, List.nil_append, legsL]
    ·simp only [Bool.and_self, cond_true, b1, Option.bind_some, g_sight_atWorst, e1, e2, e3, melt_l0 b3 _ (b.Letters.length - 1) 0 [] (by omega) (by omega) (by simp; omega), lbind_go, List.nil_append, meltsL]
     rfl
    ·simp only [Bool.and_self, cond_true, b1, Option.bind_some, g_sight_atWorst, l1, hid_l0 b3 _ s.Blocks 0 [] hk (by simp; omega), lbind_go, List.nil_append, hidL]
end Go.V
end
section
namespace Go.V
open Go Go.Proofs
def g_sight_Why (x0_s : GSightStreet) (x1_board : Int) (x2_from : GSightPlace) : Option (GSightFault × Int) := Option.bind (g_sight_isView x0_s x1_board x2_from) (fun r1 => cond (r1) (Option.bind (getI x0_s.Boards x1_board) (fun x2 => Option.bind (g_sight_atWorst x0_s x2 x2_from) (fun r3 => Option.bind (g_sight_view_firstFault r3) (fun r4 => cond (r4.2) (some (r4.1, 0)) (some ((GSightFault.mk 0 0), 5)))))) (some ((GSightFault.mk 0 0), 2)))
theorem g_sight_Why_ok (x0_s : GSightStreet) (x1_board : Int) (x2_from : GSightPlace) (R : GSightFault × Int) (h : g_sight_Why x0_s x1_board x2_from = some R) : VPure Tryz.prog G0 26 [.agg (cGSightStreet x0_s), .lit (.int .i64 x1_board), .agg (cGSightPlace x2_from)] (.tree (.tup [.agg (cGSightFault R.1), .lit (.int .i64 R.2)])) := by
 refine VPure.runR mixed Tryz.call26 Tryz.func26 rfl (by simp [Tryz.ntmps26]; kernel_rfl) ?_
 obtain ⟨KF, h, kF, kN⟩ := fun_intro h
 simp only [g_sight_Why] at h
 cases o6 : (g_sight_isView x0_s x1_board x2_from) with
 | none =>
  simp only [o6, hs, reduceCtorEq] at h
  exact absurd h kN
 | some r5 =>
  simp only [o6, hs, reduceCtorEq] at h
  simp only [vz, tyf, nm, seval]
  refine ktree (args0 := [.agg (cGSightStreet x0_s), .lit (.int .i64 x1_board), .agg (cGSightPlace x2_from)]) (by first | (simp only [nrm, tynrm] <;> rfl) | rfl) (by simp only [tre, tytre, Bool.and_self]) (g_sight_isView_ok _ _ _ _ o6) ?_
  refine fin_cut (fun tm => tm 1 = .lit (.int .i64 x1_board) ∧ tm 3 = .ptr 0 0 ∧ tm 5 = .ptr 1 0 ∧ tm 6 = .ptr 2 0 ∧ tm 13 = .lit (.bool r5) ∧ True) (by refine ⟨?_, ?_, ?_, ?_, ?_, trivial⟩ <;> first | (simp only [ua, nm, seval] <;> rfl) | rfl) ?_
  rintro tm ⟨e7, e8, e9, e10, e11, _⟩
  cases d12 : (r5)
  ·simp only [d12, hs, reduceCtorEq] at h
   simp only [vz, tyf, e7, e8, e9, e10, e11, d12, nm, seval]
   refine opd_ret (x := (.tup [.agg ([.lit (.int .i64 0)] ++ [.lit (.int .i64 0)]), .lit (.int .i64 2)])) (by first | (simp only [Tryz.results26, resV, resL, resV1, tgt_ptr, tgt_tp, uw, cr, tyf, e7, e8, e9, e10, e11, d12, nm, seval] <;> rfl) | rfl) ?_
   obtain rfl := kF _ h
   refine rr_tree ?_ ?_
   ·simp only [tre, tytre, Bool.and_self]
   ·first | (simp only [outV, uw, showV_ref, cr, tyf, nrm, tynrm, e7, e8, e9, e10, e11, d12, nm, seval] <;> rfl) | rfl
  simp only [d12, hs, reduceCtorEq] at h
  simp only [vz, tyf, e7, e8, e9, e10, e11, d12, nm, seval]
  refine cwp_drawTF (fun tm => tm 1 = .lit (.int .i64 x1_board) ∧ tm 3 = .ptr 0 0 ∧ tm 5 = .ptr 1 0 ∧ tm 6 = .ptr 2 0 ∧ True) (by refine ⟨e7, e8, e9, e10, trivial⟩ <;> first | (simp only [ua, e7, e8, e9, e10, e11, d12, nm, seval] <;> rfl) | rfl) ?_
  rintro tm ⟨e13, e14, e15, e16, _⟩
  cases o18 : (getI x0_s.Boards x1_board) with
  | none =>
   simp only [o18, hs, reduceCtorEq] at h
   exact absurd h kN
  | some x17 =>
   simp only [o18, hs, reduceCtorEq] at h
   cases o20 : (g_sight_atWorst x0_s x17 x2_from) with
   | none =>
    simp only [o20, hs, reduceCtorEq] at h
    exact absurd h kN
   | some r19 =>
    simp only [o20, hs, reduceCtorEq] at h
    simp only [vz, tyf, d12, e13, e14, e15, e16, (ix24 o18), nm, seval]
    refine dktree (args0 := [.agg (cGSightStreet x0_s), .agg (cGSightBoard x17), .agg (cGSightPlace x2_from)]) (by first | (simp only [nrm, tynrm] <;> rfl) | rfl) (by simp only [tre, tytre, Bool.and_self]) (g_sight_atWorst_ok _ _ _ _ o20) ?_
    refine fin_cut (fun tm => tm 6 = .ptr 2 0 ∧ tm 24 = .agg (cGsightview r19) ∧ True) (by refine ⟨e16, ?_, trivial⟩ <;> first | (simp only [ua, d12, e13, e14, e15, e16, nm, seval] <;> rfl) | rfl) ?_
    rintro tm ⟨e21, e22, _⟩
    cases o24 : (g_sight_view_firstFault r19) with
    | none =>
     simp only [o24, hs, reduceCtorEq] at h
     exact absurd h kN
    | some r23 =>
     simp only [o24, hs, reduceCtorEq] at h
     simp only [vz, tyf, d12, (ix24 o18), e21, e22, nm, seval]
     refine dktree (args0 := [.agg (cGsightview r19)]) (by first | (simp only [nrm, tynrm] <;> rfl) | rfl) (by simp only [tre, tytre, Bool.and_self]) (g_sight_view_firstFault_ok _ _ o24) ?_
     refine fin_cut (fun tm => tm 6 = .ptr 2 0 ∧ tm 25 = .tup [.agg (cGSightFault r23.1), .lit (.bool r23.2)] ∧ True) (by refine ⟨e21, ?_, trivial⟩ <;> first | (simp only [ua, d12, e21, e22, nm, seval] <;> rfl) | rfl) ?_
     rintro tm ⟨e25, e26, _⟩
     simp only [vz, tyf, d12, (ix24 o18), e25, e26, nm, seval]
     refine drawK_nil ⟨?_, ?_⟩
     ·simp only [traceR_cons, traceR_nil, hitK_quiet, hitK_nil, and_true, true_and]
      repeat' (first | exact trivial | refine And.intro ?_ ?_ | rw [hitK_quiet] | rw [hitK_cons] | exact Or.inl (by decide +kernel) | exact Or.inl (by dsimp only; decide +kernel) | (refine Or.inr ⟨?_, ?_⟩ <;> simp; done) | (refine Or.inr ⟨?_, ?_⟩ <;> simp <;> omega))
     cases d27 : (r23.2)
     ·simp only [d27, hs, reduceCtorEq] at h
      simp only [vz, tyf, d12, (ix24 o18), e25, e26, d27, nm, seval]
      refine opd_ret (x := (.tup [.agg ([.lit (.int .i64 0)] ++ [.lit (.int .i64 0)]), .lit (.int .i64 5)])) (by first | (simp only [Tryz.results26, resV, resL, resV1, tgt_ptr, tgt_tp, uw, cr, tyf, d12, (ix24 o18), e25, e26, d27, nm, seval] <;> rfl) | rfl) ?_
      obtain rfl := kF _ h
      refine rr_tree ?_ ?_
      ·simp only [tre, tytre, Bool.and_self]
      ·first | (simp only [outV, uw, showV_ref, cr, tyf, nrm, tynrm, d12, (ix24 o18), e25, e26, d27, nm, seval] <;> rfl) | rfl
     simp only [d27, hs, reduceCtorEq] at h
     simp only [vz, tyf, d12, (ix24 o18), e25, e26, d27, nm, seval]
     refine opd_ret (x := (.tup [.agg (cGSightFault r23.1), .lit (.int .i64 0)])) (by first | (simp only [Tryz.results26, resV, resL, resV1, tgt_ptr, tgt_tp, uw, cr, tyf, d12, (ix24 o18), e25, e26, d27, nm, seval] <;> rfl) | rfl) ?_
     obtain rfl := kF _ h
     refine rr_tree ?_ ?_
     ·simp only [tre, tytre, Bool.and_self]
     ·first | (simp only [outV, uw, showV_ref, cr, tyf, nrm, tynrm, d12, (ix24 o18), e25, e26, d27, nm, seval] <;> rfl) | rfl
end Go.V
end
section
namespace Go.V
open Go Go.Proofs
end Go.V
end
section
namespace Go.V
open Go
theorem Why_eq (s : GSightStreet) (n : Int) (p : GSightPlace) (h : FineS s) : (∃ b, getI s.Boards n = some b ∧ b ∈ s.Boards ∧ Good s b p ∧ streetB s = true ∧ numB s n = true ∧ placeB s p = true ∧ g_sight_Why s n p = some (match whyF (s.Eye.Low * s.Light.Low) b.At p s.Blocks b.Letters with | some f => (f, 0) | none => (⟨0, 0⟩, 5))) ∨ ((streetB s && (numB s n && placeB s p)) = false ∧ g_sight_Why s n p = some (⟨0, 0⟩, 2)) := by
 simp only [g_sight_Why, isView_eq s n p h, Option.bind_some]
 cases h1 : streetB s with
 | false => exact .inr ⟨rfl, rfl⟩
 | true =>
  cases h2 : numB s n with
  | false => exact .inr ⟨rfl, rfl⟩
  | true =>
   cases h3 : placeB s p with
   | false => exact .inr ⟨rfl, rfl⟩
   | true =>
    obtain ⟨b, b1, b2, b3⟩ := good_of h1 h2 h3
    refine .inl ⟨b, b1, b2, b3, rfl, rfl, rfl, ?_⟩
    obtain ⟨hp, hl, hk, w1, w2⟩ := goods b3
    have hfe := firstFault_eq ⟨s, p, b, s.Eye.Low * s.Light.Low⟩ hp w1 hl b3.n1 b3.n5 hk b3.nb
    simp only [Bool.and_self, cond_true, b1, Option.bind_some, g_sight_atWorst, pw_wrap w1, hfe]
    cases whyF (s.Eye.Low * s.Light.Low) b.At p s.Blocks b.Letters <;> rfl
end Go.V
end
section
namespace Go.V
open Go Go.Proofs
theorem hmix : Tryz.prog.follows .mixedOrders = true := by kernel_rfl
def kS : VV := (Go.V.VV.agg [(Go.V.VV.lit (Go.Value.int Go.IntKind.i64 (Int.ofNat 20))), (Go.V.VV.lit (Go.Value.int Go.IntKind.i64 (Int.ofNat 6))), (Go.V.VV.lit (Go.Value.int Go.IntKind.i64 (Int.ofNat 4))), (Go.V.VV.lit (Go.Value.int Go.IntKind.i64 (Int.ofNat 6))), (Go.V.VV.lit (Go.Value.int Go.IntKind.i64 (Int.ofNat 50))), (Go.V.VV.lit (Go.Value.int Go.IntKind.i64 (Int.ofNat 100))), (Go.V.VV.sl [(Go.V.VV.lit (Go.Value.int Go.IntKind.i64 (Int.ofNat 10))), (Go.V.VV.sl [(Go.V.VV.lit (Go.Value.int Go.IntKind.i64 (Int.ofNat 6))), (Go.V.VV.lit (Go.Value.int Go.IntKind.i64 (Int.ofNat 4))), (Go.V.VV.lit (Go.Value.int Go.IntKind.i64 (Int.ofNat 1))), (Go.V.VV.lit (Go.Value.int Go.IntKind.i64 (Int.ofNat 1))), (Go.V.VV.lit (Go.Value.int Go.IntKind.i64 (Int.ofNat 8))), (Go.V.VV.lit (Go.Value.int Go.IntKind.i64 (Int.ofNat 5))), (Go.V.VV.lit (Go.Value.int Go.IntKind.i64 (Int.ofNat 2))), (Go.V.VV.lit (Go.Value.int Go.IntKind.i64 (Int.ofNat 0)))] 2 Bool.false), (Go.V.VV.lit (Go.Value.int Go.IntKind.i64 (Int.ofNat 0))), (Go.V.VV.sl [(Go.V.VV.lit (Go.Value.int Go.IntKind.i64 (Int.ofNat 10))), (Go.V.VV.lit (Go.Value.int Go.IntKind.i64 (Int.ofNat 10))), (Go.V.VV.lit (Go.Value.int Go.IntKind.i64 (Int.ofNat 2))), (Go.V.VV.lit (Go.Value.int Go.IntKind.i64 (Int.ofNat 0)))] 1 Bool.false)] 2 Bool.false), (Go.V.VV.sl [(Go.V.VV.lit (Go.Value.int Go.IntKind.i64 (Int.ofNat 12))), (Go.V.VV.lit (Go.Value.int Go.IntKind.i64 (Int.ofNat 13))), (Go.V.VV.lit (Go.Value.int Go.IntKind.i64 (Int.ofNat 2))), (Go.V.VV.lit (Go.Value.int Go.IntKind.i64 (Int.ofNat 3))), (Go.V.VV.lit (Go.Value.bool Bool.true)), (Go.V.VV.lit (Go.Value.int Go.IntKind.i64 (Int.ofNat 5))), (Go.V.VV.lit (Go.Value.int Go.IntKind.i64 (Int.ofNat 6))), (Go.V.VV.lit (Go.Value.int Go.IntKind.i64 (Int.ofNat 4))), (Go.V.VV.lit (Go.Value.int Go.IntKind.i64 (Int.ofNat 5))), (Go.V.VV.lit (Go.Value.bool Bool.false))] 2 Bool.false)])
def kT : VV := (Go.V.VV.agg [(Go.V.VV.lit (Go.Value.int Go.IntKind.i64 (Int.ofNat 4))), (Go.V.VV.lit (Go.Value.int Go.IntKind.i64 (Int.ofNat 2))), (Go.V.VV.lit (Go.Value.int Go.IntKind.i64 (Int.ofNat 1))), (Go.V.VV.lit (Go.Value.int Go.IntKind.i64 (Int.ofNat 1))), (Go.V.VV.lit (Go.Value.int Go.IntKind.i64 (Int.ofNat 100))), (Go.V.VV.lit (Go.Value.int Go.IntKind.i64 (Int.ofNat 100))), (Go.V.VV.sl [(Go.V.VV.lit (Go.Value.int Go.IntKind.i64 (Int.ofNat 0))), (Go.V.VV.sl [(Go.V.VV.lit (Go.Value.int Go.IntKind.i64 (Int.ofNat 3))), (Go.V.VV.lit (Go.Value.int Go.IntKind.i64 (Int.ofNat 2))), (Go.V.VV.lit (Go.Value.int Go.IntKind.i64 (Int.ofNat 1))), (Go.V.VV.lit (Go.Value.int Go.IntKind.i64 (Int.ofNat 0)))] 1 Bool.false)] 1 Bool.false), (Go.V.VV.lit (Go.Value.slice Option.none 0 0))])
def kAt46 : VV := (Go.V.VV.agg [(Go.V.VV.lit (Go.Value.int Go.IntKind.i64 (Int.ofNat 4))), (Go.V.VV.lit (Go.Value.int Go.IntKind.i64 (Int.ofNat 6)))])
def kAt41 : VV := (Go.V.VV.agg [(Go.V.VV.lit (Go.Value.int Go.IntKind.i64 (Int.ofNat 4))), (Go.V.VV.lit (Go.Value.int Go.IntKind.i64 (Int.ofNat 1)))])
def kAt201 : VV := (Go.V.VV.agg [(Go.V.VV.lit (Go.Value.int Go.IntKind.i64 (Int.ofNat 20))), (Go.V.VV.lit (Go.Value.int Go.IntKind.i64 (Int.ofNat 1)))])
def kAt166 : VV := (Go.V.VV.agg [(Go.V.VV.lit (Go.Value.int Go.IntKind.i64 (Int.ofNat 16))), (Go.V.VV.lit (Go.Value.int Go.IntKind.i64 (Int.ofNat 6)))])
def kAt106 : VV := (Go.V.VV.agg [(Go.V.VV.lit (Go.Value.int Go.IntKind.i64 (Int.ofNat 10))), (Go.V.VV.lit (Go.Value.int Go.IntKind.i64 (Int.ofNat 6)))])
def kSeen : VV := (Go.V.VV.tup [(Go.V.VV.lit (Go.Value.int Go.IntKind.i64 (Int.ofNat 2))), (Go.V.VV.lit (Go.Value.int Go.IntKind.i64 (Int.ofNat 0)))])
def kWhy : VV := (Go.V.VV.tup [(Go.V.VV.agg [(Go.V.VV.lit (Go.Value.int Go.IntKind.i64 (Int.ofNat 3))), (Go.V.VV.lit (Go.Value.int Go.IntKind.i64 (Int.ofNat 0)))]), (Go.V.VV.lit (Go.Value.int Go.IntKind.i64 (Int.ofNat 0)))])
def kLetters : VV := (Go.V.VV.tup [(Go.V.VV.sl [(Go.V.VV.lit (Go.Value.int Go.IntKind.i64 (Int.ofNat 2))), (Go.V.VV.lit (Go.Value.int Go.IntKind.i64 (Int.ofNat 2)))] 2 Bool.false), (Go.V.VV.lit (Go.Value.int Go.IntKind.i64 (Int.ofNat 0)))])
def kMelts : VV := (Go.V.VV.tup [(Go.V.VV.sl [(Go.V.VV.lit (Go.Value.int Go.IntKind.i64 (Int.ofNat 3)))] 1 Bool.false), (Go.V.VV.lit (Go.Value.int Go.IntKind.i64 (Int.ofNat 0)))])
def kHidden : VV := (Go.V.VV.tup [(Go.V.VV.sl [(Go.V.VV.lit (Go.Value.int Go.IntKind.i64 (Int.ofNat 0)))] 1 Bool.false), (Go.V.VV.lit (Go.Value.int Go.IntKind.i64 (Int.ofNat 0)))])
def kMany : VV := (Go.V.VV.tup [(Go.V.VV.lit (Go.Value.int Go.IntKind.i64 (Int.ofNat 3))), (Go.V.VV.lit (Go.Value.int Go.IntKind.i64 (Int.ofNat 3))), (Go.V.VV.lit (Go.Value.int Go.IntKind.i64 (Int.ofNat 0)))])
def kFarthest : VV := (Go.V.VV.tup [(Go.V.VV.agg [(Go.V.VV.lit (Go.Value.int Go.IntKind.i64 (Int.ofNat 0))), (Go.V.VV.lit (Go.Value.int Go.IntKind.i64 (Int.ofNat 2)))]), (Go.V.VV.lit (Go.Value.int Go.IntKind.i64 (Int.ofNat 0)))])
def kLeast : VV := (Go.V.VV.tup [(Go.V.VV.lit (Go.Value.int Go.IntKind.i64 (Int.ofNat 5))), (Go.V.VV.lit (Go.Value.int Go.IntKind.i64 (Int.ofNat 0)))])
def kLight : VV := (Go.V.VV.tup [(Go.V.VV.lit (Go.Value.int Go.IntKind.i64 (Int.ofNat 38))), (Go.V.VV.lit (Go.Value.int Go.IntKind.i64 (Int.ofNat 0)))])
def kHang : VV := (Go.V.VV.tup [(Go.V.VV.lit (Go.Value.int Go.IntKind.i64 (Int.ofNat 1))), (Go.V.VV.lit (Go.Value.int Go.IntKind.i64 (Int.ofNat 4))), (Go.V.VV.lit (Go.Value.int Go.IntKind.i64 (Int.ofNat 0)))])
def kRead : VV := (Go.V.VV.tup [(Go.V.VV.agg [(Go.V.VV.lit (Go.Value.int Go.IntKind.i64 (Int.ofNat 1))), (Go.V.VV.lit (Go.Value.int Go.IntKind.i64 (Int.ofNat 1))), (Go.V.VV.lit (Go.Value.int Go.IntKind.i64 (Int.ofNat 1))), (Go.V.VV.lit (Go.Value.int Go.IntKind.i64 (Int.ofNat 1))), (Go.V.VV.lit (Go.Value.int Go.IntKind.i64 (Int.ofNat 1))), (Go.V.VV.lit (Go.Value.int Go.IntKind.i64 (Int.ofNat 1))), (Go.V.VV.sl [(Go.V.VV.lit (Go.Value.int Go.IntKind.i64 (Int.ofNat 0))), (Go.V.VV.sl [(Go.V.VV.lit (Go.Value.int Go.IntKind.i64 (Int.ofNat 1))), (Go.V.VV.lit (Go.Value.int Go.IntKind.i64 (Int.ofNat 1))), (Go.V.VV.lit (Go.Value.int Go.IntKind.i64 (Int.ofNat 1))), (Go.V.VV.lit (Go.Value.int Go.IntKind.i64 (Int.ofNat 0)))] 1 Bool.false)] 1 Bool.false), (Go.V.VV.lit (Go.Value.slice Option.none 0 0))]), (Go.V.VV.lit (Go.Value.int Go.IntKind.i64 (Int.ofNat 0)))])
end Go.V
end
section
namespace Go.V
open Go Go.Proofs
theorem pS : VPure Tryz.prog G0 50 [] (.tree kS) := VPure.closedB hmix 1000 (by kernel_rfl)
theorem pT : VPure Tryz.prog G0 51 [] (.tree kT) := VPure.closedB hmix 1000 (by kernel_rfl)
theorem pAt46 : VPure Tryz.prog G0 49 [.lit (.int .i64 (4)), .lit (.int .i64 (6))] (.tree kAt46) := VPure.closedB hmix 1000 (by kernel_rfl)
theorem pAt41 : VPure Tryz.prog G0 49 [.lit (.int .i64 (4)), .lit (.int .i64 (1))] (.tree kAt41) := VPure.closedB hmix 1000 (by kernel_rfl)
theorem pAt201 : VPure Tryz.prog G0 49 [.lit (.int .i64 (20)), .lit (.int .i64 (1))] (.tree kAt201) := VPure.closedB hmix 1000 (by kernel_rfl)
theorem pAt166 : VPure Tryz.prog G0 49 [.lit (.int .i64 (16)), .lit (.int .i64 (6))] (.tree kAt166) := VPure.closedB hmix 1000 (by kernel_rfl)
theorem pAt106 : VPure Tryz.prog G0 49 [.lit (.int .i64 (10)), .lit (.int .i64 (6))] (.tree kAt106) := VPure.closedB hmix 1000 (by kernel_rfl)
theorem pSeen : VPure Tryz.prog G0 18 [kS, .lit (.int .i64 (0)), kAt46] (.tree kSeen) := VPure.closedB hmix 1000 (by kernel_rfl)
theorem pWhy : VPure Tryz.prog G0 26 [kS, .lit (.int .i64 (0)), kAt41] (.tree kWhy) := VPure.closedB hmix 1000 (by kernel_rfl)
theorem pLetters : VPure Tryz.prog G0 28 [kS, .lit (.int .i64 (0)), kAt46] (.tree kLetters) := VPure.closedB hmix 1000 (by kernel_rfl)
theorem pMelts : VPure Tryz.prog G0 29 [kS, .lit (.int .i64 (0)), kAt201] (.tree kMelts) := VPure.closedB hmix 1000 (by kernel_rfl)
theorem pHidden : VPure Tryz.prog G0 30 [kS, .lit (.int .i64 (0)), kAt166] (.tree kHidden) := VPure.closedB hmix 1000 (by kernel_rfl)
end Go.V
end
section
namespace Go.V
open Go Go.Proofs
theorem pMany : VPure Tryz.prog G0 36 [kT, .lit (.int .i64 (0))] (.tree kMany) := VPure.closedB hmix 1000 (by kernel_rfl)
theorem pFarthest : VPure Tryz.prog G0 37 [kT, .lit (.int .i64 (0))] (.tree kFarthest) := VPure.closedB hmix 1000 (by kernel_rfl)
theorem pLeast : VPure Tryz.prog G0 41 [kS, .lit (.int .i64 (0)), kAt41] (.tree kLeast) := VPure.closedB hmix 1000 (by kernel_rfl)
theorem pLight : VPure Tryz.prog G0 42 [kS, .lit (.int .i64 (0)), kAt106] (.tree kLight) := VPure.closedB hmix 1000 (by kernel_rfl)
end Go.V
end
section
namespace Go.V
open Go Go.Proofs
theorem pHang : VPure Tryz.prog G0 52 [kT, .lit (.int .i64 (0))] (.tree kHang) := VPure.closedB hmix 1000 (by kernel_rfl)
end Go.V
end
section
namespace Go.V
open Go Go.Proofs
theorem pRead : VPure Tryz.prog G0 53 [.lit (.string ⟨⟨[115, 105, 103, 104, 116, 32, 49, 32, 49, 32, 49, 32, 49, 32, 49, 32, 49, 10, 98, 111, 97, 114, 100, 32, 48, 10, 108, 101, 116, 116, 101, 114, 32, 49, 32, 49, 32, 49, 32, 48, 10, 101, 110, 100, 32, 48, 49, 57, 10]⟩⟩)] (.tree kRead) := VPure.closedB hmix 1000 (by kernel_rfl)
end Go.V
end
section
namespace Go.V
open Go Go.Proofs
def kTab : KTab := [
  (50, [], kS),
  (51, [], kT),
  (49, [.lit (.int .i64 (4)), .lit (.int .i64 (6))], kAt46),
  (49, [.lit (.int .i64 (4)), .lit (.int .i64 (1))], kAt41),
  (49, [.lit (.int .i64 (20)), .lit (.int .i64 (1))], kAt201),
  (49, [.lit (.int .i64 (16)), .lit (.int .i64 (6))], kAt166),
  (49, [.lit (.int .i64 (10)), .lit (.int .i64 (6))], kAt106),
  (18, [kS, .lit (.int .i64 (0)), kAt46], kSeen),
  (26, [kS, .lit (.int .i64 (0)), kAt41], kWhy),
  (28, [kS, .lit (.int .i64 (0)), kAt46], kLetters),
  (29, [kS, .lit (.int .i64 (0)), kAt201], kMelts),
  (30, [kS, .lit (.int .i64 (0)), kAt166], kHidden),
  (36, [kT, .lit (.int .i64 (0))], kMany),
  (37, [kT, .lit (.int .i64 (0))], kFarthest),
  (41, [kS, .lit (.int .i64 (0)), kAt41], kLeast),
  (42, [kS, .lit (.int .i64 (0)), kAt106], kLight),
  (52, [kT, .lit (.int .i64 (0))], kHang),
  (53, [.lit (.string ⟨⟨[115, 105, 103, 104, 116, 32, 49, 32, 49, 32, 49, 32, 49, 32, 49, 32, 49, 10, 98, 111, 97, 114, 100, 32, 48, 10, 108, 101, 116, 116, 101, 114, 32, 49, 32, 49, 32, 49, 32, 48, 10, 101, 110, 100, 32, 48, 49, 57, 10]⟩⟩)], kRead)]
theorem kTabOk : KTabOk Tryz.prog G0 kTab := ⟨⟨by kernel_rfl, pS⟩, ⟨⟨by kernel_rfl, pT⟩, ⟨⟨by kernel_rfl, pAt46⟩, ⟨⟨by kernel_rfl, pAt41⟩, ⟨⟨by kernel_rfl, pAt201⟩, ⟨⟨by kernel_rfl, pAt166⟩, ⟨⟨by kernel_rfl, pAt106⟩, ⟨⟨by kernel_rfl, pSeen⟩, ⟨⟨by kernel_rfl, pWhy⟩, ⟨⟨by kernel_rfl, pLetters⟩, ⟨⟨by kernel_rfl, pMelts⟩, ⟨⟨by kernel_rfl, pHidden⟩, ⟨⟨by kernel_rfl, pMany⟩, ⟨⟨by kernel_rfl, pFarthest⟩, ⟨⟨by kernel_rfl, pLeast⟩, ⟨⟨by kernel_rfl, pLight⟩, ⟨⟨by kernel_rfl, pHang⟩, ⟨⟨by kernel_rfl, pRead⟩, trivial⟩⟩⟩⟩⟩⟩⟩⟩⟩⟩⟩⟩⟩⟩⟩⟩⟩⟩
theorem pKnown : VPure Tryz.prog G0 16 [] (.tree (.lit (.bool true))) := VPure.closedT hmix kTabOk 1000 (by kernel_rfl)
#print axioms pKnown
end Go.V
end
section
namespace Go.V
open Go Go.Proofs
def g_law02_known : Option Bool := some true
theorem g_law02_known_ok (R : Bool) (h : g_law02_known = some R) : VPure Tryz.prog G0 16 [] (.tree (.lit (.bool R))) := by
 cases h
 exact pKnown
end Go.V
end
section
namespace Go.V
open Go Go.Proofs
def g_law02_right (x0_s : GSightStreet) (x1_board : Int) (x2_p : GSightPlace) : Option (Bool) := Option.bind (g_law02_short x0_s) (fun r1 => cond (r1) (Option.bind (g_ref02_Street x0_s) (fun r2 => cond (r2) (Option.bind (g_ref02_Board x0_s x1_board) (fun r3 => cond (r3) (Option.bind (g_ref02_Place x0_s x2_p) (fun r4 => some r4)) (some false))) (some false))) (some false))
theorem g_law02_right_ok (x0_s : GSightStreet) (x1_board : Int) (x2_p : GSightPlace) (R : Bool) (h : g_law02_right x0_s x1_board x2_p = some R) : VPure Tryz.prog G0 23 [.agg (cGSightStreet x0_s), .lit (.int .i64 x1_board), .agg (cGSightPlace x2_p)] (.tree (.lit (.bool R))) := by
 refine VPure.runR mixed Tryz.call23 Tryz.func23 rfl (by simp [Tryz.ntmps23]; kernel_rfl) ?_
 obtain ⟨KF, h, kF, kN⟩ := fun_intro h
 simp only [g_law02_right] at h
 cases o6 : (g_law02_short x0_s) with
 | none =>
  simp only [o6, hs, reduceCtorEq] at h
  exact absurd h kN
 | some r5 =>
  simp only [o6, hs, reduceCtorEq] at h
  simp only [vz, tyf, nm, seval]
  refine ktree (args0 := [.agg (cGSightStreet x0_s)]) (by first | (simp only [nrm, tynrm] <;> rfl) | rfl) (by simp only [tre, tytre, Bool.and_self]) (g_law02_short_ok _ _ o6) ?_
  refine fin_cut (fun tm => tm 1 = .lit (.int .i64 x1_board) ∧ tm 3 = .ptr 0 0 ∧ tm 5 = .ptr 1 0 ∧ tm 8 = .lit (.bool r5) ∧ True) (by refine ⟨?_, ?_, ?_, ?_, trivial⟩ <;> first | (simp only [ua, nm, seval] <;> rfl) | rfl) ?_
  rintro tm ⟨e7, e8, e9, e10, _⟩
  cases d11 : (r5)
  ·simp only [d11, hs, reduceCtorEq] at h
   simp only [vz, tyf, e7, e8, e9, e10, d11, nm, seval]
   obtain rfl := kF _ h
   exact opd_bool Tryz.results23 (by first | rfl | (simp only [upd_apply, seval] <;> rfl))
  simp only [d11, hs, reduceCtorEq] at h
  cases o13 : (g_ref02_Street x0_s) with
  | none =>
   simp only [o13, hs, reduceCtorEq] at h
   exact absurd h kN
  | some r12 =>
   simp only [o13, hs, reduceCtorEq] at h
   simp only [vz, tyf, e7, e8, e9, e10, d11, nm, seval]
   refine ktree (args0 := [.agg (cGSightStreet x0_s)]) (by first | (simp only [nrm, tynrm] <;> rfl) | rfl) (by simp only [tre, tytre, Bool.and_self]) (g_ref02_Street_ok _ _ o13) ?_
   refine fin_cut (fun tm => tm 1 = .lit (.int .i64 x1_board) ∧ tm 3 = .ptr 0 0 ∧ tm 5 = .ptr 1 0 ∧ tm 9 = .lit (.bool true) ∧ tm 11 = .lit (.bool r12) ∧ True) (by refine ⟨e7, e8, e9, ?_, ?_, trivial⟩ <;> first | (simp only [ua, e7, e8, e9, e10, d11, nm, seval] <;> rfl) | rfl) ?_
   rintro tm ⟨e14, e15, e16, e17, e18, _⟩
   cases d19 : (r12)
   ·simp only [d19, hs, reduceCtorEq] at h
    simp only [vz, tyf, d11, e14, e15, e16, e17, e18, d19, nm, seval]
    obtain rfl := kF _ h
    exact opd_bool Tryz.results23 (by first | rfl | (simp only [upd_apply, seval] <;> rfl))
   simp only [d19, hs, reduceCtorEq] at h
   cases o21 : (g_ref02_Board x0_s x1_board) with
   | none =>
    simp only [o21, hs, reduceCtorEq] at h
    exact absurd h kN
   | some r20 =>
    simp only [o21, hs, reduceCtorEq] at h
    simp only [vz, tyf, d11, e14, e15, e16, e17, e18, d19, nm, seval]
    refine ktree (args0 := [.agg (cGSightStreet x0_s), .lit (.int .i64 x1_board)]) (by first | (simp only [nrm, tynrm] <;> rfl) | rfl) (by simp only [tre, tytre, Bool.and_self]) (g_ref02_Board_ok _ _ _ o21) ?_
    refine fin_cut (fun tm => tm 3 = .ptr 0 0 ∧ tm 5 = .ptr 1 0 ∧ tm 13 = .lit (.bool true) ∧ tm 16 = .lit (.bool r20) ∧ True) (by refine ⟨e15, e16, ?_, ?_, trivial⟩ <;> first | (simp only [ua, d11, e14, e15, e16, e17, e18, d19, nm, seval] <;> rfl) | rfl) ?_
    rintro tm ⟨e22, e23, e24, e25, _⟩
    cases d26 : (r20)
    ·simp only [d26, hs, reduceCtorEq] at h
     simp only [vz, tyf, d11, d19, e22, e23, e24, e25, d26, nm, seval]
     obtain rfl := kF _ h
     exact opd_bool Tryz.results23 (by first | rfl | (simp only [upd_apply, seval] <;> rfl))
    simp only [d26, hs, reduceCtorEq] at h
    cases o28 : (g_ref02_Place x0_s x2_p) with
    | none =>
     simp only [o28, hs, reduceCtorEq] at h
     exact absurd h kN
    | some r27 =>
     simp only [o28, hs, reduceCtorEq] at h
     simp only [vz, tyf, d11, d19, e22, e23, e24, e25, d26, nm, seval]
     refine ktree (args0 := [.agg (cGSightStreet x0_s), .agg (cGSightPlace x2_p)]) (by first | (simp only [nrm, tynrm] <;> rfl) | rfl) (by simp only [tre, tytre, Bool.and_self]) (g_ref02_Place_ok _ _ _ o28) ?_
     refine fin_cut (fun tm => tm 18 = .lit (.bool true) ∧ tm 21 = .lit (.bool r27) ∧ True) (by refine ⟨?_, ?_, trivial⟩ <;> first | (simp only [ua, d11, d19, e22, e23, e24, e25, d26, nm, seval] <;> rfl) | rfl) ?_
     rintro tm ⟨e29, e30, _⟩
     simp only [vz, tyf, d11, d19, d26, e29, e30, nm, seval]
     obtain rfl := kF _ h
     exact opd_bool Tryz.results23 (by first | rfl | (simp only [upd_apply, seval] <;> rfl))
end Go.V
end
