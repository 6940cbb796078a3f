/- Part of the proof of statements of YtbpeickbdiihcaaGreatDoor: a logic of values by content, the lifted functions, and what follows. -/
import Derived.Test.YtbpeickbdiihcaaGreatDoorNbc
import Derived.Test.YtbpeickbdiihcaaGreatDoorNbe
import Derived.Test.YtbpeickbdiihcaaGreatDoorNbi
import Derived.Test.YtbpeickbdiihcaaGreatDoorNbf
import Derived.Test.YtbpeickbdiihcaaGreatDoorNbh
import Derived.Test.YtbpeickbdiihcaaGreatDoorNay
import Derived.Test.YtbpeickbdiihcaaGreatDoorProg
set_option linter.unusedVariables false
set_option linter.unusedSimpArgs false
set_option linter.unusedSectionVars false
set_option linter.constructorNameAsVariable false
set_option linter.defProp false
set_option maxRecDepth 4000
set_option maxHeartbeats 4000000
section
namespace Go.V
open Go Go.Proofs
def g_sight_isSurelyRead (x0_s : GSightStreet) (x1_b : GSightBoard) (x2_from : GSightPlace) : Option (Bool) := Option.bind (g_sight_atWorst x0_s x1_b x2_from) (fun r1 => Option.bind (g_sight_view_isRead r1) (fun r2 => some r2))
theorem g_sight_isSurelyRead_ok (x0_s : GSightStreet) (x1_b : GSightBoard) (x2_from : GSightPlace) (R : Bool) (h : g_sight_isSurelyRead x0_s x1_b x2_from = some R) : VPure Tryz.prog G0 86 [.agg (cGSightStreet x0_s), .agg (cGSightBoard x1_b), .agg (cGSightPlace x2_from)] (.tree (.lit (.bool R))) := by
 refine VPure.runR mixed Tryz.call86 Tryz.func86 rfl (by simp [Tryz.ntmps86]; kernel_rfl) ?_
 obtain ⟨KF, h, kF, kN⟩ := fun_intro h
 simp only [g_sight_isSurelyRead] at h
 cases o4 : (g_sight_atWorst x0_s x1_b x2_from) with
 | none =>
  simp only [o4, hs, reduceCtorEq] at h
  exact absurd h kN
 | some r3 =>
  simp only [o4, hs, reduceCtorEq] at h
  simp only [vz, tyf, nm, seval]
  refine ktree (args0 := [.agg (cGSightStreet x0_s), .agg (cGSightBoard x1_b), .agg (cGSightPlace x2_from)]) (by first | (simp only [nrm, tynrm] <;> rfl) | rfl) (by simp only [tre, tytre, Bool.and_self]) (g_sight_atWorst_ok _ _ _ _ o4) ?_
  refine fin_cut (fun tm => tm 10 = .agg (cGsightview r3) ∧ True) (by refine ⟨?_, trivial⟩ <;> first | (simp only [ua, nm, seval] <;> rfl) | rfl) ?_
  rintro tm ⟨e5, _⟩
  cases o7 : (g_sight_view_isRead r3) with
  | none =>
   simp only [o7, hs, reduceCtorEq] at h
   exact absurd h kN
  | some r6 =>
   simp only [o7, hs, reduceCtorEq] at h
   simp only [vz, tyf, e5, nm, seval]
   refine ktree (args0 := [.agg (cGsightview r3)]) (by first | (simp only [nrm, tynrm] <;> rfl) | rfl) (by simp only [tre, tytre, Bool.and_self]) (g_sight_view_isRead_ok _ _ o7) ?_
   refine fin_cut (fun tm => tm 11 = .lit (.bool r6) ∧ True) (by refine ⟨?_, trivial⟩ <;> first | (simp only [ua, e5, nm, seval] <;> rfl) | rfl) ?_
   rintro tm ⟨e8, _⟩
   simp only [vz, tyf, e8, nm, seval]
   obtain rfl := kF _ h
   exact opd_bool Tryz.results86 (by first | rfl | (simp only [upd_apply, e8, seval] <;> rfl))
end Go.V
end
section
namespace Go.V
open Go Go.Proofs
def g_sight_seen (x0_s : GSightStreet) (x1_b : GSightBoard) (x2_from : GSightPlace) : Option (Int) := Option.bind (g_sight_isSurelyRead x0_s x1_b x2_from) (fun r1 => cond (r1) (some 3) (Option.bind (g_sight_atBest x0_s x1_b x2_from) (fun r2 => Option.bind (g_sight_view_isRead r2) (fun r3 => cond (r3) (some 2) (some 1)))))
theorem g_sight_seen_ok (x0_s : GSightStreet) (x1_b : GSightBoard) (x2_from : GSightPlace) (R : Int) (h : g_sight_seen x0_s x1_b x2_from = some R) : VPure Tryz.prog G0 57 [.agg (cGSightStreet x0_s), .agg (cGSightBoard x1_b), .agg (cGSightPlace x2_from)] (.tree (.lit (.int .i64 R))) := by
 refine VPure.runR mixed Tryz.call57 Tryz.func57 rfl (by simp [Tryz.ntmps57]; kernel_rfl) ?_
 obtain ⟨KF, h, kF, kN⟩ := fun_intro h
 simp only [g_sight_seen] at h
 cases o5 : (g_sight_isSurelyRead x0_s x1_b x2_from) with
 | none =>
  simp only [o5, hs, reduceCtorEq] at h
  exact absurd h kN
 | some r4 =>
  simp only [o5, hs, reduceCtorEq] at h
  simp only [vz, tyf, nm, seval]
  refine ktree (args0 := [.agg (cGSightStreet x0_s), .agg (cGSightBoard x1_b), .agg (cGSightPlace x2_from)]) (by first | (simp only [nrm, tynrm] <;> rfl) | rfl) (by simp only [tre, tytre, Bool.and_self]) (g_sight_isSurelyRead_ok _ _ _ _ o5) ?_
  refine fin_cut (fun tm => tm 3 = .ptr 0 0 ∧ tm 4 = .ptr 1 0 ∧ tm 5 = .ptr 2 0 ∧ tm 10 = .lit (.bool r4) ∧ True) (by refine ⟨?_, ?_, ?_, ?_, trivial⟩ <;> first | (simp only [ua, nm, seval] <;> rfl) | rfl) ?_
  rintro tm ⟨e6, e7, e8, e9, _⟩
  cases d10 : (r4)
  ·simp only [d10, hs, reduceCtorEq] at h
   cases o12 : (g_sight_atBest x0_s x1_b x2_from) with
   | none =>
    simp only [o12, hs, reduceCtorEq] at h
    exact absurd h kN
   | some r11 =>
    simp only [o12, hs, reduceCtorEq] at h
    simp only [vz, tyf, e6, e7, e8, e9, d10, nm, seval]
    refine ktree (args0 := [.agg (cGSightStreet x0_s), .agg (cGSightBoard x1_b), .agg (cGSightPlace x2_from)]) (by first | (simp only [nrm, tynrm] <;> rfl) | rfl) (by simp only [tre, tytre, Bool.and_self]) (g_sight_atBest_ok _ _ _ _ o12) ?_
    refine fin_cut (fun tm => tm 14 = .agg (cGsightview r11) ∧ True) (by refine ⟨?_, trivial⟩ <;> first | (simp only [ua, e6, e7, e8, e9, d10, nm, seval] <;> rfl) | rfl) ?_
    rintro tm ⟨e13, _⟩
    cases o15 : (g_sight_view_isRead r11) with
    | none =>
     simp only [o15, hs, reduceCtorEq] at h
     exact absurd h kN
    | some r14 =>
     simp only [o15, hs, reduceCtorEq] at h
     simp only [vz, tyf, d10, e13, nm, seval]
     refine ktree (args0 := [.agg (cGsightview r11)]) (by first | (simp only [nrm, tynrm] <;> rfl) | rfl) (by simp only [tre, tytre, Bool.and_self]) (g_sight_view_isRead_ok _ _ o15) ?_
     refine fin_cut (fun tm => tm 15 = .lit (.bool r14) ∧ True) (by refine ⟨?_, trivial⟩ <;> first | (simp only [ua, d10, e13, nm, seval] <;> rfl) | rfl) ?_
     rintro tm ⟨e16, _⟩
     cases d17 : (r14)
     ·simp only [d17, hs, reduceCtorEq] at h
      simp only [vz, tyf, d10, e16, d17, nm, seval]
      refine opd_ret (x := (.lit (.int .i64 1))) (by first | (simp only [Tryz.results57, resV, resL, resV1, tgt_ptr, tgt_tp, uw, cr, tyf, d10, e16, d17, nm, seval] <;> rfl) | rfl) ?_
      obtain rfl := kF _ h
      refine rr_tree ?_ ?_
      ·simp only [tre, tytre, Bool.and_self]
      ·first | (simp only [outV, uw, showV_ref, cr, tyf, nrm, tynrm, d10, e16, d17, nm, seval] <;> rfl) | rfl
     simp only [d17, hs, reduceCtorEq] at h
     simp only [vz, tyf, d10, e16, d17, nm, seval]
     refine opd_ret (x := (.lit (.int .i64 2))) (by first | (simp only [Tryz.results57, resV, resL, resV1, tgt_ptr, tgt_tp, uw, cr, tyf, d10, e16, d17, nm, seval] <;> rfl) | rfl) ?_
     obtain rfl := kF _ h
     refine rr_tree ?_ ?_
     ·simp only [tre, tytre, Bool.and_self]
     ·first | (simp only [outV, uw, showV_ref, cr, tyf, nrm, tynrm, d10, e16, d17, nm, seval] <;> rfl) | rfl
  simp only [d10, hs, reduceCtorEq] at h
  simp only [vz, tyf, e6, e7, e8, e9, d10, nm, seval]
  refine opd_ret (x := (.lit (.int .i64 3))) (by first | (simp only [Tryz.results57, resV, resL, resV1, tgt_ptr, tgt_tp, uw, cr, tyf, e6, e7, e8, e9, d10, nm, seval] <;> rfl) | rfl) ?_
  obtain rfl := kF _ h
  refine rr_tree ?_ ?_
  ·simp only [tre, tytre, Bool.and_self]
  ·first | (simp only [outV, uw, showV_ref, cr, tyf, nrm, tynrm, e6, e7, e8, e9, d10, nm, seval] <;> rfl) | rfl
end Go.V
end
section
namespace Go.V
open Go Go.Proofs
def g_sight_Seen (x0_s : GSightStreet) (x1_board : Int) (x2_from : GSightPlace) : Option (Int × Int) := Option.bind (g_sight_isView x0_s x1_board x2_from) (fun r1 => cond (r1) (Option.bind (getI x0_s.Boards x1_board) (fun x2 => Option.bind (g_sight_seen x0_s x2 x2_from) (fun r3 => some (r3, 0)))) (some (0, 2)))
theorem g_sight_Seen_ok (x0_s : GSightStreet) (x1_board : Int) (x2_from : GSightPlace) (R : Int × Int) (h : g_sight_Seen x0_s x1_board x2_from = some R) : VPure Tryz.prog G0 18 [.agg (cGSightStreet x0_s), .lit (.int .i64 x1_board), .agg (cGSightPlace x2_from)] (.tree (.tup [.lit (.int .i64 R.1), .lit (.int .i64 R.2)])) := by
 refine VPure.runR mixed Tryz.call18 Tryz.func18 rfl (by simp [Tryz.ntmps18]; kernel_rfl) ?_
 obtain ⟨KF, h, kF, kN⟩ := fun_intro h
 simp only [g_sight_Seen] at h
 cases o5 : (g_sight_isView x0_s x1_board x2_from) with
 | none =>
  simp only [o5, hs, reduceCtorEq] at h
  exact absurd h kN
 | some r4 =>
  simp only [o5, hs, reduceCtorEq] at h
  simp only [vz, tyf, nm, seval]
  refine ktree (args0 := [.agg (cGSightStreet x0_s), .lit (.int .i64 x1_board), .agg (cGSightPlace x2_from)]) (by first | (simp only [nrm, tynrm] <;> rfl) | rfl) (by simp only [tre, tytre, Bool.and_self]) (g_sight_isView_ok _ _ _ _ o5) ?_
  refine fin_cut (fun tm => tm 1 = .lit (.int .i64 x1_board) ∧ tm 3 = .ptr 0 0 ∧ tm 5 = .ptr 1 0 ∧ tm 11 = .lit (.bool r4) ∧ True) (by refine ⟨?_, ?_, ?_, ?_, trivial⟩ <;> first | (simp only [ua, nm, seval] <;> rfl) | rfl) ?_
  rintro tm ⟨e6, e7, e8, e9, _⟩
  cases d10 : (r4)
  ·simp only [d10, hs, reduceCtorEq] at h
   simp only [vz, tyf, e6, e7, e8, e9, d10, nm, seval]
   refine opd_ret (x := (.tup [.lit (.int .i64 0), .lit (.int .i64 2)])) (by first | (simp only [Tryz.results18, resV, resL, resV1, tgt_ptr, tgt_tp, uw, cr, tyf, e6, e7, e8, e9, d10, nm, seval] <;> rfl) | rfl) ?_
   obtain rfl := kF _ h
   refine rr_tree ?_ ?_
   ·simp only [tre, tytre, Bool.and_self]
   ·first | (simp only [outV, uw, showV_ref, cr, tyf, nrm, tynrm, e6, e7, e8, e9, d10, nm, seval] <;> rfl) | rfl
  simp only [d10, hs, reduceCtorEq] at h
  simp only [vz, tyf, e6, e7, e8, e9, d10, nm, seval]
  refine cwp_drwQF (fun tm => tm 1 = .lit (.int .i64 x1_board) ∧ tm 3 = .ptr 0 0 ∧ tm 5 = .ptr 1 0 ∧ True) (by refine ⟨e6, e7, e8, trivial⟩ <;> first | (simp only [ua, e6, e7, e8, e9, d10, nm, seval] <;> rfl) | rfl) ?_
  rintro tm ⟨e11, e12, e13, _⟩
  cases o15 : (getI x0_s.Boards x1_board) with
  | none =>
   simp only [o15, hs, reduceCtorEq] at h
   exact absurd h kN
  | some x14 =>
   simp only [o15, hs, reduceCtorEq] at h
   cases o17 : (g_sight_seen x0_s x14 x2_from) with
   | none =>
    simp only [o17, hs, reduceCtorEq] at h
    exact absurd h kN
   | some r16 =>
    simp only [o17, hs, reduceCtorEq] at h
    simp only [vz, tyf, d10, e11, e12, e13, (ix24 o15), nm, seval]
    refine dktree (args0 := [.agg (cGSightStreet x0_s), .agg (cGSightBoard x14), .agg (cGSightPlace x2_from)]) (by first | (simp only [nrm, tynrm] <;> rfl) | rfl) (by simp only [tre, tytre, Bool.and_self]) (g_sight_seen_ok _ _ _ _ o17) ?_
    refine fin_cut (fun tm => tm 20 = .lit (.int .i64 r16) ∧ True) (by refine ⟨?_, trivial⟩ <;> first | (simp only [ua, d10, e11, e12, e13, nm, seval] <;> rfl) | rfl) ?_
    rintro tm ⟨e18, _⟩
    simp only [vz, tyf, d10, (ix24 o15), e18, nm, seval]
    refine opd_ret (x := (.tup [.lit (.int .i64 r16), .lit (.int .i64 0)])) (by first | (simp only [Tryz.results18, resV, resL, resV1, tgt_ptr, tgt_tp, uw, cr, tyf, d10, (ix24 o15), e18, nm, seval] <;> rfl) | rfl) ?_
    obtain rfl := kF _ h
    refine rr_tree ?_ ?_
    ·simp only [tre, tytre, Bool.and_self]
    ·first | (simp only [outV, uw, showV_ref, cr, tyf, nrm, tynrm, d10, (ix24 o15), e18, nm, seval] <;> rfl) | rfl
end Go.V
end
section
namespace Go.V
open Go Go.Proofs
end Go.V
end
section
namespace Go.V
open Go Go.Proofs
def g_ref02_Hidden_l0 (x1_b : GSightBoard) (x2_p : GSightPlace) : List GSightBlock → Int → (List Int) → Option (LOut (List Int) ((List Int)))
 | [], c0_8, c0_7 => some (.go c0_7)
 | e0 :: p0, c0_8, c0_7 => Option.bind (g_ref02_Blocks e0 x1_b.At x2_p) (fun r1 => cond (r1) (cond (roomOk 8 (List.length (c0_7 ++ [c0_8]))) (g_ref02_Hidden_l0 x1_b x2_p p0 (c0_8 + 1) (c0_7 ++ [c0_8])) none) (g_ref02_Hidden_l0 x1_b x2_p p0 (c0_8 + 1) c0_7))
def g_ref02_Hidden (x0_s : GSightStreet) (x1_b : GSightBoard) (x2_p : GSightPlace) : Option (List Int) := cond (lenOk x0_s.Blocks) (lbind (g_ref02_Hidden_l0 x1_b x2_p x0_s.Blocks 0 ([] : List Int)) (fun r3 => some r3) (fun c2 => some c2) (fun _ _ => none)) none
theorem g_ref02_Hidden_ok (x0_s : GSightStreet) (x1_b : GSightBoard) (x2_p : GSightPlace) (R : List Int) (h : g_ref02_Hidden x0_s x1_b x2_p = some R) : VPure Tryz.prog G0 35 [.agg (cGSightStreet x0_s), .agg (cGSightBoard x1_b), .agg (cGSightPlace x2_p)] (.tree (.sl (cellsL eI R) (List.length R) false)) := by
 refine VPure.runR mixed Tryz.call35 Tryz.func35 rfl (by simp [Tryz.ntmps35]; kernel_rfl) ?_
 obtain ⟨KF, h, kF, kN⟩ := fun_intro h
 simp only [g_ref02_Hidden] at h
 cases g5 : (lenOk x0_s.Blocks)
 ·simp only [g5, hs, reduceCtorEq] at h
  exact absurd h kN
 simp only [g5, hs, reduceCtorEq] at h
 simp only [vz, tyf, g5, nm, seval]
 obtain ⟨K4, h, kR4, kG4, kB4, kN4⟩ := lbind_intro h kN
 obtain ⟨f4, hf4, h⟩ := call3 h
 obtain ⟨I4, hI4⟩ : ∃ I : Nat → St → Prop, I = (fun m st => ∃ (p4 : List GSightBlock) (c4_8 : Int) (c4_7 : List Int) (y4_0 : VV), m = List.length p4 ∧ 0 ≤ c4_8 ∧ List.drop (Int.toNat c4_8) x0_s.Blocks = p4 ∧ st.df = [] ∧ 6 ≤ st.nx ∧ st.H 0 = some (.cells (some 27) (cGSightStreet x0_s)) ∧ st.H 1 = some (.cells (some 42) (cGSightBoard x1_b)) ∧ st.H 2 = some (.cells (some 29) (cGSightPlace x2_p)) ∧ st.tm 3 = .ptr 0 0 ∧ st.tm 4 = .ptr 1 0 ∧ st.tm 5 = .ptr 2 0 ∧ st.tm 7 = y4_0 ∧ st.tm 8 = .lit (.int .i64 c4_8) ∧ ((∃ (β : Nat) (el : Option TypeId), y4_0 = .ref β 0 (List.length c4_7) 1 (List.length c4_7) ∧ β < st.nx ∧ β ≠ 0 ∧ β ≠ 1 ∧ β ≠ 2 ∧ st.H β = some (.cells el (cellsL eI c4_7))) ∨ (y4_0 = .lit (.slice none 0 0) ∧ c4_7 = [])) ∧ K4 (f4 p4 c4_8 c4_7)) := ⟨_, rfl⟩
 refine loopK mixed (by kernel_rfl) I4 (List.length x0_s.Blocks) (by rw [hI4]; refine ⟨x0_s.Blocks, 0, ([] : List Int), .lit (.slice none 0 0), rfl, Int.le_refl _, rfl, rfl, (show 6 ≤ 6 by omega), ?_, ?_, ?_, ?_, ?_, ?_, ?_, ?_, Or.inr ⟨rfl, rfl⟩, h⟩ <;> first | (simp only [ua, nm, seval] <;> rfl) | rfl) ?_
 rintro m ⟨tm, H, nx4, df⟩ hinv
 rw [hI4] at hinv
 obtain ⟨p4, c4_8, c4_7, y4_0, rfl, hi4, hp4, hdf, hn4, H6, H7, H8, e9, e10, e11, e12, e13, ow4_0, h⟩ := hinv
 simp only at hdf hn4 H6 H7 H8 e9 e10 e11 e12 e13 ow4_0
 have n14 := base_ne0 (m := 6) (b := nx4) (by omega)
 subst hdf hf4
 rcases ow4_0 with ⟨b4_0, el4_0, rfl, lq16, lq17, lq18, lq19, H15⟩ | ⟨rfl, rfl⟩
 ·have q16 := own_lt lq16
  have q17 := ne_f lq17
  have q18 := ne_f lq18
  have q19 := ne_f lq19
  cases p4 with
  | nil =>
   have d20 : (decide (c4_8 < (List.length x0_s.Blocks : Int))) = false := not_lt_of_drop hi4 hp4
   simp only [g_ref02_Hidden_l0, hs, reduceCtorEq] at h
   replace h := kG4 _ h
   try dsimp only at h
   try simp only [hs] at h
   simp only [vz, tyf, g5, n14, e9, e10, e11, e12, e13, H6, H7, H8, q16, H15, q17, q18, q19, d20, nm, seval]
   refine opd_ret (x := (.ref b4_0 0 (List.length c4_7) 1 (List.length c4_7))) (by first | (simp only [Tryz.results35, resV, resL, resV1, tgt_ptr, tgt_tp, uw, cr, tyf, g5, n14, e9, e10, e11, e12, e13, H6, H7, H8, q16, H15, q17, q18, q19, d20, nm, seval] <;> rfl) | rfl) ?_
   obtain rfl := kF _ h
   refine rr_tree ?_ ?_
   ·simp only [tre, tytre, Bool.and_self]
   ·first | (simp only [outV, uw, showV_ref, cr, tyf, nrm, tynrm, g5, n14, e9, e10, e11, e12, e13, H6, H7, H8, q16, H15, q17, q18, q19, d20, nm, seval] <;> rfl) | rfl
  | cons e4 p4 =>
   have d21 : (decide (c4_8 < (List.length x0_s.Blocks : Int))) = true := lt_of_drop hi4 hp4
   have o23 := getI_of_drop hi4 hp4
   have w22 := wrap_next hi4 hp4 g5
   simp only [g_ref02_Hidden_l0, hs, reduceCtorEq] at h
   simp only [vz, tyf, g5, n14, e9, e10, e11, e12, e13, H6, H7, H8, q16, H15, q17, q18, q19, d21, (ix25 o23), w22, nm, seval]
   refine cwp_drwQF (fun tm => tm 3 = .ptr 0 0 ∧ tm 4 = .ptr 1 0 ∧ tm 5 = .ptr 2 0 ∧ tm 7 = .ref b4_0 0 (List.length c4_7) 1 (List.length c4_7) ∧ tm 8 = .lit (.int .i64 c4_8) ∧ True) (by refine ⟨e9, e10, e11, e12, e13, trivial⟩ <;> first | (simp only [ua, n14, e9, e10, e11, e12, e13, H6, H7, H8, q16, H15, q17, q18, q19, d21, w22, nm, seval] <;> rfl) | rfl) ?_
   rintro tm ⟨e24, e25, e26, e27, e28, _⟩
   cases o30 : (g_ref02_Blocks e4 x1_b.At x2_p) with
   | none =>
    simp only [o30, hs, reduceCtorEq] at h
    exact absurd h kN4
   | some r29 =>
    simp only [o30, hs, reduceCtorEq] at h
    simp only [vz, tyf, g5, n14, H6, H7, H8, q16, H15, q17, q18, q19, d21, (ix25 o23), w22, e24, e25, e26, e27, e28, nm, seval]
    refine dktree (args0 := [.agg (cGSightBlock e4), .lit (.int .i64 x1_b.At), .agg (cGSightPlace x2_p)]) (by first | (simp only [nrm, tynrm] <;> rfl) | rfl) (by simp only [tre, tytre, Bool.and_self]) (g_ref02_Blocks_ok _ _ _ _ o30) ?_
    refine fin_cut (fun tm => tm 3 = .ptr 0 0 ∧ tm 4 = .ptr 1 0 ∧ tm 5 = .ptr 2 0 ∧ tm 7 = .ref b4_0 0 (List.length c4_7) 1 (List.length c4_7) ∧ tm 8 = .lit (.int .i64 c4_8) ∧ tm 24 = .lit (.bool r29) ∧ True) (by refine ⟨e24, e25, e26, e27, e28, ?_, trivial⟩ <;> first | (simp only [ua, n14, H6, H7, H8, q16, H15, q17, q18, q19, d21, w22, e24, e25, e26, e27, e28, nm, seval] <;> rfl) | rfl) ?_
    rintro tm ⟨e31, e32, e33, e34, e35, e36, _⟩
    cases d37 : (r29)
    ·simp only [d37, hs, reduceCtorEq] at h
     simp only [vz, tyf, g5, n14, H6, H7, H8, q16, H15, q17, q18, q19, d21, (ix25 o23), w22, e31, e32, e33, e34, e35, e36, d37, nm, seval]
     exact ⟨List.length p4, Nat.lt_succ_self _, by rw [hI4]; refine ⟨p4, c4_8 + 1, c4_7, .ref b4_0 0 (List.length c4_7) 1 (List.length c4_7), rfl, Int.le_trans hi4 (Int.le_add_one (Int.le_refl _)), drop_next hi4 hp4, rfl, (show 6 ≤ nx4 + 17 by omega), ?_, ?_, ?_, e31, e32, e33, ?_, ?_, Or.inl ⟨b4_0, el4_0, rfl, (by first | omega | (simp only [nm, seval]; omega)), (by first | omega | (intro hh; simp only [n14, q16, q17, q18, q19, reduceCtorEq] at hh)), (by first | omega | (intro hh; simp only [n14, q16, q17, q18, q19, reduceCtorEq] at hh)), (by first | omega | (intro hh; simp only [n14, q16, q17, q18, q19, reduceCtorEq] at hh)), ?_⟩, h⟩ <;> first | (simp only [ua, n14, H6, H7, H8, q16, H15, q17, q18, q19, d21, w22, e31, e32, e33, e34, e35, e36, d37, nm, seval] <;> rfl) | rfl⟩
    simp only [d37, hs, reduceCtorEq] at h
    cases g38 : (roomOk 8 (List.length (c4_7 ++ [c4_8])))
    ·simp only [g38, hs, reduceCtorEq] at h
     exact absurd h kN4
    simp only [g38, hs, reduceCtorEq] at h
    simp only [vz, tyf, g5, n14, H6, H7, H8, q16, H15, q17, q18, q19, d21, (ix25 o23), w22, e31, e32, e33, e34, e35, e36, d37, g38, nm, seval]
    refine k_app (w := 1) (enc := eI) (xs := c4_7) (ys := ([c4_8])) (el := el4_0) (el2 := (some 3)) (fun _ => rfl) lf57 ao57 Tryz.underlying57 (by first | rfl | assumption | (simp only [updH_apply, without_apply, et57, n14, H6, H7, H8, q16, H15, q17, q18, q19, nm, seval] <;> rfl) | (simp only [updH_apply, without_apply, cellsL_cons, cellsL_nil, mV_app, mV_app0, tyf, g5, n14, H6, H7, H8, q16, H15, q17, q18, q19, d21, (ix25 o23), w22, e31, e32, e33, e34, e35, e36, d37, g38, nm, seval]; done)) (by first | rfl | assumption | (simp only [updH_apply, without_apply, et57, n14, H6, H7, H8, q16, H15, q17, q18, q19, nm, seval] <;> rfl) | (simp only [updH_apply, without_apply, cellsL_cons, cellsL_nil, mV_app, mV_app0, tyf, g5, n14, H6, H7, H8, q16, H15, q17, q18, q19, d21, (ix25 o23), w22, e31, e32, e33, e34, e35, e36, d37, g38, nm, seval]; done)) (Nat.zero_lt_succ _) g38 ?_
    simp only [vz, tyf, g5, n14, H6, H7, H8, q16, H15, q17, q18, q19, d21, (ix25 o23), w22, e31, e32, e33, e34, e35, e36, d37, g38, nm, seval]
    exact ⟨List.length p4, Nat.lt_succ_self _, by rw [hI4]; refine ⟨p4, c4_8 + 1, (c4_7 ++ [c4_8]), .ref (nx4 + 17) 0 (List.length (c4_7 ++ [c4_8])) 1 (List.length (c4_7 ++ [c4_8])), rfl, Int.le_trans hi4 (Int.le_add_one (Int.le_refl _)), drop_next hi4 hp4, rfl, (show 6 ≤ nx4 + 22 by omega), ?_, ?_, ?_, e31, e32, e33, ?_, ?_, Or.inl ⟨nx4 + 17, (sameEl el4_0 3), rfl, (by first | omega | (simp only [nm, seval]; omega)), (by first | omega | (intro hh; simp only [n14, q16, q17, q18, q19, reduceCtorEq] at hh)), (by first | omega | (intro hh; simp only [n14, q16, q17, q18, q19, reduceCtorEq] at hh)), (by first | omega | (intro hh; simp only [n14, q16, q17, q18, q19, reduceCtorEq] at hh)), ?_⟩, h⟩ <;> first | (simp only [ua, n14, H6, H7, H8, q16, H15, q17, q18, q19, d21, w22, e31, e32, e33, e34, e35, e36, d37, nm, seval] <;> rfl) | rfl⟩
 ·cases p4 with
  | nil =>
   have d39 : (decide (c4_8 < (List.length x0_s.Blocks : Int))) = false := not_lt_of_drop hi4 hp4
   simp only [g_ref02_Hidden_l0, hs, reduceCtorEq] at h
   replace h := kG4 _ h
   try dsimp only at h
   try simp only [hs] at h
   simp only [vz, tyf, g5, n14, e9, e10, e11, e12, e13, H6, H7, H8, d39, nm, seval]
   refine opd_ret (x := (.lit (.slice none 0 0))) (by first | (simp only [Tryz.results35, resV, resL, resV1, tgt_ptr, tgt_tp, uw, cr, tyf, g5, n14, e9, e10, e11, e12, e13, H6, H7, H8, d39, nm, seval] <;> rfl) | rfl) ?_
   obtain rfl := kF _ h
   refine rr_tree ?_ ?_
   ·simp only [tre, tytre, Bool.and_self]
   ·first | (simp only [outV, uw, showV_ref, cr, tyf, nrm, tynrm, g5, n14, e9, e10, e11, e12, e13, H6, H7, H8, d39, nm, seval] <;> rfl) | rfl
  | cons e4 p4 =>
   have d40 : (decide (c4_8 < (List.length x0_s.Blocks : Int))) = true := lt_of_drop hi4 hp4
   have o42 := getI_of_drop hi4 hp4
   have w41 := wrap_next hi4 hp4 g5
   simp only [g_ref02_Hidden_l0, hs, reduceCtorEq] at h
   simp only [vz, tyf, g5, n14, e9, e10, e11, e12, e13, H6, H7, H8, d40, (ix25 o42), w41, nm, seval]
   refine cwp_drwQF (fun tm => tm 3 = .ptr 0 0 ∧ tm 4 = .ptr 1 0 ∧ tm 5 = .ptr 2 0 ∧ tm 7 = .lit (.slice none 0 0) ∧ tm 8 = .lit (.int .i64 c4_8) ∧ True) (by refine ⟨e9, e10, e11, e12, e13, trivial⟩ <;> first | (simp only [ua, n14, e9, e10, e11, e12, e13, H6, H7, H8, d40, w41, nm, seval] <;> rfl) | rfl) ?_
   rintro tm ⟨e43, e44, e45, e46, e47, _⟩
   cases o49 : (g_ref02_Blocks e4 x1_b.At x2_p) with
   | none =>
    simp only [o49, hs, reduceCtorEq] at h
    exact absurd h kN4
   | some r48 =>
    simp only [o49, hs, reduceCtorEq] at h
    simp only [vz, tyf, g5, n14, H6, H7, H8, d40, (ix25 o42), w41, e43, e44, e45, e46, e47, nm, seval]
    refine dktree (args0 := [.agg (cGSightBlock e4), .lit (.int .i64 x1_b.At), .agg (cGSightPlace x2_p)]) (by first | (simp only [nrm, tynrm] <;> rfl) | rfl) (by simp only [tre, tytre, Bool.and_self]) (g_ref02_Blocks_ok _ _ _ _ o49) ?_
    refine fin_cut (fun tm => tm 3 = .ptr 0 0 ∧ tm 4 = .ptr 1 0 ∧ tm 5 = .ptr 2 0 ∧ tm 7 = .lit (.slice none 0 0) ∧ tm 8 = .lit (.int .i64 c4_8) ∧ tm 24 = .lit (.bool r48) ∧ True) (by refine ⟨e43, e44, e45, e46, e47, ?_, trivial⟩ <;> first | (simp only [ua, n14, H6, H7, H8, d40, w41, e43, e44, e45, e46, e47, nm, seval] <;> rfl) | rfl) ?_
    rintro tm ⟨e50, e51, e52, e53, e54, e55, _⟩
    cases d56 : (r48)
    ·simp only [d56, hs, reduceCtorEq] at h
     simp only [vz, tyf, g5, n14, H6, H7, H8, d40, (ix25 o42), w41, e50, e51, e52, e53, e54, e55, d56, nm, seval]
     exact ⟨List.length p4, Nat.lt_succ_self _, by rw [hI4]; refine ⟨p4, c4_8 + 1, ([] : List Int), .lit (.slice none 0 0), rfl, Int.le_trans hi4 (Int.le_add_one (Int.le_refl _)), drop_next hi4 hp4, rfl, (show 6 ≤ nx4 + 17 by omega), ?_, ?_, ?_, e50, e51, e52, ?_, ?_, Or.inr ⟨rfl, rfl⟩, h⟩ <;> first | (simp only [ua, n14, H6, H7, H8, d40, w41, e50, e51, e52, e53, e54, e55, d56, nm, seval] <;> rfl) | rfl⟩
    simp only [d56, hs, reduceCtorEq] at h
    cases g57 : (roomOk 8 (List.length (([] : List Int) ++ [c4_8])))
    ·simp only [g57, hs, reduceCtorEq] at h
     exact absurd h kN4
    simp only [g57, hs, reduceCtorEq] at h
    simp only [vz, tyf, g5, n14, H6, H7, H8, d40, (ix25 o42), w41, e50, e51, e52, e53, e54, e55, d56, g57, nm, seval]
    refine k_appN (w := 1) (enc := eI) (ys := ([c4_8])) (el2 := (some 3)) (fun _ => rfl) lf57 ao57 Tryz.underlying57 (by first | rfl | assumption | (simp only [updH_apply, without_apply, et57, n14, H6, H7, H8, nm, seval] <;> rfl) | (simp only [updH_apply, without_apply, cellsL_cons, cellsL_nil, mV_app, mV_app0, tyf, g5, n14, H6, H7, H8, d40, (ix25 o42), w41, e50, e51, e52, e53, e54, e55, d56, g57, nm, seval]; done)) (Nat.zero_lt_succ _) g57 ?_
    simp only [vz, tyf, g5, n14, H6, H7, H8, d40, (ix25 o42), w41, e50, e51, e52, e53, e54, e55, d56, g57, nm, seval]
    exact ⟨List.length p4, Nat.lt_succ_self _, by rw [hI4]; refine ⟨p4, c4_8 + 1, (([] : List Int) ++ [c4_8]), .ref (nx4 + 17) 0 (List.length (([] : List Int) ++ [c4_8])) 1 (List.length (([] : List Int) ++ [c4_8])), rfl, Int.le_trans hi4 (Int.le_add_one (Int.le_refl _)), drop_next hi4 hp4, rfl, (show 6 ≤ nx4 + 22 by omega), ?_, ?_, ?_, e50, e51, e52, ?_, ?_, Or.inl ⟨nx4 + 17, (some 3), rfl, (by first | omega | (simp only [nm, seval]; omega)), (by first | omega | (intro hh; simp only [n14, reduceCtorEq] at hh)), (by first | omega | (intro hh; simp only [n14, reduceCtorEq] at hh)), (by first | omega | (intro hh; simp only [n14, reduceCtorEq] at hh)), ?_⟩, h⟩ <;> first | (simp only [ua, n14, H6, H7, H8, d40, w41, e50, e51, e52, e53, e54, e55, d56, nm, seval] <;> rfl) | rfl⟩
end Go.V
end
section
namespace Go.V
open Go Go.Proofs
end Go.V
end
section
namespace Go.V
open Go Go.Proofs
end Go.V
end
section
namespace Go.V
open Go Go.Proofs
def g_ref02_word (x0_surely : Bool) (x1_may : Bool) : Option (Int) := cond (x0_surely) (some 3) (cond (x1_may) (some 2) (some 1))
theorem g_ref02_word_ok (x0_surely : Bool) (x1_may : Bool) (R : Int) (h : g_ref02_word x0_surely x1_may = some R) : VPure Tryz.prog G0 61 [.lit (.bool x0_surely), .lit (.bool x1_may)] (.tree (.lit (.int .i64 R))) := by
 refine VPure.runR mixed Tryz.call61 Tryz.func61 rfl (by simp [Tryz.ntmps61]; kernel_rfl) ?_
 obtain ⟨KF, h, kF, kN⟩ := fun_intro h
 simp only [g_ref02_word] at h
 cases d1 : (x0_surely)
 ·simp only [d1, hs, reduceCtorEq] at h
  cases d2 : (x1_may)
  ·simp only [d2, hs, reduceCtorEq] at h
   simp only [vz, tyf, d1, d2, nm, seval]
   refine opd_ret (x := (.lit (.int .i64 1))) (by first | (simp only [Tryz.results61, resV, resL, resV1, tgt_ptr, tgt_tp, uw, cr, tyf, d1, d2, nm, seval] <;> rfl) | rfl) ?_
   obtain rfl := kF _ h
   refine rr_tree ?_ ?_
   ·simp only [tre, tytre, Bool.and_self]
   ·first | (simp only [outV, uw, showV_ref, cr, tyf, nrm, tynrm, d1, d2, nm, seval] <;> rfl) | rfl
  simp only [d2, hs, reduceCtorEq] at h
  simp only [vz, tyf, d1, d2, nm, seval]
  refine opd_ret (x := (.lit (.int .i64 2))) (by first | (simp only [Tryz.results61, resV, resL, resV1, tgt_ptr, tgt_tp, uw, cr, tyf, d1, d2, nm, seval] <;> rfl) | rfl) ?_
  obtain rfl := kF _ h
  refine rr_tree ?_ ?_
  ·simp only [tre, tytre, Bool.and_self]
  ·first | (simp only [outV, uw, showV_ref, cr, tyf, nrm, tynrm, d1, d2, nm, seval] <;> rfl) | rfl
 simp only [d1, hs, reduceCtorEq] at h
 simp only [vz, tyf, d1, nm, seval]
 refine opd_ret (x := (.lit (.int .i64 3))) (by first | (simp only [Tryz.results61, resV, resL, resV1, tgt_ptr, tgt_tp, uw, cr, tyf, d1, nm, seval] <;> rfl) | rfl) ?_
 obtain rfl := kF _ h
 refine rr_tree ?_ ?_
 ·simp only [tre, tytre, Bool.and_self]
 ·first | (simp only [outV, uw, showV_ref, cr, tyf, nrm, tynrm, d1, nm, seval] <;> rfl) | rfl
end Go.V
end
section
namespace Go.V
open Go Go.Proofs
end Go.V
end
section
namespace Go.V
open Go
def faultO (k : Int) (o : Option Int) : Option (LOut (GSightFault × Bool) Unit) := match o with | none => some (.go ()) | some i => some (.ret (⟨k, i⟩, true))
section
variable (v : Gsightview) (hp : PG v.board.At v.SightPlace) (hw : PW v.power)
include hp hw
theorem ff_l0 : ∀ (p : List GSightBlock) (c : Int), (∀ k ∈ p, BK k) → g_sight_view_firstFault_l0 v p c = faultO 1 (fnd (behB v.board.At v.SightPlace) p c)
 | [], _, _ => rfl
 | e :: p, c, h => by
  simp only [g_sight_view_firstFault_l0, isBehind_eq v e hp (h e (List.mem_cons_self ..)), Option.bind_some, g_sight_must, fnd]
  cases behB v.board.At v.SightPlace e with
  | true => rfl
  | false => exact ff_l0 p (c + 1) (fun k hk => h k (List.mem_cons_of_mem _ hk))
theorem ff_l1 : ∀ (p : List GSightLetter) (c : Int), 0 ≤ c → v.board.Letters.drop c.toNat = p → (∀ l ∈ p, BL l) → g_sight_view_firstFault_l1 v p c = faultO 2 (fnd (fun l => !tallB v.power v.board.At v.SightPlace l) p c)
 | [], _, _, _, _ => rfl
 | e :: p, c, h0, hd, h => by
  simp only [g_sight_view_firstFault_l1, isTall_eq v c e hp hw (h e (List.mem_cons_self ..)) (getI_of_drop h0 hd), Option.bind_some, g_sight_must, fnd]
  cases tallB v.power v.board.At v.SightPlace e with
  | false => rfl
  | true => exact ff_l1 p (c + 1) (by omega) (drop_next h0 hd) (fun k hk => h k (List.mem_cons_of_mem _ hk))
theorem ff_l2 : ∀ (p : List GSightLetter) (c : Int), 0 ≤ c → v.board.Letters.drop c.toNat = p → (∀ l ∈ p, BL l) → g_sight_view_firstFault_l2 v p c = faultO 3 (fnd (fun l => !broadB v.power v.board.At v.SightPlace l) p c)
 | [], _, _, _, _ => rfl
 | e :: p, c, h0, hd, h => by
  simp only [g_sight_view_firstFault_l2, isBroad_eq v c e hp hw (h e (List.mem_cons_self ..)) (getI_of_drop h0 hd), Option.bind_some, g_sight_must, fnd]
  cases broadB v.power v.board.At v.SightPlace e with
  | false => rfl
  | true => exact ff_l2 p (c + 1) (by omega) (drop_next h0 hd) (fun k hk => h k (List.mem_cons_of_mem _ hk))
theorem ff_l3 : ∀ (p : List GSightLetter) (c : Int), 0 ≤ c → v.board.Letters.drop c.toNat = p → (∀ l ∈ p, BL l) → g_sight_view_firstFault_l3 v p c = faultO 4 (fnd (fun l => !thickB v.power v.board.At v.SightPlace l) p c)
 | [], _, _, _, _ => rfl
 | e :: p, c, h0, hd, h => by
  simp only [g_sight_view_firstFault_l3, isThick_eq v c e hp hw (h e (List.mem_cons_self ..)) (getI_of_drop h0 hd), Option.bind_some, g_sight_must, fnd]
  cases thickB v.power v.board.At v.SightPlace e with
  | false => rfl
  | true => exact ff_l3 p (c + 1) (by omega) (drop_next h0 hd) (fun k hk => h k (List.mem_cons_of_mem _ hk))
theorem ff_l4 : ∀ (k : Nat) (c : Int), 0 ≤ c → c + k ≤ v.board.Letters.length → (∀ l ∈ v.board.Letters, BL l) → g_sight_view_firstFault_l4 v k c = faultO 5 (fnd (fun l => !apartB v.power v.board.At v.SightPlace l) ((v.board.Letters.drop c.toNat).take k) c)
 | 0, _, _, _, _ => by simp only [g_sight_view_firstFault_l4, List.take_zero, fnd, faultO]
 | k + 1, c, h0, hk, h => by
  obtain ⟨e, he, hm⟩ := getI_some (xs := v.board.Letters) (i := c) h0 (by omega)
  have hd := (getI_drop he).2.2
  have hn : c.toNat + 1 = (c + 1).toNat := by omega
  rw [hd, List.take_succ_cons]
  simp only [g_sight_view_firstFault_l4, isApart_eq v c e hp hw (h e hm) he, Option.bind_some, g_sight_must, fnd, hn]
  cases apartB v.power v.board.At v.SightPlace e with
  | false => rfl
  | true => exact ff_l4 k (c + 1) (by omega) (by omega) h
end
def whyF (w a : Int) (p : GSightPlace) (ks : List GSightBlock) (ls : List GSightLetter) : Option GSightFault :=
 match fnd (behB a p) ks 0 with
 | some i => some ⟨1, i⟩
 | none => match fnd (fun l => !tallB w a p l) ls 0 with
  | some i => some ⟨2, i⟩
  | none => match fnd (fun l => !broadB w a p l) ls 0 with
   | some i => some ⟨3, i⟩
   | none => match fnd (fun l => !thickB w a p l) ls 0 with
    | some i => some ⟨4, i⟩
    | none => match fnd (fun l => !apartB w a p l) (ls.take (ls.length - 1)) 0 with
     | some i => some ⟨5, i⟩
     | none => none
def whyP (o : Option GSightFault) : GSightFault × Bool := match o with | some f => (f, true) | none => (⟨0, 0⟩, false)
theorem firstFault_eq (v : Gsightview) (hp : PG v.board.At v.SightPlace) (hw : PW v.power) (hl : ∀ l ∈ v.board.Letters, BL l) (hn : 1 ≤ v.board.Letters.length) (hn2 : v.board.Letters.length ≤ 5) (hk : ∀ k ∈ v.SightStreet.Blocks, BK k) (hb : v.SightStreet.Blocks.length ≤ 4) :
  g_sight_view_firstFault v = some (whyP (whyF v.power v.board.At v.SightPlace v.SightStreet.Blocks v.board.Letters)) := by
 have l1 : lenOk v.SightStreet.Blocks = true := lenOk_of (by omega)
 have l2 : lenOk v.board.Letters = true := lenOk_of (by omega)
 have w1 : IntKind.i64.wrap ((v.board.Letters.length : Int) - 1) = (v.board.Letters.length : Int) - 1 := wrap_eq (by omega) (by omega)
 have b1 : boundOk ((v.board.Letters.length : Int) - 1) = true := by unfold boundOk; exact decide_eq_true (by omega)
 have t1 : (((v.board.Letters.length : Int) - 1) - 0).toNat = v.board.Letters.length - 1 := by omega
 simp only [g_sight_view_firstFault, l1, l2, cond_true, ff_l0 v hp hw _ _ hk, ff_l1 v hp hw v.board.Letters 0 (by omega) rfl hl, ff_l2 v hp hw v.board.Letters 0 (by omega) rfl hl, ff_l3 v hp hw v.board.Letters 0 (by omega) rfl hl, w1, b1, t1, ff_l4 v hp hw (v.board.Letters.length - 1) 0 (by omega) (by omega) hl, whyF]
 cases fnd (behB v.board.At v.SightPlace) v.SightStreet.Blocks 0 with
 | some i => rfl
 | none =>
  simp only [faultO, lbind_go]
  cases fnd (fun l => !tallB v.power v.board.At v.SightPlace l) v.board.Letters 0 with
  | some i => rfl
  | none =>
   simp only [lbind_go]
   cases fnd (fun l => !broadB v.power v.board.At v.SightPlace l) v.board.Letters 0 with
   | some i => rfl
   | none =>
    simp only [lbind_go]
    cases fnd (fun l => !thickB v.power v.board.At v.SightPlace l) v.board.Letters 0 with
    | some i => rfl
    | none =>
     simp only [lbind_go]
     have e : List.drop (Int.toNat 0) v.board.Letters = v.board.Letters := rfl
     rw [e]
     cases fnd (fun l => !apartB v.power v.board.At v.SightPlace l) (v.board.Letters.take (v.board.Letters.length - 1)) 0 with
     | some i => rfl
     | none => rfl
def clearB (w a : Int) (p : GSightPlace) : List GSightLetter → Bool
 | [] => true
 | [e] => legB w a p e
 | e :: e' :: ls => legB w a p e && (apartB w a p e && clearB w a p (e' :: ls))
theorem clear_iff {w a : Int} {p : GSightPlace} : ∀ (ls : List GSightLetter), clearB w a p ls = true ↔ (∀ l ∈ ls, legB w a p l = true) ∧ ∀ l ∈ ls.take (ls.length - 1), apartB w a p l = true
 | [] => by simp [clearB]
 | [e] => by simp [clearB]
 | e :: e' :: ls => by
  have ih := clear_iff (w := w) (a := a) (p := p) (e' :: ls)
  have ht : (e :: e' :: ls).take ((e :: e' :: ls).length - 1) = e :: (e' :: ls).take ((e' :: ls).length - 1) := by simp
  rw [ht]
  unfold clearB
  rw [Bool.and_eq_true, Bool.and_eq_true, ih]
  constructor
  ·rintro ⟨h1, h2, h3, h4⟩
   constructor
   ·intro l hl
    rcases List.mem_cons.1 hl with rfl | hl
    ·exact h1
    ·exact h3 l hl
   ·intro l hl
    rcases List.mem_cons.1 hl with rfl | hl
    ·exact h2
    ·exact h4 l hl
  ·rintro ⟨h1, h2⟩
   exact ⟨h1 e (List.mem_cons_self ..), h2 e (List.mem_cons_self ..), fun l hl => h1 l (List.mem_cons_of_mem _ hl), fun l hl => h2 l (List.mem_cons_of_mem _ hl)⟩
theorem leg_iff {w a : Int} {p : GSightPlace} {l : GSightLetter} : legB w a p l = true ↔ tallB w a p l = true ∧ broadB w a p l = true ∧ thickB w a p l = true := by
 simp [legB]
theorem why_none {w a : Int} {p : GSightPlace} {ks : List GSightBlock} {ls : List GSightLetter} : whyF w a p ks ls = none ↔ (∀ k ∈ ks, behB a p k = false) ∧ clearB w a p ls = true := by
 rw [clear_iff]
 unfold whyF
 cases h0 : fnd (behB a p) ks 0 with
 | some i =>
  simp only [reduceCtorEq, false_iff, not_and]
  intro h
  rw [(fnd_none ks 0).2 h] at h0; cases h0
 | none =>
  have g0 := (fnd_none ks 0).1 h0
  cases h1 : fnd (fun l => !tallB w a p l) ls 0 with
  | some i =>
   simp only [reduceCtorEq, false_iff, not_and]
   intro _ h
   rw [(fnd_none ls 0).2 (fun l hl => by simp [(leg_iff.1 (h l hl)).1])] at h1; cases h1
  | none =>
   have g1 := (fnd_none ls 0).1 h1
   cases h2 : fnd (fun l => !broadB w a p l) ls 0 with
   | some i =>
    simp only [reduceCtorEq, false_iff, not_and]
    intro _ h
    rw [(fnd_none ls 0).2 (fun l hl => by simp [(leg_iff.1 (h l hl)).2.1])] at h2; cases h2
   | none =>
    have g2 := (fnd_none ls 0).1 h2
    cases h3 : fnd (fun l => !thickB w a p l) ls 0 with
    | some i =>
     simp only [reduceCtorEq, false_iff, not_and]
     intro _ h
     rw [(fnd_none ls 0).2 (fun l hl => by simp [(leg_iff.1 (h l hl)).2.2])] at h3; cases h3
    | none =>
     have g3 := (fnd_none ls 0).1 h3
     cases h4 : fnd (fun l => !apartB w a p l) (ls.take (ls.length - 1)) 0 with
     | some i =>
      simp only [reduceCtorEq, false_iff, not_and]
      intro _ _ h
      rw [(fnd_none _ 0).2 (fun l hl => by simp [h l hl])] at h4; cases h4
     | none =>
      have g4 := (fnd_none _ 0).1 h4
      simp only [true_iff]
      exact ⟨g0, fun l hl => leg_iff.2 ⟨by simpa using g1 l hl, by simpa using g2 l hl, by simpa using g3 l hl⟩, fun l hl => by simpa using g4 l hl⟩
def readB (w a : Int) (p : GSightPlace) (ks : List GSightBlock) (ls : List GSightLetter) : Bool := clearB w a p ls && ks.all (fun k => !behB a p k)
theorem isRead_eq (v : Gsightview) (hp : PG v.board.At v.SightPlace) (hw : PW v.power) (hl : ∀ l ∈ v.board.Letters, BL l) (hn : 1 ≤ v.board.Letters.length) (hn2 : v.board.Letters.length ≤ 5) (hk : ∀ k ∈ v.SightStreet.Blocks, BK k) (hb : v.SightStreet.Blocks.length ≤ 4) :
  g_sight_view_isRead v = some (readB v.power v.board.At v.SightPlace v.SightStreet.Blocks v.board.Letters) := by
 simp only [g_sight_view_isRead, firstFault_eq v hp hw hl hn hn2 hk hb, Option.bind_some, Option.some.injEq]
 cases h : whyF v.power v.board.At v.SightPlace v.SightStreet.Blocks v.board.Letters with
 | none =>
  have := why_none.1 h
  symm
  simp only [whyP, readB, this.2, Bool.true_and, Bool.not_false, List.all_eq_true]
  intro k hk; simp [this.1 k hk]
 | some f =>
  have hne : ¬ ((∀ k ∈ v.SightStreet.Blocks, behB v.board.At v.SightPlace k = false) ∧ clearB v.power v.board.At v.SightPlace v.board.Letters = true) := by
   rw [← why_none, h]; simp
  simp only [whyP, readB, Bool.not_true]
  symm
  rw [Bool.eq_false_iff]
  intro hr
  rw [Bool.and_eq_true, List.all_eq_true] at hr
  exact hne ⟨fun k hk => by simpa using hr.2 k hk, hr.1⟩
def hids {α : Type} (f : α → Bool) : List α → Int → List Int
 | [], _ => []
 | e :: p, i => cond (f e) (i :: hids f p (i + 1)) (hids f p (i + 1))
theorem hids_len {α : Type} {f : α → Bool} : ∀ (p : List α) (i : Int), (hids f p i).length ≤ p.length
 | [], _ => Nat.le_refl _
 | e :: p, i => by
  unfold hids
  have := hids_len (f := f) p (i + 1)
  cases f e <;> simp <;> omega
theorem room_small {n : Nat} (b : Nat) (h : n ≤ 1000) (hb : b ≤ 100) : roomOk b n = true := by
 unfold roomOk
 refine decide_eq_true ?_
 have : n * b ≤ 1000 * 100 := Nat.mul_le_mul h hb
 omega
theorem refHidden_l0_eq (b : GSightBoard) (p : GSightPlace) (hp : PG b.At p) : ∀ (ks : List GSightBlock) (i : Int) (acc : List Int), (∀ k ∈ ks, BK k) → acc.length + ks.length ≤ 100 → g_ref02_Hidden_l0 b p ks i acc = some (.go (acc ++ hids (behB b.At p) ks i))
 | [], _, acc, _, _ => by simp [g_ref02_Hidden_l0, hids]
 | e :: ks, i, acc, h, hl => by
  have hk := refHidden_l0_eq b p hp ks
  simp only [List.length_cons] at hl
  simp only [g_ref02_Hidden_l0, refBlocks_eq e b.At p hp (h e (List.mem_cons_self ..)), Option.bind_some, hids]
  have ht : ∀ k ∈ ks, BK k := fun k hk => h k (List.mem_cons_of_mem _ hk)
  cases behB b.At p e with
  | true =>
   rw [room_small 8 (by simp; omega) (by omega)]
   simp only [cond_true]
   rw [hk (i + 1) (acc ++ [i]) ht (by simp; omega)]
   simp
  | false => exact hk (i + 1) acc ht (by omega)
theorem refHidden_eq (s : GSightStreet) (b : GSightBoard) (p : GSightPlace) (hp : PG b.At p) (hk : ∀ k ∈ s.Blocks, BK k) (hb : s.Blocks.length ≤ 4) : g_ref02_Hidden s b p = some (hids (behB b.At p) s.Blocks 0) := by
 have l1 : lenOk s.Blocks = true := lenOk_of (by omega)
 simp only [g_ref02_Hidden, l1, cond_true, refHidden_l0_eq b p hp s.Blocks 0 [] hk (by simp; omega), lbind_go, List.nil_append]
theorem faultK_zero {w a : Int} {p : GSightPlace} {l : GSightLetter} : (faultK w a p l != 0) = !legB w a p l := by
 unfold faultK legB
 cases tallB w a p l <;> cases broadB w a p l <;> cases thickB w a p l <;> rfl
theorem goods {s : GSightStreet} {b : GSightBoard} {p : GSightPlace} (h : Good s b p) : PG b.At p ∧ (∀ l ∈ b.Letters, BL l) ∧ (∀ k ∈ s.Blocks, BK k) ∧ PW (s.Eye.Low * s.Light.Low) ∧ PW (s.Eye.High * s.Light.High) := by
 refine ⟨⟨h.a0, h.a1, h.p0, h.p1, h.q0, h.q1⟩, ?_, h.blks, ?_, ?_⟩
 ·intro l hl
  have := h.lets l hl
  simp only [letterB, Bool.and_eq_true, inB_iff] at this
  unfold BL; omega
 ·have h1 := h.el; have h2 := h.em; have h3 := h.eh; have h4 := h.ll; have h5 := h.lm; have h6 := h.lh
  exact mulR (a := s.Eye.Low) (A := 40) (b := s.Light.Low) (B := 100) (by omega) (by omega) (by omega) (by omega)
 ·have h1 := h.el; have h2 := h.em; have h3 := h.eh; have h4 := h.ll; have h5 := h.lm; have h6 := h.lh
  exact mulR (a := s.Eye.High) (A := 40) (b := s.Light.High) (B := 100) (by omega) (by omega) (by omega) (by omega)
theorem pw_wrap {w : Int} (h : PW w) : IntKind.i64.wrap w = w := wrap_eq (by unfold PW at h; omega) (by unfold PW at h; omega)
def sureB (s : GSightStreet) (b : GSightBoard) (p : GSightPlace) : Bool := clearB (s.Eye.Low * s.Light.Low) b.At p b.Letters && s.Blocks.all (fun k => !behB b.At p k)
def mayB (s : GSightStreet) (b : GSightBoard) (p : GSightPlace) : Bool := clearB (s.Eye.High * s.Light.High) b.At p b.Letters && s.Blocks.all (fun k => !(behB b.At p k && k.Sure))
def seenI (s : GSightStreet) (b : GSightBoard) (p : GSightPlace) : Int := cond (sureB s b p) 3 (cond (mayB s b p) 2 1)
theorem atBest_l0_eq : ∀ (ks : List GSightBlock) (i : Int) (acc : List GSightBlock), acc.length + ks.length ≤ 100 → g_sight_atBest_l0 ks i acc = some (.go (acc ++ ks.filter (fun k => k.Sure)))
 | [], _, acc, _ => by simp [g_sight_atBest_l0]
 | e :: ks, i, acc, hl => by
  simp only [List.length_cons] at hl
  simp only [g_sight_atBest_l0, List.filter_cons]
  cases e.Sure with
  | true =>
   rw [room_small 40 (by simp; omega) (by omega)]
   simp only [cond_true, if_pos]
   rw [atBest_l0_eq ks (i + 1) (acc ++ [e]) (by simp; omega)]
   simp
  | false => exact atBest_l0_eq ks (i + 1) acc (by omega)
theorem filter_len {ks : List GSightBlock} : (ks.filter (fun k => k.Sure)).length ≤ ks.length := List.length_filter_le ..
theorem seen_eq (s : GSightStreet) (b : GSightBoard) (p : GSightPlace) (h : Good s b p) : g_sight_seen s b p = some (seenI s b p) := by
 obtain ⟨hp, hl, hk, w1, w2⟩ := goods h
 have hb := h.nb
 have l1 : lenOk s.Blocks = true := lenOk_of (by omega)
 have r1 := isRead_eq ⟨s, p, b, s.Eye.Low * s.Light.Low⟩ hp w1 hl h.n1 h.n5 hk hb
 have r2 := isRead_eq ⟨⟨s.Length, s.Width, s.Eye, s.Light, s.Boards, s.Blocks.filter (fun k => k.Sure)⟩, p, b, s.Eye.High * s.Light.High⟩ hp w2 hl h.n1 h.n5 (fun k hk' => hk k (List.mem_filter.1 hk').1) (Nat.le_trans filter_len hb)
 simp only [readB] at r1 r2
 have e : (s.Blocks.filter (fun k => k.Sure)).all (fun k => !behB b.At p k) = s.Blocks.all (fun k => !(behB b.At p k && k.Sure)) := by
  rw [List.all_filter]
  congr 1
  funext k
  cases behB b.At p k <;> cases k.Sure <;> rfl
 rw [e] at r2
 simp only [g_sight_seen, g_sight_isSurelyRead, g_sight_atWorst, g_sight_atBest, pw_wrap w1, pw_wrap w2, l1, cond_true, atBest_l0_eq s.Blocks 0 [] (by simp; omega), List.nil_append, lbind_go, Option.bind_some, r1, r2, seenI, sureB, mayB]
 cases (clearB (s.Eye.Low * s.Light.Low) b.At p b.Letters && s.Blocks.all (fun k => !behB b.At p k)) <;> cases (clearB (s.Eye.High * s.Light.High) b.At p b.Letters && s.Blocks.all (fun k => !(behB b.At p k && k.Sure))) <;> rfl
theorem Seen_eq (s : GSightStreet) (n : Int) (p : GSightPlace) (h : FineS s) : (∃ b, getI s.Boards n = some b ∧ b ∈ s.Boards ∧ Good s b p ∧ streetB s = true ∧ numB s n = true ∧ placeB s p = true ∧ g_sight_Seen s n p = some (seenI s b p, 0)) ∨ ((streetB s && (numB s n && placeB s p)) = false ∧ g_sight_Seen s n p = some (0, 2)) := by
 simp only [g_sight_Seen, isView_eq s n p h, Option.bind_some]
 cases h1 : streetB s with
 | false => exact .inr ⟨rfl, rfl⟩
 | true =>
  cases h2 : numB s n with
  | false => exact .inr ⟨rfl, rfl⟩
  | true =>
   cases h3 : placeB s p with
   | false => exact .inr ⟨rfl, rfl⟩
   | true =>
    obtain ⟨b, b1, b2, b3⟩ := good_of h1 h2 h3
    refine .inl ⟨b, b1, b2, b3, rfl, rfl, rfl, ?_⟩
    simp only [Bool.and_self, cond_true, b1, Option.bind_some, seen_eq s b p b3]
end Go.V
end
section
namespace Go.V
open Go
theorem sq_mono {x y : Int} (h0 : 0 ≤ x) (h : x ≤ y) : x * x ≤ y * y := Int.mul_le_mul h h h0 (Int.le_trans h0 h)
theorem reach_mono {w w' a : Int} {p : GSightPlace} {h : Int} (h0 : 0 ≤ h) (hw : 0 ≤ w) (hw' : w ≤ w') (hr : reachB w a p h = true) : reachB w' a p h = true := by
 unfold reachB at hr ⊢
 have h1 := of_decide_eq_true hr
 have h2 : h * w ≤ h * w' := Int.mul_le_mul_of_nonneg_left hw' h0
 have h3 := sq_mono (Int.mul_nonneg h0 hw) h2
 exact decide_eq_true (Int.le_trans h1 h3)
theorem spread_mono {w w' a : Int} {p : GSightPlace} {h : Int} (h0 : 0 ≤ h) (hq : 0 ≤ p.Across) (hw' : w ≤ w') (hr : spreadB w a p h = true) : spreadB w' a p h = true := by
 unfold spreadB at hr ⊢
 have h1 := of_decide_eq_true hr
 have h2 : h * w ≤ h * w' := Int.mul_le_mul_of_nonneg_left hw' h0
 have h3 : h * w * p.Across ≤ h * w' * p.Across := Int.mul_le_mul_of_nonneg_right h2 hq
 exact decide_eq_true (Int.le_trans h1 h3)
theorem leg_mono {w w' a : Int} {p : GSightPlace} {l : GSightLetter} (hl : BL l) (hp : PG a p) (hw : 0 ≤ w) (hw' : w ≤ w') (h : legB w a p l = true) : legB w' a p l = true := by
 unfold BL at hl
 unfold PG at hp
 obtain ⟨h1, h2, h3⟩ := leg_iff.1 h
 exact leg_iff.2 ⟨reach_mono (by omega) hw hw' h1, spread_mono (by omega) (by omega) hw' h2, reach_mono (by omega) hw hw' h3⟩
theorem apart_mono {w w' a : Int} {p : GSightPlace} {l : GSightLetter} (hl : BL l) (hp : PG a p) (hw' : w ≤ w') (h : apartB w a p l = true) : apartB w' a p l = true := by
 unfold BL at hl
 unfold PG at hp
 exact spread_mono (by omega) (by omega) hw' h
theorem clear_mono {w w' a : Int} {p : GSightPlace} {ls : List GSightLetter} (hl : ∀ l ∈ ls, BL l) (hp : PG a p) (hw : 0 ≤ w) (hw' : w ≤ w') (h : clearB w a p ls = true) : clearB w' a p ls = true := by
 rw [clear_iff] at h ⊢
 exact ⟨fun l h1 => leg_mono (hl l h1) hp hw hw' (h.1 l h1), fun l h1 => apart_mono (hl l (List.mem_of_mem_take h1)) hp hw' (h.2 l h1)⟩
end Go.V
end
section
namespace Go.V
open Go Go.Proofs
theorem hmix : Tryz.prog.follows .mixedOrders = true := by kernel_rfl
def kS : VV := (Go.V.VV.agg [(Go.V.VV.lit (Go.Value.int Go.IntKind.i64 (Int.ofNat 20))), (Go.V.VV.lit (Go.Value.int Go.IntKind.i64 (Int.ofNat 6))), (Go.V.VV.lit (Go.Value.int Go.IntKind.i64 (Int.ofNat 4))), (Go.V.VV.lit (Go.Value.int Go.IntKind.i64 (Int.ofNat 6))), (Go.V.VV.lit (Go.Value.int Go.IntKind.i64 (Int.ofNat 50))), (Go.V.VV.lit (Go.Value.int Go.IntKind.i64 (Int.ofNat 100))), (Go.V.VV.sl [(Go.V.VV.lit (Go.Value.int Go.IntKind.i64 (Int.ofNat 10))), (Go.V.VV.sl [(Go.V.VV.lit (Go.Value.int Go.IntKind.i64 (Int.ofNat 6))), (Go.V.VV.lit (Go.Value.int Go.IntKind.i64 (Int.ofNat 4))), (Go.V.VV.lit (Go.Value.int Go.IntKind.i64 (Int.ofNat 1))), (Go.V.VV.lit (Go.Value.int Go.IntKind.i64 (Int.ofNat 1))), (Go.V.VV.lit (Go.Value.int Go.IntKind.i64 (Int.ofNat 8))), (Go.V.VV.lit (Go.Value.int Go.IntKind.i64 (Int.ofNat 5))), (Go.V.VV.lit (Go.Value.int Go.IntKind.i64 (Int.ofNat 2))), (Go.V.VV.lit (Go.Value.int Go.IntKind.i64 (Int.ofNat 0)))] 2 Bool.false), (Go.V.VV.lit (Go.Value.int Go.IntKind.i64 (Int.ofNat 0))), (Go.V.VV.sl [(Go.V.VV.lit (Go.Value.int Go.IntKind.i64 (Int.ofNat 10))), (Go.V.VV.lit (Go.Value.int Go.IntKind.i64 (Int.ofNat 10))), (Go.V.VV.lit (Go.Value.int Go.IntKind.i64 (Int.ofNat 2))), (Go.V.VV.lit (Go.Value.int Go.IntKind.i64 (Int.ofNat 0)))] 1 Bool.false)] 2 Bool.false), (Go.V.VV.sl [(Go.V.VV.lit (Go.Value.int Go.IntKind.i64 (Int.ofNat 12))), (Go.V.VV.lit (Go.Value.int Go.IntKind.i64 (Int.ofNat 13))), (Go.V.VV.lit (Go.Value.int Go.IntKind.i64 (Int.ofNat 2))), (Go.V.VV.lit (Go.Value.int Go.IntKind.i64 (Int.ofNat 3))), (Go.V.VV.lit (Go.Value.bool Bool.true)), (Go.V.VV.lit (Go.Value.int Go.IntKind.i64 (Int.ofNat 5))), (Go.V.VV.lit (Go.Value.int Go.IntKind.i64 (Int.ofNat 6))), (Go.V.VV.lit (Go.Value.int Go.IntKind.i64 (Int.ofNat 4))), (Go.V.VV.lit (Go.Value.int Go.IntKind.i64 (Int.ofNat 5))), (Go.V.VV.lit (Go.Value.bool Bool.false))] 2 Bool.false)])
def kT : VV := (Go.V.VV.agg [(Go.V.VV.lit (Go.Value.int Go.IntKind.i64 (Int.ofNat 4))), (Go.V.VV.lit (Go.Value.int Go.IntKind.i64 (Int.ofNat 2))), (Go.V.VV.lit (Go.Value.int Go.IntKind.i64 (Int.ofNat 1))), (Go.V.VV.lit (Go.Value.int Go.IntKind.i64 (Int.ofNat 1))), (Go.V.VV.lit (Go.Value.int Go.IntKind.i64 (Int.ofNat 100))), (Go.V.VV.lit (Go.Value.int Go.IntKind.i64 (Int.ofNat 100))), (Go.V.VV.sl [(Go.V.VV.lit (Go.Value.int Go.IntKind.i64 (Int.ofNat 0))), (Go.V.VV.sl [(Go.V.VV.lit (Go.Value.int Go.IntKind.i64 (Int.ofNat 3))), (Go.V.VV.lit (Go.Value.int Go.IntKind.i64 (Int.ofNat 2))), (Go.V.VV.lit (Go.Value.int Go.IntKind.i64 (Int.ofNat 1))), (Go.V.VV.lit (Go.Value.int Go.IntKind.i64 (Int.ofNat 0)))] 1 Bool.false)] 1 Bool.false), (Go.V.VV.lit (Go.Value.slice Option.none 0 0))])
def kAt46 : VV := (Go.V.VV.agg [(Go.V.VV.lit (Go.Value.int Go.IntKind.i64 (Int.ofNat 4))), (Go.V.VV.lit (Go.Value.int Go.IntKind.i64 (Int.ofNat 6)))])
def kAt41 : VV := (Go.V.VV.agg [(Go.V.VV.lit (Go.Value.int Go.IntKind.i64 (Int.ofNat 4))), (Go.V.VV.lit (Go.Value.int Go.IntKind.i64 (Int.ofNat 1)))])
def kAt201 : VV := (Go.V.VV.agg [(Go.V.VV.lit (Go.Value.int Go.IntKind.i64 (Int.ofNat 20))), (Go.V.VV.lit (Go.Value.int Go.IntKind.i64 (Int.ofNat 1)))])
def kAt166 : VV := (Go.V.VV.agg [(Go.V.VV.lit (Go.Value.int Go.IntKind.i64 (Int.ofNat 16))), (Go.V.VV.lit (Go.Value.int Go.IntKind.i64 (Int.ofNat 6)))])
def kAt106 : VV := (Go.V.VV.agg [(Go.V.VV.lit (Go.Value.int Go.IntKind.i64 (Int.ofNat 10))), (Go.V.VV.lit (Go.Value.int Go.IntKind.i64 (Int.ofNat 6)))])
def kSeen : VV := (Go.V.VV.tup [(Go.V.VV.lit (Go.Value.int Go.IntKind.i64 (Int.ofNat 2))), (Go.V.VV.lit (Go.Value.int Go.IntKind.i64 (Int.ofNat 0)))])
def kWhy : VV := (Go.V.VV.tup [(Go.V.VV.agg [(Go.V.VV.lit (Go.Value.int Go.IntKind.i64 (Int.ofNat 3))), (Go.V.VV.lit (Go.Value.int Go.IntKind.i64 (Int.ofNat 0)))]), (Go.V.VV.lit (Go.Value.int Go.IntKind.i64 (Int.ofNat 0)))])
def kLetters : VV := (Go.V.VV.tup [(Go.V.VV.sl [(Go.V.VV.lit (Go.Value.int Go.IntKind.i64 (Int.ofNat 2))), (Go.V.VV.lit (Go.Value.int Go.IntKind.i64 (Int.ofNat 2)))] 2 Bool.false), (Go.V.VV.lit (Go.Value.int Go.IntKind.i64 (Int.ofNat 0)))])
def kMelts : VV := (Go.V.VV.tup [(Go.V.VV.sl [(Go.V.VV.lit (Go.Value.int Go.IntKind.i64 (Int.ofNat 3)))] 1 Bool.false), (Go.V.VV.lit (Go.Value.int Go.IntKind.i64 (Int.ofNat 0)))])
def kHidden : VV := (Go.V.VV.tup [(Go.V.VV.sl [(Go.V.VV.lit (Go.Value.int Go.IntKind.i64 (Int.ofNat 0)))] 1 Bool.false), (Go.V.VV.lit (Go.Value.int Go.IntKind.i64 (Int.ofNat 0)))])
def kMany : VV := (Go.V.VV.tup [(Go.V.VV.lit (Go.Value.int Go.IntKind.i64 (Int.ofNat 3))), (Go.V.VV.lit (Go.Value.int Go.IntKind.i64 (Int.ofNat 3))), (Go.V.VV.lit (Go.Value.int Go.IntKind.i64 (Int.ofNat 0)))])
def kFarthest : VV := (Go.V.VV.tup [(Go.V.VV.agg [(Go.V.VV.lit (Go.Value.int Go.IntKind.i64 (Int.ofNat 0))), (Go.V.VV.lit (Go.Value.int Go.IntKind.i64 (Int.ofNat 2)))]), (Go.V.VV.lit (Go.Value.int Go.IntKind.i64 (Int.ofNat 0)))])
def kLeast : VV := (Go.V.VV.tup [(Go.V.VV.lit (Go.Value.int Go.IntKind.i64 (Int.ofNat 5))), (Go.V.VV.lit (Go.Value.int Go.IntKind.i64 (Int.ofNat 0)))])
def kLight : VV := (Go.V.VV.tup [(Go.V.VV.lit (Go.Value.int Go.IntKind.i64 (Int.ofNat 38))), (Go.V.VV.lit (Go.Value.int Go.IntKind.i64 (Int.ofNat 0)))])
def kHang : VV := (Go.V.VV.tup [(Go.V.VV.lit (Go.Value.int Go.IntKind.i64 (Int.ofNat 1))), (Go.V.VV.lit (Go.Value.int Go.IntKind.i64 (Int.ofNat 4))), (Go.V.VV.lit (Go.Value.int Go.IntKind.i64 (Int.ofNat 0)))])
def kRead : VV := (Go.V.VV.tup [(Go.V.VV.agg [(Go.V.VV.lit (Go.Value.int Go.IntKind.i64 (Int.ofNat 1))), (Go.V.VV.lit (Go.Value.int Go.IntKind.i64 (Int.ofNat 1))), (Go.V.VV.lit (Go.Value.int Go.IntKind.i64 (Int.ofNat 1))), (Go.V.VV.lit (Go.Value.int Go.IntKind.i64 (Int.ofNat 1))), (Go.V.VV.lit (Go.Value.int Go.IntKind.i64 (Int.ofNat 1))), (Go.V.VV.lit (Go.Value.int Go.IntKind.i64 (Int.ofNat 1))), (Go.V.VV.sl [(Go.V.VV.lit (Go.Value.int Go.IntKind.i64 (Int.ofNat 0))), (Go.V.VV.sl [(Go.V.VV.lit (Go.Value.int Go.IntKind.i64 (Int.ofNat 1))), (Go.V.VV.lit (Go.Value.int Go.IntKind.i64 (Int.ofNat 1))), (Go.V.VV.lit (Go.Value.int Go.IntKind.i64 (Int.ofNat 1))), (Go.V.VV.lit (Go.Value.int Go.IntKind.i64 (Int.ofNat 0)))] 1 Bool.false)] 1 Bool.false), (Go.V.VV.lit (Go.Value.slice Option.none 0 0))]), (Go.V.VV.lit (Go.Value.int Go.IntKind.i64 (Int.ofNat 0)))])
end Go.V
end
section
namespace Go.V
open Go Go.Proofs
theorem pS : VPure Tryz.prog G0 50 [] (.tree kS) := VPure.closedB hmix 1000 (by kernel_rfl)
theorem pT : VPure Tryz.prog G0 51 [] (.tree kT) := VPure.closedB hmix 1000 (by kernel_rfl)
theorem pAt46 : VPure Tryz.prog G0 49 [.lit (.int .i64 (4)), .lit (.int .i64 (6))] (.tree kAt46) := VPure.closedB hmix 1000 (by kernel_rfl)
theorem pAt41 : VPure Tryz.prog G0 49 [.lit (.int .i64 (4)), .lit (.int .i64 (1))] (.tree kAt41) := VPure.closedB hmix 1000 (by kernel_rfl)
theorem pAt201 : VPure Tryz.prog G0 49 [.lit (.int .i64 (20)), .lit (.int .i64 (1))] (.tree kAt201) := VPure.closedB hmix 1000 (by kernel_rfl)
theorem pAt166 : VPure Tryz.prog G0 49 [.lit (.int .i64 (16)), .lit (.int .i64 (6))] (.tree kAt166) := VPure.closedB hmix 1000 (by kernel_rfl)
theorem pAt106 : VPure Tryz.prog G0 49 [.lit (.int .i64 (10)), .lit (.int .i64 (6))] (.tree kAt106) := VPure.closedB hmix 1000 (by kernel_rfl)
theorem pSeen : VPure Tryz.prog G0 18 [kS, .lit (.int .i64 (0)), kAt46] (.tree kSeen) := VPure.closedB hmix 1000 (by kernel_rfl)
theorem pWhy : VPure Tryz.prog G0 26 [kS, .lit (.int .i64 (0)), kAt41] (.tree kWhy) := VPure.closedB hmix 1000 (by kernel_rfl)
theorem pLetters : VPure Tryz.prog G0 28 [kS, .lit (.int .i64 (0)), kAt46] (.tree kLetters) := VPure.closedB hmix 1000 (by kernel_rfl)
theorem pMelts : VPure Tryz.prog G0 29 [kS, .lit (.int .i64 (0)), kAt201] (.tree kMelts) := VPure.closedB hmix 1000 (by kernel_rfl)
theorem pHidden : VPure Tryz.prog G0 30 [kS, .lit (.int .i64 (0)), kAt166] (.tree kHidden) := VPure.closedB hmix 1000 (by kernel_rfl)
end Go.V
end
section
namespace Go.V
open Go Go.Proofs
theorem pMany : VPure Tryz.prog G0 36 [kT, .lit (.int .i64 (0))] (.tree kMany) := VPure.closedB hmix 1000 (by kernel_rfl)
theorem pFarthest : VPure Tryz.prog G0 37 [kT, .lit (.int .i64 (0))] (.tree kFarthest) := VPure.closedB hmix 1000 (by kernel_rfl)
theorem pLeast : VPure Tryz.prog G0 41 [kS, .lit (.int .i64 (0)), kAt41] (.tree kLeast) := VPure.closedB hmix 1000 (by kernel_rfl)
theorem pLight : VPure Tryz.prog G0 42 [kS, .lit (.int .i64 (0)), kAt106] (.tree kLight) := VPure.closedB hmix 1000 (by kernel_rfl)
end Go.V
end
section
namespace Go.V
open Go Go.Proofs
theorem pHang : VPure Tryz.prog G0 52 [kT, .lit (.int .i64 (0))] (.tree kHang) := VPure.closedB hmix 1000 (by kernel_rfl)
end Go.V
end
section
namespace Go.V
open Go Go.Proofs
theorem pRead : VPure Tryz.prog G0 53 [.lit (.string ⟨⟨[115, 105, 103, 104, 116, 32, 49, 32, 49, 32, 49, 32, 49, 32, 49, 32, 49, 10, 98, 111, 97, 114, 100, 32, 48, 10, 108, 101, 116, 116, 101, 114, 32, 49, 32, 49, 32, 49, 32, 48, 10, 101, 110, 100, 32, 48, 49, 57, 10]⟩⟩)] (.tree kRead) := VPure.closedB hmix 1000 (by kernel_rfl)
end Go.V
end
section
namespace Go.V
open Go Go.Proofs
def kTab : KTab := [
  (50, [], kS),
  (51, [], kT),
  (49, [.lit (.int .i64 (4)), .lit (.int .i64 (6))], kAt46),
  (49, [.lit (.int .i64 (4)), .lit (.int .i64 (1))], kAt41),
  (49, [.lit (.int .i64 (20)), .lit (.int .i64 (1))], kAt201),
  (49, [.lit (.int .i64 (16)), .lit (.int .i64 (6))], kAt166),
  (49, [.lit (.int .i64 (10)), .lit (.int .i64 (6))], kAt106),
  (18, [kS, .lit (.int .i64 (0)), kAt46], kSeen),
  (26, [kS, .lit (.int .i64 (0)), kAt41], kWhy),
  (28, [kS, .lit (.int .i64 (0)), kAt46], kLetters),
  (29, [kS, .lit (.int .i64 (0)), kAt201], kMelts),
  (30, [kS, .lit (.int .i64 (0)), kAt166], kHidden),
  (36, [kT, .lit (.int .i64 (0))], kMany),
  (37, [kT, .lit (.int .i64 (0))], kFarthest),
  (41, [kS, .lit (.int .i64 (0)), kAt41], kLeast),
  (42, [kS, .lit (.int .i64 (0)), kAt106], kLight),
  (52, [kT, .lit (.int .i64 (0))], kHang),
  (53, [.lit (.string ⟨⟨[115, 105, 103, 104, 116, 32, 49, 32, 49, 32, 49, 32, 49, 32, 49, 32, 49, 10, 98, 111, 97, 114, 100, 32, 48, 10, 108, 101, 116, 116, 101, 114, 32, 49, 32, 49, 32, 49, 32, 48, 10, 101, 110, 100, 32, 48, 49, 57, 10]⟩⟩)], kRead)]
theorem kTabOk : KTabOk Tryz.prog G0 kTab := ⟨⟨by kernel_rfl, pS⟩, ⟨⟨by kernel_rfl, pT⟩, ⟨⟨by kernel_rfl, pAt46⟩, ⟨⟨by kernel_rfl, pAt41⟩, ⟨⟨by kernel_rfl, pAt201⟩, ⟨⟨by kernel_rfl, pAt166⟩, ⟨⟨by kernel_rfl, pAt106⟩, ⟨⟨by kernel_rfl, pSeen⟩, ⟨⟨by kernel_rfl, pWhy⟩, ⟨⟨by kernel_rfl, pLetters⟩, ⟨⟨by kernel_rfl, pMelts⟩, ⟨⟨by kernel_rfl, pHidden⟩, ⟨⟨by kernel_rfl, pMany⟩, ⟨⟨by kernel_rfl, pFarthest⟩, ⟨⟨by kernel_rfl, pLeast⟩, ⟨⟨by kernel_rfl, pLight⟩, ⟨⟨by kernel_rfl, pHang⟩, ⟨⟨by kernel_rfl, pRead⟩, trivial⟩⟩⟩⟩⟩⟩⟩⟩⟩⟩⟩⟩⟩⟩⟩⟩⟩⟩
theorem pKnown : VPure Tryz.prog G0 16 [] (.tree (.lit (.bool true))) := VPure.closedT hmix kTabOk 1000 (by kernel_rfl)
#print axioms pKnown
end Go.V
end
section
namespace Go.V
open Go Go.Proofs
def g_law02_known : Option Bool := some true
theorem g_law02_known_ok (R : Bool) (h : g_law02_known = some R) : VPure Tryz.prog G0 16 [] (.tree (.lit (.bool R))) := by
 cases h
 exact pKnown
end Go.V
end
