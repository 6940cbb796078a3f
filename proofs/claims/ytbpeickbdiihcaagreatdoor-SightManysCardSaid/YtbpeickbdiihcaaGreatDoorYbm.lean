/- Part of a proof: a logic of values by content, lifted functions, what follows. -/
import Derived.Test.YtbpeickbdiihcaaGreatDoorYbf
import Derived.Test.YtbpeickbdiihcaaGreatDoorYbi
import Derived.Test.YtbpeickbdiihcaaGreatDoorYbl
import Derived.Test.YtbpeickbdiihcaaGreatDoorYbk
set_option linter.all false
set_option maxRecDepth 4000
set_option maxHeartbeats 4000000
section
namespace Go.V
open Go Go.Proofs
def g_sight_isSurelyRead (x0_s : GSightStreet) (x1_b : GSightBoard) (x2_from : GSightPlace) : Option (Bool) := Option.bind (g_sight_atWorst x0_s x1_b x2_from) (fun r1 => Option.bind (g_sight_view_isRead r1) (fun r2 => some r2))
theorem g_sight_isSurelyRead_ok (x0_s : GSightStreet) (x1_b : GSightBoard) (x2_from : GSightPlace) (R : Bool) (h : g_sight_isSurelyRead x0_s x1_b x2_from = some R) : VPure Tryz.prog G0 86 [.agg (cGSightStreet x0_s), .agg (cGSightBoard x1_b), .agg (cGSightPlace x2_from)] (.tree (.lit (.bool R))) := by
 refine VPure.runR mixed Tryz.call86 Tryz.func86 rfl (by simp [Tryz.ntmps86]; kernel_rfl) ?_
 obtain ⟨KF, h, kF, kN⟩ := fun_intro h
 simp only [g_sight_isSurelyRead] at h
 cases o4 : (g_sight_atWorst x0_s x1_b x2_from) with
 | none =>
  simp only [o4, hs, reduceCtorEq] at h
  exact absurd h kN
 | some r3 =>
  simp only [o4, hs, reduceCtorEq] at h
  simp only [vz, tyf, nm, seval]
  refine ktree (args0 := [.agg (cGSightStreet x0_s), .agg (cGSightBoard x1_b), .agg (cGSightPlace x2_from)]) (by first | (simp only [nrm, tynrm] <;> rfl) | rfl) (by simp only [tre, tytre, Bool.and_self]) (g_sight_atWorst_ok _ _ _ _ o4) ?_
  refine fin_cut (fun tm => tm 10 = .agg (cGsightview r3) ∧ True) (by refine ⟨?_, trivial⟩ <;> first | (simp only [ua, nm, seval] <;> rfl) | rfl) ?_
  rintro tm ⟨e5, _⟩
  cases o7 : (g_sight_view_isRead r3) with
  | none =>
   simp only [o7, hs, reduceCtorEq] at h
   exact absurd h kN
  | some r6 =>
   simp only [o7, hs, reduceCtorEq] at h
   simp only [vz, tyf, e5, nm, seval]
   refine ktree (args0 := [.agg (cGsightview r3)]) (by first | (simp only [nrm, tynrm] <;> rfl) | rfl) (by simp only [tre, tytre, Bool.and_self]) (g_sight_view_isRead_ok _ _ o7) ?_
   refine fin_cut (fun tm => tm 11 = .lit (.bool r6) ∧ True) (by refine ⟨?_, trivial⟩ <;> first | (simp only [ua, e5, nm, seval] <;> rfl) | rfl) ?_
   rintro tm ⟨e8, _⟩
   try simp only [vz, tyf, e8, nm, seval]
   obtain rfl := kF _ h
   exact opd_bool Tryz.results86 (by first | rfl | (simp only [upd_apply, seval] <;> rfl))
end Go.V
end
section
namespace Go.V
open Go Go.Proofs
def g_sight_seen (x0_s : GSightStreet) (x1_b : GSightBoard) (x2_from : GSightPlace) : Option (Int) := Option.bind (g_sight_isSurelyRead x0_s x1_b x2_from) (fun r1 => cond (r1) (some 3) (Option.bind (g_sight_atBest x0_s x1_b x2_from) (fun r2 => Option.bind (g_sight_view_isRead r2) (fun r3 => cond (r3) (some 2) (some 1)))))
theorem g_sight_seen_ok (x0_s : GSightStreet) (x1_b : GSightBoard) (x2_from : GSightPlace) (R : Int) (h : g_sight_seen x0_s x1_b x2_from = some R) : VPure Tryz.prog G0 57 [.agg (cGSightStreet x0_s), .agg (cGSightBoard x1_b), .agg (cGSightPlace x2_from)] (.tree (.lit (.int .i64 R))) := by
 refine VPure.runR mixed Tryz.call57 Tryz.func57 rfl (by simp [Tryz.ntmps57]; kernel_rfl) ?_
 obtain ⟨KF, h, kF, kN⟩ := fun_intro h
 simp only [g_sight_seen] at h
 cases o5 : (g_sight_isSurelyRead x0_s x1_b x2_from) with
 | none =>
  simp only [o5, hs, reduceCtorEq] at h
  exact absurd h kN
 | some r4 =>
  simp only [o5, hs, reduceCtorEq] at h
  simp only [vz, tyf, nm, seval]
  refine ktree (args0 := [.agg (cGSightStreet x0_s), .agg (cGSightBoard x1_b), .agg (cGSightPlace x2_from)]) (by first | (simp only [nrm, tynrm] <;> rfl) | rfl) (by simp only [tre, tytre, Bool.and_self]) (g_sight_isSurelyRead_ok _ _ _ _ o5) ?_
  refine fin_cut (fun tm => tm 3 = .ptr 0 0 ∧ tm 4 = .ptr 1 0 ∧ tm 5 = .ptr 2 0 ∧ tm 10 = .lit (.bool r4) ∧ True) (by refine ⟨?_, ?_, ?_, ?_, trivial⟩ <;> first | (simp only [ua, nm, seval] <;> rfl) | rfl) ?_
  rintro tm ⟨e6, e7, e8, e9, _⟩
  cases d10 : (r4)
  ·simp only [d10, hs, reduceCtorEq] at h
   cases o12 : (g_sight_atBest x0_s x1_b x2_from) with
   | none =>
    simp only [o12, hs, reduceCtorEq] at h
    exact absurd h kN
   | some r11 =>
    simp only [o12, hs, reduceCtorEq] at h
    simp only [vz, tyf, e6, e7, e8, e9, d10, nm, seval]
    refine ktree (args0 := [.agg (cGSightStreet x0_s), .agg (cGSightBoard x1_b), .agg (cGSightPlace x2_from)]) (by first | (simp only [nrm, tynrm] <;> rfl) | rfl) (by simp only [tre, tytre, Bool.and_self]) (g_sight_atBest_ok _ _ _ _ o12) ?_
    refine fin_cut (fun tm => tm 14 = .agg (cGsightview r11) ∧ True) (by refine ⟨?_, trivial⟩ <;> first | (simp only [ua, e6, e7, e8, e9, d10, nm, seval] <;> rfl) | rfl) ?_
    rintro tm ⟨e13, _⟩
    cases o15 : (g_sight_view_isRead r11) with
    | none =>
     simp only [o15, hs, reduceCtorEq] at h
     exact absurd h kN
    | some r14 =>
     simp only [o15, hs, reduceCtorEq] at h
     simp only [vz, tyf, d10, e13, nm, seval]
     refine ktree (args0 := [.agg (cGsightview r11)]) (by first | (simp only [nrm, tynrm] <;> rfl) | rfl) (by simp only [tre, tytre, Bool.and_self]) (g_sight_view_isRead_ok _ _ o15) ?_
     refine fin_cut (fun tm => tm 15 = .lit (.bool r14) ∧ True) (by refine ⟨?_, trivial⟩ <;> first | (simp only [ua, d10, e13, nm, seval] <;> rfl) | rfl) ?_
     rintro tm ⟨e16, _⟩
     cases d17 : (r14)
     ·simp only [d17, hs, reduceCtorEq] at h
      try simp only [vz, tyf, d10, e16, d17, nm, seval]
      refine opd_ret (x := (.lit (.int .i64 1))) (by first | (simp only [Tryz.results57, resV, resL, resV1, tgt_ptr, tgt_tp, uw, cr, tyf, d10, d17, nm, seval] <;> rfl) | rfl) ?_
      obtain rfl := kF _ h
      refine rr_tree ?_ ?_
      ·simp only [tre, tytre, Bool.and_self]
      ·first | (simp only [outV, uw, showV_ref, cr, tyf, nrm, tynrm, d10, e16, d17, nm, seval] <;> rfl) | rfl
     simp only [d17, hs, reduceCtorEq] at h
     try simp only [vz, tyf, d10, e16, d17, nm, seval]
     refine opd_ret (x := (.lit (.int .i64 2))) (by first | (simp only [Tryz.results57, resV, resL, resV1, tgt_ptr, tgt_tp, uw, cr, tyf, d10, d17, nm, seval] <;> rfl) | rfl) ?_
     obtain rfl := kF _ h
     refine rr_tree ?_ ?_
     ·simp only [tre, tytre, Bool.and_self]
     ·first | (simp only [outV, uw, showV_ref, cr, tyf, nrm, tynrm, d10, e16, d17, nm, seval] <;> rfl) | rfl
  simp only [d10, hs, reduceCtorEq] at h
  try simp only [vz, tyf, e6, e7, e8, e9, d10, nm, seval]
  refine opd_ret (x := (.lit (.int .i64 3))) (by first | (simp only [Tryz.results57, resV, resL, resV1, tgt_ptr, tgt_tp, uw, cr, tyf, d10, nm, seval] <;> rfl) | rfl) ?_
  obtain rfl := kF _ h
  refine rr_tree ?_ ?_
  ·simp only [tre, tytre, Bool.and_self]
  ·first | (simp only [outV, uw, showV_ref, cr, tyf, nrm, tynrm, e6, e7, e8, e9, d10, nm, seval] <;> rfl) | rfl
end Go.V
end
section
namespace Go.V
open Go Go.Proofs
end Go.V
end
section
namespace Go.V
open Go Go.Proofs
def g_ref02_Clear_l0 (x0_b : GSightBoard) (x1_p : GSightPlace) (x2_power : Int) : List GSightLetter → Int → Option (LOut (Bool) (Unit))
 | [], c0_7 => some (.go ())
 | e0 :: p0, c0_7 => Option.bind (g_ref02_Fault e0 x0_b.At x1_p x2_power) (fun r1 => cond (r1 != 0) (some (.ret false)) (cond (decide ((c0_7 + 1) < (List.length x0_b.Letters : Int))) (Option.bind (g_ref02_Melts e0 x0_b.At x1_p x2_power) (fun r2 => cond (r2) (some (.ret false)) (g_ref02_Clear_l0 x0_b x1_p x2_power p0 (c0_7 + 1)))) (g_ref02_Clear_l0 x0_b x1_p x2_power p0 (c0_7 + 1))))
def g_ref02_Clear (x0_b : GSightBoard) (x1_p : GSightPlace) (x2_power : Int) : Option (Bool) := cond (lenOk x0_b.Letters) (lbind (g_ref02_Clear_l0 x0_b x1_p x2_power x0_b.Letters 0) (fun r4 => some r4) (fun c3 => some true) (fun _ _ => none)) none
theorem g_ref02_Clear_ok (x0_b : GSightBoard) (x1_p : GSightPlace) (x2_power : Int) (R : Bool) (h : g_ref02_Clear x0_b x1_p x2_power = some R) : VPure Tryz.prog G0 103 [.agg (cGSightBoard x0_b), .agg (cGSightPlace x1_p), .lit (.int .i64 x2_power)] (.tree (.lit (.bool R))) := by
 refine VPure.runR mixed Tryz.call103 Tryz.func103 rfl (by simp [Tryz.ntmps103]; kernel_rfl) ?_
 obtain ⟨KF, h, kF, kN⟩ := fun_intro h
 simp only [g_ref02_Clear] at h
 cases g6 : (lenOk x0_b.Letters)
 ·simp only [g6, hs, reduceCtorEq] at h
  exact absurd h kN
 simp only [g6, hs, reduceCtorEq] at h
 simp only [vz, tyf, g6, nm, seval]
 obtain ⟨K5, h, kR5, kG5, kB5, kN5⟩ := lbind_intro h kN
 obtain ⟨f5, hf5, h⟩ := call2 h
 obtain ⟨I5, hI5⟩ : ∃ I : Nat → St → Prop, I = (fun m st => ∃ (p5 : List GSightLetter) (c5_7 : Int), m = List.length p5 ∧ 0 ≤ c5_7 ∧ List.drop (Int.toNat c5_7) x0_b.Letters = p5 ∧ st.df = [] ∧ 4 ≤ st.nx ∧ st.H 0 = some (.cells (some 42) (cGSightBoard x0_b)) ∧ st.H 1 = some (.cells (some 29) (cGSightPlace x1_p)) ∧ st.tm 2 = .lit (.int .i64 x2_power) ∧ st.tm 3 = .ptr 0 0 ∧ st.tm 4 = .ptr 1 0 ∧ st.tm 7 = .lit (.int .i64 c5_7) ∧ K5 (f5 p5 c5_7)) := ⟨_, rfl⟩
 refine loopK mixed (by kernel_rfl) I5 (List.length x0_b.Letters) (by rw [hI5]; refine ⟨x0_b.Letters, 0, rfl, Int.le_refl _, rfl, rfl, (show 4 ≤ 4 by omega), ?_, ?_, ?_, ?_, ?_, ?_, h⟩ <;> first | (simp only [ua, nm, seval] <;> rfl) | rfl) ?_
 rintro m ⟨tm, H, nx5, df⟩ hinv
 rw [hI5] at hinv
 obtain ⟨p5, c5_7, rfl, hi5, hp5, hdf, hn5, H7, H8, e9, e10, e11, e12, h⟩ := hinv
 simp only at hdf hn5 H7 H8 e9 e10 e11 e12
 have n13 := base_ne0 (m := 4) (b := nx5) (by omega)
 subst hdf hf5
 cases p5 with
 | nil =>
  have d14 : (decide (c5_7 < (List.length x0_b.Letters : Int))) = false := not_lt_of_drop hi5 hp5
  simp only [g_ref02_Clear_l0, hs, reduceCtorEq] at h
  replace h := kG5 _ h
  try dsimp only at h
  try simp only [hs] at h
  try simp only [vz, tyf, g6, n13, e9, e10, e11, e12, H7, H8, d14, nm, seval]
  obtain rfl := kF _ h
  exact opd_bool Tryz.results103 (by first | rfl | (simp only [upd_apply, seval] <;> rfl))
 | cons e5 p5 =>
  have d15 : (decide (c5_7 < (List.length x0_b.Letters : Int))) = true := lt_of_drop hi5 hp5
  have o17 := getI_of_drop hi5 hp5
  have w16 := wrap_next hi5 hp5 g6
  simp only [g_ref02_Clear_l0, hs, reduceCtorEq] at h
  simp only [vz, tyf, g6, n13, e9, e10, e11, e12, H7, H8, d15, (ix40 o17), w16, nm, seval]
  refine cwp_drwQF (fun tm => tm 2 = .lit (.int .i64 x2_power) ∧ tm 3 = .ptr 0 0 ∧ tm 4 = .ptr 1 0 ∧ tm 7 = .lit (.int .i64 c5_7) ∧ True) (by refine ⟨e9, e10, e11, e12, trivial⟩ <;> first | (simp only [ua, n13, e9, e10, e11, e12, H7, H8, d15, w16, nm, seval] <;> rfl) | rfl) ?_
  rintro tm ⟨e18, e19, e20, e21, _⟩
  cases o23 : (g_ref02_Fault e5 x0_b.At x1_p x2_power) with
  | none =>
   simp only [o23, hs, reduceCtorEq] at h
   exact absurd h kN5
  | some r22 =>
   simp only [o23, hs, reduceCtorEq] at h
   simp only [vz, tyf, g6, n13, H7, H8, d15, (ix40 o17), w16, e18, e19, e20, e21, nm, seval]
   refine dktree (args0 := [.agg (cGSightLetter e5), .lit (.int .i64 x0_b.At), .agg (cGSightPlace x1_p), .lit (.int .i64 x2_power)]) (by first | (simp only [nrm, tynrm] <;> rfl) | rfl) (by simp only [tre, tytre, Bool.and_self]) (g_ref02_Fault_ok _ _ _ _ _ o23) ?_
   refine fin_cut (fun tm => tm 2 = .lit (.int .i64 x2_power) ∧ tm 3 = .ptr 0 0 ∧ tm 4 = .ptr 1 0 ∧ tm 7 = .lit (.int .i64 c5_7) ∧ tm 24 = .lit (.int .i64 r22) ∧ True) (by refine ⟨e18, e19, e20, e21, ?_, trivial⟩ <;> first | (simp only [ua, n13, H7, H8, d15, w16, e18, e19, e20, e21, nm, seval] <;> rfl) | rfl) ?_
   rintro tm ⟨e24, e25, e26, e27, e28, _⟩
   cases d29 : (r22 != 0)
   ·simp only [d29, hs, reduceCtorEq] at h
    cases d30 : (decide ((c5_7 + 1) < (List.length x0_b.Letters : Int)))
    ·simp only [d30, hs, reduceCtorEq] at h
     simp only [vz, tyf, g6, n13, H7, H8, d15, (ix40 o17), w16, e24, e25, e26, e27, e28, d29, d30, nm, seval]
     exact ⟨List.length p5, Nat.lt_succ_self _, by rw [hI5]; refine ⟨p5, c5_7 + 1, rfl, Int.le_trans hi5 (Int.le_add_one (Int.le_refl _)), drop_next hi5 hp5, rfl, (show 4 ≤ nx5 + 39 by omega), ?_, ?_, e24, e25, e26, ?_, h⟩ <;> first | (simp only [ua, n13, H7, H8, d15, w16, e24, e25, e26, e27, e28, d29, d30, nm, seval] <;> rfl) | rfl⟩
    simp only [d30, hs, reduceCtorEq] at h
    cases o32 : (g_ref02_Melts e5 x0_b.At x1_p x2_power) with
    | none =>
     simp only [o32, hs, reduceCtorEq] at h
     exact absurd h kN5
    | some r31 =>
     simp only [o32, hs, reduceCtorEq] at h
     simp only [vz, tyf, g6, n13, H7, H8, d15, (ix40 o17), w16, e24, e25, e26, e27, e28, d29, d30, nm, seval]
     refine dktree (args0 := [.agg (cGSightLetter e5), .lit (.int .i64 x0_b.At), .agg (cGSightPlace x1_p), .lit (.int .i64 x2_power)]) (by first | (simp only [nrm, tynrm] <;> rfl) | rfl) (by simp only [tre, tytre, Bool.and_self]) (g_ref02_Melts_ok _ _ _ _ _ o32) ?_
     refine fin_cut (fun tm => tm 2 = .lit (.int .i64 x2_power) ∧ tm 3 = .ptr 0 0 ∧ tm 4 = .ptr 1 0 ∧ tm 7 = .lit (.int .i64 c5_7) ∧ tm 26 = .lit (.bool false) ∧ tm 33 = .lit (.bool true) ∧ tm 43 = .lit (.bool r31) ∧ True) (by refine ⟨e24, e25, e26, e27, ?_, ?_, ?_, trivial⟩ <;> first | (simp only [ua, n13, H7, H8, d15, w16, e24, e25, e26, e27, e28, d29, d30, nm, seval] <;> rfl) | rfl) ?_
     rintro tm ⟨e33, e34, e35, e36, e37, e38, e39, _⟩
     cases d40 : (r31)
     ·simp only [d40, hs, reduceCtorEq] at h
      simp only [vz, tyf, g6, n13, H7, H8, d15, (ix40 o17), w16, d29, d30, e33, e34, e35, e36, e37, e38, e39, d40, nm, seval]
      exact ⟨List.length p5, Nat.lt_succ_self _, by rw [hI5]; refine ⟨p5, c5_7 + 1, rfl, Int.le_trans hi5 (Int.le_add_one (Int.le_refl _)), drop_next hi5 hp5, rfl, (show 4 ≤ nx5 + 39 by omega), ?_, ?_, e33, e34, e35, ?_, h⟩ <;> first | (simp only [ua, n13, H7, H8, d15, w16, d29, d30, e33, e34, e35, e36, e37, e38, e39, d40, nm, seval] <;> rfl) | rfl⟩
     simp only [d40, hs, reduceCtorEq] at h
     try simp only [vz, tyf, g6, n13, H7, H8, d15, (ix40 o17), w16, d29, d30, e33, e34, e35, e36, e37, e38, e39, d40, nm, seval]
     replace h := kR5 _ h
     try dsimp only at h
     obtain rfl := kF _ h
     exact opd_bool Tryz.results103 (by first | rfl | (simp only [upd_apply, seval] <;> rfl))
   simp only [d29, hs, reduceCtorEq] at h
   try simp only [vz, tyf, g6, n13, H7, H8, d15, (ix40 o17), w16, e24, e25, e26, e27, e28, d29, nm, seval]
   replace h := kR5 _ h
   try dsimp only at h
   obtain rfl := kF _ h
   exact opd_bool Tryz.results103 (by first | rfl | (simp only [upd_apply, seval] <;> rfl))
end Go.V
end
section
namespace Go.V
open Go Go.Proofs
def g_ref02_Hidden_l0 (x1_b : GSightBoard) (x2_p : GSightPlace) : List GSightBlock → Int → (List Int) → Option (LOut (List Int) ((List Int)))
 | [], c0_8, c0_7 => some (.go c0_7)
 | e0 :: p0, c0_8, c0_7 => Option.bind (g_ref02_Blocks e0 x1_b.At x2_p) (fun r1 => cond (r1) (cond (roomOk 8 (List.length (c0_7 ++ [c0_8]))) (g_ref02_Hidden_l0 x1_b x2_p p0 (c0_8 + 1) (c0_7 ++ [c0_8])) none) (g_ref02_Hidden_l0 x1_b x2_p p0 (c0_8 + 1) c0_7))
def g_ref02_Hidden (x0_s : GSightStreet) (x1_b : GSightBoard) (x2_p : GSightPlace) : Option (List Int) := cond (lenOk x0_s.Blocks) (lbind (g_ref02_Hidden_l0 x1_b x2_p x0_s.Blocks 0 ([] : List Int)) (fun r3 => some r3) (fun c2 => some c2) (fun _ _ => none)) none
theorem g_ref02_Hidden_ok (x0_s : GSightStreet) (x1_b : GSightBoard) (x2_p : GSightPlace) (R : List Int) (h : g_ref02_Hidden x0_s x1_b x2_p = some R) : VPure Tryz.prog G0 35 [.agg (cGSightStreet x0_s), .agg (cGSightBoard x1_b), .agg (cGSightPlace x2_p)] (.tree (.sl (cellsL eI R) (List.length R) false)) := by
 refine VPure.runR mixed Tryz.call35 Tryz.func35 rfl (by simp [Tryz.ntmps35]; kernel_rfl) ?_
 obtain ⟨KF, h, kF, kN⟩ := fun_intro h
 simp only [g_ref02_Hidden] at h
 cases g5 : (lenOk x0_s.Blocks)
 ·simp only [g5, hs, reduceCtorEq] at h
  exact absurd h kN
 simp only [g5, hs, reduceCtorEq] at h
 simp only [vz, tyf, g5, nm, seval]
 obtain ⟨K4, h, kR4, kG4, kB4, kN4⟩ := lbind_intro h kN
 obtain ⟨f4, hf4, h⟩ := call3 h
 obtain ⟨I4, hI4⟩ : ∃ I : Nat → St → Prop, I = (fun m st => ∃ (p4 : List GSightBlock) (c4_8 : Int) (c4_7 : List Int) (y4_0 : VV), m = List.length p4 ∧ 0 ≤ c4_8 ∧ List.drop (Int.toNat c4_8) x0_s.Blocks = p4 ∧ st.df = [] ∧ 6 ≤ st.nx ∧ st.H 0 = some (.cells (some 27) (cGSightStreet x0_s)) ∧ st.H 1 = some (.cells (some 42) (cGSightBoard x1_b)) ∧ st.H 2 = some (.cells (some 29) (cGSightPlace x2_p)) ∧ st.tm 3 = .ptr 0 0 ∧ st.tm 4 = .ptr 1 0 ∧ st.tm 5 = .ptr 2 0 ∧ st.tm 7 = y4_0 ∧ st.tm 8 = .lit (.int .i64 c4_8) ∧ ((∃ (β : Nat) (el : Option TypeId), y4_0 = .ref β 0 (List.length c4_7) 1 (List.length c4_7) ∧ β < st.nx ∧ β ≠ 0 ∧ β ≠ 1 ∧ β ≠ 2 ∧ st.H β = some (.cells el (cellsL eI c4_7))) ∨ (y4_0 = .lit (.slice none 0 0) ∧ c4_7 = [])) ∧ K4 (f4 p4 c4_8 c4_7)) := ⟨_, rfl⟩
 refine loopK mixed (by kernel_rfl) I4 (List.length x0_s.Blocks) (by rw [hI4]; refine ⟨x0_s.Blocks, 0, ([] : List Int), .lit (.slice none 0 0), rfl, Int.le_refl _, rfl, rfl, (show 6 ≤ 6 by omega), ?_, ?_, ?_, ?_, ?_, ?_, ?_, ?_, Or.inr ⟨rfl, rfl⟩, h⟩ <;> first | (simp only [ua, nm, seval] <;> rfl) | rfl) ?_
 rintro m ⟨tm, H, nx4, df⟩ hinv
 rw [hI4] at hinv
 obtain ⟨p4, c4_8, c4_7, y4_0, rfl, hi4, hp4, hdf, hn4, H6, H7, H8, e9, e10, e11, e12, e13, ow4_0, h⟩ := hinv
 simp only at hdf hn4 H6 H7 H8 e9 e10 e11 e12 e13 ow4_0
 have n14 := base_ne0 (m := 6) (b := nx4) (by omega)
 subst hdf hf4
 rcases ow4_0 with ⟨b4_0, el4_0, rfl, lq16, lq17, lq18, lq19, H15⟩ | ⟨rfl, rfl⟩
 ·have q16 := own_lt lq16
  have q17 := ne_f lq17
  have q18 := ne_f lq18
  have q19 := ne_f lq19
  cases p4 with
  | nil =>
   have d20 : (decide (c4_8 < (List.length x0_s.Blocks : Int))) = false := not_lt_of_drop hi4 hp4
   simp only [g_ref02_Hidden_l0, hs, reduceCtorEq] at h
   replace h := kG4 _ h
   try dsimp only at h
   try simp only [hs] at h
   try simp only [vz, tyf, g5, n14, e9, e10, e11, e12, e13, H6, H7, H8, q16, H15, q17, q18, q19, d20, nm, seval]
   refine opd_ret (x := (.ref b4_0 0 (List.length c4_7) 1 (List.length c4_7))) (by first | (simp only [Tryz.results35, resV, resL, resV1, tgt_ptr, tgt_tp, uw, cr, tyf, g5, n14, H6, H7, H8, q16, H15, q17, q18, q19, d20, nm, seval] <;> rfl) | rfl) ?_
   obtain rfl := kF _ h
   refine rr_tree ?_ ?_
   ·simp only [tre, tytre, Bool.and_self]
   ·first | (simp only [outV, uw, showV_ref, cr, tyf, nrm, tynrm, g5, n14, e9, e10, e11, e12, e13, H6, H7, H8, q16, H15, q17, q18, q19, d20, nm, seval] <;> rfl) | rfl
  | cons e4 p4 =>
   have d21 : (decide (c4_8 < (List.length x0_s.Blocks : Int))) = true := lt_of_drop hi4 hp4
   have o23 := getI_of_drop hi4 hp4
   have w22 := wrap_next hi4 hp4 g5
   simp only [g_ref02_Hidden_l0, hs, reduceCtorEq] at h
   simp only [vz, tyf, g5, n14, e9, e10, e11, e12, e13, H6, H7, H8, q16, H15, q17, q18, q19, d21, (ix25 o23), w22, nm, seval]
   refine cwp_drwQF (fun tm => tm 3 = .ptr 0 0 ∧ tm 4 = .ptr 1 0 ∧ tm 5 = .ptr 2 0 ∧ tm 7 = .ref b4_0 0 (List.length c4_7) 1 (List.length c4_7) ∧ tm 8 = .lit (.int .i64 c4_8) ∧ True) (by refine ⟨e9, e10, e11, e12, e13, trivial⟩ <;> first | (simp only [ua, n14, e9, e10, e11, e12, e13, H6, H7, H8, q16, H15, q17, q18, q19, d21, w22, nm, seval] <;> rfl) | rfl) ?_
   rintro tm ⟨e24, e25, e26, e27, e28, _⟩
   cases o30 : (g_ref02_Blocks e4 x1_b.At x2_p) with
   | none =>
    simp only [o30, hs, reduceCtorEq] at h
    exact absurd h kN4
   | some r29 =>
    simp only [o30, hs, reduceCtorEq] at h
    simp only [vz, tyf, g5, n14, H6, H7, H8, q16, H15, q17, q18, q19, d21, (ix25 o23), w22, e24, e25, e26, e27, e28, nm, seval]
    refine dktree (args0 := [.agg (cGSightBlock e4), .lit (.int .i64 x1_b.At), .agg (cGSightPlace x2_p)]) (by first | (simp only [nrm, tynrm] <;> rfl) | rfl) (by simp only [tre, tytre, Bool.and_self]) (g_ref02_Blocks_ok _ _ _ _ o30) ?_
    refine fin_cut (fun tm => tm 3 = .ptr 0 0 ∧ tm 4 = .ptr 1 0 ∧ tm 5 = .ptr 2 0 ∧ tm 7 = .ref b4_0 0 (List.length c4_7) 1 (List.length c4_7) ∧ tm 8 = .lit (.int .i64 c4_8) ∧ tm 24 = .lit (.bool r29) ∧ True) (by refine ⟨e24, e25, e26, e27, e28, ?_, trivial⟩ <;> first | (simp only [ua, n14, H6, H7, H8, q16, H15, q17, q18, q19, d21, w22, e24, e25, e26, e27, e28, nm, seval] <;> rfl) | rfl) ?_
    rintro tm ⟨e31, e32, e33, e34, e35, e36, _⟩
    cases d37 : (r29)
    ·simp only [d37, hs, reduceCtorEq] at h
     simp only [vz, tyf, g5, n14, H6, H7, H8, q16, H15, q17, q18, q19, d21, (ix25 o23), w22, e31, e32, e33, e34, e35, e36, d37, nm, seval]
     exact ⟨List.length p4, Nat.lt_succ_self _, by rw [hI4]; refine ⟨p4, c4_8 + 1, c4_7, .ref b4_0 0 (List.length c4_7) 1 (List.length c4_7), rfl, Int.le_trans hi4 (Int.le_add_one (Int.le_refl _)), drop_next hi4 hp4, rfl, (show 6 ≤ nx4 + 17 by omega), ?_, ?_, ?_, e31, e32, e33, ?_, ?_, Or.inl ⟨b4_0, el4_0, rfl, (by first | omega | (simp only [nm, seval]; omega)), (by first | omega | (intro hh; simp only [n14, q16, q17, q18, q19, reduceCtorEq] at hh)), (by first | omega | (intro hh; simp only [n14, q16, q17, q18, q19, reduceCtorEq] at hh)), (by first | omega | (intro hh; simp only [n14, q16, q17, q18, q19, reduceCtorEq] at hh)), ?_⟩, h⟩ <;> first | (simp only [ua, n14, H6, H7, H8, q16, H15, q17, q18, q19, d21, w22, e31, e32, e33, e34, e35, e36, d37, nm, seval] <;> rfl) | rfl⟩
    simp only [d37, hs, reduceCtorEq] at h
    cases g38 : (roomOk 8 (List.length (c4_7 ++ [c4_8])))
    ·simp only [g38, hs, reduceCtorEq] at h
     exact absurd h kN4
    simp only [g38, hs, reduceCtorEq] at h
    simp only [vz, tyf, g5, n14, H6, H7, H8, q16, H15, q17, q18, q19, d21, (ix25 o23), w22, e31, e32, e33, e34, e35, e36, d37, g38, nm, seval]
    refine k_app (w := 1) (enc := eI) (xs := c4_7) (ys := ([c4_8])) (el := el4_0) (el2 := (some 3)) (fun _ => rfl) lf57 ao57 Tryz.underlying57 (by first | rfl | assumption | (simp only [updH_apply, without_apply, et57, n14, H6, H7, H8, q16, H15, q17, q18, q19, nm, seval] <;> rfl) | (simp only [updH_apply, without_apply, cellsL_cons, cellsL_nil, mV_app, mV_app0, tyf, g5, n14, H6, H7, H8, q16, H15, q17, q18, q19, d21, (ix25 o23), w22, e31, e32, e33, e34, e35, e36, d37, g38, nm, seval]; done)) (by first | rfl | assumption | (simp only [updH_apply, without_apply, et57, n14, H6, H7, H8, q16, H15, q17, q18, q19, nm, seval] <;> rfl) | (simp only [updH_apply, without_apply, cellsL_cons, cellsL_nil, mV_app, mV_app0, tyf, g5, n14, H6, H7, H8, q16, H15, q17, q18, q19, d21, (ix25 o23), w22, e31, e32, e33, e34, e35, e36, d37, g38, nm, seval]; done)) (Nat.zero_lt_succ _) g38 ?_
    simp only [vz, tyf, g5, n14, H6, H7, H8, q16, H15, q17, q18, q19, d21, (ix25 o23), w22, e31, e32, e33, e34, e35, e36, d37, g38, nm, seval]
    exact ⟨List.length p4, Nat.lt_succ_self _, by rw [hI4]; refine ⟨p4, c4_8 + 1, (c4_7 ++ [c4_8]), .ref (nx4 + 17) 0 (List.length (c4_7 ++ [c4_8])) 1 (List.length (c4_7 ++ [c4_8])), rfl, Int.le_trans hi4 (Int.le_add_one (Int.le_refl _)), drop_next hi4 hp4, rfl, (show 6 ≤ nx4 + 22 by omega), ?_, ?_, ?_, e31, e32, e33, ?_, ?_, Or.inl ⟨nx4 + 17, (sameEl el4_0 3), rfl, (by first | omega | (simp only [nm, seval]; omega)), (by first | omega | (intro hh; simp only [n14, q16, q17, q18, q19, reduceCtorEq] at hh)), (by first | omega | (intro hh; simp only [n14, q16, q17, q18, q19, reduceCtorEq] at hh)), (by first | omega | (intro hh; simp only [n14, q16, q17, q18, q19, reduceCtorEq] at hh)), ?_⟩, h⟩ <;> first | (simp only [ua, n14, H6, H7, H8, q16, H15, q17, q18, q19, d21, w22, e31, e32, e33, e34, e35, e36, d37, nm, seval] <;> rfl) | rfl⟩
 ·cases p4 with
  | nil =>
   have d39 : (decide (c4_8 < (List.length x0_s.Blocks : Int))) = false := not_lt_of_drop hi4 hp4
   simp only [g_ref02_Hidden_l0, hs, reduceCtorEq] at h
   replace h := kG4 _ h
   try dsimp only at h
   try simp only [hs] at h
   try simp only [vz, tyf, g5, n14, e9, e10, e11, e12, e13, H6, H7, H8, d39, nm, seval]
   refine opd_ret (x := (.lit (.slice none 0 0))) (by first | (simp only [Tryz.results35, resV, resL, resV1, tgt_ptr, tgt_tp, uw, cr, tyf, g5, n14, H6, H7, H8, d39, nm, seval] <;> rfl) | rfl) ?_
   obtain rfl := kF _ h
   refine rr_tree ?_ ?_
   ·simp only [tre, tytre, Bool.and_self]
   ·first | (simp only [outV, uw, showV_ref, cr, tyf, nrm, tynrm, g5, n14, e9, e10, e11, e12, e13, H6, H7, H8, d39, nm, seval] <;> rfl) | rfl
  | cons e4 p4 =>
   have d40 : (decide (c4_8 < (List.length x0_s.Blocks : Int))) = true := lt_of_drop hi4 hp4
   have o42 := getI_of_drop hi4 hp4
   have w41 := wrap_next hi4 hp4 g5
   simp only [g_ref02_Hidden_l0, hs, reduceCtorEq] at h
   simp only [vz, tyf, g5, n14, e9, e10, e11, e12, e13, H6, H7, H8, d40, (ix25 o42), w41, nm, seval]
   refine cwp_drwQF (fun tm => tm 3 = .ptr 0 0 ∧ tm 4 = .ptr 1 0 ∧ tm 5 = .ptr 2 0 ∧ tm 7 = .lit (.slice none 0 0) ∧ tm 8 = .lit (.int .i64 c4_8) ∧ True) (by refine ⟨e9, e10, e11, e12, e13, trivial⟩ <;> first | (simp only [ua, n14, e9, e10, e11, e12, e13, H6, H7, H8, d40, w41, nm, seval] <;> rfl) | rfl) ?_
   rintro tm ⟨e43, e44, e45, e46, e47, _⟩
   cases o49 : (g_ref02_Blocks e4 x1_b.At x2_p) with
   | none =>
    simp only [o49, hs, reduceCtorEq] at h
    exact absurd h kN4
   | some r48 =>
    simp only [o49, hs, reduceCtorEq] at h
    simp only [vz, tyf, g5, n14, H6, H7, H8, d40, (ix25 o42), w41, e43, e44, e45, e46, e47, nm, seval]
    refine dktree (args0 := [.agg (cGSightBlock e4), .lit (.int .i64 x1_b.At), .agg (cGSightPlace x2_p)]) (by first | (simp only [nrm, tynrm] <;> rfl) | rfl) (by simp only [tre, tytre, Bool.and_self]) (g_ref02_Blocks_ok _ _ _ _ o49) ?_
    refine fin_cut (fun tm => tm 3 = .ptr 0 0 ∧ tm 4 = .ptr 1 0 ∧ tm 5 = .ptr 2 0 ∧ tm 7 = .lit (.slice none 0 0) ∧ tm 8 = .lit (.int .i64 c4_8) ∧ tm 24 = .lit (.bool r48) ∧ True) (by refine ⟨e43, e44, e45, e46, e47, ?_, trivial⟩ <;> first | (simp only [ua, n14, H6, H7, H8, d40, w41, e43, e44, e45, e46, e47, nm, seval] <;> rfl) | rfl) ?_
    rintro tm ⟨e50, e51, e52, e53, e54, e55, _⟩
    cases d56 : (r48)
    ·simp only [d56, hs, reduceCtorEq] at h
     simp only [vz, tyf, g5, n14, H6, H7, H8, d40, (ix25 o42), w41, e50, e51, e52, e53, e54, e55, d56, nm, seval]
     exact ⟨List.length p4, Nat.lt_succ_self _, by rw [hI4]; refine ⟨p4, c4_8 + 1, ([] : List Int), .lit (.slice none 0 0), rfl, Int.le_trans hi4 (Int.le_add_one (Int.le_refl _)), drop_next hi4 hp4, rfl, (show 6 ≤ nx4 + 17 by omega), ?_, ?_, ?_, e50, e51, e52, ?_, ?_, Or.inr ⟨rfl, rfl⟩, h⟩ <;> first | (simp only [ua, n14, H6, H7, H8, d40, w41, e50, e51, e52, e53, e54, e55, d56, nm, seval] <;> rfl) | rfl⟩
    simp only [d56, hs, reduceCtorEq] at h
    cases g57 : (roomOk 8 (List.length (([] : List Int) ++ [c4_8])))
    ·simp only [g57, hs, reduceCtorEq] at h
     exact absurd h kN4
    simp only [g57, hs, reduceCtorEq] at h
    simp only [vz, tyf, g5, n14, H6, H7, H8, d40, (ix25 o42), w41, e50, e51, e52, e53, e54, e55, d56, g57, nm, seval]
    refine k_appN (w := 1) (enc := eI) (ys := ([c4_8])) (el2 := (some 3)) (fun _ => rfl) lf57 ao57 Tryz.underlying57 (by first | rfl | assumption | (simp only [updH_apply, without_apply, et57, n14, H6, H7, H8, nm, seval] <;> rfl) | (simp only [updH_apply, without_apply, cellsL_cons, cellsL_nil, mV_app, mV_app0, tyf, g5, n14, H6, H7, H8, d40, (ix25 o42), w41, e50, e51, e52, e53, e54, e55, d56, g57, nm, seval]; done)) (Nat.zero_lt_succ _) g57 ?_
    simp only [vz, tyf, g5, n14, H6, H7, H8, d40, (ix25 o42), w41, e50, e51, e52, e53, e54, e55, d56, g57, nm, seval]
    exact ⟨List.length p4, Nat.lt_succ_self _, by rw [hI4]; refine ⟨p4, c4_8 + 1, (([] : List Int) ++ [c4_8]), .ref (nx4 + 17) 0 (List.length (([] : List Int) ++ [c4_8])) 1 (List.length (([] : List Int) ++ [c4_8])), rfl, Int.le_trans hi4 (Int.le_add_one (Int.le_refl _)), drop_next hi4 hp4, rfl, (show 6 ≤ nx4 + 22 by omega), ?_, ?_, ?_, e50, e51, e52, ?_, ?_, Or.inl ⟨nx4 + 17, (some 3), rfl, (by first | omega | (simp only [nm, seval]; omega)), (by first | omega | (intro hh; simp only [n14, reduceCtorEq] at hh)), (by first | omega | (intro hh; simp only [n14, reduceCtorEq] at hh)), (by first | omega | (intro hh; simp only [n14, reduceCtorEq] at hh)), ?_⟩, h⟩ <;> first | (simp only [ua, n14, H6, H7, H8, d40, w41, e50, e51, e52, e53, e54, e55, d56, nm, seval] <;> rfl) | rfl⟩
end Go.V
end
section
namespace Go.V
open Go Go.Proofs
def g_ref02_Surely (x0_s : GSightStreet) (x1_b : GSightBoard) (x2_p : GSightPlace) : Option (Bool) := Option.bind (g_ref02_Clear x1_b x2_p (IntKind.i64.wrap (x0_s.Eye.Low * x0_s.Light.Low))) (fun r1 => cond (r1) (Option.bind (g_ref02_Hidden x0_s x1_b x2_p) (fun r2 => some ((List.length r2 : Int) == 0))) (some false))
theorem g_ref02_Surely_ok (x0_s : GSightStreet) (x1_b : GSightBoard) (x2_p : GSightPlace) (R : Bool) (h : g_ref02_Surely x0_s x1_b x2_p = some R) : VPure Tryz.prog G0 62 [.agg (cGSightStreet x0_s), .agg (cGSightBoard x1_b), .agg (cGSightPlace x2_p)] (.tree (.lit (.bool R))) := by
 refine VPure.runR mixed Tryz.call62 Tryz.func62 rfl (by simp [Tryz.ntmps62]; kernel_rfl) ?_
 obtain ⟨KF, h, kF, kN⟩ := fun_intro h
 simp only [g_ref02_Surely] at h
 cases o4 : (g_ref02_Clear x1_b x2_p (IntKind.i64.wrap (x0_s.Eye.Low * x0_s.Light.Low))) with
 | none =>
  simp only [o4, hs, reduceCtorEq] at h
  exact absurd h kN
 | some r3 =>
  simp only [o4, hs, reduceCtorEq] at h
  simp only [vz, tyf, nm, seval]
  refine ktree (args0 := [.agg (cGSightBoard x1_b), .agg (cGSightPlace x2_p), .lit (.int .i64 (IntKind.i64.wrap (x0_s.Eye.Low * x0_s.Light.Low)))]) (by first | (simp only [nrm, tynrm] <;> rfl) | rfl) (by simp only [tre, tytre, Bool.and_self]) (g_ref02_Clear_ok _ _ _ _ o4) ?_
  refine fin_cut (fun tm => tm 3 = .ptr 0 0 ∧ tm 4 = .ptr 1 0 ∧ tm 5 = .ptr 2 0 ∧ tm 16 = .lit (.bool r3) ∧ True) (by refine ⟨?_, ?_, ?_, ?_, trivial⟩ <;> first | (simp only [ua, nm, seval] <;> rfl) | rfl) ?_
  rintro tm ⟨e5, e6, e7, e8, _⟩
  cases d9 : (r3)
  ·simp only [d9, hs, reduceCtorEq] at h
   try simp only [vz, tyf, e5, e6, e7, e8, d9, nm, seval]
   obtain rfl := kF _ h
   exact opd_bool Tryz.results62 (by first | rfl | (simp only [upd_apply, seval] <;> rfl))
  simp only [d9, hs, reduceCtorEq] at h
  cases o11 : (g_ref02_Hidden x0_s x1_b x2_p) with
  | none =>
   simp only [o11, hs, reduceCtorEq] at h
   exact absurd h kN
  | some r10 =>
   simp only [o11, hs, reduceCtorEq] at h
   simp only [vz, tyf, e5, e6, e7, e8, d9, nm, seval]
   refine ktree (args0 := [.agg (cGSightStreet x0_s), .agg (cGSightBoard x1_b), .agg (cGSightPlace x2_p)]) (by first | (simp only [nrm, tynrm] <;> rfl) | rfl) (by simp only [tre, tytre, Bool.and_self]) (g_ref02_Hidden_ok _ _ _ _ o11) ?_
   refine fin_cut (fun tm => tm 17 = .lit (.bool true) ∧ tm 21 = .sl (cellsL eI r10) (List.length r10) false ∧ True) (by refine ⟨?_, ?_, trivial⟩ <;> first | (simp only [ua, e5, e6, e7, e8, d9, nm, seval] <;> rfl) | rfl) ?_
   rintro tm ⟨e12, e13, _⟩
   try simp only [vz, tyf, d9, e12, e13, nm, seval]
   obtain rfl := kF _ h
   exact opd_bool Tryz.results62 (by first | rfl | (simp only [upd_apply, seval] <;> rfl))
end Go.V
end
section
namespace Go.V
open Go Go.Proofs
def g_ref02_May_l0 (x0_s : GSightStreet) : List Int → Int → Option (LOut (Bool) (Unit))
 | [], c0_8 => some (.go ())
 | e0 :: p0, c0_8 => Option.bind (getI x0_s.Blocks e0) (fun x2 => cond (x2.Sure) (some (.ret false)) (g_ref02_May_l0 x0_s p0 (c0_8 + 1)))
def g_ref02_May (x0_s : GSightStreet) (x1_b : GSightBoard) (x2_p : GSightPlace) : Option (Bool) := Option.bind (g_ref02_Hidden x0_s x1_b x2_p) (fun r1 => cond (lenOk r1) (lbind (g_ref02_May_l0 x0_s r1 0) (fun r5 => some r5) (fun c3 => Option.bind (g_ref02_Clear x1_b x2_p (IntKind.i64.wrap (x0_s.Eye.High * x0_s.Light.High))) (fun r4 => some r4)) (fun _ _ => none)) none)
theorem g_ref02_May_ok (x0_s : GSightStreet) (x1_b : GSightBoard) (x2_p : GSightPlace) (R : Bool) (h : g_ref02_May x0_s x1_b x2_p = some R) : VPure Tryz.prog G0 63 [.agg (cGSightStreet x0_s), .agg (cGSightBoard x1_b), .agg (cGSightPlace x2_p)] (.tree (.lit (.bool R))) := by
 refine VPure.runR mixed Tryz.call63 Tryz.func63 rfl (by simp [Tryz.ntmps63]; kernel_rfl) ?_
 obtain ⟨KF, h, kF, kN⟩ := fun_intro h
 simp only [g_ref02_May] at h
 cases o7 : (g_ref02_Hidden x0_s x1_b x2_p) with
 | none =>
  simp only [o7, hs, reduceCtorEq] at h
  exact absurd h kN
 | some r6 =>
  simp only [o7, hs, reduceCtorEq] at h
  simp only [vz, tyf, nm, seval]
  refine ktree (args0 := [.agg (cGSightStreet x0_s), .agg (cGSightBoard x1_b), .agg (cGSightPlace x2_p)]) (by first | (simp only [nrm, tynrm] <;> rfl) | rfl) (by simp only [tre, tytre, Bool.and_self]) (g_ref02_Hidden_ok _ _ _ _ o7) ?_
  refine fin_cut (fun tm => tm 3 = .ptr 0 0 ∧ tm 4 = .ptr 1 0 ∧ tm 5 = .ptr 2 0 ∧ tm 12 = .sl (cellsL eI r6) (List.length r6) false ∧ True) (by refine ⟨?_, ?_, ?_, ?_, trivial⟩ <;> first | (simp only [ua, nm, seval] <;> rfl) | rfl) ?_
  rintro tm ⟨e8, e9, e10, e11, _⟩
  cases g13 : (lenOk r6)
  ·simp only [g13, hs, reduceCtorEq] at h
   exact absurd h kN
  simp only [g13, hs, reduceCtorEq] at h
  simp only [vz, tyf, e8, e9, e10, e11, g13, nm, seval]
  obtain ⟨K12, h, kR12, kG12, kB12, kN12⟩ := lbind_intro h kN
  obtain ⟨f12, hf12, h⟩ := call2 h
  obtain ⟨I12, hI12⟩ : ∃ I : Nat → St → Prop, I = (fun m st => ∃ (p12 : List Int) (c12_8 : Int), m = List.length p12 ∧ 0 ≤ c12_8 ∧ List.drop (Int.toNat c12_8) r6 = p12 ∧ st.df = [] ∧ 10 ≤ st.nx ∧ st.H 0 = some (.cells (some 27) (cGSightStreet x0_s)) ∧ st.H 1 = some (.cells (some 42) (cGSightBoard x1_b)) ∧ st.H 2 = some (.cells (some 29) (cGSightPlace x2_p)) ∧ st.tm 3 = .ptr 0 0 ∧ st.tm 4 = .ptr 1 0 ∧ st.tm 5 = .ptr 2 0 ∧ st.tm 7 = .sl (cellsL eI r6) (List.length r6) false ∧ st.tm 8 = .lit (.int .i64 c12_8) ∧ K12 (f12 p12 c12_8)) := ⟨_, rfl⟩
  refine loopK mixed (by kernel_rfl) I12 (List.length r6) (by rw [hI12]; refine ⟨r6, 0, rfl, Int.le_refl _, rfl, rfl, (show 10 ≤ 10 by omega), ?_, ?_, ?_, e8, e9, e10, ?_, ?_, h⟩ <;> first | (simp only [ua, e8, e9, e10, e11, nm, seval] <;> rfl) | rfl) ?_
  rintro m ⟨tm, H, nx12, df⟩ hinv
  rw [hI12] at hinv
  obtain ⟨p12, c12_8, rfl, hi12, hp12, hdf, hn12, H14, H15, H16, e17, e18, e19, e20, e21, h⟩ := hinv
  simp only at hdf hn12 H14 H15 H16 e17 e18 e19 e20 e21
  have n22 := base_ne0 (m := 10) (b := nx12) (by omega)
  subst hdf hf12
  cases p12 with
  | nil =>
   have d23 : (decide (c12_8 < (List.length r6 : Int))) = false := not_lt_of_drop hi12 hp12
   simp only [g_ref02_May_l0, hs, reduceCtorEq] at h
   replace h := kG12 _ h
   try dsimp only at h
   try simp only [hs] at h
   cases o25 : (g_ref02_Clear x1_b x2_p (IntKind.i64.wrap (x0_s.Eye.High * x0_s.Light.High))) with
   | none =>
    simp only [o25, hs, reduceCtorEq] at h
    exact absurd h kN
   | some r24 =>
    simp only [o25, hs, reduceCtorEq] at h
    simp only [vz, tyf, g13, n22, e17, e18, e19, e20, e21, H14, H15, H16, d23, nm, seval]
    refine ktree (args0 := [.agg (cGSightBoard x1_b), .agg (cGSightPlace x2_p), .lit (.int .i64 (IntKind.i64.wrap (x0_s.Eye.High * x0_s.Light.High)))]) (by first | (simp only [nrm, tynrm] <;> rfl) | rfl) (by simp only [tre, tytre, Bool.and_self]) (g_ref02_Clear_ok _ _ _ _ o25) ?_
    refine fin_cut (fun tm => tm 37 = .lit (.bool r24) ∧ True) (by refine ⟨?_, trivial⟩ <;> first | (simp only [ua, n22, e17, e18, e19, e20, e21, H14, H15, H16, d23, nm, seval] <;> rfl) | rfl) ?_
    rintro tm ⟨e26, _⟩
    try simp only [vz, tyf, g13, n22, H14, H15, H16, d23, e26, nm, seval]
    obtain rfl := kF _ h
    exact opd_bool Tryz.results63 (by first | rfl | (simp only [upd_apply, seval] <;> rfl))
  | cons e12 p12 =>
   have d27 : (decide (c12_8 < (List.length r6 : Int))) = true := lt_of_drop hi12 hp12
   have o29 := getI_of_drop hi12 hp12
   have w28 := wrap_next hi12 hp12 g13
   simp only [g_ref02_May_l0, hs, reduceCtorEq] at h
   simp only [vz, tyf, g13, n22, e17, e18, e19, e20, e21, H14, H15, H16, d27, (ix57 o29), w28, nm, seval]
   refine cwp_drwQF (fun tm => tm 3 = .ptr 0 0 ∧ tm 4 = .ptr 1 0 ∧ tm 5 = .ptr 2 0 ∧ tm 7 = .sl (cellsL eI r6) (List.length r6) false ∧ tm 8 = .lit (.int .i64 c12_8) ∧ True) (by refine ⟨e17, e18, e19, e20, e21, trivial⟩ <;> first | (simp only [ua, n22, e17, e18, e19, e20, e21, H14, H15, H16, d27, w28, nm, seval] <;> rfl) | rfl) ?_
   rintro tm ⟨e30, e31, e32, e33, e34, _⟩
   cases o36 : (getI x0_s.Blocks e12) with
   | none =>
    simp only [o36, hs, reduceCtorEq] at h
    exact absurd h kN12
   | some x35 =>
    simp only [o36, hs, reduceCtorEq] at h
    cases d37 : (x35.Sure)
    ·simp only [d37, hs, reduceCtorEq] at h
     simp only [vz, tyf, g13, n22, H14, H15, H16, d27, (ix57 o29), w28, e30, e31, e32, e33, e34, (ix25 o36), d37, nm, seval]
     exact ⟨List.length p12, Nat.lt_succ_self _, by rw [hI12]; refine ⟨p12, c12_8 + 1, rfl, Int.le_trans hi12 (Int.le_add_one (Int.le_refl _)), drop_next hi12 hp12, rfl, (show 10 ≤ nx12 + 16 by omega), ?_, ?_, ?_, e30, e31, e32, e33, ?_, h⟩ <;> first | (simp only [ua, n22, H14, H15, H16, d27, w28, e30, e31, e32, e33, e34, d37, nm, seval] <;> rfl) | rfl⟩
    simp only [d37, hs, reduceCtorEq] at h
    try simp only [vz, tyf, g13, n22, H14, H15, H16, d27, (ix57 o29), w28, e30, e31, e32, e33, e34, (ix25 o36), d37, nm, seval]
    replace h := kR12 _ h
    try dsimp only at h
    obtain rfl := kF _ h
    exact opd_bool Tryz.results63 (by first | rfl | (simp only [upd_apply, seval] <;> rfl))
end Go.V
end
section
namespace Go.V
open Go Go.Proofs
def g_ref02_word (x0_surely : Bool) (x1_may : Bool) : Option (Int) := cond (x0_surely) (some 3) (cond (x1_may) (some 2) (some 1))
theorem g_ref02_word_ok (x0_surely : Bool) (x1_may : Bool) (R : Int) (h : g_ref02_word x0_surely x1_may = some R) : VPure Tryz.prog G0 61 [.lit (.bool x0_surely), .lit (.bool x1_may)] (.tree (.lit (.int .i64 R))) := by
 refine VPure.runR mixed Tryz.call61 Tryz.func61 rfl (by simp [Tryz.ntmps61]; kernel_rfl) ?_
 obtain ⟨KF, h, kF, kN⟩ := fun_intro h
 simp only [g_ref02_word] at h
 cases d1 : (x0_surely)
 ·simp only [d1, hs, reduceCtorEq] at h
  cases d2 : (x1_may)
  ·simp only [d2, hs, reduceCtorEq] at h
   try simp only [vz, tyf, d1, d2, nm, seval]
   refine opd_ret (x := (.lit (.int .i64 1))) (by first | (simp only [Tryz.results61, resV, resL, resV1, tgt_ptr, tgt_tp, uw, cr, tyf, d1, d2, nm, seval] <;> rfl) | rfl) ?_
   obtain rfl := kF _ h
   refine rr_tree ?_ ?_
   ·simp only [tre, tytre, Bool.and_self]
   ·first | (simp only [outV, uw, showV_ref, cr, tyf, nrm, tynrm, d1, d2, nm, seval] <;> rfl) | rfl
  simp only [d2, hs, reduceCtorEq] at h
  try simp only [vz, tyf, d1, d2, nm, seval]
  refine opd_ret (x := (.lit (.int .i64 2))) (by first | (simp only [Tryz.results61, resV, resL, resV1, tgt_ptr, tgt_tp, uw, cr, tyf, d1, d2, nm, seval] <;> rfl) | rfl) ?_
  obtain rfl := kF _ h
  refine rr_tree ?_ ?_
  ·simp only [tre, tytre, Bool.and_self]
  ·first | (simp only [outV, uw, showV_ref, cr, tyf, nrm, tynrm, d1, d2, nm, seval] <;> rfl) | rfl
 simp only [d1, hs, reduceCtorEq] at h
 try simp only [vz, tyf, d1, nm, seval]
 refine opd_ret (x := (.lit (.int .i64 3))) (by first | (simp only [Tryz.results61, resV, resL, resV1, tgt_ptr, tgt_tp, uw, cr, tyf, d1, nm, seval] <;> rfl) | rfl) ?_
 obtain rfl := kF _ h
 refine rr_tree ?_ ?_
 ·simp only [tre, tytre, Bool.and_self]
 ·first | (simp only [outV, uw, showV_ref, cr, tyf, nrm, tynrm, d1, nm, seval] <;> rfl) | rfl
end Go.V
end
section
namespace Go.V
open Go Go.Proofs
def g_ref02_Seen (x0_s : GSightStreet) (x1_b : GSightBoard) (x2_p : GSightPlace) : Option (Int) := Option.bind (g_ref02_Surely x0_s x1_b x2_p) (fun r1 => Option.bind (g_ref02_May x0_s x1_b x2_p) (fun r2 => Option.bind (g_ref02_word r1 r2) (fun r3 => some r3)))
theorem g_ref02_Seen_ok (x0_s : GSightStreet) (x1_b : GSightBoard) (x2_p : GSightPlace) (R : Int) (h : g_ref02_Seen x0_s x1_b x2_p = some R) : VPure Tryz.prog G0 22 [.agg (cGSightStreet x0_s), .agg (cGSightBoard x1_b), .agg (cGSightPlace x2_p)] (.tree (.lit (.int .i64 R))) := by
 refine VPure.runR mixed Tryz.call22 Tryz.func22 rfl (by simp [Tryz.ntmps22]; kernel_rfl) ?_
 obtain ⟨KF, h, kF, kN⟩ := fun_intro h
 simp only [g_ref02_Seen] at h
 simp only [vz, tyf, nm, seval]
 refine cwp_drwQF (fun tm => tm 3 = .ptr 0 0 ∧ tm 4 = .ptr 1 0 ∧ tm 5 = .ptr 2 0 ∧ True) (by refine ⟨?_, ?_, ?_, trivial⟩ <;> first | (simp only [ua, nm, seval] <;> rfl) | rfl) ?_
 rintro tm ⟨e4, e5, e6, _⟩
 cases o8 : (g_ref02_Surely x0_s x1_b x2_p) with
 | none =>
  simp only [o8, hs, reduceCtorEq] at h
  exact absurd h kN
 | some r7 =>
  simp only [o8, hs, reduceCtorEq] at h
  simp only [vz, tyf, e4, e5, e6, nm, seval]
  refine dktree (args0 := [.agg (cGSightStreet x0_s), .agg (cGSightBoard x1_b), .agg (cGSightPlace x2_p)]) (by first | (simp only [nrm, tynrm] <;> rfl) | rfl) (by simp only [tre, tytre, Bool.and_self]) (g_ref02_Surely_ok _ _ _ _ o8) ?_
  refine fin_cut (fun tm => tm 3 = .ptr 0 0 ∧ tm 4 = .ptr 1 0 ∧ tm 5 = .ptr 2 0 ∧ tm 10 = .lit (.bool r7) ∧ True) (by refine ⟨e4, e5, e6, ?_, trivial⟩ <;> first | (simp only [ua, e4, e5, e6, nm, seval] <;> rfl) | rfl) ?_
  rintro tm ⟨e9, e10, e11, e12, _⟩
  cases o14 : (g_ref02_May x0_s x1_b x2_p) with
  | none =>
   simp only [o14, hs, reduceCtorEq] at h
   exact absurd h kN
  | some r13 =>
   simp only [o14, hs, reduceCtorEq] at h
   simp only [vz, tyf, e9, e10, e11, e12, nm, seval]
   refine dktree (args0 := [.agg (cGSightStreet x0_s), .agg (cGSightBoard x1_b), .agg (cGSightPlace x2_p)]) (by first | (simp only [nrm, tynrm] <;> rfl) | rfl) (by simp only [tre, tytre, Bool.and_self]) (g_ref02_May_ok _ _ _ _ o14) ?_
   refine fin_cut (fun tm => tm 10 = .lit (.bool r7) ∧ tm 14 = .lit (.bool r13) ∧ True) (by refine ⟨e12, ?_, trivial⟩ <;> first | (simp only [ua, e9, e10, e11, e12, nm, seval] <;> rfl) | rfl) ?_
   rintro tm ⟨e15, e16, _⟩
   cases o18 : (g_ref02_word r7 r13) with
   | none =>
    simp only [o18, hs, reduceCtorEq] at h
    exact absurd h kN
   | some r17 =>
    simp only [o18, hs, reduceCtorEq] at h
    simp only [vz, tyf, e15, e16, nm, seval]
    refine dktree (args0 := [.lit (.bool r7), .lit (.bool r13)]) (by first | (simp only [nrm, tynrm] <;> rfl) | rfl) (by simp only [tre, tytre, Bool.and_self]) (g_ref02_word_ok _ _ _ o18) ?_
    refine fin_cut (fun tm => tm 15 = .lit (.int .i64 r17) ∧ True) (by refine ⟨?_, trivial⟩ <;> first | (simp only [ua, e15, e16, nm, seval] <;> rfl) | rfl) ?_
    rintro tm ⟨e19, _⟩
    try simp only [vz, tyf, e19, nm, seval]
    refine opd_ret (x := (.lit (.int .i64 r17))) (by first | (simp only [Tryz.results22, resV, resL, resV1, tgt_ptr, tgt_tp, uw, cr, tyf, nm, seval] <;> rfl) | rfl) ?_
    obtain rfl := kF _ h
    refine rr_tree ?_ ?_
    ·simp only [tre, tytre, Bool.and_self]
    ·first | (simp only [outV, uw, showV_ref, cr, tyf, nrm, tynrm, e19, nm, seval] <;> rfl) | rfl
end Go.V
end
