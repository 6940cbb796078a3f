/- Part of a proof: a logic of values by content, lifted functions, what follows. -/
import Derived.Test.YtdhkepdioiicfaaGreatDoorBbc
import Derived.Test.YtdhkepdioiicfaaGreatDoorBbf
import Derived.Test.YtdhkepdioiicfaaGreatDoorBbi
import Derived.Test.YtdhkepdioiicfaaGreatDoorBbh
import Derived.Test.YtdhkepdioiicfaaGreatDoorBbd
set_option linter.all false
set_option maxRecDepth 4000
set_option maxHeartbeats 4000000
section
namespace Go.V
open Go Go.Proofs
def g_sight_seen (x0_s : GSightStreet) (x1_b : GSightBoard) (x2_from : GSightPlace) : Option (Int) := Option.bind (g_sight_isSurelyRead x0_s x1_b x2_from) (fun r1 => cond (r1) (some 3) (Option.bind (g_sight_atBest x0_s x1_b x2_from) (fun r2 => Option.bind (g_sight_view_isRead r2) (fun r3 => cond (r3) (some 2) (some 1)))))
theorem g_sight_seen_ok (x0_s : GSightStreet) (x1_b : GSightBoard) (x2_from : GSightPlace) (R : Int) (h : g_sight_seen x0_s x1_b x2_from = some R) : VPure Tryz.prog G0 74 [.agg (cGSightStreet x0_s), .agg (cGSightBoard x1_b), .agg (cGSightPlace x2_from)] (.tree (.lit (.int .i64 R))) := by
 refine VPure.runR mixed Tryz.call74 Tryz.func74 rfl (by simp [Tryz.ntmps74]; kernel_rfl) ?_
 obtain ⟨KF, h, kF, kN⟩ := fun_intro h
 simp only [g_sight_seen] at h
 rcases o5 : (g_sight_isSurelyRead x0_s x1_b x2_from) with _ | r4
 ·simp only [o5, hs] at h
  exact absurd h kN
 simp only [o5, hs] at h
 simp only [vz, tyf, nm, seval]
 refine ktree (args0 := [.agg (cGSightStreet x0_s), .agg (cGSightBoard x1_b), .agg (cGSightPlace x2_from)]) (by first | (simp only [nrm, tynrm] <;> rfl) | rfl) (by simp only [tre, tytre, Bool.and_self]) (g_sight_isSurelyRead_ok _ _ _ _ o5) ?_
 refine fin_cut (fun tm => tm 3 = .ptr 0 0 ∧ tm 4 = .ptr 1 0 ∧ tm 5 = .ptr 2 0 ∧ tm 10 = .lit (.bool r4) ∧ True) (by refine ⟨?_, ?_, ?_, ?_, trivial⟩ <;> first | (simp only [ua, nm, seval] <;> rfl) | rfl) ?_
 rintro tm ⟨e6, e7, e8, e9, _⟩
 cases d10 : (r4)
 ·simp only [d10, hs] at h
  rcases o12 : (g_sight_atBest x0_s x1_b x2_from) with _ | r11
  ·simp only [o12, hs] at h
   exact absurd h kN
  simp only [o12, hs] at h
  simp only [vz, tyf, e6, e7, e8, e9, d10, nm, seval]
  refine ktree (args0 := [.agg (cGSightStreet x0_s), .agg (cGSightBoard x1_b), .agg (cGSightPlace x2_from)]) (by first | (simp only [nrm, tynrm] <;> rfl) | rfl) (by simp only [tre, tytre, Bool.and_self]) (g_sight_atBest_ok _ _ _ _ o12) ?_
  refine fin_cut (fun tm => tm 14 = .agg (cGsightview r11) ∧ True) (by refine ⟨?_, trivial⟩ <;> first | (simp only [ua, e6, e7, e8, e9, d10, nm, seval] <;> rfl) | rfl) ?_
  rintro tm ⟨e13, _⟩
  rcases o15 : (g_sight_view_isRead r11) with _ | r14
  ·simp only [o15, hs] at h
   exact absurd h kN
  simp only [o15, hs] at h
  simp only [vz, tyf, d10, e13, nm, seval]
  refine ktree (args0 := [.agg (cGsightview r11)]) (by first | (simp only [nrm, tynrm] <;> rfl) | rfl) (by simp only [tre, tytre, Bool.and_self]) (g_sight_view_isRead_ok _ _ o15) ?_
  refine fin_cut (fun tm => tm 15 = .lit (.bool r14) ∧ True) (by refine ⟨?_, trivial⟩ <;> first | (simp only [ua, d10, e13, nm, seval] <;> rfl) | rfl) ?_
  rintro tm ⟨e16, _⟩
  cases d17 : (r14)
  ·simp only [d17, hs] at h
   try simp only [vz, tyf, d10, e16, d17, nm, seval]
   refine opd_ret (x := (.lit (.int .i64 1))) (by first | (simp only [Tryz.results74, resV, resL, resV1, tgt_ptr, tgt_tp, uw, cr, tyf, d10, d17, nm, seval] <;> rfl) | rfl) ?_
   obtain rfl := kF _ h
   refine rr_tree ?_ ?_
   ·simp only [tre, tytre, Bool.and_self]
   ·first | (simp only [outV, uw, showV_ref, cr, tyf, nrm, tynrm, d10, e16, d17, nm, seval] <;> rfl) | rfl
  simp only [d17, hs] at h
  try simp only [vz, tyf, d10, e16, d17, nm, seval]
  refine opd_ret (x := (.lit (.int .i64 2))) (by first | (simp only [Tryz.results74, resV, resL, resV1, tgt_ptr, tgt_tp, uw, cr, tyf, d10, d17, nm, seval] <;> rfl) | rfl) ?_
  obtain rfl := kF _ h
  refine rr_tree ?_ ?_
  ·simp only [tre, tytre, Bool.and_self]
  ·first | (simp only [outV, uw, showV_ref, cr, tyf, nrm, tynrm, d10, e16, d17, nm, seval] <;> rfl) | rfl
 simp only [d10, hs] at h
 try simp only [vz, tyf, e6, e7, e8, e9, d10, nm, seval]
 refine opd_ret (x := (.lit (.int .i64 3))) (by first | (simp only [Tryz.results74, resV, resL, resV1, tgt_ptr, tgt_tp, uw, cr, tyf, d10, nm, seval] <;> rfl) | rfl) ?_
 obtain rfl := kF _ h
 refine rr_tree ?_ ?_
 ·simp only [tre, tytre, Bool.and_self]
 ·first | (simp only [outV, uw, showV_ref, cr, tyf, nrm, tynrm, e6, e7, e8, e9, d10, nm, seval] <;> rfl) | rfl
end Go.V
end
section
namespace Go.V
open Go Go.Proofs
def g_sight_Seen (x0_s : GSightStreet) (x1_board : Int) (x2_from : GSightPlace) : Option (Int × Int) := Option.bind (g_sight_isView x0_s x1_board x2_from) (fun r1 => cond (r1) (Option.bind (getI x0_s.Boards x1_board) (fun x2 => Option.bind (g_sight_seen x0_s x2 x2_from) (fun r3 => some (r3, 0)))) (some (0, 2)))
theorem g_sight_Seen_ok (x0_s : GSightStreet) (x1_board : Int) (x2_from : GSightPlace) (R : Int × Int) (h : g_sight_Seen x0_s x1_board x2_from = some R) : VPure Tryz.prog G0 25 [.agg (cGSightStreet x0_s), .lit (.int .i64 x1_board), .agg (cGSightPlace x2_from)] (.tree (.tup [.lit (.int .i64 R.1), .lit (.int .i64 R.2)])) := by
 refine VPure.runR mixed Tryz.call25 Tryz.func25 rfl (by simp [Tryz.ntmps25]; kernel_rfl) ?_
 obtain ⟨KF, h, kF, kN⟩ := fun_intro h
 simp only [g_sight_Seen] at h
 rcases o5 : (g_sight_isView x0_s x1_board x2_from) with _ | r4
 ·simp only [o5, hs] at h
  exact absurd h kN
 simp only [o5, hs] at h
 simp only [vz, tyf, nm, seval]
 refine ktree (args0 := [.agg (cGSightStreet x0_s), .lit (.int .i64 x1_board), .agg (cGSightPlace x2_from)]) (by first | (simp only [nrm, tynrm] <;> rfl) | rfl) (by simp only [tre, tytre, Bool.and_self]) (g_sight_isView_ok _ _ _ _ o5) ?_
 refine fin_cut (fun tm => tm 1 = .lit (.int .i64 x1_board) ∧ tm 3 = .ptr 0 0 ∧ tm 5 = .ptr 1 0 ∧ tm 11 = .lit (.bool r4) ∧ True) (by refine ⟨?_, ?_, ?_, ?_, trivial⟩ <;> first | (simp only [ua, nm, seval] <;> rfl) | rfl) ?_
 rintro tm ⟨e6, e7, e8, e9, _⟩
 cases d10 : (r4)
 ·simp only [d10, hs] at h
  try simp only [vz, tyf, e6, e7, e8, e9, d10, nm, seval]
  refine opd_ret (x := (.tup [.lit (.int .i64 0), .lit (.int .i64 2)])) (by first | (simp only [Tryz.results25, resV, resL, resV1, tgt_ptr, tgt_tp, uw, cr, tyf, d10, nm, seval] <;> rfl) | rfl) ?_
  obtain rfl := kF _ h
  refine rr_tree ?_ ?_
  ·simp only [tre, tytre, Bool.and_self]
  ·first | (simp only [outV, uw, showV_ref, cr, tyf, nrm, tynrm, e6, e7, e8, e9, d10, nm, seval] <;> rfl) | rfl
 simp only [d10, hs] at h
 simp only [vz, tyf, e6, e7, e8, e9, d10, nm, seval]
 refine cwp_drwQF (fun tm => tm 1 = .lit (.int .i64 x1_board) ∧ tm 3 = .ptr 0 0 ∧ tm 5 = .ptr 1 0 ∧ True) (by refine ⟨e6, e7, e8, trivial⟩ <;> first | (simp only [ua, e6, e7, e8, e9, d10, nm, seval] <;> rfl) | rfl) ?_
 rintro tm ⟨e11, e12, e13, _⟩
 rcases o15 : (getI x0_s.Boards x1_board) with _ | x14
 ·simp only [o15, hs] at h
  exact absurd h kN
 simp only [o15, hs] at h
 rcases o17 : (g_sight_seen x0_s x14 x2_from) with _ | r16
 ·simp only [o17, hs] at h
  exact absurd h kN
 simp only [o17, hs] at h
 simp only [vz, tyf, d10, e11, e12, e13, (ix24 o15), nm, seval]
 refine dktree (args0 := [.agg (cGSightStreet x0_s), .agg (cGSightBoard x14), .agg (cGSightPlace x2_from)]) (by first | (simp only [nrm, tynrm] <;> rfl) | rfl) (by simp only [tre, tytre, Bool.and_self]) (g_sight_seen_ok _ _ _ _ o17) ?_
 refine fin_cut (fun tm => tm 20 = .lit (.int .i64 r16) ∧ True) (by refine ⟨?_, trivial⟩ <;> first | (simp only [ua, d10, e11, e12, e13, nm, seval] <;> rfl) | rfl) ?_
 rintro tm ⟨e18, _⟩
 try simp only [vz, tyf, d10, (ix24 o15), e18, nm, seval]
 refine opd_ret (x := (.tup [.lit (.int .i64 r16), .lit (.int .i64 0)])) (by first | (simp only [Tryz.results25, resV, resL, resV1, tgt_ptr, tgt_tp, uw, cr, tyf, d10, (ix24 o15), nm, seval] <;> rfl) | rfl) ?_
 obtain rfl := kF _ h
 refine rr_tree ?_ ?_
 ·simp only [tre, tytre, Bool.and_self]
 ·first | (simp only [outV, uw, showV_ref, cr, tyf, nrm, tynrm, d10, (ix24 o15), e18, nm, seval] <;> rfl) | rfl
end Go.V
end
section
namespace Go.V
open Go Go.Proofs
def g_ref02_Clear_l0 (x0_b : GSightBoard) (x1_p : GSightPlace) (x2_power : Int) : List GSightLetter → Int → Option (LOut (Bool) (Unit))
 | [], c0_7 => some (.go ())
 | e0 :: p0, c0_7 => Option.bind (g_ref02_Fault e0 x0_b.At x1_p x2_power) (fun r1 => cond (r1 != 0) (some (.ret false)) (cond (decide ((c0_7 + 1) < (List.length x0_b.Letters : Int))) (Option.bind (g_ref02_Melts e0 x0_b.At x1_p x2_power) (fun r2 => cond (r2) (some (.ret false)) (g_ref02_Clear_l0 x0_b x1_p x2_power p0 (c0_7 + 1)))) (g_ref02_Clear_l0 x0_b x1_p x2_power p0 (c0_7 + 1))))
def g_ref02_Clear (x0_b : GSightBoard) (x1_p : GSightPlace) (x2_power : Int) : Option (Bool) := cond (lenOk x0_b.Letters) (lbind (g_ref02_Clear_l0 x0_b x1_p x2_power x0_b.Letters 0) (fun r4 => some r4) (fun c3 => some true) (fun _ _ => none)) none
theorem g_ref02_Clear_ok (x0_b : GSightBoard) (x1_p : GSightPlace) (x2_power : Int) (R : Bool) (h : g_ref02_Clear x0_b x1_p x2_power = some R) : VPure Tryz.prog G0 102 [.agg (cGSightBoard x0_b), .agg (cGSightPlace x1_p), .lit (.int .i64 x2_power)] (.tree (.lit (.bool R))) := by
 refine VPure.runR mixed Tryz.call102 Tryz.func102 rfl (by simp [Tryz.ntmps102]; kernel_rfl) ?_
 obtain ⟨KF, h, kF, kN⟩ := fun_intro h
 simp only [g_ref02_Clear] at h
 cases g6 : (lenOk x0_b.Letters)
 ·simp only [g6, hs] at h
  exact absurd h kN
 simp only [g6, hs] at h
 simp only [vz, tyf, g6, nm, seval]
 obtain ⟨K5, h, kR5, kG5, kB5, kN5⟩ := lbind_intro h kN
 obtain ⟨f5, hf5, h⟩ := call2 h
 obtain ⟨I5, hI5⟩ : ∃ I : Nat → St → Prop, I = (fun m st => ∃ (p5 : List GSightLetter) (c5_7 : Int), m = List.length p5 ∧ 0 ≤ c5_7 ∧ List.drop (Int.toNat c5_7) x0_b.Letters = p5 ∧ st.df = [] ∧ 4 ≤ st.nx ∧ st.H 0 = some (.cells (some 40) (cGSightBoard x0_b)) ∧ st.H 1 = some (.cells (some 34) (cGSightPlace x1_p)) ∧ st.tm 2 = .lit (.int .i64 x2_power) ∧ st.tm 3 = .ptr 0 0 ∧ st.tm 4 = .ptr 1 0 ∧ st.tm 7 = .lit (.int .i64 c5_7) ∧ K5 (f5 p5 c5_7)) := ⟨_, rfl⟩
 refine loopK mixed (by kernel_rfl) I5 (List.length x0_b.Letters) (by rw [hI5]; refine ⟨x0_b.Letters, 0, rfl, Int.le_refl _, rfl, rfl, (show 4 ≤ 4 by omega), ?_, ?_, ?_, ?_, ?_, ?_, h⟩ <;> first | (simp only [ua, nm, seval] <;> rfl) | rfl) ?_
 rintro m ⟨tm, H, nx5, df⟩ hinv
 rw [hI5] at hinv
 obtain ⟨p5, c5_7, rfl, hi5, hp5, hdf, hn5, H7, H8, e9, e10, e11, e12, h⟩ := hinv
 simp only at hdf hn5 H7 H8 e9 e10 e11 e12
 have n13 := base_ne0 (m := 4) (b := nx5) (by omega)
 subst hdf hf5
 cases p5 with
 | nil =>
  have d14 : (decide (c5_7 < (List.length x0_b.Letters : Int))) = false := not_lt_of_drop hi5 hp5
  simp only [g_ref02_Clear_l0, hs, reduceCtorEq] at h
  replace h := kG5 _ h
  try dsimp only at h
  try simp only [hs] at h
  try simp only [vz, tyf, g6, n13, e9, e10, e11, e12, H7, H8, d14, nm, seval]
  obtain rfl := kF _ h
  exact opd_bool Tryz.results102 rfl
 | cons e5 p5 =>
  have d15 : (decide (c5_7 < (List.length x0_b.Letters : Int))) = true := lt_of_drop hi5 hp5
  have o17 := getI_of_drop hi5 hp5
  have w16 := wrap_next hi5 hp5 g6
  simp only [g_ref02_Clear_l0, hs, reduceCtorEq] at h
  simp only [vz, tyf, g6, n13, e9, e10, e11, e12, H7, H8, d15, (ix38 o17), w16, nm, seval]
  refine cwp_drwQF (fun tm => tm 2 = .lit (.int .i64 x2_power) ∧ tm 3 = .ptr 0 0 ∧ tm 4 = .ptr 1 0 ∧ tm 7 = .lit (.int .i64 c5_7) ∧ True) (by refine ⟨e9, e10, e11, e12, trivial⟩ <;> first | (simp only [ua, n13, e9, e10, e11, e12, H7, H8, d15, w16, nm, seval] <;> rfl) | rfl) ?_
  rintro tm ⟨e18, e19, e20, e21, _⟩
  rcases o23 : (g_ref02_Fault e5 x0_b.At x1_p x2_power) with _ | r22
  ·simp only [o23, hs] at h
   exact absurd h kN5
  simp only [o23, hs] at h
  simp only [vz, tyf, g6, n13, H7, H8, d15, (ix38 o17), w16, e18, e19, e20, e21, nm, seval]
  refine dktree (args0 := [.agg (cGSightLetter e5), .lit (.int .i64 x0_b.At), .agg (cGSightPlace x1_p), .lit (.int .i64 x2_power)]) (by first | (simp only [nrm, tynrm] <;> rfl) | rfl) (by simp only [tre, tytre, Bool.and_self]) (g_ref02_Fault_ok _ _ _ _ _ o23) ?_
  refine fin_cut (fun tm => tm 2 = .lit (.int .i64 x2_power) ∧ tm 3 = .ptr 0 0 ∧ tm 4 = .ptr 1 0 ∧ tm 7 = .lit (.int .i64 c5_7) ∧ tm 24 = .lit (.int .i64 r22) ∧ True) (by refine ⟨e18, e19, e20, e21, ?_, trivial⟩ <;> first | (simp only [ua, n13, H7, H8, d15, w16, e18, e19, e20, e21, nm, seval] <;> rfl) | rfl) ?_
  rintro tm ⟨e24, e25, e26, e27, e28, _⟩
  cases d29 : (r22 != 0)
  ·simp only [d29, hs] at h
   have b30 := And.intro g6 (And.intro n13 (And.intro H7 (And.intro H8 (And.intro d15 (And.intro w16 d29)))))
   cases d31 : (decide ((c5_7 + 1) < (List.length x0_b.Letters : Int)))
   ·simp only [d31, hs] at h
    simp only [vz, tyf, b30, (ix38 o17), e24, e25, e26, e27, e28, d31, nm, seval]
    exact ⟨List.length p5, Nat.lt_succ_self _, by rw [hI5]; refine ⟨p5, c5_7 + 1, rfl, Int.le_trans hi5 (Int.le_add_one (Int.le_refl _)), drop_next hi5 hp5, rfl, (show 4 ≤ nx5 + 39 by omega), ?_, ?_, e24, e25, e26, ?_, h⟩ <;> first | (simp only [ua, b30, e24, e25, e26, e27, e28, d31, nm, seval] <;> rfl) | rfl⟩
   simp only [d31, hs] at h
   rcases o33 : (g_ref02_Melts e5 x0_b.At x1_p x2_power) with _ | r32
   ·simp only [o33, hs] at h
    exact absurd h kN5
   simp only [o33, hs] at h
   simp only [vz, tyf, b30, (ix38 o17), e24, e25, e26, e27, e28, d31, nm, seval]
   refine dktree (args0 := [.agg (cGSightLetter e5), .lit (.int .i64 x0_b.At), .agg (cGSightPlace x1_p), .lit (.int .i64 x2_power)]) (by first | (simp only [nrm, tynrm] <;> rfl) | rfl) (by simp only [tre, tytre, Bool.and_self]) (g_ref02_Melts_ok _ _ _ _ _ o33) ?_
   refine fin_cut (fun tm => tm 2 = .lit (.int .i64 x2_power) ∧ tm 3 = .ptr 0 0 ∧ tm 4 = .ptr 1 0 ∧ tm 7 = .lit (.int .i64 c5_7) ∧ tm 26 = .lit (.bool false) ∧ tm 33 = .lit (.bool true) ∧ tm 43 = .lit (.bool r32) ∧ True) (by refine ⟨e24, e25, e26, e27, ?_, ?_, ?_, trivial⟩ <;> first | (simp only [ua, b30, e24, e25, e26, e27, e28, d31, nm, seval] <;> rfl) | rfl) ?_
   rintro tm ⟨e34, e35, e36, e37, e38, e39, e40, _⟩
   cases d41 : (r32)
   ·simp only [d41, hs] at h
    simp only [vz, tyf, b30, (ix38 o17), d31, e34, e35, e36, e37, e38, e39, e40, d41, nm, seval]
    exact ⟨List.length p5, Nat.lt_succ_self _, by rw [hI5]; refine ⟨p5, c5_7 + 1, rfl, Int.le_trans hi5 (Int.le_add_one (Int.le_refl _)), drop_next hi5 hp5, rfl, (show 4 ≤ nx5 + 39 by omega), ?_, ?_, e34, e35, e36, ?_, h⟩ <;> first | (simp only [ua, b30, d31, e34, e35, e36, e37, e38, e39, e40, d41, nm, seval] <;> rfl) | rfl⟩
   simp only [d41, hs] at h
   try simp only [vz, tyf, b30, (ix38 o17), d31, e34, e35, e36, e37, e38, e39, e40, d41, nm, seval]
   replace h := kR5 _ h
   try dsimp only at h
   obtain rfl := kF _ h
   exact opd_bool Tryz.results102 rfl
  simp only [d29, hs] at h
  have b42 := And.intro g6 (And.intro n13 (And.intro H7 (And.intro H8 (And.intro d15 (And.intro w16 d29)))))
  try simp only [vz, tyf, b42, (ix38 o17), e24, e25, e26, e27, e28, nm, seval]
  replace h := kR5 _ h
  try dsimp only at h
  obtain rfl := kF _ h
  exact opd_bool Tryz.results102 rfl
end Go.V
end
section
namespace Go.V
open Go Go.Proofs
def g_ref02_Hidden_l0 (x1_b : GSightBoard) (x2_p : GSightPlace) : List GSightBlock → Int → (List Int) → Option (LOut (List Int) ((List Int)))
 | [], c0_8, c0_7 => some (.go c0_7)
 | e0 :: p0, c0_8, c0_7 => Option.bind (g_ref02_Blocks e0 x1_b.At x2_p) (fun r1 => cond (r1) (cond (roomOk 8 (List.length (c0_7 ++ [c0_8]))) (g_ref02_Hidden_l0 x1_b x2_p p0 (c0_8 + 1) (c0_7 ++ [c0_8])) none) (g_ref02_Hidden_l0 x1_b x2_p p0 (c0_8 + 1) c0_7))
def g_ref02_Hidden (x0_s : GSightStreet) (x1_b : GSightBoard) (x2_p : GSightPlace) : Option (List Int) := cond (lenOk x0_s.Blocks) (lbind (g_ref02_Hidden_l0 x1_b x2_p x0_s.Blocks 0 ([] : List Int)) (fun r3 => some r3) (fun c2 => some c2) (fun _ _ => none)) none
theorem g_ref02_Hidden_ok (x0_s : GSightStreet) (x1_b : GSightBoard) (x2_p : GSightPlace) (R : List Int) (h : g_ref02_Hidden x0_s x1_b x2_p = some R) : VPure Tryz.prog G0 103 [.agg (cGSightStreet x0_s), .agg (cGSightBoard x1_b), .agg (cGSightPlace x2_p)] (.tree (.sl (cellsL eI R) (List.length R) false)) := by
 refine VPure.runR mixed Tryz.call103 Tryz.func103 rfl (by simp [Tryz.ntmps103]; kernel_rfl) ?_
 obtain ⟨KF, h, kF, kN⟩ := fun_intro h
 simp only [g_ref02_Hidden] at h
 cases g5 : (lenOk x0_s.Blocks)
 ·simp only [g5, hs] at h
  exact absurd h kN
 simp only [g5, hs] at h
 simp only [vz, tyf, g5, nm, seval]
 obtain ⟨K4, h, kR4, kG4, kB4, kN4⟩ := lbind_intro h kN
 obtain ⟨f4, hf4, h⟩ := call3 h
 obtain ⟨I4, hI4⟩ : ∃ I : Nat → St → Prop, I = (fun m st => ∃ (p4 : List GSightBlock) (c4_8 : Int) (c4_7 : List Int) (y4_0 : VV), m = List.length p4 ∧ 0 ≤ c4_8 ∧ List.drop (Int.toNat c4_8) x0_s.Blocks = p4 ∧ st.df = [] ∧ 6 ≤ st.nx ∧ st.H 0 = some (.cells (some 27) (cGSightStreet x0_s)) ∧ st.H 1 = some (.cells (some 40) (cGSightBoard x1_b)) ∧ st.H 2 = some (.cells (some 34) (cGSightPlace x2_p)) ∧ st.tm 3 = .ptr 0 0 ∧ st.tm 4 = .ptr 1 0 ∧ st.tm 5 = .ptr 2 0 ∧ st.tm 7 = y4_0 ∧ st.tm 8 = .lit (.int .i64 c4_8) ∧ ((∃ (β : Nat) (el : Option TypeId), y4_0 = .ref β 0 (List.length c4_7) 1 (List.length c4_7) ∧ β < st.nx ∧ β ≠ 0 ∧ β ≠ 1 ∧ β ≠ 2 ∧ st.H β = some (.cells el (cellsL eI c4_7))) ∨ (y4_0 = .lit (.slice none 0 0) ∧ c4_7 = [])) ∧ K4 (f4 p4 c4_8 c4_7)) := ⟨_, rfl⟩
 refine loopK mixed (by kernel_rfl) I4 (List.length x0_s.Blocks) (by rw [hI4]; refine ⟨x0_s.Blocks, 0, ([] : List Int), .lit (.slice none 0 0), rfl, Int.le_refl _, rfl, rfl, (show 6 ≤ 6 by omega), ?_, ?_, ?_, ?_, ?_, ?_, ?_, ?_, Or.inr ⟨rfl, rfl⟩, h⟩ <;> first | (simp only [ua, nm, seval] <;> rfl) | rfl) ?_
 rintro m ⟨tm, H, nx4, df⟩ hinv
 rw [hI4] at hinv
 obtain ⟨p4, c4_8, c4_7, y4_0, rfl, hi4, hp4, hdf, hn4, H6, H7, H8, e9, e10, e11, e12, e13, ow4_0, h⟩ := hinv
 simp only at hdf hn4 H6 H7 H8 e9 e10 e11 e12 e13 ow4_0
 have n14 := base_ne0 (m := 6) (b := nx4) (by omega)
 subst hdf hf4
 rcases ow4_0 with ⟨b4_0, el4_0, rfl, lq16, lq17, lq18, lq19, H15⟩ | ⟨rfl, rfl⟩
 ·have q16 := own_lt lq16
  have q17 := ne_f lq17
  have q18 := ne_f lq18
  have q19 := ne_f lq19
  cases p4 with
  | nil =>
   have d20 : (decide (c4_8 < (List.length x0_s.Blocks : Int))) = false := not_lt_of_drop hi4 hp4
   simp only [g_ref02_Hidden_l0, hs, reduceCtorEq] at h
   replace h := kG4 _ h
   try dsimp only at h
   try simp only [hs] at h
   try simp only [vz, tyf, g5, n14, e9, e10, e11, e12, e13, H6, H7, H8, q16, H15, q17, q18, q19, d20, nm, seval]
   refine opd_ret (x := (.ref b4_0 0 (List.length c4_7) 1 (List.length c4_7))) (by first | (simp only [Tryz.results103, resV, resL, resV1, tgt_ptr, tgt_tp, uw, cr, tyf, g5, n14, H6, H7, H8, q16, H15, q17, q18, q19, d20, nm, seval] <;> rfl) | rfl) ?_
   obtain rfl := kF _ h
   refine rr_tree ?_ ?_
   ·simp only [tre, tytre, Bool.and_self]
   ·first | (simp only [outV, uw, showV_ref, cr, tyf, nrm, tynrm, g5, n14, e9, e10, e11, e12, e13, H6, H7, H8, q16, H15, q17, q18, q19, d20, nm, seval] <;> rfl) | rfl
  | cons e4 p4 =>
   have d21 : (decide (c4_8 < (List.length x0_s.Blocks : Int))) = true := lt_of_drop hi4 hp4
   have o23 := getI_of_drop hi4 hp4
   have w22 := wrap_next hi4 hp4 g5
   simp only [g_ref02_Hidden_l0, hs, reduceCtorEq] at h
   simp only [vz, tyf, g5, n14, e9, e10, e11, e12, e13, H6, H7, H8, q16, H15, q17, q18, q19, d21, (ix25 o23), w22, nm, seval]
   refine cwp_drwQF (fun tm => tm 3 = .ptr 0 0 ∧ tm 4 = .ptr 1 0 ∧ tm 5 = .ptr 2 0 ∧ tm 7 = .ref b4_0 0 (List.length c4_7) 1 (List.length c4_7) ∧ tm 8 = .lit (.int .i64 c4_8) ∧ True) (by refine ⟨e9, e10, e11, e12, e13, trivial⟩ <;> first | (simp only [ua, n14, e9, e10, e11, e12, e13, H6, H7, H8, q16, H15, q17, q18, q19, d21, w22, nm, seval] <;> rfl) | rfl) ?_
   rintro tm ⟨e24, e25, e26, e27, e28, _⟩
   have b29 := And.intro g5 (And.intro n14 (And.intro H6 (And.intro H7 (And.intro H8 (And.intro q16 (And.intro H15 (And.intro q17 (And.intro q18 (And.intro q19 (And.intro d21 w22))))))))))
   rcases o31 : (g_ref02_Blocks e4 x1_b.At x2_p) with _ | r30
   ·simp only [o31, hs] at h
    exact absurd h kN4
   simp only [o31, hs] at h
   simp only [vz, tyf, b29, (ix25 o23), e24, e25, e26, e27, e28, nm, seval]
   refine dktree (args0 := [.agg (cGSightBlock e4), .lit (.int .i64 x1_b.At), .agg (cGSightPlace x2_p)]) (by first | (simp only [nrm, tynrm] <;> rfl) | rfl) (by simp only [tre, tytre, Bool.and_self]) (g_ref02_Blocks_ok _ _ _ _ o31) ?_
   refine fin_cut (fun tm => tm 3 = .ptr 0 0 ∧ tm 4 = .ptr 1 0 ∧ tm 5 = .ptr 2 0 ∧ tm 7 = .ref b4_0 0 (List.length c4_7) 1 (List.length c4_7) ∧ tm 8 = .lit (.int .i64 c4_8) ∧ tm 24 = .lit (.bool r30) ∧ True) (by refine ⟨e24, e25, e26, e27, e28, ?_, trivial⟩ <;> first | (simp only [ua, b29, e24, e25, e26, e27, e28, nm, seval] <;> rfl) | rfl) ?_
   rintro tm ⟨e32, e33, e34, e35, e36, e37, _⟩
   cases d38 : (r30)
   ·simp only [d38, hs] at h
    simp only [vz, tyf, b29, (ix25 o23), e32, e33, e34, e35, e36, e37, d38, nm, seval]
    exact ⟨List.length p4, Nat.lt_succ_self _, by rw [hI4]; refine ⟨p4, c4_8 + 1, c4_7, .ref b4_0 0 (List.length c4_7) 1 (List.length c4_7), rfl, Int.le_trans hi4 (Int.le_add_one (Int.le_refl _)), drop_next hi4 hp4, rfl, (show 6 ≤ nx4 + 17 by omega), ?_, ?_, ?_, e32, e33, e34, ?_, ?_, Or.inl ⟨b4_0, el4_0, rfl, (by first | omega | (simp only [nm, seval]; omega)), (by first | omega | (intro hh; simp only [b29, reduceCtorEq] at hh)), (by first | omega | (intro hh; simp only [b29, reduceCtorEq] at hh)), (by first | omega | (intro hh; simp only [b29, reduceCtorEq] at hh)), ?_⟩, h⟩ <;> first | (simp only [ua, b29, e32, e33, e34, e35, e36, e37, d38, nm, seval] <;> rfl) | rfl⟩
   simp only [d38, hs] at h
   cases g39 : (roomOk 8 (List.length (c4_7 ++ [c4_8])))
   ·simp only [g39, hs] at h
    exact absurd h kN4
   simp only [g39, hs] at h
   simp only [vz, tyf, b29, (ix25 o23), e32, e33, e34, e35, e36, e37, d38, g39, nm, seval]
   refine k_app (w := 1) (enc := eI) (xs := c4_7) (ys := ([c4_8])) (el := el4_0) (el2 := (some 3)) (fun _ => rfl) lf78 ao78 Tryz.underlying78 (by first | rfl | assumption | (simp only [updH_apply, without_apply, et78, b29, nm, seval] <;> rfl) | (simp only [updH_apply, without_apply, cellsL_cons, cellsL_nil, mV_app, mV_app0, tyf, b29, (ix25 o23), e32, e33, e34, e35, e36, e37, d38, g39, nm, seval]; done)) (by first | rfl | assumption | (simp only [updH_apply, without_apply, et78, b29, nm, seval] <;> rfl) | (simp only [updH_apply, without_apply, cellsL_cons, cellsL_nil, mV_app, mV_app0, tyf, b29, (ix25 o23), e32, e33, e34, e35, e36, e37, d38, g39, nm, seval]; done)) (Nat.zero_lt_succ _) g39 ?_
   simp only [vz, tyf, b29, (ix25 o23), e32, e33, e34, e35, e36, e37, d38, g39, nm, seval]
   exact ⟨List.length p4, Nat.lt_succ_self _, by rw [hI4]; refine ⟨p4, c4_8 + 1, (c4_7 ++ [c4_8]), .ref (nx4 + 17) 0 (List.length (c4_7 ++ [c4_8])) 1 (List.length (c4_7 ++ [c4_8])), rfl, Int.le_trans hi4 (Int.le_add_one (Int.le_refl _)), drop_next hi4 hp4, rfl, (show 6 ≤ nx4 + 22 by omega), ?_, ?_, ?_, e32, e33, e34, ?_, ?_, Or.inl ⟨nx4 + 17, (sameEl el4_0 3), rfl, (by first | omega | (simp only [nm, seval]; omega)), (by first | omega | (intro hh; simp only [b29, reduceCtorEq] at hh)), (by first | omega | (intro hh; simp only [b29, reduceCtorEq] at hh)), (by first | omega | (intro hh; simp only [b29, reduceCtorEq] at hh)), ?_⟩, h⟩ <;> first | (simp only [ua, b29, e32, e33, e34, e35, e36, e37, d38, nm, seval] <;> rfl) | rfl⟩
 ·cases p4 with
  | nil =>
   have d40 : (decide (c4_8 < (List.length x0_s.Blocks : Int))) = false := not_lt_of_drop hi4 hp4
   simp only [g_ref02_Hidden_l0, hs, reduceCtorEq] at h
   replace h := kG4 _ h
   try dsimp only at h
   try simp only [hs] at h
   try simp only [vz, tyf, g5, n14, e9, e10, e11, e12, e13, H6, H7, H8, d40, nm, seval]
   refine opd_ret (x := (.lit (.slice none 0 0))) (by first | (simp only [Tryz.results103, resV, resL, resV1, tgt_ptr, tgt_tp, uw, cr, tyf, g5, n14, H6, H7, H8, d40, nm, seval] <;> rfl) | rfl) ?_
   obtain rfl := kF _ h
   refine rr_tree ?_ ?_
   ·simp only [tre, tytre, Bool.and_self]
   ·first | (simp only [outV, uw, showV_ref, cr, tyf, nrm, tynrm, g5, n14, e9, e10, e11, e12, e13, H6, H7, H8, d40, nm, seval] <;> rfl) | rfl
  | cons e4 p4 =>
   have d41 : (decide (c4_8 < (List.length x0_s.Blocks : Int))) = true := lt_of_drop hi4 hp4
   have o43 := getI_of_drop hi4 hp4
   have w42 := wrap_next hi4 hp4 g5
   simp only [g_ref02_Hidden_l0, hs, reduceCtorEq] at h
   simp only [vz, tyf, g5, n14, e9, e10, e11, e12, e13, H6, H7, H8, d41, (ix25 o43), w42, nm, seval]
   refine cwp_drwQF (fun tm => tm 3 = .ptr 0 0 ∧ tm 4 = .ptr 1 0 ∧ tm 5 = .ptr 2 0 ∧ tm 7 = .lit (.slice none 0 0) ∧ tm 8 = .lit (.int .i64 c4_8) ∧ True) (by refine ⟨e9, e10, e11, e12, e13, trivial⟩ <;> first | (simp only [ua, n14, e9, e10, e11, e12, e13, H6, H7, H8, d41, w42, nm, seval] <;> rfl) | rfl) ?_
   rintro tm ⟨e44, e45, e46, e47, e48, _⟩
   have b49 := And.intro g5 (And.intro n14 (And.intro H6 (And.intro H7 (And.intro H8 (And.intro d41 w42)))))
   rcases o51 : (g_ref02_Blocks e4 x1_b.At x2_p) with _ | r50
   ·simp only [o51, hs] at h
    exact absurd h kN4
   simp only [o51, hs] at h
   simp only [vz, tyf, b49, (ix25 o43), e44, e45, e46, e47, e48, nm, seval]
   refine dktree (args0 := [.agg (cGSightBlock e4), .lit (.int .i64 x1_b.At), .agg (cGSightPlace x2_p)]) (by first | (simp only [nrm, tynrm] <;> rfl) | rfl) (by simp only [tre, tytre, Bool.and_self]) (g_ref02_Blocks_ok _ _ _ _ o51) ?_
   refine fin_cut (fun tm => tm 3 = .ptr 0 0 ∧ tm 4 = .ptr 1 0 ∧ tm 5 = .ptr 2 0 ∧ tm 7 = .lit (.slice none 0 0) ∧ tm 8 = .lit (.int .i64 c4_8) ∧ tm 24 = .lit (.bool r50) ∧ True) (by refine ⟨e44, e45, e46, e47, e48, ?_, trivial⟩ <;> first | (simp only [ua, b49, e44, e45, e46, e47, e48, nm, seval] <;> rfl) | rfl) ?_
   rintro tm ⟨e52, e53, e54, e55, e56, e57, _⟩
   cases d58 : (r50)
   ·simp only [d58, hs] at h
    simp only [vz, tyf, b49, (ix25 o43), e52, e53, e54, e55, e56, e57, d58, nm, seval]
    exact ⟨List.length p4, Nat.lt_succ_self _, by rw [hI4]; refine ⟨p4, c4_8 + 1, ([] : List Int), .lit (.slice none 0 0), rfl, Int.le_trans hi4 (Int.le_add_one (Int.le_refl _)), drop_next hi4 hp4, rfl, (show 6 ≤ nx4 + 17 by omega), ?_, ?_, ?_, e52, e53, e54, ?_, ?_, Or.inr ⟨rfl, rfl⟩, h⟩ <;> first | (simp only [ua, b49, e52, e53, e54, e55, e56, e57, d58, nm, seval] <;> rfl) | rfl⟩
   simp only [d58, hs] at h
   cases g59 : (roomOk 8 (List.length (([] : List Int) ++ [c4_8])))
   ·simp only [g59, hs] at h
    exact absurd h kN4
   simp only [g59, hs] at h
   simp only [vz, tyf, b49, (ix25 o43), e52, e53, e54, e55, e56, e57, d58, g59, nm, seval]
   refine k_appN (w := 1) (enc := eI) (ys := ([c4_8])) (el2 := (some 3)) (fun _ => rfl) lf78 ao78 Tryz.underlying78 (by first | rfl | assumption | (simp only [updH_apply, without_apply, et78, b49, nm, seval] <;> rfl) | (simp only [updH_apply, without_apply, cellsL_cons, cellsL_nil, mV_app, mV_app0, tyf, b49, (ix25 o43), e52, e53, e54, e55, e56, e57, d58, g59, nm, seval]; done)) (Nat.zero_lt_succ _) g59 ?_
   simp only [vz, tyf, b49, (ix25 o43), e52, e53, e54, e55, e56, e57, d58, g59, nm, seval]
   exact ⟨List.length p4, Nat.lt_succ_self _, by rw [hI4]; refine ⟨p4, c4_8 + 1, (([] : List Int) ++ [c4_8]), .ref (nx4 + 17) 0 (List.length (([] : List Int) ++ [c4_8])) 1 (List.length (([] : List Int) ++ [c4_8])), rfl, Int.le_trans hi4 (Int.le_add_one (Int.le_refl _)), drop_next hi4 hp4, rfl, (show 6 ≤ nx4 + 22 by omega), ?_, ?_, ?_, e52, e53, e54, ?_, ?_, Or.inl ⟨nx4 + 17, (some 3), rfl, (by first | omega | (simp only [nm, seval]; omega)), (by first | omega | (intro hh; simp only [b49, reduceCtorEq] at hh)), (by first | omega | (intro hh; simp only [b49, reduceCtorEq] at hh)), (by first | omega | (intro hh; simp only [b49, reduceCtorEq] at hh)), ?_⟩, h⟩ <;> first | (simp only [ua, b49, e52, e53, e54, e55, e56, e57, d58, nm, seval] <;> rfl) | rfl⟩
end Go.V
end
section
namespace Go.V
open Go Go.Proofs
def g_ref02_Surely (x0_s : GSightStreet) (x1_b : GSightBoard) (x2_p : GSightPlace) : Option (Bool) := Option.bind (g_ref02_Clear x1_b x2_p (IntKind.i64.wrap (x0_s.Eye.Low * x0_s.Light.Low))) (fun r1 => cond (r1) (Option.bind (g_ref02_Hidden x0_s x1_b x2_p) (fun r2 => some ((List.length r2 : Int) == 0))) (some false))
theorem g_ref02_Surely_ok (x0_s : GSightStreet) (x1_b : GSightBoard) (x2_p : GSightPlace) (R : Bool) (h : g_ref02_Surely x0_s x1_b x2_p = some R) : VPure Tryz.prog G0 71 [.agg (cGSightStreet x0_s), .agg (cGSightBoard x1_b), .agg (cGSightPlace x2_p)] (.tree (.lit (.bool R))) := by
 refine VPure.runR mixed Tryz.call71 Tryz.func71 rfl (by simp [Tryz.ntmps71]; kernel_rfl) ?_
 obtain ⟨KF, h, kF, kN⟩ := fun_intro h
 simp only [g_ref02_Surely] at h
 rcases o4 : (g_ref02_Clear x1_b x2_p (IntKind.i64.wrap (x0_s.Eye.Low * x0_s.Light.Low))) with _ | r3
 ·simp only [o4, hs] at h
  exact absurd h kN
 simp only [o4, hs] at h
 simp only [vz, tyf, nm, seval]
 refine ktree (args0 := [.agg (cGSightBoard x1_b), .agg (cGSightPlace x2_p), .lit (.int .i64 (IntKind.i64.wrap (x0_s.Eye.Low * x0_s.Light.Low)))]) (by first | (simp only [nrm, tynrm] <;> rfl) | rfl) (by simp only [tre, tytre, Bool.and_self]) (g_ref02_Clear_ok _ _ _ _ o4) ?_
 refine fin_cut (fun tm => tm 3 = .ptr 0 0 ∧ tm 4 = .ptr 1 0 ∧ tm 5 = .ptr 2 0 ∧ tm 16 = .lit (.bool r3) ∧ True) (by refine ⟨?_, ?_, ?_, ?_, trivial⟩ <;> first | (simp only [ua, nm, seval] <;> rfl) | rfl) ?_
 rintro tm ⟨e5, e6, e7, e8, _⟩
 cases d9 : (r3)
 ·simp only [d9, hs] at h
  try simp only [vz, tyf, e5, e6, e7, e8, d9, nm, seval]
  obtain rfl := kF _ h
  exact opd_bool Tryz.results71 rfl
 simp only [d9, hs] at h
 rcases o11 : (g_ref02_Hidden x0_s x1_b x2_p) with _ | r10
 ·simp only [o11, hs] at h
  exact absurd h kN
 simp only [o11, hs] at h
 simp only [vz, tyf, e5, e6, e7, e8, d9, nm, seval]
 refine ktree (args0 := [.agg (cGSightStreet x0_s), .agg (cGSightBoard x1_b), .agg (cGSightPlace x2_p)]) (by first | (simp only [nrm, tynrm] <;> rfl) | rfl) (by simp only [tre, tytre, Bool.and_self]) (g_ref02_Hidden_ok _ _ _ _ o11) ?_
 refine fin_cut (fun tm => tm 17 = .lit (.bool true) ∧ tm 21 = .sl (cellsL eI r10) (List.length r10) false ∧ True) (by refine ⟨?_, ?_, trivial⟩ <;> first | (simp only [ua, e5, e6, e7, e8, d9, nm, seval] <;> rfl) | rfl) ?_
 rintro tm ⟨e12, e13, _⟩
 try simp only [vz, tyf, d9, e12, e13, nm, seval]
 obtain rfl := kF _ h
 exact opd_bool Tryz.results71 rfl
end Go.V
end
section
namespace Go.V
open Go Go.Proofs
def g_ref02_May_l0 (x0_s : GSightStreet) : List Int → Int → Option (LOut (Bool) (Unit))
 | [], c0_8 => some (.go ())
 | e0 :: p0, c0_8 => Option.bind (getI x0_s.Blocks e0) (fun x2 => cond (x2.Sure) (some (.ret false)) (g_ref02_May_l0 x0_s p0 (c0_8 + 1)))
def g_ref02_May (x0_s : GSightStreet) (x1_b : GSightBoard) (x2_p : GSightPlace) : Option (Bool) := Option.bind (g_ref02_Hidden x0_s x1_b x2_p) (fun r1 => cond (lenOk r1) (lbind (g_ref02_May_l0 x0_s r1 0) (fun r5 => some r5) (fun c3 => Option.bind (g_ref02_Clear x1_b x2_p (IntKind.i64.wrap (x0_s.Eye.High * x0_s.Light.High))) (fun r4 => some r4)) (fun _ _ => none)) none)
end Go.V
end
section
namespace Go.V
open Go Go.Proofs
def g_ref02_word (x0_surely : Bool) (x1_may : Bool) : Option (Int) := cond (x0_surely) (some 3) (cond (x1_may) (some 2) (some 1))
end Go.V
end
section
namespace Go.V
open Go Go.Proofs
def g_ref02_Seen (x0_s : GSightStreet) (x1_b : GSightBoard) (x2_p : GSightPlace) : Option (Int) := Option.bind (g_ref02_Surely x0_s x1_b x2_p) (fun r1 => Option.bind (g_ref02_May x0_s x1_b x2_p) (fun r2 => Option.bind (g_ref02_word r1 r2) (fun r3 => some r3)))
end Go.V
end
section
namespace Go.V
open Go
def faultO (k : Int) (o : Option Int) : Option (LOut (GSightFault × Bool) Unit) := match o with | none => some (.go ()) | some i => some (.ret (⟨k, i⟩, true))
section
variable (v : Gsightview) (hp : PG v.board.At v.SightPlace) (hw : PW v.power)
include hp hw
theorem ff_l0 : ∀ (p : List GSightBlock) (c : Int), (∀ k ∈ p, BK k) → g_sight_view_firstFault_l0 v p c = faultO 1 (fnd (behB v.board.At v.SightPlace) p c)
 | [], _, _ => rfl
 | e :: p, c, h => by
  simp only [g_sight_view_firstFault_l0, isBehind_eq v e hp (h e (List.mem_cons_self ..)), Option.bind_some, g_sight_must, fnd]
  cases behB v.board.At v.SightPlace e with
  | true => rfl
  | false => exact ff_l0 p (c + 1) (fun k hk => h k (List.mem_cons_of_mem _ hk))
theorem ff_l1 : ∀ (p : List GSightLetter) (c : Int), 0 ≤ c → v.board.Letters.drop c.toNat = p → (∀ l ∈ p, BL l) → g_sight_view_firstFault_l1 v p c = faultO 2 (fnd (fun l => !tallB v.power v.board.At v.SightPlace l) p c)
 | [], _, _, _, _ => rfl
 | e :: p, c, h0, hd, h => by
  simp only [g_sight_view_firstFault_l1, isTall_eq v c e hp hw (h e (List.mem_cons_self ..)) (getI_of_drop h0 hd), Option.bind_some, g_sight_must, fnd]
  cases tallB v.power v.board.At v.SightPlace e with
  | false => rfl
  | true => exact ff_l1 p (c + 1) (by omega) (drop_next h0 hd) (fun k hk => h k (List.mem_cons_of_mem _ hk))
theorem ff_l2 : ∀ (p : List GSightLetter) (c : Int), 0 ≤ c → v.board.Letters.drop c.toNat = p → (∀ l ∈ p, BL l) → g_sight_view_firstFault_l2 v p c = faultO 3 (fnd (fun l => !broadB v.power v.board.At v.SightPlace l) p c)
 | [], _, _, _, _ => rfl
 | e :: p, c, h0, hd, h => by
  simp only [g_sight_view_firstFault_l2, isBroad_eq v c e hp hw (h e (List.mem_cons_self ..)) (getI_of_drop h0 hd), Option.bind_some, g_sight_must, fnd]
  cases broadB v.power v.board.At v.SightPlace e with
  | false => rfl
  | true => exact ff_l2 p (c + 1) (by omega) (drop_next h0 hd) (fun k hk => h k (List.mem_cons_of_mem _ hk))
theorem ff_l3 : ∀ (p : List GSightLetter) (c : Int), 0 ≤ c → v.board.Letters.drop c.toNat = p → (∀ l ∈ p, BL l) → g_sight_view_firstFault_l3 v p c = faultO 4 (fnd (fun l => !thickB v.power v.board.At v.SightPlace l) p c)
 | [], _, _, _, _ => rfl
 | e :: p, c, h0, hd, h => by
  simp only [g_sight_view_firstFault_l3, isThick_eq v c e hp hw (h e (List.mem_cons_self ..)) (getI_of_drop h0 hd), Option.bind_some, g_sight_must, fnd]
  cases thickB v.power v.board.At v.SightPlace e with
  | false => rfl
  | true => exact ff_l3 p (c + 1) (by omega) (drop_next h0 hd) (fun k hk => h k (List.mem_cons_of_mem _ hk))
theorem ff_l4 : ∀ (k : Nat) (c : Int), 0 ≤ c → c + k ≤ v.board.Letters.length → (∀ l ∈ v.board.Letters, BL l) → g_sight_view_firstFault_l4 v k c = faultO 5 (fnd (fun l => !apartB v.power v.board.At v.SightPlace l) ((v.board.Letters.drop c.toNat).take k) c)
 | 0, _, _, _, _ => by simp only [g_sight_view_firstFault_l4, List.take_zero, fnd, faultO]
 | k + 1, c, h0, hk, h => by
  obtain ⟨e, he, hm⟩ := getI_some (xs := v.board.Letters) (i := c) h0 (by omega)
  have hd := (getI_drop he).2.2
  have hn : c.toNat + 1 = (c + 1).toNat := by omega
  rw [hd, List.take_succ_cons]
  simp only [g_sight_view_firstFault_l4, isApart_eq v c e hp hw (h e hm) he, Option.bind_some, g_sight_must, fnd, hn]
  cases apartB v.power v.board.At v.SightPlace e with
  | false => rfl
  | true => exact ff_l4 k (c + 1) (by omega) (by omega) h
end
def whyF (w a : Int) (p : GSightPlace) (ks : List GSightBlock) (ls : List GSightLetter) : Option GSightFault :=
 match fnd (behB a p) ks 0 with
 | some i => some ⟨1, i⟩
 | none => match fnd (fun l => !tallB w a p l) ls 0 with
  | some i => some ⟨2, i⟩
  | none => match fnd (fun l => !broadB w a p l) ls 0 with
   | some i => some ⟨3, i⟩
   | none => match fnd (fun l => !thickB w a p l) ls 0 with
    | some i => some ⟨4, i⟩
    | none => match fnd (fun l => !apartB w a p l) (ls.take (ls.length - 1)) 0 with
     | some i => some ⟨5, i⟩
     | none => none
def whyP (o : Option GSightFault) : GSightFault × Bool := match o with | some f => (f, true) | none => (⟨0, 0⟩, false)
theorem firstFault_eq (v : Gsightview) (hp : PG v.board.At v.SightPlace) (hw : PW v.power) (hl : ∀ l ∈ v.board.Letters, BL l) (hn : 1 ≤ v.board.Letters.length) (hn2 : v.board.Letters.length ≤ 5) (hk : ∀ k ∈ v.SightStreet.Blocks, BK k) (hb : v.SightStreet.Blocks.length ≤ 4) :
  g_sight_view_firstFault v = some (whyP (whyF v.power v.board.At v.SightPlace v.SightStreet.Blocks v.board.Letters)) := by
 have l1 : lenOk v.SightStreet.Blocks = true := lenOk_of (by omega)
 have l2 : lenOk v.board.Letters = true := lenOk_of (by omega)
 have w1 : IntKind.i64.wrap ((v.board.Letters.length : Int) - 1) = (v.board.Letters.length : Int) - 1 := wrap_eq (by omega) (by omega)
 have b1 : boundOk ((v.board.Letters.length : Int) - 1) = true := by unfold boundOk; exact decide_eq_true (by omega)
 have t1 : (((v.board.Letters.length : Int) - 1) - 0).toNat = v.board.Letters.length - 1 := by omega
 simp only [g_sight_view_firstFault, l1, l2, cond_true, ff_l0 v hp hw _ _ hk, ff_l1 v hp hw v.board.Letters 0 (by omega) rfl hl, ff_l2 v hp hw v.board.Letters 0 (by omega) rfl hl, ff_l3 v hp hw v.board.Letters 0 (by omega) rfl hl, w1, b1, t1, ff_l4 v hp hw (v.board.Letters.length - 1) 0 (by omega) (by omega) hl, whyF]
 cases fnd (behB v.board.At v.SightPlace) v.SightStreet.Blocks 0 with
 | some i => rfl
 | none =>
  simp only [faultO, lbind_go]
  cases fnd (fun l => !tallB v.power v.board.At v.SightPlace l) v.board.Letters 0 with
  | some i => rfl
  | none =>
   simp only [lbind_go]
   cases fnd (fun l => !broadB v.power v.board.At v.SightPlace l) v.board.Letters 0 with
   | some i => rfl
   | none =>
    simp only [lbind_go]
    cases fnd (fun l => !thickB v.power v.board.At v.SightPlace l) v.board.Letters 0 with
    | some i => rfl
    | none =>
     simp only [lbind_go]
     have e : List.drop (Int.toNat 0) v.board.Letters = v.board.Letters := rfl
     rw [e]
     cases fnd (fun l => !apartB v.power v.board.At v.SightPlace l) (v.board.Letters.take (v.board.Letters.length - 1)) 0 with
     | some i => rfl
     | none => rfl
def clearB (w a : Int) (p : GSightPlace) : List GSightLetter → Bool
 | [] => true
 | [e] => legB w a p e
 | e :: e' :: ls => legB w a p e && (apartB w a p e && clearB w a p (e' :: ls))
theorem clear_iff {w a : Int} {p : GSightPlace} : ∀ (ls : List GSightLetter), clearB w a p ls = true ↔ (∀ l ∈ ls, legB w a p l = true) ∧ ∀ l ∈ ls.take (ls.length - 1), apartB w a p l = true
 | [] => by simp [clearB]
 | [e] => by simp [clearB]
 | e :: e' :: ls => by
  have ih := clear_iff (w := w) (a := a) (p := p) (e' :: ls)
  have ht : (e :: e' :: ls).take ((e :: e' :: ls).length - 1) = e :: (e' :: ls).take ((e' :: ls).length - 1) := by simp
  rw [ht]
  unfold clearB
  rw [Bool.and_eq_true, Bool.and_eq_true, ih]
  constructor
  ·rintro ⟨h1, h2, h3, h4⟩
   constructor
   ·intro l hl
    rcases List.mem_cons.1 hl with rfl | hl
    ·exact h1
    ·exact h3 l hl
   ·intro l hl
    rcases List.mem_cons.1 hl with rfl | hl
    ·exact h2
    ·exact h4 l hl
  ·rintro ⟨h1, h2⟩
   exact ⟨h1 e (List.mem_cons_self ..), h2 e (List.mem_cons_self ..), fun l hl => h1 l (List.mem_cons_of_mem _ hl), fun l hl => h2 l (List.mem_cons_of_mem _ hl)⟩
theorem leg_iff {w a : Int} {p : GSightPlace} {l : GSightLetter} : legB w a p l = true ↔ tallB w a p l = true ∧ broadB w a p l = true ∧ thickB w a p l = true := by
 simp [legB]
theorem why_none {w a : Int} {p : GSightPlace} {ks : List GSightBlock} {ls : List GSightLetter} : whyF w a p ks ls = none ↔ (∀ k ∈ ks, behB a p k = false) ∧ clearB w a p ls = true := by
 rw [clear_iff]
 unfold whyF
 cases h0 : fnd (behB a p) ks 0 with
 | some i =>
  simp only [reduceCtorEq, false_iff, not_and]
  intro h
  rw [(fnd_none ks 0).2 h] at h0; cases h0
 | none =>
  have g0 := (fnd_none ks 0).1 h0
  cases h1 : fnd (fun l => !tallB w a p l) ls 0 with
  | some i =>
   simp only [reduceCtorEq, false_iff, not_and]
   intro _ h
   rw [(fnd_none ls 0).2 (fun l hl => by simp [(leg_iff.1 (h l hl)).1])] at h1; cases h1
  | none =>
   have g1 := (fnd_none ls 0).1 h1
   cases h2 : fnd (fun l => !broadB w a p l) ls 0 with
   | some i =>
    simp only [reduceCtorEq, false_iff, not_and]
    intro _ h
    rw [(fnd_none ls 0).2 (fun l hl => by simp [(leg_iff.1 (h l hl)).2.1])] at h2; cases h2
   | none =>
    have g2 := (fnd_none ls 0).1 h2
    cases h3 : fnd (fun l => !thickB w a p l) ls 0 with
    | some i =>
     simp only [reduceCtorEq, false_iff, not_and]
     intro _ h
     rw [(fnd_none ls 0).2 (fun l hl => by simp [(leg_iff.1 (h l hl)).2.2])] at h3; cases h3
    | none =>
     have g3 := (fnd_none ls 0).1 h3
     cases h4 : fnd (fun l => !apartB w a p l) (ls.take (ls.length - 1)) 0 with
     | some i =>
      simp only [reduceCtorEq, false_iff, not_and]
      intro _ _ h
      rw [(fnd_none _ 0).2 (fun l hl => by simp [h l hl])] at h4; cases h4
     | none =>
      have g4 := (fnd_none _ 0).1 h4
      simp only [true_iff]
      exact ⟨g0, fun l hl => leg_iff.2 ⟨by simpa using g1 l hl, by simpa using g2 l hl, by simpa using g3 l hl⟩, fun l hl => by simpa using g4 l hl⟩
def readB (w a : Int) (p : GSightPlace) (ks : List GSightBlock) (ls : List GSightLetter) : Bool := clearB w a p ls && ks.all (fun k => !behB a p k)
theorem isRead_eq (v : Gsightview) (hp : PG v.board.At v.SightPlace) (hw : PW v.power) (hl : ∀ l ∈ v.board.Letters, BL l) (hn : 1 ≤ v.board.Letters.length) (hn2 : v.board.Letters.length ≤ 5) (hk : ∀ k ∈ v.SightStreet.Blocks, BK k) (hb : v.SightStreet.Blocks.length ≤ 4) :
  g_sight_view_isRead v = some (readB v.power v.board.At v.SightPlace v.SightStreet.Blocks v.board.Letters) := by
 simp only [g_sight_view_isRead, firstFault_eq v hp hw hl hn hn2 hk hb, Option.bind_some, Option.some.injEq]
 cases h : whyF v.power v.board.At v.SightPlace v.SightStreet.Blocks v.board.Letters with
 | none =>
  have := why_none.1 h
  symm
  simp only [whyP, readB, this.2, Bool.true_and, Bool.not_false, List.all_eq_true]
  intro k hk; simp [this.1 k hk]
 | some f =>
  have hne : ¬ ((∀ k ∈ v.SightStreet.Blocks, behB v.board.At v.SightPlace k = false) ∧ clearB v.power v.board.At v.SightPlace v.board.Letters = true) := by
   rw [← why_none, h]; simp
  simp only [whyP, readB, Bool.not_true]
  symm
  rw [Bool.eq_false_iff]
  intro hr
  rw [Bool.and_eq_true, List.all_eq_true] at hr
  exact hne ⟨fun k hk => by simpa using hr.2 k hk, hr.1⟩
def hids {α : Type} (f : α → Bool) : List α → Int → List Int
 | [], _ => []
 | e :: p, i => cond (f e) (i :: hids f p (i + 1)) (hids f p (i + 1))
theorem hids_len {α : Type} {f : α → Bool} : ∀ (p : List α) (i : Int), (hids f p i).length ≤ p.length
 | [], _ => Nat.le_refl _
 | e :: p, i => by
  unfold hids
  have := hids_len (f := f) p (i + 1)
  cases f e <;> simp <;> omega
theorem hids_fnd {α : Type} {f : α → Bool} : ∀ (p : List α) (i : Int), (hids f p i)[0]? = fnd f p i
 | [], _ => rfl
 | e :: p, i => by
  unfold hids fnd
  cases f e
  ·exact hids_fnd p (i + 1)
  ·rfl
theorem hids_nil {α : Type} {f : α → Bool} (p : List α) (i : Int) : hids f p i = [] ↔ ∀ x ∈ p, f x = false := by
 rw [← fnd_none p i, ← hids_fnd]
 cases hids f p i <;> simp
theorem room_small {n : Nat} (b : Nat) (h : n ≤ 1000) (hb : b ≤ 100) : roomOk b n = true := by
 unfold roomOk
 refine decide_eq_true ?_
 have : n * b ≤ 1000 * 100 := Nat.mul_le_mul h hb
 omega
theorem refHidden_l0_eq (b : GSightBoard) (p : GSightPlace) (hp : PG b.At p) : ∀ (ks : List GSightBlock) (i : Int) (acc : List Int), (∀ k ∈ ks, BK k) → acc.length + ks.length ≤ 100 → g_ref02_Hidden_l0 b p ks i acc = some (.go (acc ++ hids (behB b.At p) ks i))
 | [], _, acc, _, _ => by simp [g_ref02_Hidden_l0, hids]
 | e :: ks, i, acc, h, hl => by
  have hk := refHidden_l0_eq b p hp ks
  simp only [List.length_cons] at hl
  simp only [g_ref02_Hidden_l0, refBlocks_eq e b.At p hp (h e (List.mem_cons_self ..)), Option.bind_some, hids]
  have ht : ∀ k ∈ ks, BK k := fun k hk => h k (List.mem_cons_of_mem _ hk)
  cases behB b.At p e with
  | true =>
   rw [room_small 8 (by simp; omega) (by omega)]
   simp only [cond_true]
   rw [hk (i + 1) (acc ++ [i]) ht (by simp; omega)]
   simp
  | false => exact hk (i + 1) acc ht (by omega)
theorem refHidden_eq (s : GSightStreet) (b : GSightBoard) (p : GSightPlace) (hp : PG b.At p) (hk : ∀ k ∈ s.Blocks, BK k) (hb : s.Blocks.length ≤ 4) : g_ref02_Hidden s b p = some (hids (behB b.At p) s.Blocks 0) := by
 have l1 : lenOk s.Blocks = true := lenOk_of (by omega)
 simp only [g_ref02_Hidden, l1, cond_true, refHidden_l0_eq b p hp s.Blocks 0 [] hk (by simp; omega), lbind_go, List.nil_append]
theorem faultK_zero {w a : Int} {p : GSightPlace} {l : GSightLetter} : (faultK w a p l != 0) = !legB w a p l := by
 unfold faultK legB
 cases tallB w a p l <;> cases broadB w a p l <;> cases thickB w a p l <;> rfl
theorem refClear_l0_eq (b : GSightBoard) (p : GSightPlace) (w : Int) (hp : PG b.At p) (hw : PW w) (hn2 : b.Letters.length ≤ 5) : ∀ (ls : List GSightLetter) (c : Int), 0 ≤ c → b.Letters.drop c.toNat = ls → (∀ l ∈ ls, BL l) → g_ref02_Clear_l0 b p w ls c = goB (clearB w b.At p ls)
 | [], _, _, _, _ => rfl
 | [e], c, h0, hd, h => by
  have hx := drop_next h0 hd
  have : decide (c + 1 < (b.Letters.length : Int)) = false := not_lt_of_drop (by omega) hx
  simp only [g_ref02_Clear_l0, refFault_eq e b.At p w hp hw (h e (List.mem_cons_self ..)), Option.bind_some, faultK_zero, this, cond_false, clearB, cnot, goB]
 | e :: e' :: ls, c, h0, hd, h => by
  have hx := drop_next h0 hd
  have : decide (c + 1 < (b.Letters.length : Int)) = true := lt_of_drop (by omega) hx
  have ih := refClear_l0_eq b p w hp hw hn2 (e' :: ls) (c + 1) (by omega) hx (fun l hl => h l (List.mem_cons_of_mem _ hl))
  have he := h e (List.mem_cons_self ..)
  unfold g_ref02_Clear_l0 clearB
  simp only [refFault_eq e b.At p w hp hw he, refMelts_eq e b.At p w hp hw he, Option.bind_some, faultK_zero, this, cond_true, ih, goB_and, cnot]
theorem refClear_eq (b : GSightBoard) (p : GSightPlace) (w : Int) (hp : PG b.At p) (hw : PW w) (hl : ∀ l ∈ b.Letters, BL l) (hn2 : b.Letters.length ≤ 5) : g_ref02_Clear b p w = some (clearB w b.At p b.Letters) := by
 have l2 : lenOk b.Letters = true := lenOk_of (by omega)
 simp only [g_ref02_Clear, l2, cond_true, refClear_l0_eq b p w hp hw hn2 b.Letters 0 (by omega) rfl hl, goB_lbind]
 cases clearB w b.At p b.Letters <;> rfl
theorem hids_beq {α : Type} {f : α → Bool} (p : List α) (i : Int) : (((hids f p i).length : Int) == 0) = p.all (fun x => !f x) := by
 by_cases h : hids f p i = []
 ·have := (hids_nil p i).1 h
  rw [h]
  symm
  simp only [List.length_nil]
  rw [show (((0 : Nat) : Int) == 0) = true from rfl, List.all_eq_true]
  intro x hx; simp [this x hx]
 ·have hl : (hids f p i).length ≠ 0 := fun hh => h (List.length_eq_zero_iff.1 hh)
  have : (((hids f p i).length : Int) == 0) = false := by simp only [beq_eq_false_iff_ne, ne_eq]; omega
  rw [this]
  symm
  rw [Bool.eq_false_iff]
  intro ha
  rw [List.all_eq_true] at ha
  exact h ((hids_nil p i).2 (fun x hx => by simpa using ha x hx))
theorem mayhids {f : GSightBlock → Bool} (ks : List GSightBlock) : ∀ (p : List GSightBlock) (i c : Int) (s : GSightStreet), s.Blocks = ks → 0 ≤ i → ks.drop i.toNat = p → g_ref02_May_l0 s (hids f p i) c = goB (p.all (fun k => !(f k && k.Sure)))
 | [], _, _, _, _, _, _ => rfl
 | e :: p, i, c, s, hs, h0, hd => by
  have ih := mayhids (f := f) ks p (i + 1)
  have hx := drop_next h0 hd
  unfold hids
  rw [List.all_cons, goB_and]
  cases hf : f e with
  | false =>
   simp only [cond_false, Bool.false_and, Bool.not_false, cond_true]
   exact ih c s hs (by omega) hx
  | true =>
   simp only [cond_true, Bool.true_and, g_ref02_May_l0, hs, getI_of_drop h0 hd, Option.bind_some, cnot]
   rw [ih (c + 1) s hs (by omega) hx]
theorem goods {s : GSightStreet} {b : GSightBoard} {p : GSightPlace} (h : Good s b p) : PG b.At p ∧ (∀ l ∈ b.Letters, BL l) ∧ (∀ k ∈ s.Blocks, BK k) ∧ PW (s.Eye.Low * s.Light.Low) ∧ PW (s.Eye.High * s.Light.High) := by
 refine ⟨⟨h.a0, h.a1, h.p0, h.p1, h.q0, h.q1⟩, ?_, h.blks, ?_, ?_⟩
 ·intro l hl
  have := h.lets l hl
  simp only [letterB, Bool.and_eq_true, inB_iff] at this
  unfold BL; omega
 ·have h1 := h.el; have h2 := h.em; have h3 := h.eh; have h4 := h.ll; have h5 := h.lm; have h6 := h.lh
  exact mulR (a := s.Eye.Low) (A := 40) (b := s.Light.Low) (B := 100) (by omega) (by omega) (by omega) (by omega)
 ·have h1 := h.el; have h2 := h.em; have h3 := h.eh; have h4 := h.ll; have h5 := h.lm; have h6 := h.lh
  exact mulR (a := s.Eye.High) (A := 40) (b := s.Light.High) (B := 100) (by omega) (by omega) (by omega) (by omega)
theorem pw_wrap {w : Int} (h : PW w) : IntKind.i64.wrap w = w := wrap_eq (by unfold PW at h; omega) (by unfold PW at h; omega)
def sureB (s : GSightStreet) (b : GSightBoard) (p : GSightPlace) : Bool := clearB (s.Eye.Low * s.Light.Low) b.At p b.Letters && s.Blocks.all (fun k => !behB b.At p k)
def mayB (s : GSightStreet) (b : GSightBoard) (p : GSightPlace) : Bool := clearB (s.Eye.High * s.Light.High) b.At p b.Letters && s.Blocks.all (fun k => !(behB b.At p k && k.Sure))
def seenI (s : GSightStreet) (b : GSightBoard) (p : GSightPlace) : Int := cond (sureB s b p) 3 (cond (mayB s b p) 2 1)
theorem refSeen_eq (s : GSightStreet) (b : GSightBoard) (p : GSightPlace) (h : Good s b p) : g_ref02_Seen s b p = some (seenI s b p) := by
 obtain ⟨hp, hl, hk, w1, w2⟩ := goods h
 have hb := h.nb
 have hh := refHidden_eq s b p hp hk hb
 have l1 : lenOk (hids (behB b.At p) s.Blocks 0) = true := lenOk_of (by have := hids_len (f := behB b.At p) s.Blocks 0; omega)
 have hm := mayhids (f := behB b.At p) s.Blocks s.Blocks 0 0 s rfl (by omega) rfl
 simp only [g_ref02_Seen, g_ref02_Surely, g_ref02_May, g_ref02_word, pw_wrap w1, pw_wrap w2, refClear_eq b p _ hp w1 hl h.n5, refClear_eq b p _ hp w2 hl h.n5, hh, Option.bind_some, hids_beq, csome, l1, cond_true, hm, goB_lbind, seenI, sureB, mayB]
 cases clearB (s.Eye.Low * s.Light.Low) b.At p b.Letters <;> cases s.Blocks.all (fun k => !behB b.At p k) <;> cases s.Blocks.all (fun k => !(behB b.At p k && k.Sure)) <;> cases clearB (s.Eye.High * s.Light.High) b.At p b.Letters <;> rfl
theorem atBest_l0_eq : ∀ (ks : List GSightBlock) (i : Int) (acc : List GSightBlock), acc.length + ks.length ≤ 100 → g_sight_atBest_l0 ks i acc = some (.go (acc ++ ks.filter (fun k => k.Sure)))
 | [], _, acc, _ => by simp [g_sight_atBest_l0]
 | e :: ks, i, acc, hl => by
  simp only [List.length_cons] at hl
  simp only [g_sight_atBest_l0, List.filter_cons]
  cases e.Sure with
  | true =>
   rw [room_small 40 (by simp; omega) (by omega)]
   simp only [cond_true, if_pos]
   rw [atBest_l0_eq ks (i + 1) (acc ++ [e]) (by simp; omega)]
   simp
  | false => exact atBest_l0_eq ks (i + 1) acc (by omega)
theorem filter_len {ks : List GSightBlock} : (ks.filter (fun k => k.Sure)).length ≤ ks.length := List.length_filter_le ..
theorem seen_eq (s : GSightStreet) (b : GSightBoard) (p : GSightPlace) (h : Good s b p) : g_sight_seen s b p = some (seenI s b p) := by
 obtain ⟨hp, hl, hk, w1, w2⟩ := goods h
 have hb := h.nb
 have l1 : lenOk s.Blocks = true := lenOk_of (by omega)
 have r1 := isRead_eq ⟨s, p, b, s.Eye.Low * s.Light.Low⟩ hp w1 hl h.n1 h.n5 hk hb
 have r2 := isRead_eq ⟨⟨s.Length, s.Width, s.Eye, s.Light, s.Boards, s.Blocks.filter (fun k => k.Sure)⟩, p, b, s.Eye.High * s.Light.High⟩ hp w2 hl h.n1 h.n5 (fun k hk' => hk k (List.mem_filter.1 hk').1) (Nat.le_trans filter_len hb)
 simp only [readB] at r1 r2
 have e : (s.Blocks.filter (fun k => k.Sure)).all (fun k => !behB b.At p k) = s.Blocks.all (fun k => !(behB b.At p k && k.Sure)) := by
  rw [List.all_filter]
  congr 1
  funext k
  cases behB b.At p k <;> cases k.Sure <;> rfl
 rw [e] at r2
 simp only [g_sight_seen, g_sight_isSurelyRead, g_sight_atWorst, g_sight_atBest, pw_wrap w1, pw_wrap w2, l1, cond_true, atBest_l0_eq s.Blocks 0 [] (by simp; omega), List.nil_append, lbind_go, Option.bind_some, r1, r2, seenI, sureB, mayB]
 cases (clearB (s.Eye.Low * s.Light.Low) b.At p b.Letters && s.Blocks.all (fun k => !behB b.At p k)) <;> cases (clearB (s.Eye.High * s.Light.High) b.At p b.Letters && s.Blocks.all (fun k => !(behB b.At p k && k.Sure))) <;> rfl
theorem Seen_eq (s : GSightStreet) (n : Int) (p : GSightPlace) (h : FineS s) : (∃ b, getI s.Boards n = some b ∧ b ∈ s.Boards ∧ Good s b p ∧ streetB s = true ∧ numB s n = true ∧ placeB s p = true ∧ g_sight_Seen s n p = some (seenI s b p, 0)) ∨ ((streetB s && (numB s n && placeB s p)) = false ∧ g_sight_Seen s n p = some (0, 2)) := by
 simp only [g_sight_Seen, isView_eq s n p h, Option.bind_some]
 cases h1 : streetB s with
 | false => exact .inr ⟨rfl, rfl⟩
 | true =>
  cases h2 : numB s n with
  | false => exact .inr ⟨rfl, rfl⟩
  | true =>
   cases h3 : placeB s p with
   | false => exact .inr ⟨rfl, rfl⟩
   | true =>
    obtain ⟨b, b1, b2, b3⟩ := good_of h1 h2 h3
    refine .inl ⟨b, b1, b2, b3, rfl, rfl, rfl, ?_⟩
    simp only [Bool.and_self, cond_true, b1, Option.bind_some, seen_eq s b p b3]
end Go.V
end
section
namespace Go.V
open Go
end Go.V
end
section
namespace Go.V
open Go
def Fair (s : GSightStreet) (b : GSightBoard) (p : GSightPlace) : Prop := PG b.At p ∧ PW (s.Eye.Low * s.Light.Low) ∧ (∀ l ∈ b.Letters, BL l) ∧ 1 ≤ b.Letters.length ∧ b.Letters.length ≤ 5 ∧ (∀ k ∈ s.Blocks, BK k) ∧ s.Blocks.length ≤ 4
theorem fair_good {s : GSightStreet} {b : GSightBoard} {p : GSightPlace} (h : Good s b p) : Fair s b p := by
 obtain ⟨hp, hl, hk, w1, _⟩ := goods h
 exact ⟨hp, w1, hl, h.n1, h.n5, hk, h.nb⟩
theorem refSurely_eq {s : GSightStreet} {b : GSightBoard} {p : GSightPlace} (h : Fair s b p) : g_ref02_Surely s b p = some (sureB s b p) := by
 obtain ⟨hp, w1, hl, n1, n5, hk, nb⟩ := h
 simp only [g_ref02_Surely, pw_wrap w1, refClear_eq b p _ hp w1 hl n5, refHidden_eq s b p hp hk nb, Option.bind_some, hids_beq, csome, sureB]
end Go.V
end
section
namespace Go.V
def ea : Option Bool → Bool | none => true | some b => b
def eo : Option Bool → Bool | none => false | some b => b
end Go.V
end
section
set_option linter.unusedVariables false
set_option linter.defProp false
namespace Go.V
open Go
section
variable {P : Program} {G : Glob} {n : Nat} {x : Code} {Q : VExit → St → Prop} {st : St}
end
end Go.V
end
