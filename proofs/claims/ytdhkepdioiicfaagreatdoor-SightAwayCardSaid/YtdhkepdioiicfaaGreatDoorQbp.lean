/- Part of a proof: a logic of values by content, lifted functions, what follows. -/
import Derived.Test.YtdhkepdioiicfaaGreatDoorQbf
import Derived.Test.YtdhkepdioiicfaaGreatDoorQbi
import Derived.Test.YtdhkepdioiicfaaGreatDoorQbj
import Derived.Test.YtdhkepdioiicfaaGreatDoorQbo
import Derived.Test.YtdhkepdioiicfaaGreatDoorQbl
import Derived.Test.YtdhkepdioiicfaaGreatDoorQbn
set_option linter.all false
set_option maxRecDepth 4000
set_option maxHeartbeats 4000000
section
namespace Go.V
open Go Go.Proofs
def g_law02_right (x0_s : GSightStreet) (x1_board : Int) (x2_p : GSightPlace) : Option (Bool) := Option.bind (g_law02_short x0_s) (fun r1 => cond (r1) (Option.bind (g_ref02_Street x0_s) (fun r2 => cond (r2) (Option.bind (g_ref02_Board x0_s x1_board) (fun r3 => cond (r3) (Option.bind (g_ref02_Place x0_s x2_p) (fun r4 => some r4)) (some false))) (some false))) (some false))
theorem g_law02_right_ok (x0_s : GSightStreet) (x1_board : Int) (x2_p : GSightPlace) (R : Bool) (h : g_law02_right x0_s x1_board x2_p = some R) : VPure Tryz.prog G0 24 [.agg (cGSightStreet x0_s), .lit (.int .i64 x1_board), .agg (cGSightPlace x2_p)] (.tree (.lit (.bool R))) := by
 refine VPure.runR mixed Tryz.call24 Tryz.func24 rfl (by simp [Tryz.ntmps24]; kernel_rfl) ?_
 obtain ⟨KF, h, kF, kN⟩ := fun_intro h
 simp only [g_law02_right] at h
 rcases o6 : (g_law02_short x0_s) with _ | r5
 ·simp only [o6, hs] at h
  exact absurd h kN
 simp only [o6, hs] at h
 simp only [vz, tyf, nm, seval]
 refine ktree (args0 := [.agg (cGSightStreet x0_s)]) (by first | (simp only [nrm, tynrm] <;> rfl) | rfl) (by simp only [tre, tytre, Bool.and_self]) (g_law02_short_ok _ _ o6) ?_
 refine fin_cut (fun tm => tm 1 = .lit (.int .i64 x1_board) ∧ tm 3 = .ptr 0 0 ∧ tm 5 = .ptr 1 0 ∧ tm 8 = .lit (.bool r5) ∧ True) (by refine ⟨?_, ?_, ?_, ?_, trivial⟩ <;> first | (simp only [ua, nm, seval] <;> rfl) | rfl) ?_
 rintro tm ⟨e7, e8, e9, e10, _⟩
 cases d11 : (r5)
 ·simp only [d11, hs] at h
  try simp only [vz, tyf, e7, e8, e9, e10, d11, nm, seval]
  obtain rfl := kF _ h
  exact opd_bool Tryz.results24 rfl
 simp only [d11, hs] at h
 rcases o13 : (g_ref02_Street x0_s) with _ | r12
 ·simp only [o13, hs] at h
  exact absurd h kN
 simp only [o13, hs] at h
 simp only [vz, tyf, e7, e8, e9, e10, d11, nm, seval]
 refine ktree (args0 := [.agg (cGSightStreet x0_s)]) (by first | (simp only [nrm, tynrm] <;> rfl) | rfl) (by simp only [tre, tytre, Bool.and_self]) (g_ref02_Street_ok _ _ o13) ?_
 refine fin_cut (fun tm => tm 1 = .lit (.int .i64 x1_board) ∧ tm 3 = .ptr 0 0 ∧ tm 5 = .ptr 1 0 ∧ tm 9 = .lit (.bool true) ∧ tm 11 = .lit (.bool r12) ∧ True) (by refine ⟨e7, e8, e9, ?_, ?_, trivial⟩ <;> first | (simp only [ua, e7, e8, e9, e10, d11, nm, seval] <;> rfl) | rfl) ?_
 rintro tm ⟨e14, e15, e16, e17, e18, _⟩
 cases d19 : (r12)
 ·simp only [d19, hs] at h
  try simp only [vz, tyf, d11, e14, e15, e16, e17, e18, d19, nm, seval]
  obtain rfl := kF _ h
  exact opd_bool Tryz.results24 rfl
 simp only [d19, hs] at h
 rcases o21 : (g_ref02_Board x0_s x1_board) with _ | r20
 ·simp only [o21, hs] at h
  exact absurd h kN
 simp only [o21, hs] at h
 simp only [vz, tyf, d11, e14, e15, e16, e17, e18, d19, nm, seval]
 refine ktree (args0 := [.agg (cGSightStreet x0_s), .lit (.int .i64 x1_board)]) (by first | (simp only [nrm, tynrm] <;> rfl) | rfl) (by simp only [tre, tytre, Bool.and_self]) (g_ref02_Board_ok _ _ _ o21) ?_
 refine fin_cut (fun tm => tm 3 = .ptr 0 0 ∧ tm 5 = .ptr 1 0 ∧ tm 13 = .lit (.bool true) ∧ tm 16 = .lit (.bool r20) ∧ True) (by refine ⟨e15, e16, ?_, ?_, trivial⟩ <;> first | (simp only [ua, d11, e14, e15, e16, e17, e18, d19, nm, seval] <;> rfl) | rfl) ?_
 rintro tm ⟨e22, e23, e24, e25, _⟩
 cases d26 : (r20)
 ·simp only [d26, hs] at h
  try simp only [vz, tyf, d11, d19, e22, e23, e24, e25, d26, nm, seval]
  obtain rfl := kF _ h
  exact opd_bool Tryz.results24 rfl
 simp only [d26, hs] at h
 rcases o28 : (g_ref02_Place x0_s x2_p) with _ | r27
 ·simp only [o28, hs] at h
  exact absurd h kN
 simp only [o28, hs] at h
 simp only [vz, tyf, d11, d19, e22, e23, e24, e25, d26, nm, seval]
 refine ktree (args0 := [.agg (cGSightStreet x0_s), .agg (cGSightPlace x2_p)]) (by first | (simp only [nrm, tynrm] <;> rfl) | rfl) (by simp only [tre, tytre, Bool.and_self]) (g_ref02_Place_ok _ _ _ o28) ?_
 refine fin_cut (fun tm => tm 18 = .lit (.bool true) ∧ tm 21 = .lit (.bool r27) ∧ True) (by refine ⟨?_, ?_, trivial⟩ <;> first | (simp only [ua, d11, d19, e22, e23, e24, e25, d26, nm, seval] <;> rfl) | rfl) ?_
 rintro tm ⟨e29, e30, _⟩
 try simp only [vz, tyf, d11, d19, d26, e29, e30, nm, seval]
 obtain rfl := kF _ h
 exact opd_bool Tryz.results24 rfl
end Go.V
end
section
namespace Go.V
open Go Go.Proofs
def g_law02_word (x0_w : Int) : Option (Bool) := cond (decide (x0_w ≥ 1)) (some (decide (x0_w ≤ 3))) (some false)
theorem g_law02_word_ok (x0_w : Int) (R : Bool) (h : g_law02_word x0_w = some R) : VPure Tryz.prog G0 26 [.lit (.int .i64 x0_w)] (.tree (.lit (.bool R))) := by
 refine VPure.runR mixed Tryz.call26 Tryz.func26 rfl (by simp [Tryz.ntmps26]; kernel_rfl) ?_
 obtain ⟨KF, h, kF, kN⟩ := fun_intro h
 simp only [g_law02_word] at h
 cases d1 : (decide (x0_w ≥ 1))
 ·simp only [d1, hs] at h
  try simp only [vz, tyf, d1, nm, seval]
  obtain rfl := kF _ h
  exact opd_bool Tryz.results26 rfl
 simp only [d1, hs] at h
 try simp only [vz, tyf, d1, nm, seval]
 obtain rfl := kF _ h
 exact opd_bool Tryz.results26 rfl
end Go.V
end
section
namespace Go.V
open Go Go.Proofs
def g_law02_before (x0_a : GSightPlace) (x1_b : GSightPlace) : Option (Bool) := cond (decide (x0_a.Along < x1_b.Along)) (some true) (cond (x0_a.Along == x1_b.Along) (some (decide (x0_a.Across < x1_b.Across))) (some false))
theorem g_law02_before_ok (x0_a : GSightPlace) (x1_b : GSightPlace) (R : Bool) (h : g_law02_before x0_a x1_b = some R) : VPure Tryz.prog G0 29 [.agg (cGSightPlace x0_a), .agg (cGSightPlace x1_b)] (.tree (.lit (.bool R))) := by
 refine VPure.runR mixed Tryz.call29 Tryz.func29 rfl (by simp [Tryz.ntmps29]; kernel_rfl) ?_
 obtain ⟨KF, h, kF, kN⟩ := fun_intro h
 simp only [g_law02_before] at h
 cases d1 : (decide (x0_a.Along < x1_b.Along))
 ·simp only [d1, hs] at h
  cases d2 : (x0_a.Along == x1_b.Along)
  ·simp only [d2, hs] at h
   try simp only [vz, tyf, d1, d2, nm, seval]
   obtain rfl := kF _ h
   exact opd_bool Tryz.results29 rfl
  simp only [d2, hs] at h
  try simp only [vz, tyf, d1, d2, nm, seval]
  obtain rfl := kF _ h
  exact opd_bool Tryz.results29 rfl
 simp only [d1, hs] at h
 try simp only [vz, tyf, d1, nm, seval]
 obtain rfl := kF _ h
 exact opd_bool Tryz.results29 rfl
end Go.V
end
section
namespace Go.V
open Go Go.Proofs
def g_law02_SightAway (x0_s : GSightStreet) (x1_a1 : Int) (x2_a2 : GSightPlace) : Option (Bool) := Option.bind (g_law02_right x0_s x1_a1 x2_a2) (fun r1 => cond (r1) (Option.bind (g_sight_Farthest x0_s x1_a1) (fun r2 => Option.bind (g_sight_Many x0_s x1_a1) (fun r3 => Option.bind (g_sight_Seen x0_s x1_a1 x2_a2) (fun r4 => cond (r3.2.2 != 0) (some false) (cond (r4.2 != 0) (some false) (Option.bind (g_law02_word r4.1) (fun r5 => cond (r5) (cond (r2.2 != 0) (cond (r2.2 != 5) (some false) (cond (decide (r3.1 < 0)) (some false) (cond (decide (r3.2.1 < r3.1)) (some false) (cond (decide (r3.2.1 > (IntKind.i64.wrap ((IntKind.i64.wrap (x0_s.Length + 1)) * x0_s.Width)))) (some false) (cond ((decide (r3.1 > 0)) != (r2.2 == 0)) (some false) (cond (r4.1 != 1) (cond (r3.2.1 == 0) (some false) (cond (r4.1 != 3) (some true) (some false))) (cond (r4.1 != 3) (some true) (some false)))))))) (cond (decide (r3.1 < 0)) (some false) (cond (decide (r3.2.1 < r3.1)) (some false) (cond (decide (r3.2.1 > (IntKind.i64.wrap ((IntKind.i64.wrap (x0_s.Length + 1)) * x0_s.Width)))) (some false) (cond ((decide (r3.1 > 0)) != (r2.2 == 0)) (some false) (cond (r4.1 != 1) (cond (r3.2.1 == 0) (some false) (Option.bind (g_ref02_Place x0_s r2.1) (fun r6 => cond (r6) (Option.bind (g_sight_Seen x0_s x1_a1 r2.1) (fun r7 => cond (r7.2 != 0) (some false) (cond (r7.1 != 3) (some false) (Option.bind (getI x0_s.Boards x1_a1) (fun x8 => Option.bind (g_ref02_Far x8.At x2_a2) (fun r9 => Option.bind (g_ref02_Far x8.At r2.1) (fun r10 => cond (r4.1 != 3) (some true) (cond (decide (r9 < r10)) (some true) (cond (r9 == r10) (Option.bind (g_law02_before x2_a2 r2.1) (fun r11 => cond (r11) (some false) (some true))) (some false)))))))))) (some false)))) (Option.bind (g_ref02_Place x0_s r2.1) (fun r12 => cond (r12) (Option.bind (g_sight_Seen x0_s x1_a1 r2.1) (fun r13 => cond (r13.2 != 0) (some false) (cond (r13.1 != 3) (some false) (Option.bind (getI x0_s.Boards x1_a1) (fun x14 => Option.bind (g_ref02_Far x14.At x2_a2) (fun r15 => Option.bind (g_ref02_Far x14.At r2.1) (fun r16 => cond (r4.1 != 3) (some true) (cond (decide (r15 < r16)) (some true) (cond (r15 == r16) (Option.bind (g_law02_before x2_a2 r2.1) (fun r17 => cond (r17) (some false) (some true))) (some false)))))))))) (some false))))))))) (some false)))))))) (some true))
theorem g_law02_SightAway_ok (x0_s : GSightStreet) (x1_a1 : Int) (x2_a2 : GSightPlace) (R : Bool) (h : g_law02_SightAway x0_s x1_a1 x2_a2 = some R) : VPure Tryz.prog G0 4 [.agg (cGSightStreet x0_s), .lit (.int .i64 x1_a1), .agg (cGSightPlace x2_a2)] (.tree (.lit (.bool R))) := by
 refine VPure.runR mixed Tryz.call4 Tryz.func4 rfl (by simp [Tryz.ntmps4]; kernel_rfl) ?_
 obtain ⟨KF, h, kF, kN⟩ := fun_intro h
 simp only [g_law02_SightAway] at h
 rcases o19 : (g_law02_right x0_s x1_a1 x2_a2) with _ | r18
 ·simp only [o19, hs] at h
  exact absurd h kN
 simp only [o19, hs] at h
 simp only [vz, tyf, nm, seval]
 refine ktree (args0 := [.agg (cGSightStreet x0_s), .lit (.int .i64 x1_a1), .agg (cGSightPlace x2_a2)]) (by first | (simp only [nrm, tynrm] <;> rfl) | rfl) (by simp only [tre, tytre, Bool.and_self]) (g_law02_right_ok _ _ _ _ o19) ?_
 refine fin_cut (fun tm => tm 1 = .lit (.int .i64 x1_a1) ∧ tm 3 = .ptr 0 0 ∧ tm 5 = .ptr 1 0 ∧ tm 21 = .lit (.bool r18) ∧ True) (by refine ⟨?_, ?_, ?_, ?_, trivial⟩ <;> first | (simp only [ua, nm, seval] <;> rfl) | rfl) ?_
 rintro tm ⟨e20, e21, e22, e23, _⟩
 cases d24 : (r18)
 ·simp only [d24, hs] at h
  simp only [vz, tyf, e20, e21, e22, e23, d24, nm, seval]
  refine ktree0 g_law02_known_ok ?_
  try simp only [vz, tyf, e20, e21, e22, e23, d24, nm, seval]
  obtain rfl := kF _ h
  exact opd_bool Tryz.results4 rfl
 simp only [d24, hs] at h
 rcases o26 : (g_sight_Farthest x0_s x1_a1) with _ | r25
 ·simp only [o26, hs] at h
  exact absurd h kN
 simp only [o26, hs] at h
 simp only [vz, tyf, e20, e21, e22, e23, d24, nm, seval]
 refine ktree (args0 := [.agg (cGSightStreet x0_s), .lit (.int .i64 x1_a1)]) (by first | (simp only [nrm, tynrm] <;> rfl) | rfl) (by simp only [tre, tytre, Bool.and_self]) (g_sight_Farthest_ok _ _ _ o26) ?_
 refine fin_cut (fun tm => tm 1 = .lit (.int .i64 x1_a1) ∧ tm 3 = .ptr 0 0 ∧ tm 5 = .ptr 1 0 ∧ tm 27 = .tup [.agg (cGSightPlace r25.1), .lit (.int .i64 r25.2)] ∧ True) (by refine ⟨e20, e21, e22, ?_, trivial⟩ <;> first | (simp only [ua, e20, e21, e22, e23, d24, nm, seval] <;> rfl) | rfl) ?_
 rintro tm ⟨e27, e28, e29, e30, _⟩
 rcases o32 : (g_sight_Many x0_s x1_a1) with _ | r31
 ·simp only [o32, hs] at h
  exact absurd h kN
 simp only [o32, hs] at h
 simp only [vz, tyf, d24, e27, e28, e29, e30, nm, seval]
 refine ktree (args0 := [.agg (cGSightStreet x0_s), .lit (.int .i64 x1_a1)]) (by first | (simp only [nrm, tynrm] <;> rfl) | rfl) (by simp only [tre, tytre, Bool.and_self]) (g_sight_Many_ok _ _ _ o32) ?_
 refine fin_cut (fun tm => tm 1 = .lit (.int .i64 x1_a1) ∧ tm 3 = .ptr 0 0 ∧ tm 5 = .ptr 1 0 ∧ tm 7 = .ptr 14 0 ∧ tm 8 = .lit (.int .i64 r25.2) ∧ tm 33 = .tup [.lit (.int .i64 r31.1), .lit (.int .i64 r31.2.1), .lit (.int .i64 r31.2.2)] ∧ True) (by refine ⟨e27, e28, e29, ?_, ?_, ?_, trivial⟩ <;> first | (simp only [ua, d24, e27, e28, e29, e30, nm, seval] <;> rfl) | rfl) ?_
 rintro tm ⟨e33, e34, e35, e36, e37, e38, _⟩
 rcases o40 : (g_sight_Seen x0_s x1_a1 x2_a2) with _ | r39
 ·simp only [o40, hs] at h
  exact absurd h kN
 simp only [o40, hs] at h
 simp only [vz, tyf, d24, e33, e34, e35, e36, e37, e38, nm, seval]
 refine ktree (args0 := [.agg (cGSightStreet x0_s), .lit (.int .i64 x1_a1), .agg (cGSightPlace x2_a2)]) (by first | (simp only [nrm, tynrm] <;> rfl) | rfl) (by simp only [tre, tytre, Bool.and_self]) (g_sight_Seen_ok _ _ _ _ o40) ?_
 refine fin_cut (fun tm => tm 1 = .lit (.int .i64 x1_a1) ∧ tm 3 = .ptr 0 0 ∧ tm 5 = .ptr 1 0 ∧ tm 7 = .ptr 14 0 ∧ tm 8 = .lit (.int .i64 r25.2) ∧ tm 9 = .lit (.int .i64 r31.1) ∧ tm 10 = .lit (.int .i64 r31.2.1) ∧ tm 11 = .lit (.int .i64 r31.2.2) ∧ tm 41 = .tup [.lit (.int .i64 r39.1), .lit (.int .i64 r39.2)] ∧ True) (by refine ⟨e33, e34, e35, e36, e37, ?_, ?_, ?_, ?_, trivial⟩ <;> first | (simp only [ua, d24, e33, e34, e35, e36, e37, e38, nm, seval] <;> rfl) | rfl) ?_
 rintro tm ⟨e41, e42, e43, e44, e45, e46, e47, e48, e49, _⟩
 cases d50 : (r31.2.2 != 0)
 ·simp only [d50, hs] at h
  cases d51 : (r39.2 != 0)
  ·simp only [d51, hs] at h
   rcases o53 : (g_law02_word r39.1) with _ | r52
   ·simp only [o53, hs] at h
    exact absurd h kN
   simp only [o53, hs] at h
   simp only [vz, tyf, d24, e41, e42, e43, e44, e45, e46, e47, e48, e49, d50, d51, nm, seval]
   refine ktree (args0 := [.lit (.int .i64 r39.1)]) (by first | (simp only [nrm, tynrm] <;> rfl) | rfl) (by simp only [tre, tytre, Bool.and_self]) (g_law02_word_ok _ _ o53) ?_
   refine fin_cut (fun tm => tm 1 = .lit (.int .i64 x1_a1) ∧ tm 3 = .ptr 0 0 ∧ tm 5 = .ptr 1 0 ∧ tm 7 = .ptr 14 0 ∧ tm 8 = .lit (.int .i64 r25.2) ∧ tm 9 = .lit (.int .i64 r31.1) ∧ tm 10 = .lit (.int .i64 r31.2.1) ∧ tm 12 = .lit (.int .i64 r39.1) ∧ tm 50 = .lit (.bool false) ∧ tm 52 = .lit (.bool r52) ∧ True) (by refine ⟨e41, e42, e43, e44, e45, e46, e47, ?_, ?_, ?_, trivial⟩ <;> first | (simp only [ua, d24, e41, e42, e43, e44, e45, e46, e47, e48, e49, d50, d51, nm, seval] <;> rfl) | rfl) ?_
   rintro tm ⟨e54, e55, e56, e57, e58, e59, e60, e61, e62, e63, _⟩
   cases d64 : (r52)
   ·simp only [d64, hs] at h
    try simp only [vz, tyf, d24, d50, d51, e54, e55, e56, e57, e58, e59, e60, e61, e62, e63, d64, nm, seval]
    obtain rfl := kF _ h
    exact opd_bool Tryz.results4 rfl
   simp only [d64, hs] at h
   cases d65 : (r25.2 != 0)
   ·simp only [d65, hs] at h
    cases d66 : (decide (r31.1 < 0))
    ·simp only [d66, hs] at h
     cases d67 : (decide (r31.2.1 < r31.1))
     ·simp only [d67, hs] at h
      have b68 := And.intro d24 (And.intro d50 (And.intro d51 (And.intro d64 (And.intro d65 (And.intro d66 d67)))))
      cases d69 : (decide (r31.2.1 > (IntKind.i64.wrap ((IntKind.i64.wrap (x0_s.Length + 1)) * x0_s.Width))))
      ·simp only [d69, hs] at h
       cases d70 : ((decide (r31.1 > 0)) != (r25.2 == 0))
       ·simp only [d70, hs] at h
        cases d71 : (r39.1 != 1)
        ·simp only [d71, hs] at h
         rcases o73 : (g_ref02_Place x0_s r25.1) with _ | r72
         ·simp only [o73, hs] at h
          exact absurd h kN
         simp only [o73, hs] at h
         simp only [vz, tyf, b68, e54, e55, e56, e57, e58, e59, e60, e61, e62, e63, d69, d70, d71, nm, seval]
         refine ktree (args0 := [.agg (cGSightStreet x0_s), .agg (cGSightPlace r25.1)]) (by first | (simp only [nrm, tynrm] <;> rfl) | rfl) (by simp only [tre, tytre, Bool.and_self]) (g_ref02_Place_ok _ _ _ o73) ?_
         refine fin_cut (fun tm => tm 1 = .lit (.int .i64 x1_a1) ∧ tm 3 = .ptr 0 0 ∧ tm 5 = .ptr 1 0 ∧ tm 7 = .ptr 14 0 ∧ tm 12 = .lit (.int .i64 r39.1) ∧ tm 106 = .lit (.bool r72) ∧ True) (by refine ⟨e54, e55, e56, e57, e61, ?_, trivial⟩ <;> first | (simp only [ua, b68, e54, e55, e56, e57, e58, e59, e60, e61, e62, e63, d69, d70, d71, nm, seval] <;> rfl) | rfl) ?_
         rintro tm ⟨e74, e75, e76, e77, e78, e79, _⟩
         cases d80 : (r72)
         ·simp only [d80, hs] at h
          try simp only [vz, tyf, b68, d69, d70, d71, e74, e75, e76, e77, e78, e79, d80, nm, seval]
          obtain rfl := kF _ h
          exact opd_bool Tryz.results4 rfl
         simp only [d80, hs] at h
         rcases o82 : (g_sight_Seen x0_s x1_a1 r25.1) with _ | r81
         ·simp only [o82, hs] at h
          exact absurd h kN
         simp only [o82, hs] at h
         simp only [vz, tyf, b68, d69, d70, d71, e74, e75, e76, e77, e78, e79, d80, nm, seval]
         refine ktree (args0 := [.agg (cGSightStreet x0_s), .lit (.int .i64 x1_a1), .agg (cGSightPlace r25.1)]) (by first | (simp only [nrm, tynrm] <;> rfl) | rfl) (by simp only [tre, tytre, Bool.and_self]) (g_sight_Seen_ok _ _ _ _ o82) ?_
         refine fin_cut (fun tm => tm 1 = .lit (.int .i64 x1_a1) ∧ tm 3 = .ptr 0 0 ∧ tm 5 = .ptr 1 0 ∧ tm 7 = .ptr 14 0 ∧ tm 12 = .lit (.int .i64 r39.1) ∧ tm 112 = .tup [.lit (.int .i64 r81.1), .lit (.int .i64 r81.2)] ∧ True) (by refine ⟨e74, e75, e76, e77, e78, ?_, trivial⟩ <;> first | (simp only [ua, b68, d69, d70, d71, e74, e75, e76, e77, e78, e79, d80, nm, seval] <;> rfl) | rfl) ?_
         rintro tm ⟨e83, e84, e85, e86, e87, e88, _⟩
         cases d89 : (r81.2 != 0)
         ·simp only [d89, hs] at h
          cases d90 : (r81.1 != 3)
          ·simp only [d90, hs] at h
           have b91 := And.intro b68 (And.intro d69 (And.intro d70 (And.intro d71 (And.intro d80 (And.intro d89 d90)))))
           simp only [vz, tyf, b91, e83, e84, e85, e86, e87, e88, nm, seval]
           refine cwp_drwQF (fun tm => tm 1 = .lit (.int .i64 x1_a1) ∧ tm 3 = .ptr 0 0 ∧ tm 5 = .ptr 1 0 ∧ tm 7 = .ptr 14 0 ∧ tm 12 = .lit (.int .i64 r39.1) ∧ True) (by refine ⟨e83, e84, e85, e86, e87, trivial⟩ <;> first | (simp only [ua, b91, e83, e84, e85, e86, e87, e88, nm, seval] <;> rfl) | rfl) ?_
           rintro tm ⟨e92, e93, e94, e95, e96, _⟩
           rcases o98 : (getI x0_s.Boards x1_a1) with _ | x97
           ·simp only [o98, hs] at h
            exact absurd h kN
           simp only [o98, hs] at h
           rcases o100 : (g_ref02_Far x97.At x2_a2) with _ | r99
           ·simp only [o100, hs] at h
            exact absurd h kN
           simp only [o100, hs] at h
           simp only [vz, tyf, b91, e92, e93, e94, e95, e96, (ix24 o98), nm, seval]
           refine dktree (args0 := [.lit (.int .i64 x97.At), .agg (cGSightPlace x2_a2)]) (by first | (simp only [nrm, tynrm] <;> rfl) | rfl) (by simp only [tre, tytre, Bool.and_self]) (g_ref02_Far_ok _ _ _ o100) ?_
           refine fin_cut (fun tm => tm 1 = .lit (.int .i64 x1_a1) ∧ tm 3 = .ptr 0 0 ∧ tm 5 = .ptr 1 0 ∧ tm 7 = .ptr 14 0 ∧ tm 12 = .lit (.int .i64 r39.1) ∧ tm 128 = .lit (.int .i64 r99) ∧ True) (by refine ⟨e92, e93, e94, e95, e96, ?_, trivial⟩ <;> first | (simp only [ua, b91, e92, e93, e94, e95, e96, nm, seval] <;> rfl) | rfl) ?_
           rintro tm ⟨e101, e102, e103, e104, e105, e106, _⟩
           rcases o108 : (g_ref02_Far x97.At r25.1) with _ | r107
           ·simp only [o108, hs] at h
            exact absurd h kN
           simp only [o108, hs] at h
           simp only [vz, tyf, b91, (ix24 o98), e101, e102, e103, e104, e105, e106, nm, seval]
           refine dktree (args0 := [.lit (.int .i64 x97.At), .agg (cGSightPlace r25.1)]) (by first | (simp only [nrm, tynrm] <;> rfl) | rfl) (by simp only [tre, tytre, Bool.and_self]) (g_ref02_Far_ok _ _ _ o108) ?_
           refine fin_cut (fun tm => tm 5 = .ptr 1 0 ∧ tm 7 = .ptr 14 0 ∧ tm 12 = .lit (.int .i64 r39.1) ∧ tm 128 = .lit (.int .i64 r99) ∧ tm 136 = .lit (.int .i64 r107) ∧ True) (by refine ⟨e103, e104, e105, e106, ?_, trivial⟩ <;> first | (simp only [ua, b91, e101, e102, e103, e104, e105, e106, nm, seval] <;> rfl) | rfl) ?_
           rintro tm ⟨e109, e110, e111, e112, e113, _⟩
           cases d114 : (r39.1 != 3)
           ·simp only [d114, hs] at h
            cases d115 : (decide (r99 < r107))
            ·simp only [d115, hs] at h
             cases d116 : (r99 == r107)
             ·simp only [d116, hs] at h
              try simp only [vz, tyf, b91, (ix24 o98), e109, e110, e111, e112, e113, d114, d115, d116, nm, seval]
              obtain rfl := kF _ h
              exact opd_bool Tryz.results4 rfl
             simp only [d116, hs] at h
             rcases o118 : (g_law02_before x2_a2 r25.1) with _ | r117
             ·simp only [o118, hs] at h
              exact absurd h kN
             simp only [o118, hs] at h
             simp only [vz, tyf, b91, (ix24 o98), e109, e110, e111, e112, e113, d114, d115, d116, nm, seval]
             refine ktree (args0 := [.agg (cGSightPlace x2_a2), .agg (cGSightPlace r25.1)]) (by first | (simp only [nrm, tynrm] <;> rfl) | rfl) (by simp only [tre, tytre, Bool.and_self]) (g_law02_before_ok _ _ _ o118) ?_
             refine fin_cut (fun tm => tm 144 = .lit (.bool false) ∧ tm 148 = .lit (.bool true) ∧ tm 151 = .lit (.bool r117) ∧ True) (by refine ⟨?_, ?_, ?_, trivial⟩ <;> first | (simp only [ua, b91, e109, e110, e111, e112, e113, d114, d115, d116, nm, seval] <;> rfl) | rfl) ?_
             rintro tm ⟨e119, e120, e121, _⟩
             cases d122 : (r117)
             ·simp only [d122, hs] at h
              simp only [vz, tyf, b91, (ix24 o98), d114, d115, d116, e119, e120, e121, d122, nm, seval]
              refine ktree0 g_law02_known_ok ?_
              try simp only [vz, tyf, b91, (ix24 o98), d114, d115, d116, e119, e120, e121, d122, nm, seval]
              obtain rfl := kF _ h
              exact opd_bool Tryz.results4 rfl
             simp only [d122, hs] at h
             try simp only [vz, tyf, b91, (ix24 o98), d114, d115, d116, e119, e120, e121, d122, nm, seval]
             obtain rfl := kF _ h
             exact opd_bool Tryz.results4 rfl
            simp only [d115, hs] at h
            simp only [vz, tyf, b91, (ix24 o98), e109, e110, e111, e112, e113, d114, d115, nm, seval]
            refine ktree0 g_law02_known_ok ?_
            try simp only [vz, tyf, b91, (ix24 o98), e109, e110, e111, e112, e113, d114, d115, nm, seval]
            obtain rfl := kF _ h
            exact opd_bool Tryz.results4 rfl
           simp only [d114, hs] at h
           simp only [vz, tyf, b91, (ix24 o98), e109, e110, e111, e112, e113, d114, nm, seval]
           refine ktree0 g_law02_known_ok ?_
           try simp only [vz, tyf, b91, (ix24 o98), e109, e110, e111, e112, e113, d114, nm, seval]
           obtain rfl := kF _ h
           exact opd_bool Tryz.results4 rfl
          simp only [d90, hs] at h
          have b123 := And.intro b68 (And.intro d69 (And.intro d70 (And.intro d71 (And.intro d80 (And.intro d89 d90)))))
          try simp only [vz, tyf, b123, e83, e84, e85, e86, e87, e88, nm, seval]
          obtain rfl := kF _ h
          exact opd_bool Tryz.results4 rfl
         simp only [d89, hs] at h
         try simp only [vz, tyf, b68, d69, d70, d71, d80, e83, e84, e85, e86, e87, e88, d89, nm, seval]
         obtain rfl := kF _ h
         exact opd_bool Tryz.results4 rfl
        simp only [d71, hs] at h
        cases d124 : (r31.2.1 == 0)
        ·simp only [d124, hs] at h
         rcases o126 : (g_ref02_Place x0_s r25.1) with _ | r125
         ·simp only [o126, hs] at h
          exact absurd h kN
         simp only [o126, hs] at h
         simp only [vz, tyf, b68, e54, e55, e56, e57, e58, e59, e60, e61, e62, e63, d69, d70, d71, d124, nm, seval]
         refine ktree (args0 := [.agg (cGSightStreet x0_s), .agg (cGSightPlace r25.1)]) (by first | (simp only [nrm, tynrm] <;> rfl) | rfl) (by simp only [tre, tytre, Bool.and_self]) (g_ref02_Place_ok _ _ _ o126) ?_
         refine fin_cut (fun tm => tm 1 = .lit (.int .i64 x1_a1) ∧ tm 3 = .ptr 0 0 ∧ tm 5 = .ptr 1 0 ∧ tm 7 = .ptr 14 0 ∧ tm 12 = .lit (.int .i64 r39.1) ∧ tm 106 = .lit (.bool r125) ∧ True) (by refine ⟨e54, e55, e56, e57, e61, ?_, trivial⟩ <;> first | (simp only [ua, b68, e54, e55, e56, e57, e58, e59, e60, e61, e62, e63, d69, d70, d71, d124, nm, seval] <;> rfl) | rfl) ?_
         rintro tm ⟨e127, e128, e129, e130, e131, e132, _⟩
         cases d133 : (r125)
         ·simp only [d133, hs] at h
          try simp only [vz, tyf, b68, d69, d70, d71, d124, e127, e128, e129, e130, e131, e132, d133, nm, seval]
          obtain rfl := kF _ h
          exact opd_bool Tryz.results4 rfl
         simp only [d133, hs] at h
         rcases o135 : (g_sight_Seen x0_s x1_a1 r25.1) with _ | r134
         ·simp only [o135, hs] at h
          exact absurd h kN
         simp only [o135, hs] at h
         simp only [vz, tyf, b68, d69, d70, d71, d124, e127, e128, e129, e130, e131, e132, d133, nm, seval]
         refine ktree (args0 := [.agg (cGSightStreet x0_s), .lit (.int .i64 x1_a1), .agg (cGSightPlace r25.1)]) (by first | (simp only [nrm, tynrm] <;> rfl) | rfl) (by simp only [tre, tytre, Bool.and_self]) (g_sight_Seen_ok _ _ _ _ o135) ?_
         refine fin_cut (fun tm => tm 1 = .lit (.int .i64 x1_a1) ∧ tm 3 = .ptr 0 0 ∧ tm 5 = .ptr 1 0 ∧ tm 7 = .ptr 14 0 ∧ tm 12 = .lit (.int .i64 r39.1) ∧ tm 112 = .tup [.lit (.int .i64 r134.1), .lit (.int .i64 r134.2)] ∧ True) (by refine ⟨e127, e128, e129, e130, e131, ?_, trivial⟩ <;> first | (simp only [ua, b68, d69, d70, d71, d124, e127, e128, e129, e130, e131, e132, d133, nm, seval] <;> rfl) | rfl) ?_
         rintro tm ⟨e136, e137, e138, e139, e140, e141, _⟩
         cases d142 : (r134.2 != 0)
         ·simp only [d142, hs] at h
          have b143 := And.intro b68 (And.intro d69 (And.intro d70 (And.intro d71 (And.intro d124 (And.intro d133 d142)))))
          cases d144 : (r134.1 != 3)
          ·simp only [d144, hs] at h
           simp only [vz, tyf, b143, e136, e137, e138, e139, e140, e141, d144, nm, seval]
           refine cwp_drwQF (fun tm => tm 1 = .lit (.int .i64 x1_a1) ∧ tm 3 = .ptr 0 0 ∧ tm 5 = .ptr 1 0 ∧ tm 7 = .ptr 14 0 ∧ tm 12 = .lit (.int .i64 r39.1) ∧ True) (by refine ⟨e136, e137, e138, e139, e140, trivial⟩ <;> first | (simp only [ua, b143, e136, e137, e138, e139, e140, e141, d144, nm, seval] <;> rfl) | rfl) ?_
           rintro tm ⟨e145, e146, e147, e148, e149, _⟩
           rcases o151 : (getI x0_s.Boards x1_a1) with _ | x150
           ·simp only [o151, hs] at h
            exact absurd h kN
           simp only [o151, hs] at h
           rcases o153 : (g_ref02_Far x150.At x2_a2) with _ | r152
           ·simp only [o153, hs] at h
            exact absurd h kN
           simp only [o153, hs] at h
           simp only [vz, tyf, b143, d144, e145, e146, e147, e148, e149, (ix24 o151), nm, seval]
           refine dktree (args0 := [.lit (.int .i64 x150.At), .agg (cGSightPlace x2_a2)]) (by first | (simp only [nrm, tynrm] <;> rfl) | rfl) (by simp only [tre, tytre, Bool.and_self]) (g_ref02_Far_ok _ _ _ o153) ?_
           refine fin_cut (fun tm => tm 1 = .lit (.int .i64 x1_a1) ∧ tm 3 = .ptr 0 0 ∧ tm 5 = .ptr 1 0 ∧ tm 7 = .ptr 14 0 ∧ tm 12 = .lit (.int .i64 r39.1) ∧ tm 128 = .lit (.int .i64 r152) ∧ True) (by refine ⟨e145, e146, e147, e148, e149, ?_, trivial⟩ <;> first | (simp only [ua, b143, d144, e145, e146, e147, e148, e149, nm, seval] <;> rfl) | rfl) ?_
           rintro tm ⟨e154, e155, e156, e157, e158, e159, _⟩
           rcases o161 : (g_ref02_Far x150.At r25.1) with _ | r160
           ·simp only [o161, hs] at h
            exact absurd h kN
           simp only [o161, hs] at h
           simp only [vz, tyf, b143, d144, (ix24 o151), e154, e155, e156, e157, e158, e159, nm, seval]
           refine dktree (args0 := [.lit (.int .i64 x150.At), .agg (cGSightPlace r25.1)]) (by first | (simp only [nrm, tynrm] <;> rfl) | rfl) (by simp only [tre, tytre, Bool.and_self]) (g_ref02_Far_ok _ _ _ o161) ?_
           refine fin_cut (fun tm => tm 5 = .ptr 1 0 ∧ tm 7 = .ptr 14 0 ∧ tm 12 = .lit (.int .i64 r39.1) ∧ tm 128 = .lit (.int .i64 r152) ∧ tm 136 = .lit (.int .i64 r160) ∧ True) (by refine ⟨e156, e157, e158, e159, ?_, trivial⟩ <;> first | (simp only [ua, b143, d144, e154, e155, e156, e157, e158, e159, nm, seval] <;> rfl) | rfl) ?_
           rintro tm ⟨e162, e163, e164, e165, e166, _⟩
           cases d167 : (r39.1 != 3)
           ·simp only [d167, hs] at h
            cases d168 : (decide (r152 < r160))
            ·simp only [d168, hs] at h
             cases d169 : (r152 == r160)
             ·simp only [d169, hs] at h
              try simp only [vz, tyf, b143, d144, (ix24 o151), e162, e163, e164, e165, e166, d167, d168, d169, nm, seval]
              obtain rfl := kF _ h
              exact opd_bool Tryz.results4 rfl
             simp only [d169, hs] at h
             rcases o171 : (g_law02_before x2_a2 r25.1) with _ | r170
             ·simp only [o171, hs] at h
              exact absurd h kN
             simp only [o171, hs] at h
             simp only [vz, tyf, b143, d144, (ix24 o151), e162, e163, e164, e165, e166, d167, d168, d169, nm, seval]
             refine ktree (args0 := [.agg (cGSightPlace x2_a2), .agg (cGSightPlace r25.1)]) (by first | (simp only [nrm, tynrm] <;> rfl) | rfl) (by simp only [tre, tytre, Bool.and_self]) (g_law02_before_ok _ _ _ o171) ?_
             refine fin_cut (fun tm => tm 144 = .lit (.bool false) ∧ tm 148 = .lit (.bool true) ∧ tm 151 = .lit (.bool r170) ∧ True) (by refine ⟨?_, ?_, ?_, trivial⟩ <;> first | (simp only [ua, b143, d144, e162, e163, e164, e165, e166, d167, d168, d169, nm, seval] <;> rfl) | rfl) ?_
             rintro tm ⟨e172, e173, e174, _⟩
             cases d175 : (r170)
             ·simp only [d175, hs] at h
              simp only [vz, tyf, b143, d144, (ix24 o151), d167, d168, d169, e172, e173, e174, d175, nm, seval]
              refine ktree0 g_law02_known_ok ?_
              try simp only [vz, tyf, b143, d144, (ix24 o151), d167, d168, d169, e172, e173, e174, d175, nm, seval]
              obtain rfl := kF _ h
              exact opd_bool Tryz.results4 rfl
             simp only [d175, hs] at h
             try simp only [vz, tyf, b143, d144, (ix24 o151), d167, d168, d169, e172, e173, e174, d175, nm, seval]
             obtain rfl := kF _ h
             exact opd_bool Tryz.results4 rfl
            simp only [d168, hs] at h
            simp only [vz, tyf, b143, d144, (ix24 o151), e162, e163, e164, e165, e166, d167, d168, nm, seval]
            refine ktree0 g_law02_known_ok ?_
            try simp only [vz, tyf, b143, d144, (ix24 o151), e162, e163, e164, e165, e166, d167, d168, nm, seval]
            obtain rfl := kF _ h
            exact opd_bool Tryz.results4 rfl
           simp only [d167, hs] at h
           simp only [vz, tyf, b143, d144, (ix24 o151), e162, e163, e164, e165, e166, d167, nm, seval]
           refine ktree0 g_law02_known_ok ?_
           try simp only [vz, tyf, b143, d144, (ix24 o151), e162, e163, e164, e165, e166, d167, nm, seval]
           obtain rfl := kF _ h
           exact opd_bool Tryz.results4 rfl
          simp only [d144, hs] at h
          try simp only [vz, tyf, b143, e136, e137, e138, e139, e140, e141, d144, nm, seval]
          obtain rfl := kF _ h
          exact opd_bool Tryz.results4 rfl
         simp only [d142, hs] at h
         have b176 := And.intro b68 (And.intro d69 (And.intro d70 (And.intro d71 (And.intro d124 (And.intro d133 d142)))))
         try simp only [vz, tyf, b176, e136, e137, e138, e139, e140, e141, nm, seval]
         obtain rfl := kF _ h
         exact opd_bool Tryz.results4 rfl
        simp only [d124, hs] at h
        try simp only [vz, tyf, b68, e54, e55, e56, e57, e58, e59, e60, e61, e62, e63, d69, d70, d71, d124, nm, seval]
        obtain rfl := kF _ h
        exact opd_bool Tryz.results4 rfl
       simp only [d70, hs] at h
       try simp only [vz, tyf, b68, e54, e55, e56, e57, e58, e59, e60, e61, e62, e63, d69, d70, nm, seval]
       obtain rfl := kF _ h
       exact opd_bool Tryz.results4 rfl
      simp only [d69, hs] at h
      try simp only [vz, tyf, b68, e54, e55, e56, e57, e58, e59, e60, e61, e62, e63, d69, nm, seval]
      obtain rfl := kF _ h
      exact opd_bool Tryz.results4 rfl
     simp only [d67, hs] at h
     have b177 := And.intro d24 (And.intro d50 (And.intro d51 (And.intro d64 (And.intro d65 (And.intro d66 d67)))))
     try simp only [vz, tyf, b177, e54, e55, e56, e57, e58, e59, e60, e61, e62, e63, nm, seval]
     obtain rfl := kF _ h
     exact opd_bool Tryz.results4 rfl
    simp only [d66, hs] at h
    try simp only [vz, tyf, d24, d50, d51, e54, e55, e56, e57, e58, e59, e60, e61, e62, e63, d64, d65, d66, nm, seval]
    obtain rfl := kF _ h
    exact opd_bool Tryz.results4 rfl
   simp only [d65, hs] at h
   cases d178 : (r25.2 != 5)
   ·simp only [d178, hs] at h
    cases d179 : (decide (r31.1 < 0))
    ·simp only [d179, hs] at h
     have b180 := And.intro d24 (And.intro d50 (And.intro d51 (And.intro d64 (And.intro d65 (And.intro d178 d179)))))
     cases d181 : (decide (r31.2.1 < r31.1))
     ·simp only [d181, hs] at h
      cases d182 : (decide (r31.2.1 > (IntKind.i64.wrap ((IntKind.i64.wrap (x0_s.Length + 1)) * x0_s.Width))))
      ·simp only [d182, hs] at h
       cases d183 : ((decide (r31.1 > 0)) != (r25.2 == 0))
       ·simp only [d183, hs] at h
        cases d184 : (r39.1 != 1)
        ·simp only [d184, hs] at h
         cases d185 : (r39.1 != 3)
         ·simp only [d185, hs] at h
          try simp only [vz, tyf, b180, e54, e55, e56, e57, e58, e59, e60, e61, e62, e63, d181, d182, d183, d184, d185, nm, seval]
          obtain rfl := kF _ h
          exact opd_bool Tryz.results4 rfl
         simp only [d185, hs] at h
         simp only [vz, tyf, b180, e54, e55, e56, e57, e58, e59, e60, e61, e62, e63, d181, d182, d183, d184, d185, nm, seval]
         refine ktree0 g_law02_known_ok ?_
         try simp only [vz, tyf, b180, e54, e55, e56, e57, e58, e59, e60, e61, e62, e63, d181, d182, d183, d184, d185, nm, seval]
         obtain rfl := kF _ h
         exact opd_bool Tryz.results4 rfl
        simp only [d184, hs] at h
        cases d186 : (r31.2.1 == 0)
        ·simp only [d186, hs] at h
         cases d187 : (r39.1 != 3)
         ·simp only [d187, hs] at h
          have b188 := And.intro b180 (And.intro d181 (And.intro d182 (And.intro d183 (And.intro d184 (And.intro d186 d187)))))
          try simp only [vz, tyf, b188, e54, e55, e56, e57, e58, e59, e60, e61, e62, e63, nm, seval]
          obtain rfl := kF _ h
          exact opd_bool Tryz.results4 rfl
         simp only [d187, hs] at h
         have b189 := And.intro b180 (And.intro d181 (And.intro d182 (And.intro d183 (And.intro d184 (And.intro d186 d187)))))
         simp only [vz, tyf, b189, e54, e55, e56, e57, e58, e59, e60, e61, e62, e63, nm, seval]
         refine ktree0 g_law02_known_ok ?_
         try simp only [vz, tyf, b189, e54, e55, e56, e57, e58, e59, e60, e61, e62, e63, nm, seval]
         obtain rfl := kF _ h
         exact opd_bool Tryz.results4 rfl
        simp only [d186, hs] at h
        try simp only [vz, tyf, b180, e54, e55, e56, e57, e58, e59, e60, e61, e62, e63, d181, d182, d183, d184, d186, nm, seval]
        obtain rfl := kF _ h
        exact opd_bool Tryz.results4 rfl
       simp only [d183, hs] at h
       try simp only [vz, tyf, b180, e54, e55, e56, e57, e58, e59, e60, e61, e62, e63, d181, d182, d183, nm, seval]
       obtain rfl := kF _ h
       exact opd_bool Tryz.results4 rfl
      simp only [d182, hs] at h
      try simp only [vz, tyf, b180, e54, e55, e56, e57, e58, e59, e60, e61, e62, e63, d181, d182, nm, seval]
      obtain rfl := kF _ h
      exact opd_bool Tryz.results4 rfl
     simp only [d181, hs] at h
     try simp only [vz, tyf, b180, e54, e55, e56, e57, e58, e59, e60, e61, e62, e63, d181, nm, seval]
     obtain rfl := kF _ h
     exact opd_bool Tryz.results4 rfl
    simp only [d179, hs] at h
    have b190 := And.intro d24 (And.intro d50 (And.intro d51 (And.intro d64 (And.intro d65 (And.intro d178 d179)))))
    try simp only [vz, tyf, b190, e54, e55, e56, e57, e58, e59, e60, e61, e62, e63, nm, seval]
    obtain rfl := kF _ h
    exact opd_bool Tryz.results4 rfl
   simp only [d178, hs] at h
   try simp only [vz, tyf, d24, d50, d51, e54, e55, e56, e57, e58, e59, e60, e61, e62, e63, d64, d65, d178, nm, seval]
   obtain rfl := kF _ h
   exact opd_bool Tryz.results4 rfl
  simp only [d51, hs] at h
  try simp only [vz, tyf, d24, e41, e42, e43, e44, e45, e46, e47, e48, e49, d50, d51, nm, seval]
  obtain rfl := kF _ h
  exact opd_bool Tryz.results4 rfl
 simp only [d50, hs] at h
 try simp only [vz, tyf, d24, e41, e42, e43, e44, e45, e46, e47, e48, e49, d50, nm, seval]
 obtain rfl := kF _ h
 exact opd_bool Tryz.results4 rfl
end Go.V
end
section
namespace Go.V
open Go
theorem right_eq (s : GSightStreet) (n : Int) (p : GSightPlace) (h : FineS s) (bs : Bool) (hb : g_law02_short s = some bs) : g_law02_right s n p = some (bs && (streetB s && (numB s n && placeB s p))) := by
 simp only [g_law02_right, hb, Option.bind_some, refStreet_eq s h, refBoard_eq, refPlace_eq, csome, numB]
theorem rowP_mem {a : Int} {p : GSightPlace} : ∀ (k : Nat) (c : Int), p.Along = a → c + 1 ≤ p.Across → p.Across ≤ c + k → p ∈ rowP a k c
 | 0, c, _, h1, h2 => by omega
 | k + 1, c, h0, h1, h2 => by
  unfold rowP
  by_cases h : p.Across = c + 1
  ·have : p = ⟨a, c + 1⟩ := by cases p; simp at h h0 ⊢; exact ⟨h0, h⟩
   rw [this]; exact List.mem_cons_self ..
  ·exact List.mem_cons_of_mem _ (rowP_mem k (c + 1) h0 (by omega) (by omega))
theorem gridP_mem {w : Nat} {p : GSightPlace} (h1 : 1 ≤ p.Across) (h2 : p.Across ≤ w) : ∀ (k : Nat) (c : Int), c ≤ p.Along → p.Along < c + k → p ∈ gridP w k c
 | 0, c, _, _ => by omega
 | k + 1, c, h3, h4 => by
  unfold gridP
  by_cases h : p.Along = c
  ·exact List.mem_append.2 (.inl (rowP_mem w 0 h (by omega) (by omega)))
  ·exact List.mem_append.2 (.inr (gridP_mem h1 h2 k (c + 1) (by omega) (by omega)))
theorem allP_mem {s : GSightStreet} {p : GSightPlace} (h : placeB s p = true) : p ∈ allP s := by
 simp only [placeB, Bool.and_eq_true, inB_iff] at h
 exact gridP_mem h.2.1 (by omega) _ 0 h.1.1 (by omega)
theorem gridP_length {w : Nat} : ∀ (k : Nat) (c : Int), (gridP w k c).length = k * w
 | 0, c => by simp [gridP]
 | k + 1, c => by simp only [gridP, List.length_append, rowP_len, gridP_length k (c + 1), Nat.succ_mul]; omega
def bfB (p q : GSightPlace) : Bool := cond (decide (p.Along < q.Along)) true (cond (p.Along == q.Along) (decide (p.Across < q.Across)) false)
theorem before_eq (p q : GSightPlace) : g_law02_before p q = some (bfB p q) := by
 unfold g_law02_before bfB
 cases decide (p.Along < q.Along) <;> cases (p.Along == q.Along) <;> rfl
theorem bf_iff {p q : GSightPlace} : bfB p q = true ↔ p.Along < q.Along ∨ (p.Along = q.Along ∧ p.Across < q.Across) := by
 unfold bfB
 by_cases h1 : p.Along < q.Along
 ·simp [h1]
 ·by_cases h2 : p.Along = q.Along
  ·simp [h2]
  ·simp [h1, h2]
theorem rowP_sorted {a : Int} : ∀ (k : Nat) (c : Int), (rowP a k c).Pairwise fun p q => bfB p q = true
 | 0, c => by simp [rowP]
 | k + 1, c => by
  unfold rowP
  refine List.pairwise_cons.2 ⟨fun q hq => ?_, rowP_sorted k (c + 1)⟩
  have := mem_rowP _ _ hq
  exact bf_iff.2 (.inr ⟨this.1.symm, by show c + 1 < q.Across; omega⟩)
theorem gridP_sorted {w : Nat} : ∀ (k : Nat) (c : Int), (gridP w k c).Pairwise fun p q => bfB p q = true
 | 0, c => by simp [gridP]
 | k + 1, c => by
  unfold gridP
  refine List.pairwise_append.2 ⟨rowP_sorted _ _, gridP_sorted k (c + 1), fun p hp q hq => ?_⟩
  have h1 := mem_rowP _ _ hp
  have h2 := mem_gridP _ _ hq
  exact bf_iff.2 (.inl (by omega))
theorem mx_fold {a : Int} : ∀ (l : List GSightPlace) (q : GSightPlace), (q :: l).Pairwise (fun p q => bfB p q = true) →
  (l.foldl (mxP a) q = q ∨ (l.foldl (mxP a) q ∈ l ∧ farI a q < farI a (l.foldl (mxP a) q))) ∧ ∀ r ∈ q :: l, farI a r ≤ farI a (l.foldl (mxP a) q) ∧ (farI a r = farI a (l.foldl (mxP a) q) → l.foldl (mxP a) q = r ∨ bfB (l.foldl (mxP a) q) r = true)
 | [], q, _ => ⟨.inl rfl, fun r hr => by rw [List.mem_singleton.1 hr]; exact ⟨Int.le_refl _, fun _ => .inl rfl⟩⟩
 | r :: l, q, h => by
  have hq := (List.pairwise_cons.1 h).1
  have hl := (List.pairwise_cons.1 h).2
  have hql : (q :: l).Pairwise (fun p q => bfB p q = true) := List.pairwise_cons.2 ⟨fun y hy => hq y (List.mem_cons_of_mem _ hy), (List.pairwise_cons.1 hl).2⟩
  simp only [List.foldl_cons]
  by_cases hgt : farI a r > farI a q
  ·have e : mxP a q r = r := by unfold mxP; rw [decide_eq_true hgt]; rfl
   rw [e]
   obtain ⟨h1, h2⟩ := mx_fold (a := a) l r hl
   have h3 := (h2 r (List.mem_cons_self ..)).1
   refine ⟨.inr ⟨?_, by omega⟩, fun y hy => ?_⟩
   ·rcases h1 with h1 | h1
    ·rw [h1]; exact List.mem_cons_self ..
    ·exact List.mem_cons_of_mem _ h1.1
   ·rcases List.mem_cons.1 hy with rfl | hy
    ·exact ⟨by omega, fun he => by omega⟩
    ·exact h2 y hy
  ·have e : mxP a q r = q := by unfold mxP; rw [decide_eq_false hgt]; rfl
   rw [e]
   obtain ⟨h1, h2⟩ := mx_fold (a := a) l q hql
   have h3 := (h2 q (List.mem_cons_self ..)).1
   refine ⟨h1.imp id (fun h => ⟨List.mem_cons_of_mem _ h.1, h.2⟩), fun y hy => ?_⟩
   rcases List.mem_cons.1 hy with rfl | hy
   ·exact h2 y (List.mem_cons_self ..)
   ·rcases List.mem_cons.1 hy with rfl | hy
    ·refine ⟨by omega, fun he => ?_⟩
     rcases h1 with h1 | h1
     ·rw [h1]; exact .inr (hq _ (List.mem_cons_self ..))
     ·omega
    ·exact h2 y (List.mem_cons_of_mem _ hy)
theorem bf_asym {p q : GSightPlace} (h : p = q ∨ bfB p q = true) : bfB q p = false := by
 cases hh : bfB q p with
 | false => rfl
 | true =>
  have h2 := bf_iff.1 hh
  rcases h with rfl | h
  ·omega
  ·have h1 := bf_iff.1 h; omega
theorem seen_word (s : GSightStreet) (b : GSightBoard) (p : GSightPlace) : g_law02_word (seenI s b p) = some true := by
 unfold seenI
 cases sureB s b p <;> cases mayB s b p <;> rfl
theorem SightAway_true (s : GSightStreet) (n : Int) (p : GSightPlace) (h : FineS s) : g_law02_SightAway s n p = some true := by
 obtain ⟨bs, hb⟩ := short_some s h
 unfold g_law02_SightAway
 rw [right_eq s n p h bs hb]
 simp only [Option.bind_some]
 cases hr : (bs && (streetB s && (numB s n && placeB s p))) with
 | false => rfl
 | true =>
 simp only [Bool.and_eq_true] at hr
 obtain ⟨_, h1, h2, h3⟩ := hr
 obtain ⟨b, b1, hl, hw, hg⟩ := all_good h1 h2
 have hpm := allP_mem h3
 have hseen : ∀ q, placeB s q = true → g_sight_Seen s n q = some (seenI s b q, 0) := by
  intro q hq
  rcases Seen_eq s n q h with ⟨b', b2, _, _, _, _, _, e⟩ | ⟨e, _⟩
  ·rw [b1] at b2; cases b2; exact e
  ·rw [h1, h2, hq] at e; cases e
 rw [hseen p h3, Farthest_eq h h1 h2 b1 hl hw hg, Many_eq h h1 h2 b1 hl hw hg]
 simp only [Option.bind_some, seen_word, cond_true, bne_self_eq_false, cond_false]
 have hlen : ((allP s).length : Int) = (s.Length + 1) * s.Width := by
  unfold allP
  rw [gridP_length, Int.natCast_mul]
  rw [show ((s.Length + 1).toNat : Int) = s.Length + 1 by omega, show (s.Width.toNat : Int) = s.Width by omega]
 have hmx : (s.Length + 1) * s.Width ≤ 41 * 12 := Int.mul_le_mul (by omega) (by omega) (by omega) (by omega)
 have hmn : 0 ≤ (s.Length + 1) * s.Width := Int.mul_nonneg (by omega) (by omega)
 have hm := List.length_filter_le (fun q => decide (seenI s b q ≥ 2)) (allP s)
 have hnm : ((allP s).filter fun q => seenI s b q == 3).length ≤ ((allP s).filter fun q => decide (seenI s b q ≥ 2)).length := by
  have e : ((allP s).filter fun q => seenI s b q == 3) = ((allP s).filter fun q => decide (seenI s b q ≥ 2)).filter fun q => seenI s b q == 3 := by
   rw [List.filter_filter]
   congr 1
   funext q
   by_cases hq : seenI s b q = 3
   ·simp [hq]
   ·simp [hq]
  rw [e]
  exact List.length_filter_le ..
 have hmp : seenI s b p ≠ 1 → 0 < ((allP s).filter fun q => decide (seenI s b q ≥ 2)).length := by
  intro hne
  apply List.length_pos_of_mem (a := p)
  refine List.mem_filter.2 ⟨hpm, ?_⟩
  rw [seen2]
  simpa using hne
 have e3 : ((allP s).filter fun q => seenI s b q == 3) = (allP s).filter (sureB s b) := by congr 1; funext q; exact seen3 q
 have hsp : (seenI s b p != 3) = !sureB s b p := by rw [bne, seen3]
 rw [wrap_eq (n := s.Length + 1) (by omega) (by omega), wrap_eq (n := (s.Length + 1) * s.Width) (by omega) (by omega)]
 rw [decide_eq_false (show ¬ ((((allP s).filter fun q => seenI s b q == 3).length : Int) < 0) by omega), decide_eq_false (show ¬ ((((allP s).filter fun q => decide (seenI s b q ≥ 2)).length : Int) < ((allP s).filter fun q => seenI s b q == 3).length) by omega),
  decide_eq_false (show ¬ ((((allP s).filter fun q => decide (seenI s b q ≥ 2)).length : Int) > (s.Length + 1) * s.Width) by omega)]
 rw [e3] at hnm ⊢
 simp only [hsp]
 have hz : (seenI s b p != 1) = true → ((((allP s).filter fun q => decide (seenI s b q ≥ 2)).length : Int) == 0) = false := by
  intro hne
  have := hmp (by simpa using hne)
  exact beq_false_of_ne (by omega)
 cases hL : (allP s).filter (sureB s b) with
 | nil =>
  have hnp : sureB s b p = false := by
   cases hh : sureB s b p with
   | false => rfl
   | true =>
    have : p ∈ (allP s).filter (sureB s b) := List.mem_filter.2 ⟨hpm, hh⟩
    rw [hL] at this; cases this
  rw [hnp]
  cases hne : (seenI s b p != 1) with
  | true => rw [hz hne]; rfl
  | false => rfl
 | cons x t =>
  have hsorted : (x :: t).Pairwise fun p q => bfB p q = true := by
   rw [← hL]
   exact (gridP_sorted _ _).sublist List.filter_sublist
  have hxx : mxP b.At x x = x := by unfold mxP; rw [decide_eq_false (by omega)]; rfl
  have hF := mx_fold (a := b.At) t x hsorted
  simp only [List.foldl_cons, hxx]
  generalize hFd : t.foldl (mxP b.At) x = F at hF ⊢
  obtain ⟨hF1, hF2⟩ := hF
  have hFm : F ∈ (allP s).filter (sureB s b) := by
   rw [hL]
   rcases hF1 with h | h
   ·rw [h]; exact List.mem_cons_self ..
   ·exact List.mem_cons_of_mem _ h.1
  obtain ⟨hFa, hFs⟩ := List.mem_filter.1 hFm
  have hFp : placeB s F = true := by
   have := mem_gridP _ _ hFa
   simp only [placeB, Bool.and_eq_true, inB_iff]
   omega
  have hsF : seenI s b F = 3 := by have := seen3 (s := s) (b := b) F; rw [hFs] at this; simpa using this
  have f1 := rfar_eq b.At p (fair_good (hg p hpm)).1
  have f2 := rfar_eq b.At F (fair_good (hg F hFa)).1
  simp only [refPlace_eq, hFp, hseen F hFp, hsF, b1, f1, f2, before_eq, Option.bind_some, cond_true, cond_false]
  have hlen0 : decide (((x :: t).length : Int) > 0) = true := decide_eq_true (by simp only [List.length_cons]; omega)
  rw [hlen0]
  have hfin : sureB s b p = true → cond (decide (farI b.At p < farI b.At F)) (some true) (cond (farI b.At p == farI b.At F) (cond (bfB p F) (some false) (some true)) (some false)) = some true := by
   intro hsu
   have hpL : p ∈ x :: t := by rw [← hL]; exact List.mem_filter.2 ⟨hpm, hsu⟩
   obtain ⟨g1, g2⟩ := hF2 p hpL
   by_cases hlt : farI b.At p < farI b.At F
   ·rw [decide_eq_true hlt]; rfl
   ·have he : farI b.At p = farI b.At F := by omega
    rw [decide_eq_false hlt, he, beq_self_eq_true, bf_asym (g2 he)]
    rfl
  cases hsu : sureB s b p with
  | false =>
   cases hne : (seenI s b p != 1) with
   | true => rw [hz hne]; rfl
   | false => rfl
  | true =>
   have := hfin hsu
   cases hne : (seenI s b p != 1) with
   | true => rw [hz hne]; exact this
   | false => exact this
end Go.V
end
