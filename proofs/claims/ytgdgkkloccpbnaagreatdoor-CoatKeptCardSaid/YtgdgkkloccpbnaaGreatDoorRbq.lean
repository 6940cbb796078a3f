/- Part of a proof: a logic of values by content, lifted functions, what follows. -/
import Derived.Test.YtgdgkkloccpbnaaGreatDoorRbf
import Derived.Test.YtgdgkkloccpbnaaGreatDoorRbi
import Derived.Test.YtgdgkkloccpbnaaGreatDoorRbp
import Derived.Test.YtgdgkkloccpbnaaGreatDoorRbo
import Derived.Test.YtgdgkkloccpbnaaGreatDoorRbh
import Derived.Test.YtgdgkkloccpbnaaGreatDoorRbn
set_option linter.all false
set_option maxRecDepth 4000
set_option maxHeartbeats 40000000
section
namespace Go.V
open Go Go.Proofs
def g_law03_CoatKept (x0_s : GCoatSheet) (x1_a1 : List Int) (x2_a2 : Int) (x3_a3 : List Int) : Option (Bool) := Option.bind (g_law03_right x0_s x1_a1) (fun r1 => cond (r1) (Option.bind (g_ref03_Day x0_s x2_a2) (fun r2 => cond (r2) (Option.bind (g_law03_right x0_s x3_a3) (fun r3 => cond (r3) (Option.bind (g_coat_Mend x0_s x1_a1 x2_a2) (fun r4 => Option.bind (g_law03_surely x0_s x1_a1) (fun r5 => Option.bind (g_law03_surely x0_s x3_a3) (fun r6 => cond (r6.1) (Option.bind (g_ref03_Keeps x3_a3 x1_a1 x2_a2) (fun r7 => cond (r5.2) (cond (r6.2) (cond (r4.2.2 != 0) (cond (r4.2.2 != 5) (some false) (cond (r7) (some false) (cond (r5.1) (some false) (some true)))) (Option.bind (g_ref03_Plan x0_s r4.1) (fun r8 => cond (r8) (Option.bind (g_ref03_Keeps r4.1 x1_a1 x2_a2) (fun r9 => cond (r9) (Option.bind (g_ref03_Changes r4.1 x1_a1) (fun r10 => cond (r10 != r4.2.1) (some false) (cond (r5.1) (cond (r4.2.1 != 0) (some false) (Option.bind (g_law03_surely x0_s r4.1) (fun r11 => Option.bind (g_ref03_Changes x3_a3 x1_a1) (fun r12 => cond (r11.2) (cond (r11.1) (cond (r7) (cond (decide (r12 > r4.2.1)) (some true) (cond (r12 == r4.2.1) (Option.bind (g_ref01_Before x3_a3 r4.1) (fun r13 => cond (r13) (some false) (some true))) (some false))) (some true)) (some false)) (some false))))) (Option.bind (g_law03_surely x0_s r4.1) (fun r14 => Option.bind (g_ref03_Changes x3_a3 x1_a1) (fun r15 => cond (r14.2) (cond (r14.1) (cond (r7) (cond (decide (r15 > r4.2.1)) (some true) (cond (r15 == r4.2.1) (Option.bind (g_ref01_Before x3_a3 r4.1) (fun r16 => cond (r16) (some false) (some true))) (some false))) (some true)) (some false)) (some false))))))) (some false))) (some false)))) (some false)) (some false))) (cond (r5.2) (cond (r6.2) (cond (r4.2.2 != 0) (cond (r4.2.2 != 5) (some false) (cond (r5.1) (some false) (some true))) (Option.bind (g_ref03_Plan x0_s r4.1) (fun r17 => cond (r17) (Option.bind (g_ref03_Keeps r4.1 x1_a1 x2_a2) (fun r18 => cond (r18) (Option.bind (g_ref03_Changes r4.1 x1_a1) (fun r19 => cond (r19 != r4.2.1) (some false) (cond (r5.1) (cond (r4.2.1 != 0) (some false) (Option.bind (g_law03_surely x0_s r4.1) (fun r20 => Option.bind (g_ref03_Changes x3_a3 x1_a1) (fun r21 => cond (r20.2) (cond (r20.1) (some true) (some false)) (some false))))) (Option.bind (g_law03_surely x0_s r4.1) (fun r22 => Option.bind (g_ref03_Changes x3_a3 x1_a1) (fun r23 => cond (r22.2) (cond (r22.1) (some true) (some false)) (some false))))))) (some false))) (some false)))) (some false)) (some false)))))) (some true))) (some true))) (some true))
theorem g_law03_CoatKept_ok (x0_s : GCoatSheet) (x1_a1 : List Int) (x2_a2 : Int) (x3_a3 : List Int) (R : Bool) (h : g_law03_CoatKept x0_s x1_a1 x2_a2 x3_a3 = some R) : VPure Tryz.prog G0 12 [.agg (cGCoatSheet x0_s), .sl (cellsL eI x1_a1) (List.length x1_a1) false, .lit (.int .i64 x2_a2), .sl (cellsL eI x3_a3) (List.length x3_a3) false] (.tree (.lit (.bool R))) := by
 refine VPure.runR mixed Tryz.call12 Tryz.func12 rfl (by simp [Tryz.ntmps12]; kernel_rfl) ?_
 obtain ⟨KF, h, kF, kN⟩ := fun_intro h
 simp only [g_law03_CoatKept] at h
 rcases o25 : (g_law03_right x0_s x1_a1) with _ | r24
 ·simp only [o25, hs] at h
  exact absurd h kN
 simp only [o25, hs] at h
 simp only [vz, tyf, nm, seval]
 refine ktree (args0 := [.agg (cGCoatSheet x0_s), .sl (cellsL eI x1_a1) (List.length x1_a1) false]) (by first | (simp only [nrm, tynrm] <;> rfl) | rfl) (by simp only [tre, tytre, Bool.and_self]) (g_law03_right_ok _ _ _ o25) ?_
 refine fin_cut (fun tm => tm 1 = .sl (cellsL eI x1_a1) (List.length x1_a1) false ∧ tm 2 = .lit (.int .i64 x2_a2) ∧ tm 3 = .sl (cellsL eI x3_a3) (List.length x3_a3) false ∧ tm 4 = .ptr 0 0 ∧ tm 21 = .lit (.bool r24) ∧ True) (by refine ⟨?_, ?_, ?_, ?_, ?_, trivial⟩ <;> first | (simp only [ua, nm, seval] <;> rfl) | rfl) ?_
 rintro tm ⟨e26, e27, e28, e29, e30, _⟩
 cases d31 : (r24)
 ·simp only [d31, hs] at h
  simp only [vz, tyf, e26, e27, e28, e29, e30, d31, nm, seval]
  refine ktree0 g_law03_known_ok ?_
  try simp only [vz, tyf, e26, e27, e28, e29, e30, d31, nm, seval]
  obtain rfl := kF _ h
  exact opd_bool Tryz.results12 rfl
 simp only [d31, hs] at h
 rcases o33 : (g_ref03_Day x0_s x2_a2) with _ | r32
 ·simp only [o33, hs] at h
  exact absurd h kN
 simp only [o33, hs] at h
 simp only [vz, tyf, e26, e27, e28, e29, e30, d31, nm, seval]
 refine ktree (args0 := [.agg (cGCoatSheet x0_s), .lit (.int .i64 x2_a2)]) (by first | (simp only [nrm, tynrm] <;> rfl) | rfl) (by simp only [tre, tytre, Bool.and_self]) (g_ref03_Day_ok _ _ _ o33) ?_
 refine fin_cut (fun tm => tm 1 = .sl (cellsL eI x1_a1) (List.length x1_a1) false ∧ tm 2 = .lit (.int .i64 x2_a2) ∧ tm 3 = .sl (cellsL eI x3_a3) (List.length x3_a3) false ∧ tm 4 = .ptr 0 0 ∧ tm 23 = .lit (.bool false) ∧ tm 26 = .lit (.bool r32) ∧ True) (by refine ⟨e26, e27, e28, e29, ?_, ?_, trivial⟩ <;> first | (simp only [ua, e26, e27, e28, e29, e30, d31, nm, seval] <;> rfl) | rfl) ?_
 rintro tm ⟨e34, e35, e36, e37, e38, e39, _⟩
 cases d40 : (r32)
 ·simp only [d40, hs] at h
  simp only [vz, tyf, d31, e34, e35, e36, e37, e38, e39, d40, nm, seval]
  refine ktree0 g_law03_known_ok ?_
  try simp only [vz, tyf, d31, e34, e35, e36, e37, e38, e39, d40, nm, seval]
  obtain rfl := kF _ h
  exact opd_bool Tryz.results12 rfl
 simp only [d40, hs] at h
 rcases o42 : (g_law03_right x0_s x3_a3) with _ | r41
 ·simp only [o42, hs] at h
  exact absurd h kN
 simp only [o42, hs] at h
 simp only [vz, tyf, d31, e34, e35, e36, e37, e38, e39, d40, nm, seval]
 refine ktree (args0 := [.agg (cGCoatSheet x0_s), .sl (cellsL eI x3_a3) (List.length x3_a3) false]) (by first | (simp only [nrm, tynrm] <;> rfl) | rfl) (by simp only [tre, tytre, Bool.and_self]) (g_law03_right_ok _ _ _ o42) ?_
 refine fin_cut (fun tm => tm 1 = .sl (cellsL eI x1_a1) (List.length x1_a1) false ∧ tm 2 = .lit (.int .i64 x2_a2) ∧ tm 3 = .sl (cellsL eI x3_a3) (List.length x3_a3) false ∧ tm 4 = .ptr 0 0 ∧ tm 29 = .lit (.bool false) ∧ tm 32 = .lit (.bool r41) ∧ True) (by refine ⟨e34, e35, e36, e37, ?_, ?_, trivial⟩ <;> first | (simp only [ua, d31, e34, e35, e36, e37, e38, e39, d40, nm, seval] <;> rfl) | rfl) ?_
 rintro tm ⟨e43, e44, e45, e46, e47, e48, _⟩
 cases d49 : (r41)
 ·simp only [d49, hs] at h
  simp only [vz, tyf, d31, d40, e43, e44, e45, e46, e47, e48, d49, nm, seval]
  refine ktree0 g_law03_known_ok ?_
  try simp only [vz, tyf, d31, d40, e43, e44, e45, e46, e47, e48, d49, nm, seval]
  obtain rfl := kF _ h
  exact opd_bool Tryz.results12 rfl
 simp only [d49, hs] at h
 rcases o51 : (g_coat_Mend x0_s x1_a1 x2_a2) with _ | r50
 ·simp only [o51, hs] at h
  exact absurd h kN
 simp only [o51, hs] at h
 simp only [vz, tyf, d31, d40, e43, e44, e45, e46, e47, e48, d49, nm, seval]
 refine ktree (args0 := [.agg (cGCoatSheet x0_s), .sl (cellsL eI x1_a1) (List.length x1_a1) false, .lit (.int .i64 x2_a2)]) (by first | (simp only [nrm, tynrm] <;> rfl) | rfl) (by simp only [tre, tytre, Bool.and_self]) (g_coat_Mend_ok _ _ _ _ o51) ?_
 refine fin_cut (fun tm => tm 1 = .sl (cellsL eI x1_a1) (List.length x1_a1) false ∧ tm 2 = .lit (.int .i64 x2_a2) ∧ tm 3 = .sl (cellsL eI x3_a3) (List.length x3_a3) false ∧ tm 4 = .ptr 0 0 ∧ tm 40 = .tup [.sl (cellsL eI r50.1) (List.length r50.1) false, .lit (.int .i64 r50.2.1), .lit (.int .i64 r50.2.2)] ∧ True) (by refine ⟨e43, e44, e45, e46, ?_, trivial⟩ <;> first | (simp only [ua, d31, d40, e43, e44, e45, e46, e47, e48, d49, nm, seval] <;> rfl) | rfl) ?_
 rintro tm ⟨e52, e53, e54, e55, e56, _⟩
 rcases o58 : (g_law03_surely x0_s x1_a1) with _ | r57
 ·simp only [o58, hs] at h
  exact absurd h kN
 simp only [o58, hs] at h
 simp only [vz, tyf, d31, d40, d49, e52, e53, e54, e55, e56, nm, seval]
 refine ktree (args0 := [.agg (cGCoatSheet x0_s), .sl (cellsL eI x1_a1) (List.length x1_a1) false]) (by first | (simp only [nrm, tynrm] <;> rfl) | rfl) (by simp only [tre, tytre, Bool.and_self]) (g_law03_surely_ok _ _ _ o58) ?_
 refine fin_cut (fun tm => tm 1 = .sl (cellsL eI x1_a1) (List.length x1_a1) false ∧ tm 2 = .lit (.int .i64 x2_a2) ∧ tm 3 = .sl (cellsL eI x3_a3) (List.length x3_a3) false ∧ tm 4 = .ptr 0 0 ∧ tm 9 = .sl (cellsL eI r50.1) (List.length r50.1) false ∧ tm 10 = .lit (.int .i64 r50.2.1) ∧ tm 11 = .lit (.int .i64 r50.2.2) ∧ tm 47 = .tup [.lit (.bool r57.1), .lit (.bool r57.2)] ∧ True) (by refine ⟨e52, e53, e54, e55, ?_, ?_, ?_, ?_, trivial⟩ <;> first | (simp only [ua, d31, d40, d49, e52, e53, e54, e55, e56, nm, seval] <;> rfl) | rfl) ?_
 rintro tm ⟨e59, e60, e61, e62, e63, e64, e65, e66, _⟩
 rcases o68 : (g_law03_surely x0_s x3_a3) with _ | r67
 ·simp only [o68, hs] at h
  exact absurd h kN
 simp only [o68, hs] at h
 simp only [vz, tyf, d31, d40, d49, e59, e60, e61, e62, e63, e64, e65, e66, nm, seval]
 refine ktree (args0 := [.agg (cGCoatSheet x0_s), .sl (cellsL eI x3_a3) (List.length x3_a3) false]) (by first | (simp only [nrm, tynrm] <;> rfl) | rfl) (by simp only [tre, tytre, Bool.and_self]) (g_law03_surely_ok _ _ _ o68) ?_
 refine fin_cut (fun tm => tm 1 = .sl (cellsL eI x1_a1) (List.length x1_a1) false ∧ tm 2 = .lit (.int .i64 x2_a2) ∧ tm 3 = .sl (cellsL eI x3_a3) (List.length x3_a3) false ∧ tm 4 = .ptr 0 0 ∧ tm 9 = .sl (cellsL eI r50.1) (List.length r50.1) false ∧ tm 10 = .lit (.int .i64 r50.2.1) ∧ tm 11 = .lit (.int .i64 r50.2.2) ∧ tm 12 = .lit (.bool r57.1) ∧ tm 13 = .lit (.bool r57.2) ∧ tm 53 = .tup [.lit (.bool r67.1), .lit (.bool r67.2)] ∧ True) (by refine ⟨e59, e60, e61, e62, e63, e64, e65, ?_, ?_, ?_, trivial⟩ <;> first | (simp only [ua, d31, d40, d49, e59, e60, e61, e62, e63, e64, e65, e66, nm, seval] <;> rfl) | rfl) ?_
 rintro tm ⟨e69, e70, e71, e72, e73, e74, e75, e76, e77, e78, _⟩
 cases d79 : (r67.1)
 ·simp only [d79, hs] at h
  cases d80 : (r57.2)
  ·simp only [d80, hs] at h
   try simp only [vz, tyf, d31, d40, d49, e69, e70, e71, e72, e73, e74, e75, e76, e77, e78, d79, d80, nm, seval]
   obtain rfl := kF _ h
   exact opd_bool Tryz.results12 rfl
  simp only [d80, hs] at h
  cases d81 : (r67.2)
  ·simp only [d81, hs] at h
   try simp only [vz, tyf, d31, d40, d49, e69, e70, e71, e72, e73, e74, e75, e76, e77, e78, d79, d80, d81, nm, seval]
   obtain rfl := kF _ h
   exact opd_bool Tryz.results12 rfl
  simp only [d81, hs] at h
  cases d82 : (r50.2.2 != 0)
  ·simp only [d82, hs] at h
   have b83 := And.intro d31 (And.intro d40 (And.intro d49 (And.intro d79 (And.intro d80 (And.intro d81 d82)))))
   rcases o85 : (g_ref03_Plan x0_s r50.1) with _ | r84
   ·simp only [o85, hs] at h
    exact absurd h kN
   simp only [o85, hs] at h
   simp only [vz, tyf, b83, e69, e70, e71, e72, e73, e74, e75, e76, e77, e78, nm, seval]
   refine ktree (args0 := [.agg (cGCoatSheet x0_s), .sl (cellsL eI r50.1) (List.length r50.1) false]) (by first | (simp only [nrm, tynrm] <;> rfl) | rfl) (by simp only [tre, tytre, Bool.and_self]) (g_ref03_Plan_ok _ _ _ o85) ?_
   refine fin_cut (fun tm => tm 1 = .sl (cellsL eI x1_a1) (List.length x1_a1) false ∧ tm 2 = .lit (.int .i64 x2_a2) ∧ tm 3 = .sl (cellsL eI x3_a3) (List.length x3_a3) false ∧ tm 4 = .ptr 0 0 ∧ tm 9 = .sl (cellsL eI r50.1) (List.length r50.1) false ∧ tm 10 = .lit (.int .i64 r50.2.1) ∧ tm 12 = .lit (.bool r57.1) ∧ tm 14 = .lit (.bool false) ∧ tm 92 = .lit (.bool r84) ∧ True) (by refine ⟨e69, e70, e71, e72, e73, e74, e76, ?_, ?_, trivial⟩ <;> first | (simp only [ua, b83, e69, e70, e71, e72, e73, e74, e75, e76, e77, e78, nm, seval] <;> rfl) | rfl) ?_
   rintro tm ⟨e86, e87, e88, e89, e90, e91, e92, e93, e94, _⟩
   cases d95 : (r84)
   ·simp only [d95, hs] at h
    try simp only [vz, tyf, b83, e86, e87, e88, e89, e90, e91, e92, e93, e94, d95, nm, seval]
    obtain rfl := kF _ h
    exact opd_bool Tryz.results12 rfl
   simp only [d95, hs] at h
   rcases o97 : (g_ref03_Keeps r50.1 x1_a1 x2_a2) with _ | r96
   ·simp only [o97, hs] at h
    exact absurd h kN
   simp only [o97, hs] at h
   simp only [vz, tyf, b83, e86, e87, e88, e89, e90, e91, e92, e93, e94, d95, nm, seval]
   refine ktree (args0 := [.sl (cellsL eI r50.1) (List.length r50.1) false, .sl (cellsL eI x1_a1) (List.length x1_a1) false, .lit (.int .i64 x2_a2)]) (by first | (simp only [nrm, tynrm] <;> rfl) | rfl) (by simp only [tre, tytre, Bool.and_self]) (g_ref03_Keeps_ok _ _ _ _ o97) ?_
   refine fin_cut (fun tm => tm 1 = .sl (cellsL eI x1_a1) (List.length x1_a1) false ∧ tm 3 = .sl (cellsL eI x3_a3) (List.length x3_a3) false ∧ tm 4 = .ptr 0 0 ∧ tm 9 = .sl (cellsL eI r50.1) (List.length r50.1) false ∧ tm 10 = .lit (.int .i64 r50.2.1) ∧ tm 12 = .lit (.bool r57.1) ∧ tm 14 = .lit (.bool false) ∧ tm 94 = .lit (.bool false) ∧ tm 98 = .lit (.bool r96) ∧ True) (by refine ⟨e86, e88, e89, e90, e91, e92, e93, ?_, ?_, trivial⟩ <;> first | (simp only [ua, b83, e86, e87, e88, e89, e90, e91, e92, e93, e94, d95, nm, seval] <;> rfl) | rfl) ?_
   rintro tm ⟨e98, e99, e100, e101, e102, e103, e104, e105, e106, _⟩
   cases d107 : (r96)
   ·simp only [d107, hs] at h
    try simp only [vz, tyf, b83, d95, e98, e99, e100, e101, e102, e103, e104, e105, e106, d107, nm, seval]
    obtain rfl := kF _ h
    exact opd_bool Tryz.results12 rfl
   simp only [d107, hs] at h
   rcases o109 : (g_ref03_Changes r50.1 x1_a1) with _ | r108
   ·simp only [o109, hs] at h
    exact absurd h kN
   simp only [o109, hs] at h
   simp only [vz, tyf, b83, d95, e98, e99, e100, e101, e102, e103, e104, e105, e106, d107, nm, seval]
   refine ktree (args0 := [.sl (cellsL eI r50.1) (List.length r50.1) false, .sl (cellsL eI x1_a1) (List.length x1_a1) false]) (by first | (simp only [nrm, tynrm] <;> rfl) | rfl) (by simp only [tre, tytre, Bool.and_self]) (g_ref03_Changes_ok _ _ _ o109) ?_
   refine fin_cut (fun tm => tm 1 = .sl (cellsL eI x1_a1) (List.length x1_a1) false ∧ tm 3 = .sl (cellsL eI x3_a3) (List.length x3_a3) false ∧ tm 4 = .ptr 0 0 ∧ tm 9 = .sl (cellsL eI r50.1) (List.length r50.1) false ∧ tm 10 = .lit (.int .i64 r50.2.1) ∧ tm 12 = .lit (.bool r57.1) ∧ tm 14 = .lit (.bool false) ∧ tm 101 = .lit (.bool false) ∧ tm 104 = .lit (.int .i64 r108) ∧ True) (by refine ⟨e98, e99, e100, e101, e102, e103, e104, ?_, ?_, trivial⟩ <;> first | (simp only [ua, b83, d95, e98, e99, e100, e101, e102, e103, e104, e105, e106, d107, nm, seval] <;> rfl) | rfl) ?_
   rintro tm ⟨e110, e111, e112, e113, e114, e115, e116, e117, e118, _⟩
   cases d119 : (r108 != r50.2.1)
   ·simp only [d119, hs] at h
    cases d120 : (r57.1)
    ·simp only [d120, hs] at h
     rcases o122 : (g_law03_surely x0_s r50.1) with _ | r121
     ·simp only [o122, hs] at h
      exact absurd h kN
     simp only [o122, hs] at h
     simp only [vz, tyf, b83, d95, d107, e110, e111, e112, e113, e114, e115, e116, e117, e118, d119, d120, nm, seval]
     refine ktree (args0 := [.agg (cGCoatSheet x0_s), .sl (cellsL eI r50.1) (List.length r50.1) false]) (by first | (simp only [nrm, tynrm] <;> rfl) | rfl) (by simp only [tre, tytre, Bool.and_self]) (g_law03_surely_ok _ _ _ o122) ?_
     refine fin_cut (fun tm => tm 1 = .sl (cellsL eI x1_a1) (List.length x1_a1) false ∧ tm 3 = .sl (cellsL eI x3_a3) (List.length x3_a3) false ∧ tm 9 = .sl (cellsL eI r50.1) (List.length r50.1) false ∧ tm 10 = .lit (.int .i64 r50.2.1) ∧ tm 14 = .lit (.bool false) ∧ tm 118 = .tup [.lit (.bool r121.1), .lit (.bool r121.2)] ∧ True) (by refine ⟨e110, e111, e113, e114, e116, ?_, trivial⟩ <;> first | (simp only [ua, b83, d95, d107, e110, e111, e112, e113, e114, e115, e116, e117, e118, d119, d120, nm, seval] <;> rfl) | rfl) ?_
     rintro tm ⟨e123, e124, e125, e126, e127, e128, _⟩
     rcases o130 : (g_ref03_Changes x3_a3 x1_a1) with _ | r129
     ·simp only [o130, hs] at h
      exact absurd h kN
     simp only [o130, hs] at h
     simp only [vz, tyf, b83, d95, d107, d119, d120, e123, e124, e125, e126, e127, e128, nm, seval]
     refine ktree (args0 := [.sl (cellsL eI x3_a3) (List.length x3_a3) false, .sl (cellsL eI x1_a1) (List.length x1_a1) false]) (by first | (simp only [nrm, tynrm] <;> rfl) | rfl) (by simp only [tre, tytre, Bool.and_self]) (g_ref03_Changes_ok _ _ _ o130) ?_
     refine fin_cut (fun tm => tm 3 = .sl (cellsL eI x3_a3) (List.length x3_a3) false ∧ tm 9 = .sl (cellsL eI r50.1) (List.length r50.1) false ∧ tm 10 = .lit (.int .i64 r50.2.1) ∧ tm 14 = .lit (.bool false) ∧ tm 16 = .lit (.bool r121.1) ∧ tm 17 = .lit (.bool r121.2) ∧ tm 123 = .lit (.int .i64 r129) ∧ True) (by refine ⟨e124, e125, e126, e127, ?_, ?_, ?_, trivial⟩ <;> first | (simp only [ua, b83, d95, d107, d119, d120, e123, e124, e125, e126, e127, e128, nm, seval] <;> rfl) | rfl) ?_
     rintro tm ⟨e131, e132, e133, e134, e135, e136, e137, _⟩
     cases d138 : (r121.2)
     ·simp only [d138, hs] at h
      try simp only [vz, tyf, b83, d95, d107, d119, d120, e131, e132, e133, e134, e135, e136, e137, d138, nm, seval]
      obtain rfl := kF _ h
      exact opd_bool Tryz.results12 rfl
     simp only [d138, hs] at h
     cases d139 : (r121.1)
     ·simp only [d139, hs] at h
      have b140 := And.intro b83 (And.intro d95 (And.intro d107 (And.intro d119 (And.intro d120 (And.intro d138 d139)))))
      try simp only [vz, tyf, b140, e131, e132, e133, e134, e135, e136, e137, nm, seval]
      obtain rfl := kF _ h
      exact opd_bool Tryz.results12 rfl
     simp only [d139, hs] at h
     have b141 := And.intro b83 (And.intro d95 (And.intro d107 (And.intro d119 (And.intro d120 (And.intro d138 d139)))))
     simp only [vz, tyf, b141, e131, e132, e133, e134, e135, e136, e137, nm, seval]
     refine ktree0 g_law03_known_ok ?_
     try simp only [vz, tyf, b141, e131, e132, e133, e134, e135, e136, e137, nm, seval]
     obtain rfl := kF _ h
     exact opd_bool Tryz.results12 rfl
    simp only [d120, hs] at h
    cases d142 : (r50.2.1 != 0)
    ·simp only [d142, hs] at h
     rcases o144 : (g_law03_surely x0_s r50.1) with _ | r143
     ·simp only [o144, hs] at h
      exact absurd h kN
     simp only [o144, hs] at h
     simp only [vz, tyf, b83, d95, d107, e110, e111, e112, e113, e114, e115, e116, e117, e118, d119, d120, d142, nm, seval]
     refine ktree (args0 := [.agg (cGCoatSheet x0_s), .sl (cellsL eI r50.1) (List.length r50.1) false]) (by first | (simp only [nrm, tynrm] <;> rfl) | rfl) (by simp only [tre, tytre, Bool.and_self]) (g_law03_surely_ok _ _ _ o144) ?_
     refine fin_cut (fun tm => tm 1 = .sl (cellsL eI x1_a1) (List.length x1_a1) false ∧ tm 3 = .sl (cellsL eI x3_a3) (List.length x3_a3) false ∧ tm 9 = .sl (cellsL eI r50.1) (List.length r50.1) false ∧ tm 10 = .lit (.int .i64 r50.2.1) ∧ tm 14 = .lit (.bool false) ∧ tm 118 = .tup [.lit (.bool r143.1), .lit (.bool r143.2)] ∧ True) (by refine ⟨e110, e111, e113, e114, e116, ?_, trivial⟩ <;> first | (simp only [ua, b83, d95, d107, e110, e111, e112, e113, e114, e115, e116, e117, e118, d119, d120, d142, nm, seval] <;> rfl) | rfl) ?_
     rintro tm ⟨e145, e146, e147, e148, e149, e150, _⟩
     rcases o152 : (g_ref03_Changes x3_a3 x1_a1) with _ | r151
     ·simp only [o152, hs] at h
      exact absurd h kN
     simp only [o152, hs] at h
     simp only [vz, tyf, b83, d95, d107, d119, d120, d142, e145, e146, e147, e148, e149, e150, nm, seval]
     refine ktree (args0 := [.sl (cellsL eI x3_a3) (List.length x3_a3) false, .sl (cellsL eI x1_a1) (List.length x1_a1) false]) (by first | (simp only [nrm, tynrm] <;> rfl) | rfl) (by simp only [tre, tytre, Bool.and_self]) (g_ref03_Changes_ok _ _ _ o152) ?_
     refine fin_cut (fun tm => tm 3 = .sl (cellsL eI x3_a3) (List.length x3_a3) false ∧ tm 9 = .sl (cellsL eI r50.1) (List.length r50.1) false ∧ tm 10 = .lit (.int .i64 r50.2.1) ∧ tm 14 = .lit (.bool false) ∧ tm 16 = .lit (.bool r143.1) ∧ tm 17 = .lit (.bool r143.2) ∧ tm 123 = .lit (.int .i64 r151) ∧ True) (by refine ⟨e146, e147, e148, e149, ?_, ?_, ?_, trivial⟩ <;> first | (simp only [ua, b83, d95, d107, d119, d120, d142, e145, e146, e147, e148, e149, e150, nm, seval] <;> rfl) | rfl) ?_
     rintro tm ⟨e153, e154, e155, e156, e157, e158, e159, _⟩
     cases d160 : (r143.2)
     ·simp only [d160, hs] at h
      have b161 := And.intro b83 (And.intro d95 (And.intro d107 (And.intro d119 (And.intro d120 (And.intro d142 d160)))))
      try simp only [vz, tyf, b161, e153, e154, e155, e156, e157, e158, e159, nm, seval]
      obtain rfl := kF _ h
      exact opd_bool Tryz.results12 rfl
     simp only [d160, hs] at h
     have b162 := And.intro b83 (And.intro d95 (And.intro d107 (And.intro d119 (And.intro d120 (And.intro d142 d160)))))
     cases d163 : (r143.1)
     ·simp only [d163, hs] at h
      try simp only [vz, tyf, b162, e153, e154, e155, e156, e157, e158, e159, d163, nm, seval]
      obtain rfl := kF _ h
      exact opd_bool Tryz.results12 rfl
     simp only [d163, hs] at h
     simp only [vz, tyf, b162, e153, e154, e155, e156, e157, e158, e159, d163, nm, seval]
     refine ktree0 g_law03_known_ok ?_
     try simp only [vz, tyf, b162, e153, e154, e155, e156, e157, e158, e159, d163, nm, seval]
     obtain rfl := kF _ h
     exact opd_bool Tryz.results12 rfl
    simp only [d142, hs] at h
    try simp only [vz, tyf, b83, d95, d107, e110, e111, e112, e113, e114, e115, e116, e117, e118, d119, d120, d142, nm, seval]
    obtain rfl := kF _ h
    exact opd_bool Tryz.results12 rfl
   simp only [d119, hs] at h
   try simp only [vz, tyf, b83, d95, d107, e110, e111, e112, e113, e114, e115, e116, e117, e118, d119, nm, seval]
   obtain rfl := kF _ h
   exact opd_bool Tryz.results12 rfl
  simp only [d82, hs] at h
  have b164 := And.intro d31 (And.intro d40 (And.intro d49 (And.intro d79 (And.intro d80 (And.intro d81 d82)))))
  cases d165 : (r50.2.2 != 5)
  ·simp only [d165, hs] at h
   cases d166 : (r57.1)
   ·simp only [d166, hs] at h
    simp only [vz, tyf, b164, e69, e70, e71, e72, e73, e74, e75, e76, e77, e78, d165, d166, nm, seval]
    refine ktree0 g_law03_known_ok ?_
    try simp only [vz, tyf, b164, e69, e70, e71, e72, e73, e74, e75, e76, e77, e78, d165, d166, nm, seval]
    obtain rfl := kF _ h
    exact opd_bool Tryz.results12 rfl
   simp only [d166, hs] at h
   try simp only [vz, tyf, b164, e69, e70, e71, e72, e73, e74, e75, e76, e77, e78, d165, d166, nm, seval]
   obtain rfl := kF _ h
   exact opd_bool Tryz.results12 rfl
  simp only [d165, hs] at h
  try simp only [vz, tyf, b164, e69, e70, e71, e72, e73, e74, e75, e76, e77, e78, d165, nm, seval]
  obtain rfl := kF _ h
  exact opd_bool Tryz.results12 rfl
 simp only [d79, hs] at h
 rcases o168 : (g_ref03_Keeps x3_a3 x1_a1 x2_a2) with _ | r167
 ·simp only [o168, hs] at h
  exact absurd h kN
 simp only [o168, hs] at h
 simp only [vz, tyf, d31, d40, d49, e69, e70, e71, e72, e73, e74, e75, e76, e77, e78, d79, nm, seval]
 refine ktree (args0 := [.sl (cellsL eI x3_a3) (List.length x3_a3) false, .sl (cellsL eI x1_a1) (List.length x1_a1) false, .lit (.int .i64 x2_a2)]) (by first | (simp only [nrm, tynrm] <;> rfl) | rfl) (by simp only [tre, tytre, Bool.and_self]) (g_ref03_Keeps_ok _ _ _ _ o168) ?_
 refine fin_cut (fun tm => tm 1 = .sl (cellsL eI x1_a1) (List.length x1_a1) false ∧ tm 2 = .lit (.int .i64 x2_a2) ∧ tm 3 = .sl (cellsL eI x3_a3) (List.length x3_a3) false ∧ tm 4 = .ptr 0 0 ∧ tm 9 = .sl (cellsL eI r50.1) (List.length r50.1) false ∧ tm 10 = .lit (.int .i64 r50.2.1) ∧ tm 11 = .lit (.int .i64 r50.2.2) ∧ tm 12 = .lit (.bool r57.1) ∧ tm 13 = .lit (.bool r57.2) ∧ tm 15 = .lit (.bool r67.2) ∧ tm 57 = .lit (.bool true) ∧ tm 61 = .lit (.bool r167) ∧ True) (by refine ⟨e69, e70, e71, e72, e73, e74, e75, e76, e77, ?_, ?_, ?_, trivial⟩ <;> first | (simp only [ua, d31, d40, d49, e69, e70, e71, e72, e73, e74, e75, e76, e77, e78, d79, nm, seval] <;> rfl) | rfl) ?_
 rintro tm ⟨e169, e170, e171, e172, e173, e174, e175, e176, e177, e178, e179, e180, _⟩
 cases d181 : (r57.2)
 ·simp only [d181, hs] at h
  try simp only [vz, tyf, d31, d40, d49, d79, e169, e170, e171, e172, e173, e174, e175, e176, e177, e178, e179, e180, d181, nm, seval]
  obtain rfl := kF _ h
  exact opd_bool Tryz.results12 rfl
 simp only [d181, hs] at h
 cases d182 : (r67.2)
 ·simp only [d182, hs] at h
  try simp only [vz, tyf, d31, d40, d49, d79, e169, e170, e171, e172, e173, e174, e175, e176, e177, e178, e179, e180, d181, d182, nm, seval]
  obtain rfl := kF _ h
  exact opd_bool Tryz.results12 rfl
 simp only [d182, hs] at h
 cases d183 : (r50.2.2 != 0)
 ·simp only [d183, hs] at h
  have b184 := And.intro d31 (And.intro d40 (And.intro d49 (And.intro d79 (And.intro d181 (And.intro d182 d183)))))
  rcases o186 : (g_ref03_Plan x0_s r50.1) with _ | r185
  ·simp only [o186, hs] at h
   exact absurd h kN
  simp only [o186, hs] at h
  simp only [vz, tyf, b184, e169, e170, e171, e172, e173, e174, e175, e176, e177, e178, e179, e180, nm, seval]
  refine ktree (args0 := [.agg (cGCoatSheet x0_s), .sl (cellsL eI r50.1) (List.length r50.1) false]) (by first | (simp only [nrm, tynrm] <;> rfl) | rfl) (by simp only [tre, tytre, Bool.and_self]) (g_ref03_Plan_ok _ _ _ o186) ?_
  refine fin_cut (fun tm => tm 1 = .sl (cellsL eI x1_a1) (List.length x1_a1) false ∧ tm 2 = .lit (.int .i64 x2_a2) ∧ tm 3 = .sl (cellsL eI x3_a3) (List.length x3_a3) false ∧ tm 4 = .ptr 0 0 ∧ tm 9 = .sl (cellsL eI r50.1) (List.length r50.1) false ∧ tm 10 = .lit (.int .i64 r50.2.1) ∧ tm 12 = .lit (.bool r57.1) ∧ tm 14 = .lit (.bool r167) ∧ tm 92 = .lit (.bool r185) ∧ True) (by refine ⟨e169, e170, e171, e172, e173, e174, e176, ?_, ?_, trivial⟩ <;> first | (simp only [ua, b184, e169, e170, e171, e172, e173, e174, e175, e176, e177, e178, e179, e180, nm, seval] <;> rfl) | rfl) ?_
  rintro tm ⟨e187, e188, e189, e190, e191, e192, e193, e194, e195, _⟩
  cases d196 : (r185)
  ·simp only [d196, hs] at h
   try simp only [vz, tyf, b184, e187, e188, e189, e190, e191, e192, e193, e194, e195, d196, nm, seval]
   obtain rfl := kF _ h
   exact opd_bool Tryz.results12 rfl
  simp only [d196, hs] at h
  rcases o198 : (g_ref03_Keeps r50.1 x1_a1 x2_a2) with _ | r197
  ·simp only [o198, hs] at h
   exact absurd h kN
  simp only [o198, hs] at h
  simp only [vz, tyf, b184, e187, e188, e189, e190, e191, e192, e193, e194, e195, d196, nm, seval]
  refine ktree (args0 := [.sl (cellsL eI r50.1) (List.length r50.1) false, .sl (cellsL eI x1_a1) (List.length x1_a1) false, .lit (.int .i64 x2_a2)]) (by first | (simp only [nrm, tynrm] <;> rfl) | rfl) (by simp only [tre, tytre, Bool.and_self]) (g_ref03_Keeps_ok _ _ _ _ o198) ?_
  refine fin_cut (fun tm => tm 1 = .sl (cellsL eI x1_a1) (List.length x1_a1) false ∧ tm 3 = .sl (cellsL eI x3_a3) (List.length x3_a3) false ∧ tm 4 = .ptr 0 0 ∧ tm 9 = .sl (cellsL eI r50.1) (List.length r50.1) false ∧ tm 10 = .lit (.int .i64 r50.2.1) ∧ tm 12 = .lit (.bool r57.1) ∧ tm 14 = .lit (.bool r167) ∧ tm 94 = .lit (.bool false) ∧ tm 98 = .lit (.bool r197) ∧ True) (by refine ⟨e187, e189, e190, e191, e192, e193, e194, ?_, ?_, trivial⟩ <;> first | (simp only [ua, b184, e187, e188, e189, e190, e191, e192, e193, e194, e195, d196, nm, seval] <;> rfl) | rfl) ?_
  rintro tm ⟨e199, e200, e201, e202, e203, e204, e205, e206, e207, _⟩
  cases d208 : (r197)
  ·simp only [d208, hs] at h
   try simp only [vz, tyf, b184, d196, e199, e200, e201, e202, e203, e204, e205, e206, e207, d208, nm, seval]
   obtain rfl := kF _ h
   exact opd_bool Tryz.results12 rfl
  simp only [d208, hs] at h
  rcases o210 : (g_ref03_Changes r50.1 x1_a1) with _ | r209
  ·simp only [o210, hs] at h
   exact absurd h kN
  simp only [o210, hs] at h
  simp only [vz, tyf, b184, d196, e199, e200, e201, e202, e203, e204, e205, e206, e207, d208, nm, seval]
  refine ktree (args0 := [.sl (cellsL eI r50.1) (List.length r50.1) false, .sl (cellsL eI x1_a1) (List.length x1_a1) false]) (by first | (simp only [nrm, tynrm] <;> rfl) | rfl) (by simp only [tre, tytre, Bool.and_self]) (g_ref03_Changes_ok _ _ _ o210) ?_
  refine fin_cut (fun tm => tm 1 = .sl (cellsL eI x1_a1) (List.length x1_a1) false ∧ tm 3 = .sl (cellsL eI x3_a3) (List.length x3_a3) false ∧ tm 4 = .ptr 0 0 ∧ tm 9 = .sl (cellsL eI r50.1) (List.length r50.1) false ∧ tm 10 = .lit (.int .i64 r50.2.1) ∧ tm 12 = .lit (.bool r57.1) ∧ tm 14 = .lit (.bool r167) ∧ tm 101 = .lit (.bool false) ∧ tm 104 = .lit (.int .i64 r209) ∧ True) (by refine ⟨e199, e200, e201, e202, e203, e204, e205, ?_, ?_, trivial⟩ <;> first | (simp only [ua, b184, d196, e199, e200, e201, e202, e203, e204, e205, e206, e207, d208, nm, seval] <;> rfl) | rfl) ?_
  rintro tm ⟨e211, e212, e213, e214, e215, e216, e217, e218, e219, _⟩
  cases d220 : (r209 != r50.2.1)
  ·simp only [d220, hs] at h
   cases d221 : (r57.1)
   ·simp only [d221, hs] at h
    rcases o223 : (g_law03_surely x0_s r50.1) with _ | r222
    ·simp only [o223, hs] at h
     exact absurd h kN
    simp only [o223, hs] at h
    simp only [vz, tyf, b184, d196, d208, e211, e212, e213, e214, e215, e216, e217, e218, e219, d220, d221, nm, seval]
    refine ktree (args0 := [.agg (cGCoatSheet x0_s), .sl (cellsL eI r50.1) (List.length r50.1) false]) (by first | (simp only [nrm, tynrm] <;> rfl) | rfl) (by simp only [tre, tytre, Bool.and_self]) (g_law03_surely_ok _ _ _ o223) ?_
    refine fin_cut (fun tm => tm 1 = .sl (cellsL eI x1_a1) (List.length x1_a1) false ∧ tm 3 = .sl (cellsL eI x3_a3) (List.length x3_a3) false ∧ tm 9 = .sl (cellsL eI r50.1) (List.length r50.1) false ∧ tm 10 = .lit (.int .i64 r50.2.1) ∧ tm 14 = .lit (.bool r167) ∧ tm 118 = .tup [.lit (.bool r222.1), .lit (.bool r222.2)] ∧ True) (by refine ⟨e211, e212, e214, e215, e217, ?_, trivial⟩ <;> first | (simp only [ua, b184, d196, d208, e211, e212, e213, e214, e215, e216, e217, e218, e219, d220, d221, nm, seval] <;> rfl) | rfl) ?_
    rintro tm ⟨e224, e225, e226, e227, e228, e229, _⟩
    rcases o231 : (g_ref03_Changes x3_a3 x1_a1) with _ | r230
    ·simp only [o231, hs] at h
     exact absurd h kN
    simp only [o231, hs] at h
    simp only [vz, tyf, b184, d196, d208, d220, d221, e224, e225, e226, e227, e228, e229, nm, seval]
    refine ktree (args0 := [.sl (cellsL eI x3_a3) (List.length x3_a3) false, .sl (cellsL eI x1_a1) (List.length x1_a1) false]) (by first | (simp only [nrm, tynrm] <;> rfl) | rfl) (by simp only [tre, tytre, Bool.and_self]) (g_ref03_Changes_ok _ _ _ o231) ?_
    refine fin_cut (fun tm => tm 3 = .sl (cellsL eI x3_a3) (List.length x3_a3) false ∧ tm 9 = .sl (cellsL eI r50.1) (List.length r50.1) false ∧ tm 10 = .lit (.int .i64 r50.2.1) ∧ tm 14 = .lit (.bool r167) ∧ tm 16 = .lit (.bool r222.1) ∧ tm 17 = .lit (.bool r222.2) ∧ tm 123 = .lit (.int .i64 r230) ∧ True) (by refine ⟨e225, e226, e227, e228, ?_, ?_, ?_, trivial⟩ <;> first | (simp only [ua, b184, d196, d208, d220, d221, e224, e225, e226, e227, e228, e229, nm, seval] <;> rfl) | rfl) ?_
    rintro tm ⟨e232, e233, e234, e235, e236, e237, e238, _⟩
    cases d239 : (r222.2)
    ·simp only [d239, hs] at h
     try simp only [vz, tyf, b184, d196, d208, d220, d221, e232, e233, e234, e235, e236, e237, e238, d239, nm, seval]
     obtain rfl := kF _ h
     exact opd_bool Tryz.results12 rfl
    simp only [d239, hs] at h
    cases d240 : (r222.1)
    ·simp only [d240, hs] at h
     have b241 := And.intro b184 (And.intro d196 (And.intro d208 (And.intro d220 (And.intro d221 (And.intro d239 d240)))))
     try simp only [vz, tyf, b241, e232, e233, e234, e235, e236, e237, e238, nm, seval]
     obtain rfl := kF _ h
     exact opd_bool Tryz.results12 rfl
    simp only [d240, hs] at h
    have b242 := And.intro b184 (And.intro d196 (And.intro d208 (And.intro d220 (And.intro d221 (And.intro d239 d240)))))
    cases d243 : (r167)
    ·simp only [d243, hs] at h
     simp only [vz, tyf, b242, e232, e233, e234, e235, e236, e237, e238, d243, nm, seval]
     refine ktree0 g_law03_known_ok ?_
     try simp only [vz, tyf, b242, e232, e233, e234, e235, e236, e237, e238, d243, nm, seval]
     obtain rfl := kF _ h
     exact opd_bool Tryz.results12 rfl
    simp only [d243, hs] at h
    cases d244 : (decide (r230 > r50.2.1))
    ·simp only [d244, hs] at h
     cases d245 : (r230 == r50.2.1)
     ·simp only [d245, hs] at h
      try simp only [vz, tyf, b242, e232, e233, e234, e235, e236, e237, e238, d243, d244, d245, nm, seval]
      obtain rfl := kF _ h
      exact opd_bool Tryz.results12 rfl
     simp only [d245, hs] at h
     rcases o247 : (g_ref01_Before x3_a3 r50.1) with _ | r246
     ·simp only [o247, hs] at h
      exact absurd h kN
     simp only [o247, hs] at h
     simp only [vz, tyf, b242, e232, e233, e234, e235, e236, e237, e238, d243, d244, d245, nm, seval]
     refine ktree (args0 := [.sl (cellsL eI x3_a3) (List.length x3_a3) false, .sl (cellsL eI r50.1) (List.length r50.1) false]) (by first | (simp only [nrm, tynrm] <;> rfl) | rfl) (by simp only [tre, tytre, Bool.and_self]) (g_ref01_Before_ok _ _ _ o247) ?_
     refine fin_cut (fun tm => tm 128 = .lit (.bool true) ∧ tm 136 = .lit (.bool false) ∧ tm 140 = .lit (.bool true) ∧ tm 143 = .lit (.bool r246) ∧ True) (by refine ⟨?_, ?_, ?_, ?_, trivial⟩ <;> first | (simp only [ua, b242, e232, e233, e234, e235, e236, e237, e238, d243, d244, d245, nm, seval] <;> rfl) | rfl) ?_
     rintro tm ⟨e248, e249, e250, e251, _⟩
     cases d252 : (r246)
     ·simp only [d252, hs] at h
      simp only [vz, tyf, b242, d243, d244, d245, e248, e249, e250, e251, d252, nm, seval]
      refine ktree0 g_law03_known_ok ?_
      try simp only [vz, tyf, b242, d243, d244, d245, e248, e249, e250, e251, d252, nm, seval]
      obtain rfl := kF _ h
      exact opd_bool Tryz.results12 rfl
     simp only [d252, hs] at h
     try simp only [vz, tyf, b242, d243, d244, d245, e248, e249, e250, e251, d252, nm, seval]
     obtain rfl := kF _ h
     exact opd_bool Tryz.results12 rfl
    simp only [d244, hs] at h
    simp only [vz, tyf, b242, e232, e233, e234, e235, e236, e237, e238, d243, d244, nm, seval]
    refine ktree0 g_law03_known_ok ?_
    try simp only [vz, tyf, b242, e232, e233, e234, e235, e236, e237, e238, d243, d244, nm, seval]
    obtain rfl := kF _ h
    exact opd_bool Tryz.results12 rfl
   simp only [d221, hs] at h
   cases d253 : (r50.2.1 != 0)
   ·simp only [d253, hs] at h
    rcases o255 : (g_law03_surely x0_s r50.1) with _ | r254
    ·simp only [o255, hs] at h
     exact absurd h kN
    simp only [o255, hs] at h
    simp only [vz, tyf, b184, d196, d208, e211, e212, e213, e214, e215, e216, e217, e218, e219, d220, d221, d253, nm, seval]
    refine ktree (args0 := [.agg (cGCoatSheet x0_s), .sl (cellsL eI r50.1) (List.length r50.1) false]) (by first | (simp only [nrm, tynrm] <;> rfl) | rfl) (by simp only [tre, tytre, Bool.and_self]) (g_law03_surely_ok _ _ _ o255) ?_
    refine fin_cut (fun tm => tm 1 = .sl (cellsL eI x1_a1) (List.length x1_a1) false ∧ tm 3 = .sl (cellsL eI x3_a3) (List.length x3_a3) false ∧ tm 9 = .sl (cellsL eI r50.1) (List.length r50.1) false ∧ tm 10 = .lit (.int .i64 r50.2.1) ∧ tm 14 = .lit (.bool r167) ∧ tm 118 = .tup [.lit (.bool r254.1), .lit (.bool r254.2)] ∧ True) (by refine ⟨e211, e212, e214, e215, e217, ?_, trivial⟩ <;> first | (simp only [ua, b184, d196, d208, e211, e212, e213, e214, e215, e216, e217, e218, e219, d220, d221, d253, nm, seval] <;> rfl) | rfl) ?_
    rintro tm ⟨e256, e257, e258, e259, e260, e261, _⟩
    rcases o263 : (g_ref03_Changes x3_a3 x1_a1) with _ | r262
    ·simp only [o263, hs] at h
     exact absurd h kN
    simp only [o263, hs] at h
    simp only [vz, tyf, b184, d196, d208, d220, d221, d253, e256, e257, e258, e259, e260, e261, nm, seval]
    refine ktree (args0 := [.sl (cellsL eI x3_a3) (List.length x3_a3) false, .sl (cellsL eI x1_a1) (List.length x1_a1) false]) (by first | (simp only [nrm, tynrm] <;> rfl) | rfl) (by simp only [tre, tytre, Bool.and_self]) (g_ref03_Changes_ok _ _ _ o263) ?_
    refine fin_cut (fun tm => tm 3 = .sl (cellsL eI x3_a3) (List.length x3_a3) false ∧ tm 9 = .sl (cellsL eI r50.1) (List.length r50.1) false ∧ tm 10 = .lit (.int .i64 r50.2.1) ∧ tm 14 = .lit (.bool r167) ∧ tm 16 = .lit (.bool r254.1) ∧ tm 17 = .lit (.bool r254.2) ∧ tm 123 = .lit (.int .i64 r262) ∧ True) (by refine ⟨e257, e258, e259, e260, ?_, ?_, ?_, trivial⟩ <;> first | (simp only [ua, b184, d196, d208, d220, d221, d253, e256, e257, e258, e259, e260, e261, nm, seval] <;> rfl) | rfl) ?_
    rintro tm ⟨e264, e265, e266, e267, e268, e269, e270, _⟩
    cases d271 : (r254.2)
    ·simp only [d271, hs] at h
     have b272 := And.intro b184 (And.intro d196 (And.intro d208 (And.intro d220 (And.intro d221 (And.intro d253 d271)))))
     try simp only [vz, tyf, b272, e264, e265, e266, e267, e268, e269, e270, nm, seval]
     obtain rfl := kF _ h
     exact opd_bool Tryz.results12 rfl
    simp only [d271, hs] at h
    have b273 := And.intro b184 (And.intro d196 (And.intro d208 (And.intro d220 (And.intro d221 (And.intro d253 d271)))))
    cases d274 : (r254.1)
    ·simp only [d274, hs] at h
     try simp only [vz, tyf, b273, e264, e265, e266, e267, e268, e269, e270, d274, nm, seval]
     obtain rfl := kF _ h
     exact opd_bool Tryz.results12 rfl
    simp only [d274, hs] at h
    cases d275 : (r167)
    ·simp only [d275, hs] at h
     simp only [vz, tyf, b273, e264, e265, e266, e267, e268, e269, e270, d274, d275, nm, seval]
     refine ktree0 g_law03_known_ok ?_
     try simp only [vz, tyf, b273, e264, e265, e266, e267, e268, e269, e270, d274, d275, nm, seval]
     obtain rfl := kF _ h
     exact opd_bool Tryz.results12 rfl
    simp only [d275, hs] at h
    cases d276 : (decide (r262 > r50.2.1))
    ·simp only [d276, hs] at h
     cases d277 : (r262 == r50.2.1)
     ·simp only [d277, hs] at h
      try simp only [vz, tyf, b273, e264, e265, e266, e267, e268, e269, e270, d274, d275, d276, d277, nm, seval]
      obtain rfl := kF _ h
      exact opd_bool Tryz.results12 rfl
     simp only [d277, hs] at h
     rcases o279 : (g_ref01_Before x3_a3 r50.1) with _ | r278
     ·simp only [o279, hs] at h
      exact absurd h kN
     simp only [o279, hs] at h
     simp only [vz, tyf, b273, e264, e265, e266, e267, e268, e269, e270, d274, d275, d276, d277, nm, seval]
     refine ktree (args0 := [.sl (cellsL eI x3_a3) (List.length x3_a3) false, .sl (cellsL eI r50.1) (List.length r50.1) false]) (by first | (simp only [nrm, tynrm] <;> rfl) | rfl) (by simp only [tre, tytre, Bool.and_self]) (g_ref01_Before_ok _ _ _ o279) ?_
     refine fin_cut (fun tm => tm 128 = .lit (.bool true) ∧ tm 136 = .lit (.bool false) ∧ tm 140 = .lit (.bool true) ∧ tm 143 = .lit (.bool r278) ∧ True) (by refine ⟨?_, ?_, ?_, ?_, trivial⟩ <;> first | (simp only [ua, b273, e264, e265, e266, e267, e268, e269, e270, d274, d275, d276, d277, nm, seval] <;> rfl) | rfl) ?_
     rintro tm ⟨e280, e281, e282, e283, _⟩
     cases d284 : (r278)
     ·simp only [d284, hs] at h
      simp only [vz, tyf, b273, d274, d275, d276, d277, e280, e281, e282, e283, d284, nm, seval]
      refine ktree0 g_law03_known_ok ?_
      try simp only [vz, tyf, b273, d274, d275, d276, d277, e280, e281, e282, e283, d284, nm, seval]
      obtain rfl := kF _ h
      exact opd_bool Tryz.results12 rfl
     simp only [d284, hs] at h
     try simp only [vz, tyf, b273, d274, d275, d276, d277, e280, e281, e282, e283, d284, nm, seval]
     obtain rfl := kF _ h
     exact opd_bool Tryz.results12 rfl
    simp only [d276, hs] at h
    simp only [vz, tyf, b273, e264, e265, e266, e267, e268, e269, e270, d274, d275, d276, nm, seval]
    refine ktree0 g_law03_known_ok ?_
    try simp only [vz, tyf, b273, e264, e265, e266, e267, e268, e269, e270, d274, d275, d276, nm, seval]
    obtain rfl := kF _ h
    exact opd_bool Tryz.results12 rfl
   simp only [d253, hs] at h
   try simp only [vz, tyf, b184, d196, d208, e211, e212, e213, e214, e215, e216, e217, e218, e219, d220, d221, d253, nm, seval]
   obtain rfl := kF _ h
   exact opd_bool Tryz.results12 rfl
  simp only [d220, hs] at h
  try simp only [vz, tyf, b184, d196, d208, e211, e212, e213, e214, e215, e216, e217, e218, e219, d220, nm, seval]
  obtain rfl := kF _ h
  exact opd_bool Tryz.results12 rfl
 simp only [d183, hs] at h
 have b285 := And.intro d31 (And.intro d40 (And.intro d49 (And.intro d79 (And.intro d181 (And.intro d182 d183)))))
 cases d286 : (r50.2.2 != 5)
 ·simp only [d286, hs] at h
  cases d287 : (r167)
  ·simp only [d287, hs] at h
   cases d288 : (r57.1)
   ·simp only [d288, hs] at h
    simp only [vz, tyf, b285, e169, e170, e171, e172, e173, e174, e175, e176, e177, e178, e179, e180, d286, d287, d288, nm, seval]
    refine ktree0 g_law03_known_ok ?_
    try simp only [vz, tyf, b285, e169, e170, e171, e172, e173, e174, e175, e176, e177, e178, e179, e180, d286, d287, d288, nm, seval]
    obtain rfl := kF _ h
    exact opd_bool Tryz.results12 rfl
   simp only [d288, hs] at h
   try simp only [vz, tyf, b285, e169, e170, e171, e172, e173, e174, e175, e176, e177, e178, e179, e180, d286, d287, d288, nm, seval]
   obtain rfl := kF _ h
   exact opd_bool Tryz.results12 rfl
  simp only [d287, hs] at h
  try simp only [vz, tyf, b285, e169, e170, e171, e172, e173, e174, e175, e176, e177, e178, e179, e180, d286, d287, nm, seval]
  obtain rfl := kF _ h
  exact opd_bool Tryz.results12 rfl
 simp only [d286, hs] at h
 try simp only [vz, tyf, b285, e169, e170, e171, e172, e173, e174, e175, e176, e177, e178, e179, e180, d286, nm, seval]
 obtain rfl := kF _ h
 exact opd_bool Tryz.results12 rfl
end Go.V
end
section
namespace Go.V
open Go
theorem isDayOf_eq {s : GCoatSheet} (h : lenOk s.Dry = true) (n : Int) : g_coat_isDayOf s n = some (dayB s.Dry.length n) := by
 have := lenOk_lt h
 unfold g_coat_isDayOf dayB
 rw [isFrom_eq, wrap_eq (by omega) (by omega)]
 rfl
theorem mend_eq {s : GCoatSheet} (hs : OkS s) (h1 : sheetB s = true) {p : List Int} (hp : lenOk p = true) (h2 : planB s p = true) {d : Int} (hd : dayB s.Dry.length d = true) :
  (g_coat_Mend s p d = some ([], 0, 5) ∧ ∀ q, planB s q = true → sureB s.Dry s.Coats q = true → keepB d p q = false) ∨
  (∃ q, g_coat_Mend s p d = some (q, (chN p q : Int), 0) ∧ planB s q = true ∧ sureB s.Dry s.Coats q = true ∧ keepB d p q = true ∧
   ∀ x, planB s x = true → sureB s.Dry s.Coats x = true → keepB d p x = true → chN p q ≤ chN p x ∧ (chN p x = chN p q → x = q ∨ lexL q x)) := by
 have hS := ShOk.of h1
 have hc := hS.c
 have hvp := VP.of h1 h2
 obtain ⟨L, hP, _⟩ := first_eq hs h1
 have hlen : ∀ q ∈ L, q.length = s.Coats.length := fun q hq => (VP.of h1 ((hP.mem q).1 hq).1).l
 have hk : it_coat_plansAfter (sumsOf s) p d = some (L.filter (keepB d p)) := by
  unfold it_coat_plansAfter
  rw [hP.it, Option.bind_some]
  refine filterO_eq L fun q hq => ?_
  unfold g_coat_sums_plansAfter_1
  rw [keeps_eq hp (by rw [hvp.l, hlen q hq])]
  rfl
 have hmem : ∀ x, x ∈ L.filter (keepB d p) ↔ (planB s x = true ∧ sureB s.Dry s.Coats x = true) ∧ keepB d p x = true := fun x => by rw [List.mem_filter, hP.mem]
 have e0 : ∀ r, bestO (fun a b => g_coat_Mend_1 a b p) (L.filter (keepB d p)) ([], false) = some r → g_coat_Mend s p d = cond r.2 (Option.bind (g_coat_changes p r.1) fun n => some (r.1, n, 0)) (some ([], 0, 5)) := by
  intro r hr
  unfold g_coat_Mend
  rw [isSheet_eq hs, h1, isPlan_eq hs hp, h2, isDayOf_eq hs.d, hd, summed_of hS.dk]
  simp only [Option.bind_some, cond_true, hk, hr]
 cases hM : L.filter (keepB d p) with
 | nil =>
  left
  refine ⟨(e0 ([], false) (by rw [hM]; rfl)), fun q hq1 hq2 => ?_⟩
  cases hh : keepB d p q with
  | false => rfl
  | true =>
   have := (hmem q).2 ⟨⟨hq1, hq2⟩, hh⟩
   rw [hM] at this
   cases this
 | cons y M =>
  right
  have hb : ∀ a, a ∈ y :: M → ∀ c, c ∈ y :: M → (fun a b => g_coat_Mend_1 a b p) a c = some (decide ((chN p a : Int) < (chN p c : Int))) := by
   intro a ha c hcc
   rw [← hM] at ha hcc
   have la := hlen a (List.mem_filter.1 ha).1
   have lc := hlen c (List.mem_filter.1 hcc).1
   show g_coat_Mend_1 a c p = _
   unfold g_coat_Mend_1
   rw [changes_eq (by rw [hvp.l]; omega) (by rw [hvp.l, la]), changes_eq (by rw [hvp.l]; omega) (by rw [hvp.l, lc])]
   rfl
  have hpw : (y :: M).Pairwise lexL := by rw [← hM]; exact hP.pw.filter _
  obtain ⟨q, hq, hqm, hqx⟩ := bestO_some (f := fun x => (chN p x : Int)) hb hpw
  rw [← hM] at hqm
  have hq2 := (hmem q).1 hqm
  refine ⟨q, ?_, hq2.1.1, hq2.1.2, hq2.2, fun x hx1 hx2 hx3 => ?_⟩
  ·rw [e0 (q, true) (by rw [hM]; exact hq), cond_true, changes_eq (by rw [hvp.l]; omega) (by rw [hvp.l, hlen q (List.mem_filter.1 hqm).1])]
   rfl
  ·have := hqx x (by rw [← hM]; exact (hmem x).2 ⟨⟨hx1, hx2⟩, hx3⟩)
   exact ⟨by omega, fun hh => this.2 (by omega)⟩
theorem CoatKept_true (s : GCoatSheet) (p : List Int) (d : Int) (o : List Int) (h : lenOk s.Dry = true ∧ lenOk s.Work = true ∧ lenOk s.Coats = true) (hp : lenOk p = true) (ho : lenOk o = true) : g_law03_CoatKept s p d o = some true := by
 have hs : OkS s := ⟨h.1, h.2.1, h.2.2⟩
 unfold g_law03_CoatKept
 obtain ⟨b, hb, hbt⟩ := right_eq' hs hp
 obtain ⟨b2, hb2, hbt2⟩ := right_eq' hs ho
 rw [hb, hb2, day_eq s hs.d]
 simp only [Option.bind_some]
 cases b with
 | false => rfl
 | true =>
 cases hd : dayB s.Dry.length d with
 | false => rfl
 | true =>
 cases b2 with
 | false => rfl
 | true =>
 obtain ⟨h1, h2⟩ := hbt rfl
 obtain ⟨_, h3⟩ := hbt2 rfl
 have hS := ShOk.of h1
 have hc := hS.c
 have hvp := VP.of h1 h2
 have hvo := VP.of h1 h3
 rw [surelyL_eq hs hp h1 h2, surelyL_eq hs ho h1 h3, rKeeps_eq ho (by rw [hvp.l, hvo.l])]
 simp only [cond_true, Option.bind_some]
 rcases mend_eq hs h1 hp h2 hd with ⟨e1, hn⟩ | ⟨q, e1, q1, q2, q3, q4⟩
 ·rw [e1]
  simp only [Option.bind_some]
  have hsp : sureB s.Dry s.Coats p = false := by
   cases hh : sureB s.Dry s.Coats p with
   | false => rfl
   | true => have := hn p h2 hh; rw [keepB_self] at this; cases this
  rw [hsp]
  cases hso : sureB s.Dry s.Coats o with
  | false => rfl
  | true =>
   rw [hn o h3 hso]
   rfl
 ·have hvq := VP.of h1 q1
  have hql := hvq.pl
  rw [e1]
  simp only [Option.bind_some]
  have hsp : sureB s.Dry s.Coats p = true → (((chN p q : Int)) != 0) = false := by
   intro hh
   have := (q4 p h2 hh (keepB_self d p)).1
   rw [chN_self] at this
   rw [show chN p q = 0 by omega]
   rfl
  have hch : g_ref03_Changes q p = some (chN p q : Int) := by rw [rChanges_eq (by rw [hvq.l]; omega) (by rw [hvp.l, hvq.l]), chN_comm]
  have hcho : g_ref03_Changes o p = some (chN p o : Int) := by rw [rChanges_eq (by rw [hvo.l]; omega) (by rw [hvp.l, hvo.l]), chN_comm]
  have hne : (((chN p q : Int)) != (chN p q : Int)) = false := by simp
  rw [rPlan_eq hs hql, q1, rKeeps_eq hql (by rw [hvp.l, hvq.l]), q3, hch, hcho, surelyL_eq hs hql h1 q1, q2]
  simp only [Option.bind_some, cond_true, hne, cond_false]
  have hoq : sureB s.Dry s.Coats o = true → keepB d p o = true → cond (decide ((chN p o : Int) > (chN p q : Int))) (some true) (cond ((chN p o : Int) == (chN p q : Int)) (Option.bind (g_ref01_Before o q) fun r => cond r (some false) (some true)) (some false)) = some true := by
   intro hso hko
   have h5 := q4 o h3 hso hko
   by_cases hgt : (chN p o : Int) > (chN p q : Int)
   ·rw [decide_eq_true hgt]; rfl
   ·have heq : chN p o = chN p q := by omega
    rw [decide_eq_false hgt, heq, before_eq ho (by rw [hvo.l, hvq.l])]
    have hbf : ltL o q = false := by
     cases hlt : ltL o q with
     | false => rfl
     | true =>
      have h6 := (ltL_iff (by rw [hvo.l, hvq.l])).1 hlt
      rcases h5.2 heq with rfl | hx
      ·exact absurd h6 lexL_irrefl
      ·exact absurd (lexL_trans h6 hx) lexL_irrefl
    rw [hbf]
    simp
  cases hsp2 : sureB s.Dry s.Coats p with
  | false =>
   cases hso : sureB s.Dry s.Coats o with
   | false => rfl
   | true =>
    cases hko : keepB d p o with
    | false => rfl
    | true => exact hoq hso hko
  | true =>
   rw [hsp hsp2]
   cases hso : sureB s.Dry s.Coats o with
   | false => rfl
   | true =>
    cases hko : keepB d p o with
    | false => rfl
    | true => exact hoq hso hko
end Go.V
end
