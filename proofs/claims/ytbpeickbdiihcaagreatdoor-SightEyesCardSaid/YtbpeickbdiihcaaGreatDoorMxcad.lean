/- Part of the proof of statements of YtbpeickbdiihcaaGreatDoor: a logic of values by content, the lifted functions, and what follows. -/
import Derived.Test.YtbpeickbdiihcaaGreatDoorMbd
import Derived.Test.YtbpeickbdiihcaaGreatDoorMbf
import Derived.Test.YtbpeickbdiihcaaGreatDoorMbm
import Derived.Test.YtbpeickbdiihcaaGreatDoorMbl
import Derived.Test.YtbpeickbdiihcaaGreatDoorMxcac
set_option linter.unusedVariables false
set_option linter.unusedSimpArgs false
set_option linter.unusedSectionVars false
set_option linter.constructorNameAsVariable false
section
namespace Go.V
open Go Go.Proofs
set_option linter.unusedSimpArgs false
set_option linter.unusedVariables false
set_option maxRecDepth 4000
set_option maxHeartbeats 4000000
def g_law02_SightEyes (x0_s : GSightStreet) (x1_a1 : Int) (x2_a2 : GSightPlace) (x3_a3 : Int) (x4_a4 : Int) : Option (Bool) := Option.bind (g_law02_right x0_s x1_a1 x2_a2) (fun r1 => cond (r1) (cond (decide (x3_a3 < x0_s.Eye.Low)) (Option.bind (g_law02_known ) (fun r2 => some r2)) (cond (decide (x3_a3 > x0_s.Eye.High)) (Option.bind (g_law02_known ) (fun r3 => some r3)) (cond (decide (x4_a4 < x0_s.Light.Low)) (Option.bind (g_law02_known ) (fun r4 => some r4)) (cond (decide (x4_a4 > x0_s.Light.High)) (Option.bind (g_law02_known ) (fun r5 => some r5)) (Option.bind (g_sight_Seen x0_s x1_a1 x2_a2) (fun r6 => Option.bind (g_law02_eyed x0_s x3_a3 x4_a4) (fun r7 => Option.bind (g_sight_Seen r7 x1_a1 x2_a2) (fun r8 => Option.bind (g_law02_eyed x0_s x0_s.Eye.Low x0_s.Light.Low) (fun r9 => Option.bind (g_sight_Seen r9 x1_a1 x2_a2) (fun r10 => Option.bind (g_law02_eyed x0_s x0_s.Eye.High x0_s.Light.High) (fun r11 => Option.bind (g_sight_Seen r11 x1_a1 x2_a2) (fun r12 => cond (r6.2 != 0) (some false) (cond (r8.2 != 0) (some false) (cond (r10.2 != 0) (some false) (cond (r12.2 != 0) (some false) (Option.bind (g_law02_word r6.1) (fun r13 => cond (r13) (Option.bind (g_law02_word r8.1) (fun r14 => cond (r14) (cond (r6.1 == 3) (cond (r8.1 != r6.1) (some false) (cond (r6.1 == 1) (cond ((r10.1 == 3) == true) (cond ((r12.1 == 1) == true) (Option.bind (g_law02_known ) (fun r15 => some r15)) (some false)) (some false)) (cond ((r10.1 == 3) == true) (cond ((r12.1 == 1) == false) (Option.bind (g_law02_known ) (fun r16 => some r16)) (some false)) (some false)))) (cond (r6.1 == 1) (cond (r8.1 != r6.1) (some false) (cond ((r10.1 == 3) == false) (cond ((r12.1 == 1) == true) (Option.bind (g_law02_known ) (fun r17 => some r17)) (some false)) (some false))) (cond ((r10.1 == 3) == false) (cond ((r12.1 == 1) == false) (Option.bind (g_law02_known ) (fun r18 => some r18)) (some false)) (some false)))) (some false))) (some false)))))))))))))))))) (Option.bind (g_law02_known ) (fun r19 => some r19)))
theorem g_law02_SightEyes_ok (x0_s : GSightStreet) (x1_a1 : Int) (x2_a2 : GSightPlace) (x3_a3 : Int) (x4_a4 : Int) (R : Bool) (h : g_law02_SightEyes x0_s x1_a1 x2_a2 x3_a3 x4_a4 = some R) : VPure Tryz.prog G0 4 [.agg (cGSightStreet x0_s), .lit (.int .i64 x1_a1), .agg (cGSightPlace x2_a2), .lit (.int .i64 x3_a3), .lit (.int .i64 x4_a4)] (.tree (.lit (.bool R))) := by
 refine VPure.runR mixed Tryz.call4 Tryz.func4 rfl (by simp [Tryz.ntmps4]; kernel_rfl) ?_
 obtain ⟨KF, h, kF, kN⟩ := fun_intro h
 simp only [g_law02_SightEyes] at h
 cases o21 : (g_law02_right x0_s x1_a1 x2_a2) with
 | none =>
  simp only [o21, hs, reduceCtorEq] at h
  exact absurd h kN
 | some r20 =>
  simp only [o21, hs, reduceCtorEq] at h
  simp only [vz, tyf, nmB, implies_true, seval]
  refine ktree (args0 := [.agg (cGSightStreet x0_s), .lit (.int .i64 x1_a1), .agg (cGSightPlace x2_a2)]) (by first | (simp only [nrm, tynrm] <;> rfl) | rfl) (by simp only [tre, tytre, Bool.and_self]) (g_law02_right_ok _ _ _ _ o21) ?_
  refine fin_cut (fun tm => tm 1 = .lit (.int .i64 x1_a1) ∧ tm 3 = .lit (.int .i64 x3_a3) ∧ tm 4 = .lit (.int .i64 x4_a4) ∧ tm 5 = .ptr 0 0 ∧ tm 7 = .ptr 1 0 ∧ tm 22 = .lit (.bool r20) ∧ True) (by refine ⟨?_, ?_, ?_, ?_, ?_, ?_, trivial⟩ <;> first | (simp only [upd_apply, updH_apply, without_apply, mV_app, mV_app0, nmB, implies_true, seval] <;> rfl) | rfl) ?_
  rintro tm ⟨e22, e23, e24, e25, e26, e27, _⟩
  cases d28 : (r20)
  ·simp only [d28, hs, reduceCtorEq] at h
   cases o30 : (g_law02_known ) with
   | none =>
    simp only [o30, hs, reduceCtorEq] at h
    exact absurd h kN
   | some r29 =>
    simp only [o30, hs, reduceCtorEq] at h
    simp only [vz, tyf, e22, e23, e24, e25, e26, e27, d28, nmB, implies_true, seval]
    refine ktree (args0 := []) (by first | (simp only [nrm, tynrm] <;> rfl) | rfl) (by simp only [tre, tytre, Bool.and_self]) (g_law02_known_ok  _ o30) ?_
    refine fin_cut (fun tm => tm 52 = .lit (.bool r29) ∧ True) (by refine ⟨?_, trivial⟩ <;> first | (simp only [upd_apply, updH_apply, without_apply, mV_app, mV_app0, e22, e23, e24, e25, e26, e27, d28, nmB, implies_true, seval] <;> rfl) | rfl) ?_
    rintro tm ⟨e31, _⟩
    simp only [vz, tyf, d28, e31, nmB, implies_true, seval]
    refine opd_ret (x := (.lit (.bool r29))) (by first | (simp only [Tryz.results4, resV, resL, resV1, tgt_ptr, tgt_tp, upd_apply, updH_apply, without_apply, cr, tyf, d28, e31, nmB, implies_true, seval] <;> rfl) | rfl) ?_
    obtain rfl := kF _ h
    refine rr_tree ?_ ?_
    ·simp only [tre, tytre, Bool.and_self]
    ·first | (simp only [outV, upd_apply, updH_apply, without_apply, showV_ref, cr, tyf, nrm, tynrm, d28, e31, nmB, implies_true, seval] <;> rfl) | rfl
  ·simp only [d28, hs, reduceCtorEq] at h
   cases d32 : (decide (x3_a3 < x0_s.Eye.Low))
   ·simp only [d32, hs, reduceCtorEq] at h
    cases d33 : (decide (x3_a3 > x0_s.Eye.High))
    ·simp only [d33, hs, reduceCtorEq] at h
     cases d34 : (decide (x4_a4 < x0_s.Light.Low))
     ·simp only [d34, hs, reduceCtorEq] at h
      cases d35 : (decide (x4_a4 > x0_s.Light.High))
      ·simp only [d35, hs, reduceCtorEq] at h
       cases o37 : (g_sight_Seen x0_s x1_a1 x2_a2) with
       | none =>
        simp only [o37, hs, reduceCtorEq] at h
        exact absurd h kN
       | some r36 =>
        simp only [o37, hs, reduceCtorEq] at h
        simp only [vz, tyf, e22, e23, e24, e25, e26, e27, d28, d32, d33, d34, d35, nmB, implies_true, seval]
        refine ktree (args0 := [.agg (cGSightStreet x0_s), .lit (.int .i64 x1_a1), .agg (cGSightPlace x2_a2)]) (by first | (simp only [nrm, tynrm] <;> rfl) | rfl) (by simp only [tre, tytre, Bool.and_self]) (g_sight_Seen_ok _ _ _ _ o37) ?_
        refine fin_cut (fun tm => tm 1 = .lit (.int .i64 x1_a1) ∧ tm 3 = .lit (.int .i64 x3_a3) ∧ tm 4 = .lit (.int .i64 x4_a4) ∧ tm 5 = .ptr 0 0 ∧ tm 7 = .ptr 1 0 ∧ tm 57 = .tup [.lit (.int .i64 r36.1), .lit (.int .i64 r36.2)] ∧ True) (by refine ⟨e22, e23, e24, e25, e26, ?_, trivial⟩ <;> first | (simp only [upd_apply, updH_apply, without_apply, mV_app, mV_app0, e22, e23, e24, e25, e26, e27, d28, d32, d33, d34, d35, nmB, implies_true, seval] <;> rfl) | rfl) ?_
        rintro tm ⟨e38, e39, e40, e41, e42, e43, _⟩
        simp only [vz, tyf, d28, d32, d33, d34, d35, e38, e39, e40, e41, e42, e43, nmB, implies_true, seval]
        refine cwp_drwQF (fun tm => tm 1 = .lit (.int .i64 x1_a1) ∧ tm 3 = .lit (.int .i64 x3_a3) ∧ tm 4 = .lit (.int .i64 x4_a4) ∧ tm 5 = .ptr 0 0 ∧ tm 7 = .ptr 1 0 ∧ tm 11 = .lit (.int .i64 r36.1) ∧ tm 12 = .lit (.int .i64 r36.2) ∧ True) (by refine ⟨e38, e39, e40, e41, e42, ?_, ?_, trivial⟩ <;> first | (simp only [upd_apply, updH_apply, without_apply, mV_app, mV_app0, d28, d32, d33, d34, d35, e38, e39, e40, e41, e42, e43, nmB, implies_true, seval] <;> rfl) | rfl) ?_
        rintro tm ⟨e44, e45, e46, e47, e48, e49, e50, _⟩
        cases o52 : (g_law02_eyed x0_s x3_a3 x4_a4) with
        | none =>
         simp only [o52, hs, reduceCtorEq] at h
         exact absurd h kN
        | some r51 =>
         simp only [o52, hs, reduceCtorEq] at h
         simp only [vz, tyf, d28, d32, d33, d34, d35, e44, e45, e46, e47, e48, e49, e50, nmB, implies_true, seval]
         refine dktree (args0 := [.agg (cGSightStreet x0_s), .lit (.int .i64 x3_a3), .lit (.int .i64 x4_a4)]) (by first | (simp only [nrm, tynrm] <;> rfl) | rfl) (by simp only [tre, tytre, Bool.and_self]) (g_law02_eyed_ok _ _ _ _ o52) ?_
         refine fin_cut (fun tm => tm 1 = .lit (.int .i64 x1_a1) ∧ tm 5 = .ptr 0 0 ∧ tm 7 = .ptr 1 0 ∧ tm 11 = .lit (.int .i64 r36.1) ∧ tm 12 = .lit (.int .i64 r36.2) ∧ tm 64 = .agg (cGSightStreet r51) ∧ True) (by refine ⟨e44, e47, e48, e49, e50, ?_, trivial⟩ <;> first | (simp only [upd_apply, updH_apply, without_apply, mV_app, mV_app0, d28, d32, d33, d34, d35, e44, e45, e46, e47, e48, e49, e50, nmB, implies_true, seval] <;> rfl) | rfl) ?_
         rintro tm ⟨e53, e54, e55, e56, e57, e58, _⟩
         cases o60 : (g_sight_Seen r51 x1_a1 x2_a2) with
         | none =>
          simp only [o60, hs, reduceCtorEq] at h
          exact absurd h kN
         | some r59 =>
          simp only [o60, hs, reduceCtorEq] at h
          simp only [vz, tyf, d28, d32, d33, d34, d35, e53, e54, e55, e56, e57, e58, nmB, implies_true, seval]
          refine dktree (args0 := [.agg (cGSightStreet r51), .lit (.int .i64 x1_a1), .agg (cGSightPlace x2_a2)]) (by first | (simp only [nrm, tynrm] <;> rfl) | rfl) (by simp only [tre, tytre, Bool.and_self]) (g_sight_Seen_ok _ _ _ _ o60) ?_
          refine fin_cut (fun tm => tm 1 = .lit (.int .i64 x1_a1) ∧ tm 5 = .ptr 0 0 ∧ tm 7 = .ptr 1 0 ∧ tm 11 = .lit (.int .i64 r36.1) ∧ tm 12 = .lit (.int .i64 r36.2) ∧ tm 67 = .tup [.lit (.int .i64 r59.1), .lit (.int .i64 r59.2)] ∧ True) (by refine ⟨e53, e54, e55, e56, e57, ?_, trivial⟩ <;> first | (simp only [upd_apply, updH_apply, without_apply, mV_app, mV_app0, d28, d32, d33, d34, d35, e53, e54, e55, e56, e57, e58, nmB, implies_true, seval] <;> rfl) | rfl) ?_
          rintro tm ⟨e61, e62, e63, e64, e65, e66, _⟩
          simp only [vz, tyf, d28, d32, d33, d34, d35, e61, e62, e63, e64, e65, e66, nmB, implies_true, seval]
          refine cwp_drwQF (fun tm => tm 1 = .lit (.int .i64 x1_a1) ∧ tm 5 = .ptr 0 0 ∧ tm 7 = .ptr 1 0 ∧ tm 11 = .lit (.int .i64 r36.1) ∧ tm 12 = .lit (.int .i64 r36.2) ∧ tm 13 = .lit (.int .i64 r59.1) ∧ tm 14 = .lit (.int .i64 r59.2) ∧ True) (by refine ⟨e61, e62, e63, e64, e65, ?_, ?_, trivial⟩ <;> first | (simp only [upd_apply, updH_apply, without_apply, mV_app, mV_app0, d28, d32, d33, d34, d35, e61, e62, e63, e64, e65, e66, nmB, implies_true, seval] <;> rfl) | rfl) ?_
          rintro tm ⟨e67, e68, e69, e70, e71, e72, e73, _⟩
          cases o75 : (g_law02_eyed x0_s x0_s.Eye.Low x0_s.Light.Low) with
          | none =>
           simp only [o75, hs, reduceCtorEq] at h
           exact absurd h kN
          | some r74 =>
           simp only [o75, hs, reduceCtorEq] at h
           simp only [vz, tyf, d28, d32, d33, d34, d35, e67, e68, e69, e70, e71, e72, e73, nmB, implies_true, seval]
           refine dktree (args0 := [.agg (cGSightStreet x0_s), .lit (.int .i64 x0_s.Eye.Low), .lit (.int .i64 x0_s.Light.Low)]) (by first | (simp only [nrm, tynrm] <;> rfl) | rfl) (by simp only [tre, tytre, Bool.and_self]) (g_law02_eyed_ok _ _ _ _ o75) ?_
           refine fin_cut (fun tm => tm 1 = .lit (.int .i64 x1_a1) ∧ tm 5 = .ptr 0 0 ∧ tm 7 = .ptr 1 0 ∧ tm 11 = .lit (.int .i64 r36.1) ∧ tm 12 = .lit (.int .i64 r36.2) ∧ tm 13 = .lit (.int .i64 r59.1) ∧ tm 14 = .lit (.int .i64 r59.2) ∧ tm 78 = .agg (cGSightStreet r74) ∧ True) (by refine ⟨e67, e68, e69, e70, e71, e72, e73, ?_, trivial⟩ <;> first | (simp only [upd_apply, updH_apply, without_apply, mV_app, mV_app0, d28, d32, d33, d34, d35, e67, e68, e69, e70, e71, e72, e73, nmB, implies_true, seval] <;> rfl) | rfl) ?_
           rintro tm ⟨e76, e77, e78, e79, e80, e81, e82, e83, _⟩
           cases o85 : (g_sight_Seen r74 x1_a1 x2_a2) with
           | none =>
            simp only [o85, hs, reduceCtorEq] at h
            exact absurd h kN
           | some r84 =>
            simp only [o85, hs, reduceCtorEq] at h
            simp only [vz, tyf, d28, d32, d33, d34, d35, e76, e77, e78, e79, e80, e81, e82, e83, nmB, implies_true, seval]
            refine dktree (args0 := [.agg (cGSightStreet r74), .lit (.int .i64 x1_a1), .agg (cGSightPlace x2_a2)]) (by first | (simp only [nrm, tynrm] <;> rfl) | rfl) (by simp only [tre, tytre, Bool.and_self]) (g_sight_Seen_ok _ _ _ _ o85) ?_
            refine fin_cut (fun tm => tm 1 = .lit (.int .i64 x1_a1) ∧ tm 5 = .ptr 0 0 ∧ tm 7 = .ptr 1 0 ∧ tm 11 = .lit (.int .i64 r36.1) ∧ tm 12 = .lit (.int .i64 r36.2) ∧ tm 13 = .lit (.int .i64 r59.1) ∧ tm 14 = .lit (.int .i64 r59.2) ∧ tm 81 = .tup [.lit (.int .i64 r84.1), .lit (.int .i64 r84.2)] ∧ True) (by refine ⟨e76, e77, e78, e79, e80, e81, e82, ?_, trivial⟩ <;> first | (simp only [upd_apply, updH_apply, without_apply, mV_app, mV_app0, d28, d32, d33, d34, d35, e76, e77, e78, e79, e80, e81, e82, e83, nmB, implies_true, seval] <;> rfl) | rfl) ?_
            rintro tm ⟨e86, e87, e88, e89, e90, e91, e92, e93, _⟩
            simp only [vz, tyf, d28, d32, d33, d34, d35, e86, e87, e88, e89, e90, e91, e92, e93, nmB, implies_true, seval]
            refine cwp_drwQF (fun tm => tm 1 = .lit (.int .i64 x1_a1) ∧ tm 5 = .ptr 0 0 ∧ tm 7 = .ptr 1 0 ∧ tm 11 = .lit (.int .i64 r36.1) ∧ tm 12 = .lit (.int .i64 r36.2) ∧ tm 13 = .lit (.int .i64 r59.1) ∧ tm 14 = .lit (.int .i64 r59.2) ∧ tm 15 = .lit (.int .i64 r84.1) ∧ tm 16 = .lit (.int .i64 r84.2) ∧ True) (by refine ⟨e86, e87, e88, e89, e90, e91, e92, ?_, ?_, trivial⟩ <;> first | (simp only [upd_apply, updH_apply, without_apply, mV_app, mV_app0, d28, d32, d33, d34, d35, e86, e87, e88, e89, e90, e91, e92, e93, nmB, implies_true, seval] <;> rfl) | rfl) ?_
            rintro tm ⟨e94, e95, e96, e97, e98, e99, e100, e101, e102, _⟩
            cases o104 : (g_law02_eyed x0_s x0_s.Eye.High x0_s.Light.High) with
            | none =>
             simp only [o104, hs, reduceCtorEq] at h
             exact absurd h kN
            | some r103 =>
             simp only [o104, hs, reduceCtorEq] at h
             simp only [vz, tyf, d28, d32, d33, d34, d35, e94, e95, e96, e97, e98, e99, e100, e101, e102, nmB, implies_true, seval]
             refine dktree (args0 := [.agg (cGSightStreet x0_s), .lit (.int .i64 x0_s.Eye.High), .lit (.int .i64 x0_s.Light.High)]) (by first | (simp only [nrm, tynrm] <;> rfl) | rfl) (by simp only [tre, tytre, Bool.and_self]) (g_law02_eyed_ok _ _ _ _ o104) ?_
             refine fin_cut (fun tm => tm 1 = .lit (.int .i64 x1_a1) ∧ tm 7 = .ptr 1 0 ∧ tm 11 = .lit (.int .i64 r36.1) ∧ tm 12 = .lit (.int .i64 r36.2) ∧ tm 13 = .lit (.int .i64 r59.1) ∧ tm 14 = .lit (.int .i64 r59.2) ∧ tm 15 = .lit (.int .i64 r84.1) ∧ tm 16 = .lit (.int .i64 r84.2) ∧ tm 92 = .agg (cGSightStreet r103) ∧ True) (by refine ⟨e94, e96, e97, e98, e99, e100, e101, e102, ?_, trivial⟩ <;> first | (simp only [upd_apply, updH_apply, without_apply, mV_app, mV_app0, d28, d32, d33, d34, d35, e94, e95, e96, e97, e98, e99, e100, e101, e102, nmB, implies_true, seval] <;> rfl) | rfl) ?_
             rintro tm ⟨e105, e106, e107, e108, e109, e110, e111, e112, e113, _⟩
             cases o115 : (g_sight_Seen r103 x1_a1 x2_a2) with
             | none =>
              simp only [o115, hs, reduceCtorEq] at h
              exact absurd h kN
             | some r114 =>
              simp only [o115, hs, reduceCtorEq] at h
              simp only [vz, tyf, d28, d32, d33, d34, d35, e105, e106, e107, e108, e109, e110, e111, e112, e113, nmB, implies_true, seval]
              refine dktree (args0 := [.agg (cGSightStreet r103), .lit (.int .i64 x1_a1), .agg (cGSightPlace x2_a2)]) (by first | (simp only [nrm, tynrm] <;> rfl) | rfl) (by simp only [tre, tytre, Bool.and_self]) (g_sight_Seen_ok _ _ _ _ o115) ?_
              refine fin_cut (fun tm => tm 11 = .lit (.int .i64 r36.1) ∧ tm 12 = .lit (.int .i64 r36.2) ∧ tm 13 = .lit (.int .i64 r59.1) ∧ tm 14 = .lit (.int .i64 r59.2) ∧ tm 15 = .lit (.int .i64 r84.1) ∧ tm 16 = .lit (.int .i64 r84.2) ∧ tm 95 = .tup [.lit (.int .i64 r114.1), .lit (.int .i64 r114.2)] ∧ True) (by refine ⟨e107, e108, e109, e110, e111, e112, ?_, trivial⟩ <;> first | (simp only [upd_apply, updH_apply, without_apply, mV_app, mV_app0, d28, d32, d33, d34, d35, e105, e106, e107, e108, e109, e110, e111, e112, e113, nmB, implies_true, seval] <;> rfl) | rfl) ?_
              rintro tm ⟨e116, e117, e118, e119, e120, e121, e122, _⟩
              cases d123 : (r36.2 != 0)
              ·simp only [d123, hs, reduceCtorEq] at h
               cases d124 : (r59.2 != 0)
               ·simp only [d124, hs, reduceCtorEq] at h
                cases d125 : (r84.2 != 0)
                ·simp only [d125, hs, reduceCtorEq] at h
                 cases d126 : (r114.2 != 0)
                 ·simp only [d126, hs, reduceCtorEq] at h
                  cases o128 : (g_law02_word r36.1) with
                  | none =>
                   simp only [o128, hs, reduceCtorEq] at h
                   exact absurd h kN
                  | some r127 =>
                   simp only [o128, hs, reduceCtorEq] at h
                   simp only [vz, tyf, d28, d32, d33, d34, d35, e116, e117, e118, e119, e120, e121, e122, d123, d124, d125, d126, nmB, implies_true, seval]
                   refine ktree (args0 := [.lit (.int .i64 r36.1)]) (by first | (simp only [nrm, tynrm] <;> rfl) | rfl) (by simp only [tre, tytre, Bool.and_self]) (g_law02_word_ok _ _ o128) ?_
                   refine fin_cut (fun tm => tm 11 = .lit (.int .i64 r36.1) ∧ tm 13 = .lit (.int .i64 r59.1) ∧ tm 15 = .lit (.int .i64 r84.1) ∧ tm 17 = .lit (.int .i64 r114.1) ∧ tm 112 = .lit (.bool false) ∧ tm 114 = .lit (.bool r127) ∧ True) (by refine ⟨e116, e118, e120, ?_, ?_, ?_, trivial⟩ <;> first | (simp only [upd_apply, updH_apply, without_apply, mV_app, mV_app0, d28, d32, d33, d34, d35, e116, e117, e118, e119, e120, e121, e122, d123, d124, d125, d126, nmB, implies_true, seval] <;> rfl) | rfl) ?_
                   rintro tm ⟨e129, e130, e131, e132, e133, e134, _⟩
                   cases d135 : (r127)
                   ·simp only [d135, hs, reduceCtorEq] at h
                    simp only [vz, tyf, d28, d32, d33, d34, d35, d123, d124, d125, d126, e129, e130, e131, e132, e133, e134, d135, nmB, implies_true, seval]
                    refine opd_ret (x := (.lit (.bool false))) (by first | (simp only [Tryz.results4, resV, resL, resV1, tgt_ptr, tgt_tp, upd_apply, updH_apply, without_apply, cr, tyf, d28, d32, d33, d34, d35, d123, d124, d125, d126, e129, e130, e131, e132, e133, e134, d135, nmB, implies_true, seval] <;> rfl) | rfl) ?_
                    obtain rfl := kF _ h
                    refine rr_tree ?_ ?_
                    ·simp only [tre, tytre, Bool.and_self]
                    ·first | (simp only [outV, upd_apply, updH_apply, without_apply, showV_ref, cr, tyf, nrm, tynrm, d28, d32, d33, d34, d35, d123, d124, d125, d126, e129, e130, e131, e132, e133, e134, d135, nmB, implies_true, seval] <;> rfl) | rfl
                   ·simp only [d135, hs, reduceCtorEq] at h
                    cases o137 : (g_law02_word r59.1) with
                    | none =>
                     simp only [o137, hs, reduceCtorEq] at h
                     exact absurd h kN
                    | some r136 =>
                     simp only [o137, hs, reduceCtorEq] at h
                     simp only [vz, tyf, d28, d32, d33, d34, d35, d123, d124, d125, d126, e129, e130, e131, e132, e133, e134, d135, nmB, implies_true, seval]
                     refine ktree (args0 := [.lit (.int .i64 r59.1)]) (by first | (simp only [nrm, tynrm] <;> rfl) | rfl) (by simp only [tre, tytre, Bool.and_self]) (g_law02_word_ok _ _ o137) ?_
                     refine fin_cut (fun tm => tm 11 = .lit (.int .i64 r36.1) ∧ tm 13 = .lit (.int .i64 r59.1) ∧ tm 15 = .lit (.int .i64 r84.1) ∧ tm 17 = .lit (.int .i64 r114.1) ∧ tm 117 = .lit (.bool false) ∧ tm 119 = .lit (.bool r136) ∧ True) (by refine ⟨e129, e130, e131, e132, ?_, ?_, trivial⟩ <;> first | (simp only [upd_apply, updH_apply, without_apply, mV_app, mV_app0, d28, d32, d33, d34, d35, d123, d124, d125, d126, e129, e130, e131, e132, e133, e134, d135, nmB, implies_true, seval] <;> rfl) | rfl) ?_
                     rintro tm ⟨e138, e139, e140, e141, e142, e143, _⟩
                     cases d144 : (r136)
                     ·simp only [d144, hs, reduceCtorEq] at h
                      simp only [vz, tyf, d28, d32, d33, d34, d35, d123, d124, d125, d126, d135, e138, e139, e140, e141, e142, e143, d144, nmB, implies_true, seval]
                      refine opd_ret (x := (.lit (.bool false))) (by first | (simp only [Tryz.results4, resV, resL, resV1, tgt_ptr, tgt_tp, upd_apply, updH_apply, without_apply, cr, tyf, d28, d32, d33, d34, d35, d123, d124, d125, d126, d135, e138, e139, e140, e141, e142, e143, d144, nmB, implies_true, seval] <;> rfl) | rfl) ?_
                      obtain rfl := kF _ h
                      refine rr_tree ?_ ?_
                      ·simp only [tre, tytre, Bool.and_self]
                      ·first | (simp only [outV, upd_apply, updH_apply, without_apply, showV_ref, cr, tyf, nrm, tynrm, d28, d32, d33, d34, d35, d123, d124, d125, d126, d135, e138, e139, e140, e141, e142, e143, d144, nmB, implies_true, seval] <;> rfl) | rfl
                     ·simp only [d144, hs, reduceCtorEq] at h
                      cases d145 : (r36.1 == 3)
                      ·simp only [d145, hs, reduceCtorEq] at h
                       cases d146 : (r36.1 == 1)
                       ·simp only [d146, hs, reduceCtorEq] at h
                        cases d147 : ((r84.1 == 3) == false)
                        ·simp only [d147, hs, reduceCtorEq] at h
                         simp only [vz, tyf, d28, d32, d33, d34, d35, d123, d124, d125, d126, d135, e138, e139, e140, e141, e142, e143, d144, d145, d146, d147, nmB, implies_true, seval]
                         refine opd_ret (x := (.lit (.bool false))) (by first | (simp only [Tryz.results4, resV, resL, resV1, tgt_ptr, tgt_tp, upd_apply, updH_apply, without_apply, cr, tyf, d28, d32, d33, d34, d35, d123, d124, d125, d126, d135, e138, e139, e140, e141, e142, e143, d144, d145, d146, d147, nmB, implies_true, seval] <;> rfl) | rfl) ?_
                         obtain rfl := kF _ h
                         refine rr_tree ?_ ?_
                         ·simp only [tre, tytre, Bool.and_self]
                         ·first | (simp only [outV, upd_apply, updH_apply, without_apply, showV_ref, cr, tyf, nrm, tynrm, d28, d32, d33, d34, d35, d123, d124, d125, d126, d135, e138, e139, e140, e141, e142, e143, d144, d145, d146, d147, nmB, implies_true, seval] <;> rfl) | rfl
                        ·simp only [d147, hs, reduceCtorEq] at h
                         cases d148 : ((r114.1 == 1) == false)
                         ·simp only [d148, hs, reduceCtorEq] at h
                          simp only [vz, tyf, d28, d32, d33, d34, d35, d123, d124, d125, d126, d135, e138, e139, e140, e141, e142, e143, d144, d145, d146, d147, d148, nmB, implies_true, seval]
                          refine opd_ret (x := (.lit (.bool false))) (by first | (simp only [Tryz.results4, resV, resL, resV1, tgt_ptr, tgt_tp, upd_apply, updH_apply, without_apply, cr, tyf, d28, d32, d33, d34, d35, d123, d124, d125, d126, d135, e138, e139, e140, e141, e142, e143, d144, d145, d146, d147, d148, nmB, implies_true, seval] <;> rfl) | rfl) ?_
                          obtain rfl := kF _ h
                          refine rr_tree ?_ ?_
                          ·simp only [tre, tytre, Bool.and_self]
                          ·first | (simp only [outV, upd_apply, updH_apply, without_apply, showV_ref, cr, tyf, nrm, tynrm, d28, d32, d33, d34, d35, d123, d124, d125, d126, d135, e138, e139, e140, e141, e142, e143, d144, d145, d146, d147, d148, nmB, implies_true, seval] <;> rfl) | rfl
                         ·simp only [d148, hs, reduceCtorEq] at h
                          cases o150 : (g_law02_known ) with
                          | none =>
                           simp only [o150, hs, reduceCtorEq] at h
                           exact absurd h kN
                          | some r149 =>
                           simp only [o150, hs, reduceCtorEq] at h
                           simp only [vz, tyf, d28, d32, d33, d34, d35, d123, d124, d125, d126, d135, e138, e139, e140, e141, e142, e143, d144, d145, d146, d147, d148, nmB, implies_true, seval]
                           refine ktree (args0 := []) (by first | (simp only [nrm, tynrm] <;> rfl) | rfl) (by simp only [tre, tytre, Bool.and_self]) (g_law02_known_ok  _ o150) ?_
                           refine fin_cut (fun tm => tm 150 = .lit (.bool true) ∧ tm 151 = .lit (.bool r149) ∧ True) (by refine ⟨?_, ?_, trivial⟩ <;> first | (simp only [upd_apply, updH_apply, without_apply, mV_app, mV_app0, d28, d32, d33, d34, d35, d123, d124, d125, d126, d135, e138, e139, e140, e141, e142, e143, d144, d145, d146, d147, d148, nmB, implies_true, seval] <;> rfl) | rfl) ?_
                           rintro tm ⟨e151, e152, _⟩
                           simp only [vz, tyf, d28, d32, d33, d34, d35, d123, d124, d125, d126, d135, d144, d145, d146, d147, d148, e151, e152, nmB, implies_true, seval]
                           refine opd_ret (x := (.lit (.bool r149))) (by first | (simp only [Tryz.results4, resV, resL, resV1, tgt_ptr, tgt_tp, upd_apply, updH_apply, without_apply, cr, tyf, d28, d32, d33, d34, d35, d123, d124, d125, d126, d135, d144, d145, d146, d147, d148, e151, e152, nmB, implies_true, seval] <;> rfl) | rfl) ?_
                           obtain rfl := kF _ h
                           refine rr_tree ?_ ?_
                           ·simp only [tre, tytre, Bool.and_self]
                           ·first | (simp only [outV, upd_apply, updH_apply, without_apply, showV_ref, cr, tyf, nrm, tynrm, d28, d32, d33, d34, d35, d123, d124, d125, d126, d135, d144, d145, d146, d147, d148, e151, e152, nmB, implies_true, seval] <;> rfl) | rfl
                       ·simp only [d146, hs, reduceCtorEq] at h
                        cases d153 : (r59.1 != r36.1)
                        ·simp only [d153, hs, reduceCtorEq] at h
                         cases d154 : ((r84.1 == 3) == false)
                         ·simp only [d154, hs, reduceCtorEq] at h
                          simp only [vz, tyf, d28, d32, d33, d34, d35, d123, d124, d125, d126, d135, e138, e139, e140, e141, e142, e143, d144, d145, d146, d153, d154, nmB, implies_true, seval]
                          refine opd_ret (x := (.lit (.bool false))) (by first | (simp only [Tryz.results4, resV, resL, resV1, tgt_ptr, tgt_tp, upd_apply, updH_apply, without_apply, cr, tyf, d28, d32, d33, d34, d35, d123, d124, d125, d126, d135, e138, e139, e140, e141, e142, e143, d144, d145, d146, d153, d154, nmB, implies_true, seval] <;> rfl) | rfl) ?_
                          obtain rfl := kF _ h
                          refine rr_tree ?_ ?_
                          ·simp only [tre, tytre, Bool.and_self]
                          ·first | (simp only [outV, upd_apply, updH_apply, without_apply, showV_ref, cr, tyf, nrm, tynrm, d28, d32, d33, d34, d35, d123, d124, d125, d126, d135, e138, e139, e140, e141, e142, e143, d144, d145, d146, d153, d154, nmB, implies_true, seval] <;> rfl) | rfl
                         ·simp only [d154, hs, reduceCtorEq] at h
                          cases d155 : ((r114.1 == 1) == true)
                          ·simp only [d155, hs, reduceCtorEq] at h
                           simp only [vz, tyf, d28, d32, d33, d34, d35, d123, d124, d125, d126, d135, e138, e139, e140, e141, e142, e143, d144, d145, d146, d153, d154, d155, nmB, implies_true, seval]
                           refine opd_ret (x := (.lit (.bool false))) (by first | (simp only [Tryz.results4, resV, resL, resV1, tgt_ptr, tgt_tp, upd_apply, updH_apply, without_apply, cr, tyf, d28, d32, d33, d34, d35, d123, d124, d125, d126, d135, e138, e139, e140, e141, e142, e143, d144, d145, d146, d153, d154, d155, nmB, implies_true, seval] <;> rfl) | rfl) ?_
                           obtain rfl := kF _ h
                           refine rr_tree ?_ ?_
                           ·simp only [tre, tytre, Bool.and_self]
                           ·first | (simp only [outV, upd_apply, updH_apply, without_apply, showV_ref, cr, tyf, nrm, tynrm, d28, d32, d33, d34, d35, d123, d124, d125, d126, d135, e138, e139, e140, e141, e142, e143, d144, d145, d146, d153, d154, d155, nmB, implies_true, seval] <;> rfl) | rfl
                          ·simp only [d155, hs, reduceCtorEq] at h
                           cases o157 : (g_law02_known ) with
                           | none =>
                            simp only [o157, hs, reduceCtorEq] at h
                            exact absurd h kN
                           | some r156 =>
                            simp only [o157, hs, reduceCtorEq] at h
                            simp only [vz, tyf, d28, d32, d33, d34, d35, d123, d124, d125, d126, d135, e138, e139, e140, e141, e142, e143, d144, d145, d146, d153, d154, d155, nmB, implies_true, seval]
                            refine ktree (args0 := []) (by first | (simp only [nrm, tynrm] <;> rfl) | rfl) (by simp only [tre, tytre, Bool.and_self]) (g_law02_known_ok  _ o157) ?_
                            refine fin_cut (fun tm => tm 150 = .lit (.bool true) ∧ tm 151 = .lit (.bool r156) ∧ True) (by refine ⟨?_, ?_, trivial⟩ <;> first | (simp only [upd_apply, updH_apply, without_apply, mV_app, mV_app0, d28, d32, d33, d34, d35, d123, d124, d125, d126, d135, e138, e139, e140, e141, e142, e143, d144, d145, d146, d153, d154, d155, nmB, implies_true, seval] <;> rfl) | rfl) ?_
                            rintro tm ⟨e158, e159, _⟩
                            simp only [vz, tyf, d28, d32, d33, d34, d35, d123, d124, d125, d126, d135, d144, d145, d146, d153, d154, d155, e158, e159, nmB, implies_true, seval]
                            refine opd_ret (x := (.lit (.bool r156))) (by first | (simp only [Tryz.results4, resV, resL, resV1, tgt_ptr, tgt_tp, upd_apply, updH_apply, without_apply, cr, tyf, d28, d32, d33, d34, d35, d123, d124, d125, d126, d135, d144, d145, d146, d153, d154, d155, e158, e159, nmB, implies_true, seval] <;> rfl) | rfl) ?_
                            obtain rfl := kF _ h
                            refine rr_tree ?_ ?_
                            ·simp only [tre, tytre, Bool.and_self]
                            ·first | (simp only [outV, upd_apply, updH_apply, without_apply, showV_ref, cr, tyf, nrm, tynrm, d28, d32, d33, d34, d35, d123, d124, d125, d126, d135, d144, d145, d146, d153, d154, d155, e158, e159, nmB, implies_true, seval] <;> rfl) | rfl
                        ·simp only [d153, hs, reduceCtorEq] at h
                         simp only [vz, tyf, d28, d32, d33, d34, d35, d123, d124, d125, d126, d135, e138, e139, e140, e141, e142, e143, d144, d145, d146, d153, nmB, implies_true, seval]
                         refine opd_ret (x := (.lit (.bool false))) (by first | (simp only [Tryz.results4, resV, resL, resV1, tgt_ptr, tgt_tp, upd_apply, updH_apply, without_apply, cr, tyf, d28, d32, d33, d34, d35, d123, d124, d125, d126, d135, e138, e139, e140, e141, e142, e143, d144, d145, d146, d153, nmB, implies_true, seval] <;> rfl) | rfl) ?_
                         obtain rfl := kF _ h
                         refine rr_tree ?_ ?_
                         ·simp only [tre, tytre, Bool.and_self]
                         ·first | (simp only [outV, upd_apply, updH_apply, without_apply, showV_ref, cr, tyf, nrm, tynrm, d28, d32, d33, d34, d35, d123, d124, d125, d126, d135, e138, e139, e140, e141, e142, e143, d144, d145, d146, d153, nmB, implies_true, seval] <;> rfl) | rfl
                      ·simp only [d145, hs, reduceCtorEq] at h
                       cases d160 : (r59.1 != r36.1)
                       ·simp only [d160, hs, reduceCtorEq] at h
                        cases d161 : (r36.1 == 1)
                        ·simp only [d161, hs, reduceCtorEq] at h
                         cases d162 : ((r84.1 == 3) == true)
                         ·simp only [d162, hs, reduceCtorEq] at h
                          simp only [vz, tyf, d28, d32, d33, d34, d35, d123, d124, d125, d126, d135, e138, e139, e140, e141, e142, e143, d144, d145, d160, d161, d162, nmB, implies_true, seval]
                          refine opd_ret (x := (.lit (.bool false))) (by first | (simp only [Tryz.results4, resV, resL, resV1, tgt_ptr, tgt_tp, upd_apply, updH_apply, without_apply, cr, tyf, d28, d32, d33, d34, d35, d123, d124, d125, d126, d135, e138, e139, e140, e141, e142, e143, d144, d145, d160, d161, d162, nmB, implies_true, seval] <;> rfl) | rfl) ?_
                          obtain rfl := kF _ h
                          refine rr_tree ?_ ?_
                          ·simp only [tre, tytre, Bool.and_self]
                          ·first | (simp only [outV, upd_apply, updH_apply, without_apply, showV_ref, cr, tyf, nrm, tynrm, d28, d32, d33, d34, d35, d123, d124, d125, d126, d135, e138, e139, e140, e141, e142, e143, d144, d145, d160, d161, d162, nmB, implies_true, seval] <;> rfl) | rfl
                         ·simp only [d162, hs, reduceCtorEq] at h
                          cases d163 : ((r114.1 == 1) == false)
                          ·simp only [d163, hs, reduceCtorEq] at h
                           simp only [vz, tyf, d28, d32, d33, d34, d35, d123, d124, d125, d126, d135, e138, e139, e140, e141, e142, e143, d144, d145, d160, d161, d162, d163, nmB, implies_true, seval]
                           refine opd_ret (x := (.lit (.bool false))) (by first | (simp only [Tryz.results4, resV, resL, resV1, tgt_ptr, tgt_tp, upd_apply, updH_apply, without_apply, cr, tyf, d28, d32, d33, d34, d35, d123, d124, d125, d126, d135, e138, e139, e140, e141, e142, e143, d144, d145, d160, d161, d162, d163, nmB, implies_true, seval] <;> rfl) | rfl) ?_
                           obtain rfl := kF _ h
                           refine rr_tree ?_ ?_
                           ·simp only [tre, tytre, Bool.and_self]
                           ·first | (simp only [outV, upd_apply, updH_apply, without_apply, showV_ref, cr, tyf, nrm, tynrm, d28, d32, d33, d34, d35, d123, d124, d125, d126, d135, e138, e139, e140, e141, e142, e143, d144, d145, d160, d161, d162, d163, nmB, implies_true, seval] <;> rfl) | rfl
                          ·simp only [d163, hs, reduceCtorEq] at h
                           cases o165 : (g_law02_known ) with
                           | none =>
                            simp only [o165, hs, reduceCtorEq] at h
                            exact absurd h kN
                           | some r164 =>
                            simp only [o165, hs, reduceCtorEq] at h
                            simp only [vz, tyf, d28, d32, d33, d34, d35, d123, d124, d125, d126, d135, e138, e139, e140, e141, e142, e143, d144, d145, d160, d161, d162, d163, nmB, implies_true, seval]
                            refine ktree (args0 := []) (by first | (simp only [nrm, tynrm] <;> rfl) | rfl) (by simp only [tre, tytre, Bool.and_self]) (g_law02_known_ok  _ o165) ?_
                            refine fin_cut (fun tm => tm 150 = .lit (.bool true) ∧ tm 151 = .lit (.bool r164) ∧ True) (by refine ⟨?_, ?_, trivial⟩ <;> first | (simp only [upd_apply, updH_apply, without_apply, mV_app, mV_app0, d28, d32, d33, d34, d35, d123, d124, d125, d126, d135, e138, e139, e140, e141, e142, e143, d144, d145, d160, d161, d162, d163, nmB, implies_true, seval] <;> rfl) | rfl) ?_
                            rintro tm ⟨e166, e167, _⟩
                            simp only [vz, tyf, d28, d32, d33, d34, d35, d123, d124, d125, d126, d135, d144, d145, d160, d161, d162, d163, e166, e167, nmB, implies_true, seval]
                            refine opd_ret (x := (.lit (.bool r164))) (by first | (simp only [Tryz.results4, resV, resL, resV1, tgt_ptr, tgt_tp, upd_apply, updH_apply, without_apply, cr, tyf, d28, d32, d33, d34, d35, d123, d124, d125, d126, d135, d144, d145, d160, d161, d162, d163, e166, e167, nmB, implies_true, seval] <;> rfl) | rfl) ?_
                            obtain rfl := kF _ h
                            refine rr_tree ?_ ?_
                            ·simp only [tre, tytre, Bool.and_self]
                            ·first | (simp only [outV, upd_apply, updH_apply, without_apply, showV_ref, cr, tyf, nrm, tynrm, d28, d32, d33, d34, d35, d123, d124, d125, d126, d135, d144, d145, d160, d161, d162, d163, e166, e167, nmB, implies_true, seval] <;> rfl) | rfl
                        ·simp only [d161, hs, reduceCtorEq] at h
                         cases d168 : ((r84.1 == 3) == true)
                         ·simp only [d168, hs, reduceCtorEq] at h
                          simp only [vz, tyf, d28, d32, d33, d34, d35, d123, d124, d125, d126, d135, e138, e139, e140, e141, e142, e143, d144, d145, d160, d161, d168, nmB, implies_true, seval]
                          refine opd_ret (x := (.lit (.bool false))) (by first | (simp only [Tryz.results4, resV, resL, resV1, tgt_ptr, tgt_tp, upd_apply, updH_apply, without_apply, cr, tyf, d28, d32, d33, d34, d35, d123, d124, d125, d126, d135, e138, e139, e140, e141, e142, e143, d144, d145, d160, d161, d168, nmB, implies_true, seval] <;> rfl) | rfl) ?_
                          obtain rfl := kF _ h
                          refine rr_tree ?_ ?_
                          ·simp only [tre, tytre, Bool.and_self]
                          ·first | (simp only [outV, upd_apply, updH_apply, without_apply, showV_ref, cr, tyf, nrm, tynrm, d28, d32, d33, d34, d35, d123, d124, d125, d126, d135, e138, e139, e140, e141, e142, e143, d144, d145, d160, d161, d168, nmB, implies_true, seval] <;> rfl) | rfl
                         ·simp only [d168, hs, reduceCtorEq] at h
                          cases d169 : ((r114.1 == 1) == true)
                          ·simp only [d169, hs, reduceCtorEq] at h
                           simp only [vz, tyf, d28, d32, d33, d34, d35, d123, d124, d125, d126, d135, e138, e139, e140, e141, e142, e143, d144, d145, d160, d161, d168, d169, nmB, implies_true, seval]
                           refine opd_ret (x := (.lit (.bool false))) (by first | (simp only [Tryz.results4, resV, resL, resV1, tgt_ptr, tgt_tp, upd_apply, updH_apply, without_apply, cr, tyf, d28, d32, d33, d34, d35, d123, d124, d125, d126, d135, e138, e139, e140, e141, e142, e143, d144, d145, d160, d161, d168, d169, nmB, implies_true, seval] <;> rfl) | rfl) ?_
                           obtain rfl := kF _ h
                           refine rr_tree ?_ ?_
                           ·simp only [tre, tytre, Bool.and_self]
                           ·first | (simp only [outV, upd_apply, updH_apply, without_apply, showV_ref, cr, tyf, nrm, tynrm, d28, d32, d33, d34, d35, d123, d124, d125, d126, d135, e138, e139, e140, e141, e142, e143, d144, d145, d160, d161, d168, d169, nmB, implies_true, seval] <;> rfl) | rfl
                          ·simp only [d169, hs, reduceCtorEq] at h
                           cases o171 : (g_law02_known ) with
                           | none =>
                            simp only [o171, hs, reduceCtorEq] at h
                            exact absurd h kN
                           | some r170 =>
                            simp only [o171, hs, reduceCtorEq] at h
                            simp only [vz, tyf, d28, d32, d33, d34, d35, d123, d124, d125, d126, d135, e138, e139, e140, e141, e142, e143, d144, d145, d160, d161, d168, d169, nmB, implies_true, seval]
                            refine ktree (args0 := []) (by first | (simp only [nrm, tynrm] <;> rfl) | rfl) (by simp only [tre, tytre, Bool.and_self]) (g_law02_known_ok  _ o171) ?_
                            refine fin_cut (fun tm => tm 150 = .lit (.bool true) ∧ tm 151 = .lit (.bool r170) ∧ True) (by refine ⟨?_, ?_, trivial⟩ <;> first | (simp only [upd_apply, updH_apply, without_apply, mV_app, mV_app0, d28, d32, d33, d34, d35, d123, d124, d125, d126, d135, e138, e139, e140, e141, e142, e143, d144, d145, d160, d161, d168, d169, nmB, implies_true, seval] <;> rfl) | rfl) ?_
                            rintro tm ⟨e172, e173, _⟩
                            simp only [vz, tyf, d28, d32, d33, d34, d35, d123, d124, d125, d126, d135, d144, d145, d160, d161, d168, d169, e172, e173, nmB, implies_true, seval]
                            refine opd_ret (x := (.lit (.bool r170))) (by first | (simp only [Tryz.results4, resV, resL, resV1, tgt_ptr, tgt_tp, upd_apply, updH_apply, without_apply, cr, tyf, d28, d32, d33, d34, d35, d123, d124, d125, d126, d135, d144, d145, d160, d161, d168, d169, e172, e173, nmB, implies_true, seval] <;> rfl) | rfl) ?_
                            obtain rfl := kF _ h
                            refine rr_tree ?_ ?_
                            ·simp only [tre, tytre, Bool.and_self]
                            ·first | (simp only [outV, upd_apply, updH_apply, without_apply, showV_ref, cr, tyf, nrm, tynrm, d28, d32, d33, d34, d35, d123, d124, d125, d126, d135, d144, d145, d160, d161, d168, d169, e172, e173, nmB, implies_true, seval] <;> rfl) | rfl
                       ·simp only [d160, hs, reduceCtorEq] at h
                        simp only [vz, tyf, d28, d32, d33, d34, d35, d123, d124, d125, d126, d135, e138, e139, e140, e141, e142, e143, d144, d145, d160, nmB, implies_true, seval]
                        refine opd_ret (x := (.lit (.bool false))) (by first | (simp only [Tryz.results4, resV, resL, resV1, tgt_ptr, tgt_tp, upd_apply, updH_apply, without_apply, cr, tyf, d28, d32, d33, d34, d35, d123, d124, d125, d126, d135, e138, e139, e140, e141, e142, e143, d144, d145, d160, nmB, implies_true, seval] <;> rfl) | rfl) ?_
                        obtain rfl := kF _ h
                        refine rr_tree ?_ ?_
                        ·simp only [tre, tytre, Bool.and_self]
                        ·first | (simp only [outV, upd_apply, updH_apply, without_apply, showV_ref, cr, tyf, nrm, tynrm, d28, d32, d33, d34, d35, d123, d124, d125, d126, d135, e138, e139, e140, e141, e142, e143, d144, d145, d160, nmB, implies_true, seval] <;> rfl) | rfl
                 ·simp only [d126, hs, reduceCtorEq] at h
                  simp only [vz, tyf, d28, d32, d33, d34, d35, e116, e117, e118, e119, e120, e121, e122, d123, d124, d125, d126, nmB, implies_true, seval]
                  refine opd_ret (x := (.lit (.bool false))) (by first | (simp only [Tryz.results4, resV, resL, resV1, tgt_ptr, tgt_tp, upd_apply, updH_apply, without_apply, cr, tyf, d28, d32, d33, d34, d35, e116, e117, e118, e119, e120, e121, e122, d123, d124, d125, d126, nmB, implies_true, seval] <;> rfl) | rfl) ?_
                  obtain rfl := kF _ h
                  refine rr_tree ?_ ?_
                  ·simp only [tre, tytre, Bool.and_self]
                  ·first | (simp only [outV, upd_apply, updH_apply, without_apply, showV_ref, cr, tyf, nrm, tynrm, d28, d32, d33, d34, d35, e116, e117, e118, e119, e120, e121, e122, d123, d124, d125, d126, nmB, implies_true, seval] <;> rfl) | rfl
                ·simp only [d125, hs, reduceCtorEq] at h
                 simp only [vz, tyf, d28, d32, d33, d34, d35, e116, e117, e118, e119, e120, e121, e122, d123, d124, d125, nmB, implies_true, seval]
                 refine opd_ret (x := (.lit (.bool false))) (by first | (simp only [Tryz.results4, resV, resL, resV1, tgt_ptr, tgt_tp, upd_apply, updH_apply, without_apply, cr, tyf, d28, d32, d33, d34, d35, e116, e117, e118, e119, e120, e121, e122, d123, d124, d125, nmB, implies_true, seval] <;> rfl) | rfl) ?_
                 obtain rfl := kF _ h
                 refine rr_tree ?_ ?_
                 ·simp only [tre, tytre, Bool.and_self]
                 ·first | (simp only [outV, upd_apply, updH_apply, without_apply, showV_ref, cr, tyf, nrm, tynrm, d28, d32, d33, d34, d35, e116, e117, e118, e119, e120, e121, e122, d123, d124, d125, nmB, implies_true, seval] <;> rfl) | rfl
               ·simp only [d124, hs, reduceCtorEq] at h
                simp only [vz, tyf, d28, d32, d33, d34, d35, e116, e117, e118, e119, e120, e121, e122, d123, d124, nmB, implies_true, seval]
                refine opd_ret (x := (.lit (.bool false))) (by first | (simp only [Tryz.results4, resV, resL, resV1, tgt_ptr, tgt_tp, upd_apply, updH_apply, without_apply, cr, tyf, d28, d32, d33, d34, d35, e116, e117, e118, e119, e120, e121, e122, d123, d124, nmB, implies_true, seval] <;> rfl) | rfl) ?_
                obtain rfl := kF _ h
                refine rr_tree ?_ ?_
                ·simp only [tre, tytre, Bool.and_self]
                ·first | (simp only [outV, upd_apply, updH_apply, without_apply, showV_ref, cr, tyf, nrm, tynrm, d28, d32, d33, d34, d35, e116, e117, e118, e119, e120, e121, e122, d123, d124, nmB, implies_true, seval] <;> rfl) | rfl
              ·simp only [d123, hs, reduceCtorEq] at h
               simp only [vz, tyf, d28, d32, d33, d34, d35, e116, e117, e118, e119, e120, e121, e122, d123, nmB, implies_true, seval]
               refine opd_ret (x := (.lit (.bool false))) (by first | (simp only [Tryz.results4, resV, resL, resV1, tgt_ptr, tgt_tp, upd_apply, updH_apply, without_apply, cr, tyf, d28, d32, d33, d34, d35, e116, e117, e118, e119, e120, e121, e122, d123, nmB, implies_true, seval] <;> rfl) | rfl) ?_
               obtain rfl := kF _ h
               refine rr_tree ?_ ?_
               ·simp only [tre, tytre, Bool.and_self]
               ·first | (simp only [outV, upd_apply, updH_apply, without_apply, showV_ref, cr, tyf, nrm, tynrm, d28, d32, d33, d34, d35, e116, e117, e118, e119, e120, e121, e122, d123, nmB, implies_true, seval] <;> rfl) | rfl
      ·simp only [d35, hs, reduceCtorEq] at h
       cases o175 : (g_law02_known ) with
       | none =>
        simp only [o175, hs, reduceCtorEq] at h
        exact absurd h kN
       | some r174 =>
        simp only [o175, hs, reduceCtorEq] at h
        simp only [vz, tyf, e22, e23, e24, e25, e26, e27, d28, d32, d33, d34, d35, nmB, implies_true, seval]
        refine ktree (args0 := []) (by first | (simp only [nrm, tynrm] <;> rfl) | rfl) (by simp only [tre, tytre, Bool.and_self]) (g_law02_known_ok  _ o175) ?_
        refine fin_cut (fun tm => tm 52 = .lit (.bool r174) ∧ True) (by refine ⟨?_, trivial⟩ <;> first | (simp only [upd_apply, updH_apply, without_apply, mV_app, mV_app0, e22, e23, e24, e25, e26, e27, d28, d32, d33, d34, d35, nmB, implies_true, seval] <;> rfl) | rfl) ?_
        rintro tm ⟨e176, _⟩
        simp only [vz, tyf, d28, d32, d33, d34, d35, e176, nmB, implies_true, seval]
        refine opd_ret (x := (.lit (.bool r174))) (by first | (simp only [Tryz.results4, resV, resL, resV1, tgt_ptr, tgt_tp, upd_apply, updH_apply, without_apply, cr, tyf, d28, d32, d33, d34, d35, e176, nmB, implies_true, seval] <;> rfl) | rfl) ?_
        obtain rfl := kF _ h
        refine rr_tree ?_ ?_
        ·simp only [tre, tytre, Bool.and_self]
        ·first | (simp only [outV, upd_apply, updH_apply, without_apply, showV_ref, cr, tyf, nrm, tynrm, d28, d32, d33, d34, d35, e176, nmB, implies_true, seval] <;> rfl) | rfl
     ·simp only [d34, hs, reduceCtorEq] at h
      cases o178 : (g_law02_known ) with
      | none =>
       simp only [o178, hs, reduceCtorEq] at h
       exact absurd h kN
      | some r177 =>
       simp only [o178, hs, reduceCtorEq] at h
       simp only [vz, tyf, e22, e23, e24, e25, e26, e27, d28, d32, d33, d34, nmB, implies_true, seval]
       refine ktree (args0 := []) (by first | (simp only [nrm, tynrm] <;> rfl) | rfl) (by simp only [tre, tytre, Bool.and_self]) (g_law02_known_ok  _ o178) ?_
       refine fin_cut (fun tm => tm 52 = .lit (.bool r177) ∧ True) (by refine ⟨?_, trivial⟩ <;> first | (simp only [upd_apply, updH_apply, without_apply, mV_app, mV_app0, e22, e23, e24, e25, e26, e27, d28, d32, d33, d34, nmB, implies_true, seval] <;> rfl) | rfl) ?_
       rintro tm ⟨e179, _⟩
       simp only [vz, tyf, d28, d32, d33, d34, e179, nmB, implies_true, seval]
       refine opd_ret (x := (.lit (.bool r177))) (by first | (simp only [Tryz.results4, resV, resL, resV1, tgt_ptr, tgt_tp, upd_apply, updH_apply, without_apply, cr, tyf, d28, d32, d33, d34, e179, nmB, implies_true, seval] <;> rfl) | rfl) ?_
       obtain rfl := kF _ h
       refine rr_tree ?_ ?_
       ·simp only [tre, tytre, Bool.and_self]
       ·first | (simp only [outV, upd_apply, updH_apply, without_apply, showV_ref, cr, tyf, nrm, tynrm, d28, d32, d33, d34, e179, nmB, implies_true, seval] <;> rfl) | rfl
    ·simp only [d33, hs, reduceCtorEq] at h
     cases o181 : (g_law02_known ) with
     | none =>
      simp only [o181, hs, reduceCtorEq] at h
      exact absurd h kN
     | some r180 =>
      simp only [o181, hs, reduceCtorEq] at h
      simp only [vz, tyf, e22, e23, e24, e25, e26, e27, d28, d32, d33, nmB, implies_true, seval]
      refine ktree (args0 := []) (by first | (simp only [nrm, tynrm] <;> rfl) | rfl) (by simp only [tre, tytre, Bool.and_self]) (g_law02_known_ok  _ o181) ?_
      refine fin_cut (fun tm => tm 52 = .lit (.bool r180) ∧ True) (by refine ⟨?_, trivial⟩ <;> first | (simp only [upd_apply, updH_apply, without_apply, mV_app, mV_app0, e22, e23, e24, e25, e26, e27, d28, d32, d33, nmB, implies_true, seval] <;> rfl) | rfl) ?_
      rintro tm ⟨e182, _⟩
      simp only [vz, tyf, d28, d32, d33, e182, nmB, implies_true, seval]
      refine opd_ret (x := (.lit (.bool r180))) (by first | (simp only [Tryz.results4, resV, resL, resV1, tgt_ptr, tgt_tp, upd_apply, updH_apply, without_apply, cr, tyf, d28, d32, d33, e182, nmB, implies_true, seval] <;> rfl) | rfl) ?_
      obtain rfl := kF _ h
      refine rr_tree ?_ ?_
      ·simp only [tre, tytre, Bool.and_self]
      ·first | (simp only [outV, upd_apply, updH_apply, without_apply, showV_ref, cr, tyf, nrm, tynrm, d28, d32, d33, e182, nmB, implies_true, seval] <;> rfl) | rfl
   ·simp only [d32, hs, reduceCtorEq] at h
    cases o184 : (g_law02_known ) with
    | none =>
     simp only [o184, hs, reduceCtorEq] at h
     exact absurd h kN
    | some r183 =>
     simp only [o184, hs, reduceCtorEq] at h
     simp only [vz, tyf, e22, e23, e24, e25, e26, e27, d28, d32, nmB, implies_true, seval]
     refine ktree (args0 := []) (by first | (simp only [nrm, tynrm] <;> rfl) | rfl) (by simp only [tre, tytre, Bool.and_self]) (g_law02_known_ok  _ o184) ?_
     refine fin_cut (fun tm => tm 52 = .lit (.bool r183) ∧ True) (by refine ⟨?_, trivial⟩ <;> first | (simp only [upd_apply, updH_apply, without_apply, mV_app, mV_app0, e22, e23, e24, e25, e26, e27, d28, d32, nmB, implies_true, seval] <;> rfl) | rfl) ?_
     rintro tm ⟨e185, _⟩
     simp only [vz, tyf, d28, d32, e185, nmB, implies_true, seval]
     refine opd_ret (x := (.lit (.bool r183))) (by first | (simp only [Tryz.results4, resV, resL, resV1, tgt_ptr, tgt_tp, upd_apply, updH_apply, without_apply, cr, tyf, d28, d32, e185, nmB, implies_true, seval] <;> rfl) | rfl) ?_
     obtain rfl := kF _ h
     refine rr_tree ?_ ?_
     ·simp only [tre, tytre, Bool.and_self]
     ·first | (simp only [outV, upd_apply, updH_apply, without_apply, showV_ref, cr, tyf, nrm, tynrm, d28, d32, e185, nmB, implies_true, seval] <;> rfl) | rfl
end Go.V
end
section
namespace Go.V
open Go
set_option linter.unusedVariables false
set_option linter.unusedSimpArgs false
theorem right_eq (s : GSightStreet) (n : Int) (p : GSightPlace) (h : FineS s) (bs : Bool) (hb : g_law02_short s = some bs) : g_law02_right s n p = some (bs && (streetB s && (numB s n && placeB s p))) := by
  simp only [g_law02_right, hb, Option.bind_some, refStreet_eq s h, refBoard_eq, refPlace_eq, csome, numB]
def eyedS (s : GSightStreet) (e l : Int) : GSightStreet := ⟨s.Length, s.Width, ⟨e, e⟩, ⟨l, l⟩, s.Boards, s.Blocks⟩
theorem eyed_eq (s : GSightStreet) (e l : Int) : g_law02_eyed s e l = some (eyedS s e l) := rfl
theorem eyed_seen {s : GSightStreet} {b : GSightBoard} {p : GSightPlace} {n e l : Int} (h : FineS s) (hb : getI s.Boards n = some b) (h1 : streetB s = true) (h2 : numB s n = true) (h3 : placeB s p = true) (e1 : s.Eye.Low ≤ e) (e2 : e ≤ s.Eye.High) (l1 : s.Light.Low ≤ l) (l2 : l ≤ s.Light.High) : g_sight_Seen (eyedS s e l) n p = some (seenI (eyedS s e l) b p, 0) := by
  have h1' : streetB (eyedS s e l) = true := by
    simp only [streetB, Bool.and_eq_true, spanB_iff, eyedS] at h1 ⊢
    refine ⟨h1.1, h1.2.1, ⟨?_, ?_, ?_⟩, ⟨?_, ?_, ?_⟩, h1.2.2.2.2⟩ <;> omega
  rcases Seen_eq (eyedS s e l) n p h with ⟨b', b1, b2, b3, g1, g2, g3, ee⟩ | ⟨g1, ee⟩
  · have : b' = b := by
      have b1' : getI s.Boards n = some b' := b1
      rw [hb] at b1'; cases b1'; rfl
    subst this
    exact ee
  · have h2' : numB (eyedS s e l) n = true := h2
    have h3' : placeB (eyedS s e l) p = true := h3
    rw [h1', h2', h3'] at g1
    cases g1
theorem SightEyes_true (s : GSightStreet) (n : Int) (p : GSightPlace) (e l : Int) (h : FineS s) : g_law02_SightEyes s n p e l = some true := by
  obtain ⟨bs, hb⟩ := short_some s h
  simp only [g_law02_SightEyes, right_eq s n p h bs hb, Option.bind_some, g_law02_known]
  cases hr : (bs && (streetB s && (numB s n && placeB s p))) with
  | false => rfl
  | true =>
    simp only [Bool.and_eq_true] at hr
    obtain ⟨_, h1, h2, h3⟩ := hr
    simp only [cond_true]
    by_cases c1 : e < s.Eye.Low
    · simp only [c1, decide_true, cond_true]
    by_cases c2 : e > s.Eye.High
    · simp only [c1, c2, decide_true, decide_false, cond_true, cond_false]
    by_cases c3 : l < s.Light.Low
    · simp only [c1, c2, c3, decide_true, decide_false, cond_true, cond_false]
    by_cases c4 : l > s.Light.High
    · simp only [c1, c2, c3, c4, decide_true, decide_false, cond_true, cond_false]
    simp only [c1, c2, c3, c4, decide_false, cond_false]
    rcases Seen_eq s n p h with ⟨b, b1, b2, b3, _, _, _, x0⟩ | ⟨g1, _⟩
    · obtain ⟨hp, hl, hk, w1, w2⟩ := goods b3
      have q1 := b3.el; have q2 := b3.em; have q3 := b3.ll; have q4 := b3.lm
      have x1 := eyed_seen (e := e) (l := l) h b1 h1 h2 h3 (by omega) (by omega) (by omega) (by omega)
      have x2 := eyed_seen (e := s.Eye.Low) (l := s.Light.Low) h b1 h1 h2 h3 (by omega) (by omega) (by omega) (by omega)
      have x3 := eyed_seen (e := s.Eye.High) (l := s.Light.High) h b1 h1 h2 h3 (by omega) (by omega) (by omega) (by omega)
      have m1 : s.Eye.Low * s.Light.Low ≤ e * l := Int.mul_le_mul (by omega) (by omega) (by omega) (by omega)
      have m2 : e * l ≤ s.Eye.High * s.Light.High := Int.mul_le_mul (by omega) (by omega) (by omega) (by omega)
      have k1 := clear_mono (ls := b.Letters) hl hp w1.1 m1
      have k2 := clear_mono (ls := b.Letters) hl hp (Int.le_trans w1.1 m1) m2
      have k3 := all_less (f := behB b.At p) (g := fun k => k.Sure) s.Blocks
      have wd : ∀ s' : GSightStreet, g_law02_word (seenI s' b p) = some true := by
        intro s'
        unfold seenI g_law02_word
        cases sureB s' b p <;> cases mayB s' b p <;> rfl
      simp only [x0, x1, x2, x3, eyed_eq, Option.bind_some, wd, cond_true, bne_self_eq_false, cond_false]
      simp only [seenI, sureB, mayB, eyedS]
      generalize clearB (s.Eye.Low * s.Light.Low) b.At p b.Letters = A at k1
      generalize clearB (e * l) b.At p b.Letters = B at k1 k2
      generalize clearB (s.Eye.High * s.Light.High) b.At p b.Letters = C at k2
      generalize s.Blocks.all (fun k => !behB b.At p k) = N at k3
      generalize s.Blocks.all (fun k => !(behB b.At p k && k.Sure)) = M at k3
      cases A <;> cases B <;> cases C <;> cases N <;> cases M <;> first | rfl | (exfalso; first | exact absurd (k1 rfl) (by decide) | exact absurd (k2 rfl) (by decide) | exact absurd (k3 rfl) (by decide))
    · rw [h1, h2, h3] at g1
      cases g1
end Go.V
end
