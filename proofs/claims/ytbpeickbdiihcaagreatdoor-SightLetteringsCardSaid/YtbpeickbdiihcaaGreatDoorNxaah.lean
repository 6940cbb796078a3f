/- Part of the proof of statements of YtbpeickbdiihcaaGreatDoor: a logic of values by content, the lifted functions, and what follows. -/
import Derived.Test.YtbpeickbdiihcaaGreatDoorNbc
import Derived.Test.YtbpeickbdiihcaaGreatDoorNbe
import Derived.Test.YtbpeickbdiihcaaGreatDoorNbj
import Derived.Test.YtbpeickbdiihcaaGreatDoorNxaad
import Derived.Test.YtbpeickbdiihcaaGreatDoorNxaae
import Derived.Test.YtbpeickbdiihcaaGreatDoorNxaaf
import Derived.Test.YtbpeickbdiihcaaGreatDoorNbg
import Derived.Test.YtbpeickbdiihcaaGreatDoorNxaag
set_option linter.unusedVariables false
set_option linter.unusedSimpArgs false
set_option linter.unusedSectionVars false
set_option linter.constructorNameAsVariable false
set_option linter.defProp false
set_option maxRecDepth 4000
set_option maxHeartbeats 4000000
section
namespace Go.V
open Go Go.Proofs
def g_law02_SightLetterings (x0_s : GSightStreet) (x1_a1 : Int) (x2_a2 : GSightPlace) : Option (Bool) := Option.bind (g_law02_short x0_s) (fun r1 => cond (r1) (Option.bind (g_sight_Letters x0_s x1_a1 x2_a2) (fun r2 => Option.bind (g_sight_Melts x0_s x1_a1 x2_a2) (fun r3 => Option.bind (g_sight_Hidden x0_s x1_a1 x2_a2) (fun r4 => Option.bind (g_ref02_Street x0_s) (fun r5 => cond (r5) (Option.bind (g_ref02_Board x0_s x1_a1) (fun r6 => cond (r6) (Option.bind (g_ref02_Place x0_s x2_a2) (fun r7 => cond (r7) (Option.bind (getI x0_s.Boards x1_a1) (fun x8 => cond (r2.2 == 0) (cond (r3.2 == 0) (cond (r4.2 == 0) (Option.bind (g_ref02_Letters x0_s x8 x2_a2) (fun r9 => Option.bind (g_ref02_SameWords r2.1 r9) (fun r10 => cond (r10) (Option.bind (g_ref02_Pairs x0_s x8 x2_a2) (fun r11 => Option.bind (g_ref02_SameWords r3.1 r11) (fun r12 => cond (r12) (Option.bind (g_ref02_Hidden x0_s x8 x2_a2) (fun r13 => Option.bind (g_ref01_Same r4.1 r13) (fun r14 => cond (r14) (Option.bind (g_law02_known ) (fun r15 => some r15)) (some false)))) (some false)))) (some false)))) (some false)) (some false)) (some false))) (cond (r2.2 == 2) (cond ((List.length r2.1 : Int) == 0) (cond (r3.2 == 2) (cond ((List.length r3.1 : Int) == 0) (cond (r4.2 == 2) (cond ((List.length r4.1 : Int) == 0) (Option.bind (g_law02_known ) (fun r16 => some r16)) (some false)) (some false)) (some false)) (some false)) (some false)) (some false)))) (cond (r2.2 == 2) (cond ((List.length r2.1 : Int) == 0) (cond (r3.2 == 2) (cond ((List.length r3.1 : Int) == 0) (cond (r4.2 == 2) (cond ((List.length r4.1 : Int) == 0) (Option.bind (g_law02_known ) (fun r17 => some r17)) (some false)) (some false)) (some false)) (some false)) (some false)) (some false)))) (cond (r2.2 == 2) (cond ((List.length r2.1 : Int) == 0) (cond (r3.2 == 2) (cond ((List.length r3.1 : Int) == 0) (cond (r4.2 == 2) (cond ((List.length r4.1 : Int) == 0) (Option.bind (g_law02_known ) (fun r18 => some r18)) (some false)) (some false)) (some false)) (some false)) (some false)) (some false))))))) (Option.bind (g_law02_known ) (fun r19 => some r19)))
theorem g_law02_SightLetterings_ok (x0_s : GSightStreet) (x1_a1 : Int) (x2_a2 : GSightPlace) (R : Bool) (h : g_law02_SightLetterings x0_s x1_a1 x2_a2 = some R) : VPure Tryz.prog G0 7 [.agg (cGSightStreet x0_s), .lit (.int .i64 x1_a1), .agg (cGSightPlace x2_a2)] (.tree (.lit (.bool R))) := by
 refine VPure.runR mixed Tryz.call7 Tryz.func7 rfl (by simp [Tryz.ntmps7]; kernel_rfl) ?_
 obtain ⟨KF, h, kF, kN⟩ := fun_intro h
 simp only [g_law02_SightLetterings] at h
 cases o21 : (g_law02_short x0_s) with
 | none =>
  simp only [o21, hs, reduceCtorEq] at h
  exact absurd h kN
 | some r20 =>
  simp only [o21, hs, reduceCtorEq] at h
  simp only [vz, tyf, nm, seval]
  refine ktree (args0 := [.agg (cGSightStreet x0_s)]) (by first | (simp only [nrm, tynrm] <;> rfl) | rfl) (by simp only [tre, tytre, Bool.and_self]) (g_law02_short_ok _ _ o21) ?_
  refine fin_cut (fun tm => tm 1 = .lit (.int .i64 x1_a1) ∧ tm 3 = .ptr 0 0 ∧ tm 5 = .ptr 1 0 ∧ tm 15 = .lit (.bool r20) ∧ True) (by refine ⟨?_, ?_, ?_, ?_, trivial⟩ <;> first | (simp only [ua, nm, seval] <;> rfl) | rfl) ?_
  rintro tm ⟨e22, e23, e24, e25, _⟩
  cases d26 : (r20)
  ·simp only [d26, hs, reduceCtorEq] at h
   cases o28 : (g_law02_known ) with
   | none =>
    simp only [o28, hs, reduceCtorEq] at h
    exact absurd h kN
   | some r27 =>
    simp only [o28, hs, reduceCtorEq] at h
    simp only [vz, tyf, e22, e23, e24, e25, d26, nm, seval]
    refine ktree (args0 := []) (by first | (simp only [nrm, tynrm] <;> rfl) | rfl) (by simp only [tre, tytre, Bool.and_self]) (g_law02_known_ok  _ o28) ?_
    refine fin_cut (fun tm => tm 17 = .lit (.bool r27) ∧ True) (by refine ⟨?_, trivial⟩ <;> first | (simp only [ua, e22, e23, e24, e25, d26, nm, seval] <;> rfl) | rfl) ?_
    rintro tm ⟨e29, _⟩
    simp only [vz, tyf, d26, e29, nm, seval]
    obtain rfl := kF _ h
    exact opd_bool Tryz.results7 (by first | rfl | (simp only [upd_apply, e29, seval] <;> rfl))
  simp only [d26, hs, reduceCtorEq] at h
  cases o31 : (g_sight_Letters x0_s x1_a1 x2_a2) with
  | none =>
   simp only [o31, hs, reduceCtorEq] at h
   exact absurd h kN
  | some r30 =>
   simp only [o31, hs, reduceCtorEq] at h
   simp only [vz, tyf, e22, e23, e24, e25, d26, nm, seval]
   refine ktree (args0 := [.agg (cGSightStreet x0_s), .lit (.int .i64 x1_a1), .agg (cGSightPlace x2_a2)]) (by first | (simp only [nrm, tynrm] <;> rfl) | rfl) (by simp only [tre, tytre, Bool.and_self]) (g_sight_Letters_ok _ _ _ _ o31) ?_
   refine fin_cut (fun tm => tm 1 = .lit (.int .i64 x1_a1) ∧ tm 3 = .ptr 0 0 ∧ tm 5 = .ptr 1 0 ∧ tm 22 = .tup [.sl (cellsL eI r30.1) (List.length r30.1) false, .lit (.int .i64 r30.2)] ∧ True) (by refine ⟨e22, e23, e24, ?_, trivial⟩ <;> first | (simp only [ua, e22, e23, e24, e25, d26, nm, seval] <;> rfl) | rfl) ?_
   rintro tm ⟨e32, e33, e34, e35, _⟩
   cases o37 : (g_sight_Melts x0_s x1_a1 x2_a2) with
   | none =>
    simp only [o37, hs, reduceCtorEq] at h
    exact absurd h kN
   | some r36 =>
    simp only [o37, hs, reduceCtorEq] at h
    simp only [vz, tyf, d26, e32, e33, e34, e35, nm, seval]
    refine ktree (args0 := [.agg (cGSightStreet x0_s), .lit (.int .i64 x1_a1), .agg (cGSightPlace x2_a2)]) (by first | (simp only [nrm, tynrm] <;> rfl) | rfl) (by simp only [tre, tytre, Bool.and_self]) (g_sight_Melts_ok _ _ _ _ o37) ?_
    refine fin_cut (fun tm => tm 1 = .lit (.int .i64 x1_a1) ∧ tm 3 = .ptr 0 0 ∧ tm 5 = .ptr 1 0 ∧ tm 7 = .sl (cellsL eI r30.1) (List.length r30.1) false ∧ tm 8 = .lit (.int .i64 r30.2) ∧ tm 29 = .tup [.sl (cellsL eI r36.1) (List.length r36.1) false, .lit (.int .i64 r36.2)] ∧ True) (by refine ⟨e32, e33, e34, ?_, ?_, ?_, trivial⟩ <;> first | (simp only [ua, d26, e32, e33, e34, e35, nm, seval] <;> rfl) | rfl) ?_
    rintro tm ⟨e38, e39, e40, e41, e42, e43, _⟩
    cases o45 : (g_sight_Hidden x0_s x1_a1 x2_a2) with
    | none =>
     simp only [o45, hs, reduceCtorEq] at h
     exact absurd h kN
    | some r44 =>
     simp only [o45, hs, reduceCtorEq] at h
     simp only [vz, tyf, d26, e38, e39, e40, e41, e42, e43, nm, seval]
     refine ktree (args0 := [.agg (cGSightStreet x0_s), .lit (.int .i64 x1_a1), .agg (cGSightPlace x2_a2)]) (by first | (simp only [nrm, tynrm] <;> rfl) | rfl) (by simp only [tre, tytre, Bool.and_self]) (g_sight_Hidden_ok _ _ _ _ o45) ?_
     refine fin_cut (fun tm => tm 1 = .lit (.int .i64 x1_a1) ∧ tm 3 = .ptr 0 0 ∧ tm 5 = .ptr 1 0 ∧ tm 7 = .sl (cellsL eI r30.1) (List.length r30.1) false ∧ tm 8 = .lit (.int .i64 r30.2) ∧ tm 9 = .sl (cellsL eI r36.1) (List.length r36.1) false ∧ tm 10 = .lit (.int .i64 r36.2) ∧ tm 36 = .tup [.sl (cellsL eI r44.1) (List.length r44.1) false, .lit (.int .i64 r44.2)] ∧ True) (by refine ⟨e38, e39, e40, e41, e42, ?_, ?_, ?_, trivial⟩ <;> first | (simp only [ua, d26, e38, e39, e40, e41, e42, e43, nm, seval] <;> rfl) | rfl) ?_
     rintro tm ⟨e46, e47, e48, e49, e50, e51, e52, e53, _⟩
     cases o55 : (g_ref02_Street x0_s) with
     | none =>
      simp only [o55, hs, reduceCtorEq] at h
      exact absurd h kN
     | some r54 =>
      simp only [o55, hs, reduceCtorEq] at h
      simp only [vz, tyf, d26, e46, e47, e48, e49, e50, e51, e52, e53, nm, seval]
      refine ktree (args0 := [.agg (cGSightStreet x0_s)]) (by first | (simp only [nrm, tynrm] <;> rfl) | rfl) (by simp only [tre, tytre, Bool.and_self]) (g_ref02_Street_ok _ _ o55) ?_
      refine fin_cut (fun tm => tm 1 = .lit (.int .i64 x1_a1) ∧ tm 3 = .ptr 0 0 ∧ tm 5 = .ptr 1 0 ∧ tm 7 = .sl (cellsL eI r30.1) (List.length r30.1) false ∧ tm 8 = .lit (.int .i64 r30.2) ∧ tm 9 = .sl (cellsL eI r36.1) (List.length r36.1) false ∧ tm 10 = .lit (.int .i64 r36.2) ∧ tm 11 = .sl (cellsL eI r44.1) (List.length r44.1) false ∧ tm 12 = .lit (.int .i64 r44.2) ∧ tm 40 = .lit (.bool r54) ∧ True) (by refine ⟨e46, e47, e48, e49, e50, e51, e52, ?_, ?_, ?_, trivial⟩ <;> first | (simp only [ua, d26, e46, e47, e48, e49, e50, e51, e52, e53, nm, seval] <;> rfl) | rfl) ?_
      rintro tm ⟨e56, e57, e58, e59, e60, e61, e62, e63, e64, e65, _⟩
      cases d66 : (r54)
      ·simp only [d66, hs, reduceCtorEq] at h
       cases d67 : (r30.2 == 2)
       ·simp only [d67, hs, reduceCtorEq] at h
        simp only [vz, tyf, d26, e56, e57, e58, e59, e60, e61, e62, e63, e64, e65, d66, d67, nm, seval]
        obtain rfl := kF _ h
        exact opd_bool Tryz.results7 (by first | rfl | (simp only [upd_apply, e56, e57, e58, e59, e60, e61, e62, e63, e64, e65, seval] <;> rfl))
       simp only [d67, hs, reduceCtorEq] at h
       cases d68 : ((List.length r30.1 : Int) == 0)
       ·simp only [d68, hs, reduceCtorEq] at h
        simp only [vz, tyf, d26, e56, e57, e58, e59, e60, e61, e62, e63, e64, e65, d66, d67, d68, nm, seval]
        obtain rfl := kF _ h
        exact opd_bool Tryz.results7 (by first | rfl | (simp only [upd_apply, e56, e57, e58, e59, e60, e61, e62, e63, e64, e65, seval] <;> rfl))
       simp only [d68, hs, reduceCtorEq] at h
       cases d69 : (r36.2 == 2)
       ·simp only [d69, hs, reduceCtorEq] at h
        simp only [vz, tyf, d26, e56, e57, e58, e59, e60, e61, e62, e63, e64, e65, d66, d67, d68, d69, nm, seval]
        obtain rfl := kF _ h
        exact opd_bool Tryz.results7 (by first | rfl | (simp only [upd_apply, e56, e57, e58, e59, e60, e61, e62, e63, e64, e65, seval] <;> rfl))
       simp only [d69, hs, reduceCtorEq] at h
       cases d70 : ((List.length r36.1 : Int) == 0)
       ·simp only [d70, hs, reduceCtorEq] at h
        simp only [vz, tyf, d26, e56, e57, e58, e59, e60, e61, e62, e63, e64, e65, d66, d67, d68, d69, d70, nm, seval]
        obtain rfl := kF _ h
        exact opd_bool Tryz.results7 (by first | rfl | (simp only [upd_apply, e56, e57, e58, e59, e60, e61, e62, e63, e64, e65, seval] <;> rfl))
       simp only [d70, hs, reduceCtorEq] at h
       cases d71 : (r44.2 == 2)
       ·simp only [d71, hs, reduceCtorEq] at h
        simp only [vz, tyf, d26, e56, e57, e58, e59, e60, e61, e62, e63, e64, e65, d66, d67, d68, d69, d70, d71, nm, seval]
        obtain rfl := kF _ h
        exact opd_bool Tryz.results7 (by first | rfl | (simp only [upd_apply, e56, e57, e58, e59, e60, e61, e62, e63, e64, e65, seval] <;> rfl))
       simp only [d71, hs, reduceCtorEq] at h
       cases d72 : ((List.length r44.1 : Int) == 0)
       ·simp only [d72, hs, reduceCtorEq] at h
        simp only [vz, tyf, d26, e56, e57, e58, e59, e60, e61, e62, e63, e64, e65, d66, d67, d68, d69, d70, d71, d72, nm, seval]
        obtain rfl := kF _ h
        exact opd_bool Tryz.results7 (by first | rfl | (simp only [upd_apply, e56, e57, e58, e59, e60, e61, e62, e63, e64, e65, seval] <;> rfl))
       simp only [d72, hs, reduceCtorEq] at h
       cases o74 : (g_law02_known ) with
       | none =>
        simp only [o74, hs, reduceCtorEq] at h
        exact absurd h kN
       | some r73 =>
        simp only [o74, hs, reduceCtorEq] at h
        simp only [vz, tyf, d26, e56, e57, e58, e59, e60, e61, e62, e63, e64, e65, d66, d67, d68, d69, d70, d71, d72, nm, seval]
        refine ktree (args0 := []) (by first | (simp only [nrm, tynrm] <;> rfl) | rfl) (by simp only [tre, tytre, Bool.and_self]) (g_law02_known_ok  _ o74) ?_
        refine fin_cut (fun tm => tm 79 = .lit (.bool true) ∧ tm 80 = .lit (.bool r73) ∧ True) (by refine ⟨?_, ?_, trivial⟩ <;> first | (simp only [ua, d26, e56, e57, e58, e59, e60, e61, e62, e63, e64, e65, d66, d67, d68, d69, d70, d71, d72, nm, seval] <;> rfl) | rfl) ?_
        rintro tm ⟨e75, e76, _⟩
        simp only [vz, tyf, d26, d66, d67, d68, d69, d70, d71, d72, e75, e76, nm, seval]
        obtain rfl := kF _ h
        exact opd_bool Tryz.results7 (by first | rfl | (simp only [upd_apply, e75, e76, seval] <;> rfl))
      simp only [d66, hs, reduceCtorEq] at h
      cases o78 : (g_ref02_Board x0_s x1_a1) with
      | none =>
       simp only [o78, hs, reduceCtorEq] at h
       exact absurd h kN
      | some r77 =>
       simp only [o78, hs, reduceCtorEq] at h
       simp only [vz, tyf, d26, e56, e57, e58, e59, e60, e61, e62, e63, e64, e65, d66, nm, seval]
       refine ktree (args0 := [.agg (cGSightStreet x0_s), .lit (.int .i64 x1_a1)]) (by first | (simp only [nrm, tynrm] <;> rfl) | rfl) (by simp only [tre, tytre, Bool.and_self]) (g_ref02_Board_ok _ _ _ o78) ?_
       refine fin_cut (fun tm => tm 1 = .lit (.int .i64 x1_a1) ∧ tm 3 = .ptr 0 0 ∧ tm 5 = .ptr 1 0 ∧ tm 7 = .sl (cellsL eI r30.1) (List.length r30.1) false ∧ tm 8 = .lit (.int .i64 r30.2) ∧ tm 9 = .sl (cellsL eI r36.1) (List.length r36.1) false ∧ tm 10 = .lit (.int .i64 r36.2) ∧ tm 11 = .sl (cellsL eI r44.1) (List.length r44.1) false ∧ tm 12 = .lit (.int .i64 r44.2) ∧ tm 42 = .lit (.bool false) ∧ tm 45 = .lit (.bool r77) ∧ True) (by refine ⟨e56, e57, e58, e59, e60, e61, e62, e63, e64, ?_, ?_, trivial⟩ <;> first | (simp only [ua, d26, e56, e57, e58, e59, e60, e61, e62, e63, e64, e65, d66, nm, seval] <;> rfl) | rfl) ?_
       rintro tm ⟨e79, e80, e81, e82, e83, e84, e85, e86, e87, e88, e89, _⟩
       cases d90 : (r77)
       ·simp only [d90, hs, reduceCtorEq] at h
        cases d91 : (r30.2 == 2)
        ·simp only [d91, hs, reduceCtorEq] at h
         simp only [vz, tyf, d26, d66, e79, e80, e81, e82, e83, e84, e85, e86, e87, e88, e89, d90, d91, nm, seval]
         obtain rfl := kF _ h
         exact opd_bool Tryz.results7 (by first | rfl | (simp only [upd_apply, e79, e80, e81, e82, e83, e84, e85, e86, e87, e88, e89, seval] <;> rfl))
        simp only [d91, hs, reduceCtorEq] at h
        cases d92 : ((List.length r30.1 : Int) == 0)
        ·simp only [d92, hs, reduceCtorEq] at h
         simp only [vz, tyf, d26, d66, e79, e80, e81, e82, e83, e84, e85, e86, e87, e88, e89, d90, d91, d92, nm, seval]
         obtain rfl := kF _ h
         exact opd_bool Tryz.results7 (by first | rfl | (simp only [upd_apply, e79, e80, e81, e82, e83, e84, e85, e86, e87, e88, e89, seval] <;> rfl))
        simp only [d92, hs, reduceCtorEq] at h
        cases d93 : (r36.2 == 2)
        ·simp only [d93, hs, reduceCtorEq] at h
         simp only [vz, tyf, d26, d66, e79, e80, e81, e82, e83, e84, e85, e86, e87, e88, e89, d90, d91, d92, d93, nm, seval]
         obtain rfl := kF _ h
         exact opd_bool Tryz.results7 (by first | rfl | (simp only [upd_apply, e79, e80, e81, e82, e83, e84, e85, e86, e87, e88, e89, seval] <;> rfl))
        simp only [d93, hs, reduceCtorEq] at h
        cases d94 : ((List.length r36.1 : Int) == 0)
        ·simp only [d94, hs, reduceCtorEq] at h
         simp only [vz, tyf, d26, d66, e79, e80, e81, e82, e83, e84, e85, e86, e87, e88, e89, d90, d91, d92, d93, d94, nm, seval]
         obtain rfl := kF _ h
         exact opd_bool Tryz.results7 (by first | rfl | (simp only [upd_apply, e79, e80, e81, e82, e83, e84, e85, e86, e87, e88, e89, seval] <;> rfl))
        simp only [d94, hs, reduceCtorEq] at h
        cases d95 : (r44.2 == 2)
        ·simp only [d95, hs, reduceCtorEq] at h
         simp only [vz, tyf, d26, d66, e79, e80, e81, e82, e83, e84, e85, e86, e87, e88, e89, d90, d91, d92, d93, d94, d95, nm, seval]
         obtain rfl := kF _ h
         exact opd_bool Tryz.results7 (by first | rfl | (simp only [upd_apply, e79, e80, e81, e82, e83, e84, e85, e86, e87, e88, e89, seval] <;> rfl))
        simp only [d95, hs, reduceCtorEq] at h
        cases d96 : ((List.length r44.1 : Int) == 0)
        ·simp only [d96, hs, reduceCtorEq] at h
         simp only [vz, tyf, d26, d66, e79, e80, e81, e82, e83, e84, e85, e86, e87, e88, e89, d90, d91, d92, d93, d94, d95, d96, nm, seval]
         obtain rfl := kF _ h
         exact opd_bool Tryz.results7 (by first | rfl | (simp only [upd_apply, e79, e80, e81, e82, e83, e84, e85, e86, e87, e88, e89, seval] <;> rfl))
        simp only [d96, hs, reduceCtorEq] at h
        cases o98 : (g_law02_known ) with
        | none =>
         simp only [o98, hs, reduceCtorEq] at h
         exact absurd h kN
        | some r97 =>
         simp only [o98, hs, reduceCtorEq] at h
         simp only [vz, tyf, d26, d66, e79, e80, e81, e82, e83, e84, e85, e86, e87, e88, e89, d90, d91, d92, d93, d94, d95, d96, nm, seval]
         refine ktree (args0 := []) (by first | (simp only [nrm, tynrm] <;> rfl) | rfl) (by simp only [tre, tytre, Bool.and_self]) (g_law02_known_ok  _ o98) ?_
         refine fin_cut (fun tm => tm 79 = .lit (.bool true) ∧ tm 80 = .lit (.bool r97) ∧ True) (by refine ⟨?_, ?_, trivial⟩ <;> first | (simp only [ua, d26, d66, e79, e80, e81, e82, e83, e84, e85, e86, e87, e88, e89, d90, d91, d92, d93, d94, d95, d96, nm, seval] <;> rfl) | rfl) ?_
         rintro tm ⟨e99, e100, _⟩
         simp only [vz, tyf, d26, d66, d90, d91, d92, d93, d94, d95, d96, e99, e100, nm, seval]
         obtain rfl := kF _ h
         exact opd_bool Tryz.results7 (by first | rfl | (simp only [upd_apply, e99, e100, seval] <;> rfl))
       simp only [d90, hs, reduceCtorEq] at h
       cases o102 : (g_ref02_Place x0_s x2_a2) with
       | none =>
        simp only [o102, hs, reduceCtorEq] at h
        exact absurd h kN
       | some r101 =>
        simp only [o102, hs, reduceCtorEq] at h
        simp only [vz, tyf, d26, d66, e79, e80, e81, e82, e83, e84, e85, e86, e87, e88, e89, d90, nm, seval]
        refine ktree (args0 := [.agg (cGSightStreet x0_s), .agg (cGSightPlace x2_a2)]) (by first | (simp only [nrm, tynrm] <;> rfl) | rfl) (by simp only [tre, tytre, Bool.and_self]) (g_ref02_Place_ok _ _ _ o102) ?_
        refine fin_cut (fun tm => tm 1 = .lit (.int .i64 x1_a1) ∧ tm 3 = .ptr 0 0 ∧ tm 5 = .ptr 1 0 ∧ tm 7 = .sl (cellsL eI r30.1) (List.length r30.1) false ∧ tm 8 = .lit (.int .i64 r30.2) ∧ tm 9 = .sl (cellsL eI r36.1) (List.length r36.1) false ∧ tm 10 = .lit (.int .i64 r36.2) ∧ tm 11 = .sl (cellsL eI r44.1) (List.length r44.1) false ∧ tm 12 = .lit (.int .i64 r44.2) ∧ tm 48 = .lit (.bool false) ∧ tm 51 = .lit (.bool r101) ∧ True) (by refine ⟨e79, e80, e81, e82, e83, e84, e85, e86, e87, ?_, ?_, trivial⟩ <;> first | (simp only [ua, d26, d66, e79, e80, e81, e82, e83, e84, e85, e86, e87, e88, e89, d90, nm, seval] <;> rfl) | rfl) ?_
        rintro tm ⟨e103, e104, e105, e106, e107, e108, e109, e110, e111, e112, e113, _⟩
        cases d114 : (r101)
        ·simp only [d114, hs, reduceCtorEq] at h
         cases d115 : (r30.2 == 2)
         ·simp only [d115, hs, reduceCtorEq] at h
          simp only [vz, tyf, d26, d66, d90, e103, e104, e105, e106, e107, e108, e109, e110, e111, e112, e113, d114, d115, nm, seval]
          obtain rfl := kF _ h
          exact opd_bool Tryz.results7 (by first | rfl | (simp only [upd_apply, e103, e104, e105, e106, e107, e108, e109, e110, e111, e112, e113, seval] <;> rfl))
         simp only [d115, hs, reduceCtorEq] at h
         cases d116 : ((List.length r30.1 : Int) == 0)
         ·simp only [d116, hs, reduceCtorEq] at h
          simp only [vz, tyf, d26, d66, d90, e103, e104, e105, e106, e107, e108, e109, e110, e111, e112, e113, d114, d115, d116, nm, seval]
          obtain rfl := kF _ h
          exact opd_bool Tryz.results7 (by first | rfl | (simp only [upd_apply, e103, e104, e105, e106, e107, e108, e109, e110, e111, e112, e113, seval] <;> rfl))
         simp only [d116, hs, reduceCtorEq] at h
         cases d117 : (r36.2 == 2)
         ·simp only [d117, hs, reduceCtorEq] at h
          simp only [vz, tyf, d26, d66, d90, e103, e104, e105, e106, e107, e108, e109, e110, e111, e112, e113, d114, d115, d116, d117, nm, seval]
          obtain rfl := kF _ h
          exact opd_bool Tryz.results7 (by first | rfl | (simp only [upd_apply, e103, e104, e105, e106, e107, e108, e109, e110, e111, e112, e113, seval] <;> rfl))
         simp only [d117, hs, reduceCtorEq] at h
         cases d118 : ((List.length r36.1 : Int) == 0)
         ·simp only [d118, hs, reduceCtorEq] at h
          simp only [vz, tyf, d26, d66, d90, e103, e104, e105, e106, e107, e108, e109, e110, e111, e112, e113, d114, d115, d116, d117, d118, nm, seval]
          obtain rfl := kF _ h
          exact opd_bool Tryz.results7 (by first | rfl | (simp only [upd_apply, e103, e104, e105, e106, e107, e108, e109, e110, e111, e112, e113, seval] <;> rfl))
         simp only [d118, hs, reduceCtorEq] at h
         cases d119 : (r44.2 == 2)
         ·simp only [d119, hs, reduceCtorEq] at h
          simp only [vz, tyf, d26, d66, d90, e103, e104, e105, e106, e107, e108, e109, e110, e111, e112, e113, d114, d115, d116, d117, d118, d119, nm, seval]
          obtain rfl := kF _ h
          exact opd_bool Tryz.results7 (by first | rfl | (simp only [upd_apply, e103, e104, e105, e106, e107, e108, e109, e110, e111, e112, e113, seval] <;> rfl))
         simp only [d119, hs, reduceCtorEq] at h
         cases d120 : ((List.length r44.1 : Int) == 0)
         ·simp only [d120, hs, reduceCtorEq] at h
          simp only [vz, tyf, d26, d66, d90, e103, e104, e105, e106, e107, e108, e109, e110, e111, e112, e113, d114, d115, d116, d117, d118, d119, d120, nm, seval]
          obtain rfl := kF _ h
          exact opd_bool Tryz.results7 (by first | rfl | (simp only [upd_apply, e103, e104, e105, e106, e107, e108, e109, e110, e111, e112, e113, seval] <;> rfl))
         simp only [d120, hs, reduceCtorEq] at h
         cases o122 : (g_law02_known ) with
         | none =>
          simp only [o122, hs, reduceCtorEq] at h
          exact absurd h kN
         | some r121 =>
          simp only [o122, hs, reduceCtorEq] at h
          simp only [vz, tyf, d26, d66, d90, e103, e104, e105, e106, e107, e108, e109, e110, e111, e112, e113, d114, d115, d116, d117, d118, d119, d120, nm, seval]
          refine ktree (args0 := []) (by first | (simp only [nrm, tynrm] <;> rfl) | rfl) (by simp only [tre, tytre, Bool.and_self]) (g_law02_known_ok  _ o122) ?_
          refine fin_cut (fun tm => tm 79 = .lit (.bool true) ∧ tm 80 = .lit (.bool r121) ∧ True) (by refine ⟨?_, ?_, trivial⟩ <;> first | (simp only [ua, d26, d66, d90, e103, e104, e105, e106, e107, e108, e109, e110, e111, e112, e113, d114, d115, d116, d117, d118, d119, d120, nm, seval] <;> rfl) | rfl) ?_
          rintro tm ⟨e123, e124, _⟩
          simp only [vz, tyf, d26, d66, d90, d114, d115, d116, d117, d118, d119, d120, e123, e124, nm, seval]
          obtain rfl := kF _ h
          exact opd_bool Tryz.results7 (by first | rfl | (simp only [upd_apply, e123, e124, seval] <;> rfl))
        simp only [d114, hs, reduceCtorEq] at h
        cases o126 : (getI x0_s.Boards x1_a1) with
        | none =>
         simp only [o126, hs, reduceCtorEq] at h
         exact absurd h kN
        | some x125 =>
         simp only [o126, hs, reduceCtorEq] at h
         cases d127 : (r30.2 == 0)
         ·simp only [d127, hs, reduceCtorEq] at h
          simp only [vz, tyf, d26, d66, d90, e103, e104, e105, e106, e107, e108, e109, e110, e111, e112, e113, d114, (ix24 o126), d127, nm, seval]
          obtain rfl := kF _ h
          exact opd_bool Tryz.results7 (by first | rfl | (simp only [upd_apply, e103, e104, e105, e106, e107, e108, e109, e110, e111, e112, e113, seval] <;> rfl))
         simp only [d127, hs, reduceCtorEq] at h
         cases d128 : (r36.2 == 0)
         ·simp only [d128, hs, reduceCtorEq] at h
          simp only [vz, tyf, d26, d66, d90, e103, e104, e105, e106, e107, e108, e109, e110, e111, e112, e113, d114, (ix24 o126), d127, d128, nm, seval]
          obtain rfl := kF _ h
          exact opd_bool Tryz.results7 (by first | rfl | (simp only [upd_apply, e103, e104, e105, e106, e107, e108, e109, e110, e111, e112, e113, seval] <;> rfl))
         simp only [d128, hs, reduceCtorEq] at h
         cases d129 : (r44.2 == 0)
         ·simp only [d129, hs, reduceCtorEq] at h
          simp only [vz, tyf, d26, d66, d90, e103, e104, e105, e106, e107, e108, e109, e110, e111, e112, e113, d114, (ix24 o126), d127, d128, d129, nm, seval]
          obtain rfl := kF _ h
          exact opd_bool Tryz.results7 (by first | rfl | (simp only [upd_apply, e103, e104, e105, e106, e107, e108, e109, e110, e111, e112, e113, seval] <;> rfl))
         simp only [d129, hs, reduceCtorEq] at h
         cases o131 : (g_ref02_Letters x0_s x125 x2_a2) with
         | none =>
          simp only [o131, hs, reduceCtorEq] at h
          exact absurd h kN
         | some r130 =>
          simp only [o131, hs, reduceCtorEq] at h
          simp only [vz, tyf, d26, d66, d90, e103, e104, e105, e106, e107, e108, e109, e110, e111, e112, e113, d114, (ix24 o126), d127, d128, d129, nm, seval]
          refine ktree (args0 := [.agg (cGSightStreet x0_s), .agg (cGSightBoard x125), .agg (cGSightPlace x2_a2)]) (by first | (simp only [nrm, tynrm] <;> rfl) | rfl) (by simp only [tre, tytre, Bool.and_self]) (g_ref02_Letters_ok _ _ _ _ o131) ?_
          refine fin_cut (fun tm => tm 3 = .ptr 0 0 ∧ tm 5 = .ptr 1 0 ∧ tm 9 = .sl (cellsL eI r36.1) (List.length r36.1) false ∧ tm 11 = .sl (cellsL eI r44.1) (List.length r44.1) false ∧ tm 13 = .ptr 53 0 ∧ tm 97 = .lit (.bool true) ∧ tm 98 = .sl (cellsL eI r30.1) (List.length r30.1) false ∧ tm 102 = .sl (cellsL eI r130) (List.length r130) false ∧ True) (by refine ⟨e104, e105, e108, e110, ?_, ?_, ?_, ?_, trivial⟩ <;> first | (simp only [ua, d26, d66, d90, e103, e104, e105, e106, e107, e108, e109, e110, e111, e112, e113, d114, d127, d128, d129, nm, seval] <;> rfl) | rfl) ?_
          rintro tm ⟨e132, e133, e134, e135, e136, e137, e138, e139, _⟩
          cases o141 : (g_ref02_SameWords r30.1 r130) with
          | none =>
           simp only [o141, hs, reduceCtorEq] at h
           exact absurd h kN
          | some r140 =>
           simp only [o141, hs, reduceCtorEq] at h
           simp only [vz, tyf, d26, d66, d90, d114, (ix24 o126), d127, d128, d129, e132, e133, e134, e135, e136, e137, e138, e139, nm, seval]
           refine ktree (args0 := [.sl (cellsL eI r30.1) (List.length r30.1) false, .sl (cellsL eI r130) (List.length r130) false]) (by first | (simp only [nrm, tynrm] <;> rfl) | rfl) (by simp only [tre, tytre, Bool.and_self]) (g_ref02_SameWords_ok _ _ _ o141) ?_
           refine fin_cut (fun tm => tm 3 = .ptr 0 0 ∧ tm 5 = .ptr 1 0 ∧ tm 9 = .sl (cellsL eI r36.1) (List.length r36.1) false ∧ tm 11 = .sl (cellsL eI r44.1) (List.length r44.1) false ∧ tm 13 = .ptr 53 0 ∧ tm 97 = .lit (.bool true) ∧ tm 103 = .lit (.bool r140) ∧ True) (by refine ⟨e132, e133, e134, e135, e136, e137, ?_, trivial⟩ <;> first | (simp only [ua, d26, d66, d90, d114, d127, d128, d129, e132, e133, e134, e135, e136, e137, e138, e139, nm, seval] <;> rfl) | rfl) ?_
           rintro tm ⟨e142, e143, e144, e145, e146, e147, e148, _⟩
           cases d149 : (r140)
           ·simp only [d149, hs, reduceCtorEq] at h
            simp only [vz, tyf, d26, d66, d90, d114, (ix24 o126), d127, d128, d129, e142, e143, e144, e145, e146, e147, e148, d149, nm, seval]
            obtain rfl := kF _ h
            exact opd_bool Tryz.results7 (by first | rfl | (simp only [upd_apply, e142, e143, e144, e145, e146, e147, e148, seval] <;> rfl))
           simp only [d149, hs, reduceCtorEq] at h
           cases o151 : (g_ref02_Pairs x0_s x125 x2_a2) with
           | none =>
            simp only [o151, hs, reduceCtorEq] at h
            exact absurd h kN
           | some r150 =>
            simp only [o151, hs, reduceCtorEq] at h
            simp only [vz, tyf, d26, d66, d90, d114, (ix24 o126), d127, d128, d129, e142, e143, e144, e145, e146, e147, e148, d149, nm, seval]
            refine ktree (args0 := [.agg (cGSightStreet x0_s), .agg (cGSightBoard x125), .agg (cGSightPlace x2_a2)]) (by first | (simp only [nrm, tynrm] <;> rfl) | rfl) (by simp only [tre, tytre, Bool.and_self]) (g_ref02_Pairs_ok _ _ _ _ o151) ?_
            refine fin_cut (fun tm => tm 3 = .ptr 0 0 ∧ tm 5 = .ptr 1 0 ∧ tm 11 = .sl (cellsL eI r44.1) (List.length r44.1) false ∧ tm 13 = .ptr 53 0 ∧ tm 105 = .lit (.bool true) ∧ tm 106 = .sl (cellsL eI r36.1) (List.length r36.1) false ∧ tm 110 = .sl (cellsL eI r150) (List.length r150) false ∧ True) (by refine ⟨e142, e143, e145, e146, ?_, ?_, ?_, trivial⟩ <;> first | (simp only [ua, d26, d66, d90, d114, d127, d128, d129, e142, e143, e144, e145, e146, e147, e148, d149, nm, seval] <;> rfl) | rfl) ?_
            rintro tm ⟨e152, e153, e154, e155, e156, e157, e158, _⟩
            cases o160 : (g_ref02_SameWords r36.1 r150) with
            | none =>
             simp only [o160, hs, reduceCtorEq] at h
             exact absurd h kN
            | some r159 =>
             simp only [o160, hs, reduceCtorEq] at h
             simp only [vz, tyf, d26, d66, d90, d114, (ix24 o126), d127, d128, d129, d149, e152, e153, e154, e155, e156, e157, e158, nm, seval]
             refine ktree (args0 := [.sl (cellsL eI r36.1) (List.length r36.1) false, .sl (cellsL eI r150) (List.length r150) false]) (by first | (simp only [nrm, tynrm] <;> rfl) | rfl) (by simp only [tre, tytre, Bool.and_self]) (g_ref02_SameWords_ok _ _ _ o160) ?_
             refine fin_cut (fun tm => tm 3 = .ptr 0 0 ∧ tm 5 = .ptr 1 0 ∧ tm 11 = .sl (cellsL eI r44.1) (List.length r44.1) false ∧ tm 13 = .ptr 53 0 ∧ tm 105 = .lit (.bool true) ∧ tm 111 = .lit (.bool r159) ∧ True) (by refine ⟨e152, e153, e154, e155, e156, ?_, trivial⟩ <;> first | (simp only [ua, d26, d66, d90, d114, d127, d128, d129, d149, e152, e153, e154, e155, e156, e157, e158, nm, seval] <;> rfl) | rfl) ?_
             rintro tm ⟨e161, e162, e163, e164, e165, e166, _⟩
             cases d167 : (r159)
             ·simp only [d167, hs, reduceCtorEq] at h
              simp only [vz, tyf, d26, d66, d90, d114, (ix24 o126), d127, d128, d129, d149, e161, e162, e163, e164, e165, e166, d167, nm, seval]
              obtain rfl := kF _ h
              exact opd_bool Tryz.results7 (by first | rfl | (simp only [upd_apply, e161, e162, e163, e164, e165, e166, seval] <;> rfl))
             simp only [d167, hs, reduceCtorEq] at h
             cases o169 : (g_ref02_Hidden x0_s x125 x2_a2) with
             | none =>
              simp only [o169, hs, reduceCtorEq] at h
              exact absurd h kN
             | some r168 =>
              simp only [o169, hs, reduceCtorEq] at h
              simp only [vz, tyf, d26, d66, d90, d114, (ix24 o126), d127, d128, d129, d149, e161, e162, e163, e164, e165, e166, d167, nm, seval]
              refine ktree (args0 := [.agg (cGSightStreet x0_s), .agg (cGSightBoard x125), .agg (cGSightPlace x2_a2)]) (by first | (simp only [nrm, tynrm] <;> rfl) | rfl) (by simp only [tre, tytre, Bool.and_self]) (g_ref02_Hidden_ok _ _ _ _ o169) ?_
              refine fin_cut (fun tm => tm 113 = .lit (.bool true) ∧ tm 114 = .sl (cellsL eI r44.1) (List.length r44.1) false ∧ tm 118 = .sl (cellsL eI r168) (List.length r168) false ∧ True) (by refine ⟨?_, ?_, ?_, trivial⟩ <;> first | (simp only [ua, d26, d66, d90, d114, d127, d128, d129, d149, e161, e162, e163, e164, e165, e166, d167, nm, seval] <;> rfl) | rfl) ?_
              rintro tm ⟨e170, e171, e172, _⟩
              cases o174 : (g_ref01_Same r44.1 r168) with
              | none =>
               simp only [o174, hs, reduceCtorEq] at h
               exact absurd h kN
              | some r173 =>
               simp only [o174, hs, reduceCtorEq] at h
               simp only [vz, tyf, d26, d66, d90, d114, (ix24 o126), d127, d128, d129, d149, d167, e170, e171, e172, nm, seval]
               refine ktree (args0 := [.sl (cellsL eI r44.1) (List.length r44.1) false, .sl (cellsL eI r168) (List.length r168) false]) (by first | (simp only [nrm, tynrm] <;> rfl) | rfl) (by simp only [tre, tytre, Bool.and_self]) (g_ref01_Same_ok _ _ _ o174) ?_
               refine fin_cut (fun tm => tm 113 = .lit (.bool true) ∧ tm 119 = .lit (.bool r173) ∧ True) (by refine ⟨e170, ?_, trivial⟩ <;> first | (simp only [ua, d26, d66, d90, d114, d127, d128, d129, d149, d167, e170, e171, e172, nm, seval] <;> rfl) | rfl) ?_
               rintro tm ⟨e175, e176, _⟩
               cases d177 : (r173)
               ·simp only [d177, hs, reduceCtorEq] at h
                simp only [vz, tyf, d26, d66, d90, d114, (ix24 o126), d127, d128, d129, d149, d167, e175, e176, d177, nm, seval]
                obtain rfl := kF _ h
                exact opd_bool Tryz.results7 (by first | rfl | (simp only [upd_apply, e175, e176, seval] <;> rfl))
               simp only [d177, hs, reduceCtorEq] at h
               cases o179 : (g_law02_known ) with
               | none =>
                simp only [o179, hs, reduceCtorEq] at h
                exact absurd h kN
               | some r178 =>
                simp only [o179, hs, reduceCtorEq] at h
                simp only [vz, tyf, d26, d66, d90, d114, (ix24 o126), d127, d128, d129, d149, d167, e175, e176, d177, nm, seval]
                refine ktree (args0 := []) (by first | (simp only [nrm, tynrm] <;> rfl) | rfl) (by simp only [tre, tytre, Bool.and_self]) (g_law02_known_ok  _ o179) ?_
                refine fin_cut (fun tm => tm 121 = .lit (.bool true) ∧ tm 122 = .lit (.bool r178) ∧ True) (by refine ⟨?_, ?_, trivial⟩ <;> first | (simp only [ua, d26, d66, d90, d114, d127, d128, d129, d149, d167, e175, e176, d177, nm, seval] <;> rfl) | rfl) ?_
                rintro tm ⟨e180, e181, _⟩
                simp only [vz, tyf, d26, d66, d90, d114, (ix24 o126), d127, d128, d129, d149, d167, d177, e180, e181, nm, seval]
                obtain rfl := kF _ h
                exact opd_bool Tryz.results7 (by first | rfl | (simp only [upd_apply, e180, e181, seval] <;> rfl))
end Go.V
end
section
namespace Go.V
open Go
theorem SightLetterings_true (s : GSightStreet) (n : Int) (p : GSightPlace) (h : FineS s) : g_law02_SightLetterings s n p = some true := by
 obtain ⟨bs, hb⟩ := short_some s h
 simp only [g_law02_SightLetterings, hb, Option.bind_some, refStreet_eq s h, refBoard_eq, refPlace_eq, g_law02_known]
 change cond bs _ _ = _
 cases bs
 ·rfl
 simp only [cond_true]
 rcases LMH_eq s n p h with ⟨b, b1, b2, b3, h1, h2, h3, x1, x2, x3⟩ | ⟨h1, x1, x2, x3⟩
 ·obtain ⟨hp, hl, hk, w1, w2⟩ := goods b3
  have n1 := b3.n1; have n5 := b3.n5; have nb := b3.nb
  have l2 : lenOk b.Letters = true := lenOk_of (by omega)
  have k1 : lenOk (legsL s b p) = true := lenOk_of (by unfold legsL; rw [List.length_map]; omega)
  have k2 : lenOk (meltsL s b p) = true := lenOk_of (by unfold meltsL; rw [List.length_map, List.length_take]; omega)
  have k3 : lenOk (hidL s b p) = true := lenOk_of (by unfold hidL; have := hids_len (f := behB b.At p) s.Blocks 0; omega)
  have r1 : g_ref02_Letters s b p = some (legsL s b p) := by
   simp only [g_ref02_Letters, l2, cond_true, refLetters_l0_eq s b p b3 b.Letters 0 [] hl (by simp; omega), lbind_go, List.nil_append, legsL]
  have r2 : g_ref02_Pairs s b p = some (meltsL s b p) := by
   obtain ⟨c', e⟩ := refPairs_l0_eq s b p b3 b.Letters 0 1000000 [] (by omega) (by omega) rfl (by omega) (by simp; omega)
   simp only [g_ref02_Pairs, e, lbind_go, List.nil_append, meltsL]
  have r3 : g_ref02_Hidden s b p = some (hidL s b p) := refHidden_eq s b p hp hk nb
  rw [x1, x2, x3]
  simp only [numB] at h2
  simp only [Option.bind_some, h1, h2, h3, cond_true, b1, r1, r2, r3, samew_self _ k1, samew_self _ k2, same_self _ k3, beq_self_eq_true]
 ·rw [x1, x2, x3]
  simp only [Option.bind_some]
  cases g1 : streetB s with
  | false => rfl
  | true =>
   simp only [cond_true]
   cases g2 : numB s n with
   | false => simp only [numB] at g2; simp only [g2]; rfl
   | true =>
    cases g3 : placeB s p with
    | false => simp only [numB] at g2; simp only [g2]; rfl
    | true => rw [g1, g2, g3] at h1; cases h1
end Go.V
end
