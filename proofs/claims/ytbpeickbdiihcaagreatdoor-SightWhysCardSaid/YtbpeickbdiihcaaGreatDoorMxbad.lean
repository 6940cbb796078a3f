/- Part of the proof of statements of YtbpeickbdiihcaaGreatDoor: a logic of values by content, the lifted functions, and what follows. -/
import Derived.Test.YtbpeickbdiihcaaGreatDoorMbd
import Derived.Test.YtbpeickbdiihcaaGreatDoorMbf
import Derived.Test.YtbpeickbdiihcaaGreatDoorMbm
import Derived.Test.YtbpeickbdiihcaaGreatDoorMxbac
import Derived.Test.YtbpeickbdiihcaaGreatDoorMbh
import Derived.Test.YtbpeickbdiihcaaGreatDoorMbi
set_option linter.unusedVariables false
set_option linter.unusedSimpArgs false
set_option linter.unusedSectionVars false
set_option linter.constructorNameAsVariable false
section
namespace Go.V
open Go Go.Proofs
set_option linter.unusedSimpArgs false
set_option linter.unusedVariables false
set_option maxRecDepth 4000
set_option maxHeartbeats 4000000
def g_law02_SightWhys (x0_s : GSightStreet) (x1_a1 : Int) (x2_a2 : GSightPlace) : Option (Bool) := Option.bind (g_law02_short x0_s) (fun r1 => cond (r1) (Option.bind (g_sight_Why x0_s x1_a1 x2_a2) (fun r2 => Option.bind (g_ref02_Street x0_s) (fun r3 => cond (r3) (Option.bind (g_ref02_Board x0_s x1_a1) (fun r4 => cond (r4) (Option.bind (g_ref02_Place x0_s x2_a2) (fun r5 => cond (r5) (Option.bind (getI x0_s.Boards x1_a1) (fun x6 => Option.bind (g_ref02_Why x0_s x6 x2_a2) (fun r7 => cond (r7.2) (cond (r2.2 == 0) (cond (r2.1.Kind == r7.1.Kind && (r2.1.Number == r7.1.Number)) (Option.bind (g_law02_known ) (fun r8 => some r8)) (some false)) (some false)) (cond (r2.2 == 5) (cond (r2.1.Kind == 0 && (r2.1.Number == 0)) (Option.bind (g_law02_known ) (fun r9 => some r9)) (some false)) (some false))))) (cond (r2.2 == 2) (cond (r2.1.Kind == 0 && (r2.1.Number == 0)) (Option.bind (g_law02_known ) (fun r10 => some r10)) (some false)) (some false)))) (cond (r2.2 == 2) (cond (r2.1.Kind == 0 && (r2.1.Number == 0)) (Option.bind (g_law02_known ) (fun r11 => some r11)) (some false)) (some false)))) (cond (r2.2 == 2) (cond (r2.1.Kind == 0 && (r2.1.Number == 0)) (Option.bind (g_law02_known ) (fun r12 => some r12)) (some false)) (some false))))) (Option.bind (g_law02_known ) (fun r13 => some r13)))
theorem g_law02_SightWhys_ok (x0_s : GSightStreet) (x1_a1 : Int) (x2_a2 : GSightPlace) (R : Bool) (h : g_law02_SightWhys x0_s x1_a1 x2_a2 = some R) : VPure Tryz.prog G0 5 [.agg (cGSightStreet x0_s), .lit (.int .i64 x1_a1), .agg (cGSightPlace x2_a2)] (.tree (.lit (.bool R))) := by
 refine VPure.runR mixed Tryz.call5 Tryz.func5 rfl (by simp [Tryz.ntmps5]; kernel_rfl) ?_
 obtain ⟨KF, h, kF, kN⟩ := fun_intro h
 simp only [g_law02_SightWhys] at h
 cases o15 : (g_law02_short x0_s) with
 | none =>
  simp only [o15, hs, reduceCtorEq] at h
  exact absurd h kN
 | some r14 =>
  simp only [o15, hs, reduceCtorEq] at h
  simp only [vz, tyf, nmB, implies_true, seval]
  refine ktree (args0 := [.agg (cGSightStreet x0_s)]) (by first | (simp only [nrm, tynrm] <;> rfl) | rfl) (by simp only [tre, tytre, Bool.and_self]) (g_law02_short_ok _ _ o15) ?_
  refine fin_cut (fun tm => tm 1 = .lit (.int .i64 x1_a1) ∧ tm 3 = .ptr 0 0 ∧ tm 5 = .ptr 1 0 ∧ tm 12 = .lit (.bool r14) ∧ True) (by refine ⟨?_, ?_, ?_, ?_, trivial⟩ <;> first | (simp only [upd_apply, updH_apply, without_apply, mV_app, mV_app0, nmB, implies_true, seval] <;> rfl) | rfl) ?_
  rintro tm ⟨e16, e17, e18, e19, _⟩
  cases d20 : (r14)
  ·simp only [d20, hs, reduceCtorEq] at h
   cases o22 : (g_law02_known ) with
   | none =>
    simp only [o22, hs, reduceCtorEq] at h
    exact absurd h kN
   | some r21 =>
    simp only [o22, hs, reduceCtorEq] at h
    simp only [vz, tyf, e16, e17, e18, e19, d20, nmB, implies_true, seval]
    refine ktree (args0 := []) (by first | (simp only [nrm, tynrm] <;> rfl) | rfl) (by simp only [tre, tytre, Bool.and_self]) (g_law02_known_ok  _ o22) ?_
    refine fin_cut (fun tm => tm 14 = .lit (.bool r21) ∧ True) (by refine ⟨?_, trivial⟩ <;> first | (simp only [upd_apply, updH_apply, without_apply, mV_app, mV_app0, e16, e17, e18, e19, d20, nmB, implies_true, seval] <;> rfl) | rfl) ?_
    rintro tm ⟨e23, _⟩
    simp only [vz, tyf, d20, e23, nmB, implies_true, seval]
    refine opd_ret (x := (.lit (.bool r21))) (by first | (simp only [Tryz.results5, resV, resL, resV1, tgt_ptr, tgt_tp, upd_apply, updH_apply, without_apply, cr, tyf, d20, e23, nmB, implies_true, seval] <;> rfl) | rfl) ?_
    obtain rfl := kF _ h
    refine rr_tree ?_ ?_
    ·simp only [tre, tytre, Bool.and_self]
    ·first | (simp only [outV, upd_apply, updH_apply, without_apply, showV_ref, cr, tyf, nrm, tynrm, d20, e23, nmB, implies_true, seval] <;> rfl) | rfl
  ·simp only [d20, hs, reduceCtorEq] at h
   cases o25 : (g_sight_Why x0_s x1_a1 x2_a2) with
   | none =>
    simp only [o25, hs, reduceCtorEq] at h
    exact absurd h kN
   | some r24 =>
    simp only [o25, hs, reduceCtorEq] at h
    simp only [vz, tyf, e16, e17, e18, e19, d20, nmB, implies_true, seval]
    refine ktree (args0 := [.agg (cGSightStreet x0_s), .lit (.int .i64 x1_a1), .agg (cGSightPlace x2_a2)]) (by first | (simp only [nrm, tynrm] <;> rfl) | rfl) (by simp only [tre, tytre, Bool.and_self]) (g_sight_Why_ok _ _ _ _ o25) ?_
    refine fin_cut (fun tm => tm 1 = .lit (.int .i64 x1_a1) ∧ tm 3 = .ptr 0 0 ∧ tm 5 = .ptr 1 0 ∧ tm 19 = .tup [.agg (cGSightFault r24.1), .lit (.int .i64 r24.2)] ∧ True) (by refine ⟨e16, e17, e18, ?_, trivial⟩ <;> first | (simp only [upd_apply, updH_apply, without_apply, mV_app, mV_app0, e16, e17, e18, e19, d20, nmB, implies_true, seval] <;> rfl) | rfl) ?_
    rintro tm ⟨e26, e27, e28, e29, _⟩
    cases o31 : (g_ref02_Street x0_s) with
    | none =>
     simp only [o31, hs, reduceCtorEq] at h
     exact absurd h kN
    | some r30 =>
     simp only [o31, hs, reduceCtorEq] at h
     simp only [vz, tyf, d20, e26, e27, e28, e29, nmB, implies_true, seval]
     refine ktree (args0 := [.agg (cGSightStreet x0_s)]) (by first | (simp only [nrm, tynrm] <;> rfl) | rfl) (by simp only [tre, tytre, Bool.and_self]) (g_ref02_Street_ok _ _ o31) ?_
     refine fin_cut (fun tm => tm 1 = .lit (.int .i64 x1_a1) ∧ tm 3 = .ptr 0 0 ∧ tm 5 = .ptr 1 0 ∧ tm 7 = .ptr 13 0 ∧ tm 8 = .lit (.int .i64 r24.2) ∧ tm 23 = .lit (.bool r30) ∧ True) (by refine ⟨e26, e27, e28, ?_, ?_, ?_, trivial⟩ <;> first | (simp only [upd_apply, updH_apply, without_apply, mV_app, mV_app0, d20, e26, e27, e28, e29, nmB, implies_true, seval] <;> rfl) | rfl) ?_
     rintro tm ⟨e32, e33, e34, e35, e36, e37, _⟩
     cases d38 : (r30)
     ·simp only [d38, hs, reduceCtorEq] at h
      cases d39 : (r24.2 == 2)
      ·simp only [d39, hs, reduceCtorEq] at h
       simp only [vz, tyf, d20, e32, e33, e34, e35, e36, e37, d38, d39, nmB, implies_true, seval]
       refine opd_ret (x := (.lit (.bool false))) (by first | (simp only [Tryz.results5, resV, resL, resV1, tgt_ptr, tgt_tp, upd_apply, updH_apply, without_apply, cr, tyf, d20, e32, e33, e34, e35, e36, e37, d38, d39, nmB, implies_true, seval] <;> rfl) | rfl) ?_
       obtain rfl := kF _ h
       refine rr_tree ?_ ?_
       ·simp only [tre, tytre, Bool.and_self]
       ·first | (simp only [outV, upd_apply, updH_apply, without_apply, showV_ref, cr, tyf, nrm, tynrm, d20, e32, e33, e34, e35, e36, e37, d38, d39, nmB, implies_true, seval] <;> rfl) | rfl
      ·simp only [d39, hs, reduceCtorEq] at h
       cases d40 : (r24.1.Kind == 0 && (r24.1.Number == 0))
       ·simp only [d40, hs, reduceCtorEq] at h
        simp only [vz, tyf, d20, e32, e33, e34, e35, e36, e37, d38, d39, d40, nmB, implies_true, seval]
        refine opd_ret (x := (.lit (.bool false))) (by first | (simp only [Tryz.results5, resV, resL, resV1, tgt_ptr, tgt_tp, upd_apply, updH_apply, without_apply, cr, tyf, d20, e32, e33, e34, e35, e36, e37, d38, d39, d40, nmB, implies_true, seval] <;> rfl) | rfl) ?_
        obtain rfl := kF _ h
        refine rr_tree ?_ ?_
        ·simp only [tre, tytre, Bool.and_self]
        ·first | (simp only [outV, upd_apply, updH_apply, without_apply, showV_ref, cr, tyf, nrm, tynrm, d20, e32, e33, e34, e35, e36, e37, d38, d39, d40, nmB, implies_true, seval] <;> rfl) | rfl
       ·simp only [d40, hs, reduceCtorEq] at h
        cases o42 : (g_law02_known ) with
        | none =>
         simp only [o42, hs, reduceCtorEq] at h
         exact absurd h kN
        | some r41 =>
         simp only [o42, hs, reduceCtorEq] at h
         simp only [vz, tyf, d20, e32, e33, e34, e35, e36, e37, d38, d39, d40, nmB, implies_true, seval]
         refine ktree (args0 := []) (by first | (simp only [nrm, tynrm] <;> rfl) | rfl) (by simp only [tre, tytre, Bool.and_self]) (g_law02_known_ok  _ o42) ?_
         refine fin_cut (fun tm => tm 44 = .lit (.bool true) ∧ tm 45 = .lit (.bool r41) ∧ True) (by refine ⟨?_, ?_, trivial⟩ <;> first | (simp only [upd_apply, updH_apply, without_apply, mV_app, mV_app0, d20, e32, e33, e34, e35, e36, e37, d38, d39, d40, nmB, implies_true, seval] <;> rfl) | rfl) ?_
         rintro tm ⟨e43, e44, _⟩
         simp only [vz, tyf, d20, d38, d39, d40, e43, e44, nmB, implies_true, seval]
         refine opd_ret (x := (.lit (.bool r41))) (by first | (simp only [Tryz.results5, resV, resL, resV1, tgt_ptr, tgt_tp, upd_apply, updH_apply, without_apply, cr, tyf, d20, d38, d39, d40, e43, e44, nmB, implies_true, seval] <;> rfl) | rfl) ?_
         obtain rfl := kF _ h
         refine rr_tree ?_ ?_
         ·simp only [tre, tytre, Bool.and_self]
         ·first | (simp only [outV, upd_apply, updH_apply, without_apply, showV_ref, cr, tyf, nrm, tynrm, d20, d38, d39, d40, e43, e44, nmB, implies_true, seval] <;> rfl) | rfl
     ·simp only [d38, hs, reduceCtorEq] at h
      cases o46 : (g_ref02_Board x0_s x1_a1) with
      | none =>
       simp only [o46, hs, reduceCtorEq] at h
       exact absurd h kN
      | some r45 =>
       simp only [o46, hs, reduceCtorEq] at h
       simp only [vz, tyf, d20, e32, e33, e34, e35, e36, e37, d38, nmB, implies_true, seval]
       refine ktree (args0 := [.agg (cGSightStreet x0_s), .lit (.int .i64 x1_a1)]) (by first | (simp only [nrm, tynrm] <;> rfl) | rfl) (by simp only [tre, tytre, Bool.and_self]) (g_ref02_Board_ok _ _ _ o46) ?_
       refine fin_cut (fun tm => tm 1 = .lit (.int .i64 x1_a1) ∧ tm 3 = .ptr 0 0 ∧ tm 5 = .ptr 1 0 ∧ tm 7 = .ptr 13 0 ∧ tm 8 = .lit (.int .i64 r24.2) ∧ tm 25 = .lit (.bool false) ∧ tm 28 = .lit (.bool r45) ∧ True) (by refine ⟨e32, e33, e34, e35, e36, ?_, ?_, trivial⟩ <;> first | (simp only [upd_apply, updH_apply, without_apply, mV_app, mV_app0, d20, e32, e33, e34, e35, e36, e37, d38, nmB, implies_true, seval] <;> rfl) | rfl) ?_
       rintro tm ⟨e47, e48, e49, e50, e51, e52, e53, _⟩
       cases d54 : (r45)
       ·simp only [d54, hs, reduceCtorEq] at h
        cases d55 : (r24.2 == 2)
        ·simp only [d55, hs, reduceCtorEq] at h
         simp only [vz, tyf, d20, d38, e47, e48, e49, e50, e51, e52, e53, d54, d55, nmB, implies_true, seval]
         refine opd_ret (x := (.lit (.bool false))) (by first | (simp only [Tryz.results5, resV, resL, resV1, tgt_ptr, tgt_tp, upd_apply, updH_apply, without_apply, cr, tyf, d20, d38, e47, e48, e49, e50, e51, e52, e53, d54, d55, nmB, implies_true, seval] <;> rfl) | rfl) ?_
         obtain rfl := kF _ h
         refine rr_tree ?_ ?_
         ·simp only [tre, tytre, Bool.and_self]
         ·first | (simp only [outV, upd_apply, updH_apply, without_apply, showV_ref, cr, tyf, nrm, tynrm, d20, d38, e47, e48, e49, e50, e51, e52, e53, d54, d55, nmB, implies_true, seval] <;> rfl) | rfl
        ·simp only [d55, hs, reduceCtorEq] at h
         cases d56 : (r24.1.Kind == 0 && (r24.1.Number == 0))
         ·simp only [d56, hs, reduceCtorEq] at h
          simp only [vz, tyf, d20, d38, e47, e48, e49, e50, e51, e52, e53, d54, d55, d56, nmB, implies_true, seval]
          refine opd_ret (x := (.lit (.bool false))) (by first | (simp only [Tryz.results5, resV, resL, resV1, tgt_ptr, tgt_tp, upd_apply, updH_apply, without_apply, cr, tyf, d20, d38, e47, e48, e49, e50, e51, e52, e53, d54, d55, d56, nmB, implies_true, seval] <;> rfl) | rfl) ?_
          obtain rfl := kF _ h
          refine rr_tree ?_ ?_
          ·simp only [tre, tytre, Bool.and_self]
          ·first | (simp only [outV, upd_apply, updH_apply, without_apply, showV_ref, cr, tyf, nrm, tynrm, d20, d38, e47, e48, e49, e50, e51, e52, e53, d54, d55, d56, nmB, implies_true, seval] <;> rfl) | rfl
         ·simp only [d56, hs, reduceCtorEq] at h
          cases o58 : (g_law02_known ) with
          | none =>
           simp only [o58, hs, reduceCtorEq] at h
           exact absurd h kN
          | some r57 =>
           simp only [o58, hs, reduceCtorEq] at h
           simp only [vz, tyf, d20, d38, e47, e48, e49, e50, e51, e52, e53, d54, d55, d56, nmB, implies_true, seval]
           refine ktree (args0 := []) (by first | (simp only [nrm, tynrm] <;> rfl) | rfl) (by simp only [tre, tytre, Bool.and_self]) (g_law02_known_ok  _ o58) ?_
           refine fin_cut (fun tm => tm 44 = .lit (.bool true) ∧ tm 45 = .lit (.bool r57) ∧ True) (by refine ⟨?_, ?_, trivial⟩ <;> first | (simp only [upd_apply, updH_apply, without_apply, mV_app, mV_app0, d20, d38, e47, e48, e49, e50, e51, e52, e53, d54, d55, d56, nmB, implies_true, seval] <;> rfl) | rfl) ?_
           rintro tm ⟨e59, e60, _⟩
           simp only [vz, tyf, d20, d38, d54, d55, d56, e59, e60, nmB, implies_true, seval]
           refine opd_ret (x := (.lit (.bool r57))) (by first | (simp only [Tryz.results5, resV, resL, resV1, tgt_ptr, tgt_tp, upd_apply, updH_apply, without_apply, cr, tyf, d20, d38, d54, d55, d56, e59, e60, nmB, implies_true, seval] <;> rfl) | rfl) ?_
           obtain rfl := kF _ h
           refine rr_tree ?_ ?_
           ·simp only [tre, tytre, Bool.and_self]
           ·first | (simp only [outV, upd_apply, updH_apply, without_apply, showV_ref, cr, tyf, nrm, tynrm, d20, d38, d54, d55, d56, e59, e60, nmB, implies_true, seval] <;> rfl) | rfl
       ·simp only [d54, hs, reduceCtorEq] at h
        cases o62 : (g_ref02_Place x0_s x2_a2) with
        | none =>
         simp only [o62, hs, reduceCtorEq] at h
         exact absurd h kN
        | some r61 =>
         simp only [o62, hs, reduceCtorEq] at h
         simp only [vz, tyf, d20, d38, e47, e48, e49, e50, e51, e52, e53, d54, nmB, implies_true, seval]
         refine ktree (args0 := [.agg (cGSightStreet x0_s), .agg (cGSightPlace x2_a2)]) (by first | (simp only [nrm, tynrm] <;> rfl) | rfl) (by simp only [tre, tytre, Bool.and_self]) (g_ref02_Place_ok _ _ _ o62) ?_
         refine fin_cut (fun tm => tm 1 = .lit (.int .i64 x1_a1) ∧ tm 3 = .ptr 0 0 ∧ tm 5 = .ptr 1 0 ∧ tm 7 = .ptr 13 0 ∧ tm 8 = .lit (.int .i64 r24.2) ∧ tm 31 = .lit (.bool false) ∧ tm 34 = .lit (.bool r61) ∧ True) (by refine ⟨e47, e48, e49, e50, e51, ?_, ?_, trivial⟩ <;> first | (simp only [upd_apply, updH_apply, without_apply, mV_app, mV_app0, d20, d38, e47, e48, e49, e50, e51, e52, e53, d54, nmB, implies_true, seval] <;> rfl) | rfl) ?_
         rintro tm ⟨e63, e64, e65, e66, e67, e68, e69, _⟩
         cases d70 : (r61)
         ·simp only [d70, hs, reduceCtorEq] at h
          cases d71 : (r24.2 == 2)
          ·simp only [d71, hs, reduceCtorEq] at h
           simp only [vz, tyf, d20, d38, d54, e63, e64, e65, e66, e67, e68, e69, d70, d71, nmB, implies_true, seval]
           refine opd_ret (x := (.lit (.bool false))) (by first | (simp only [Tryz.results5, resV, resL, resV1, tgt_ptr, tgt_tp, upd_apply, updH_apply, without_apply, cr, tyf, d20, d38, d54, e63, e64, e65, e66, e67, e68, e69, d70, d71, nmB, implies_true, seval] <;> rfl) | rfl) ?_
           obtain rfl := kF _ h
           refine rr_tree ?_ ?_
           ·simp only [tre, tytre, Bool.and_self]
           ·first | (simp only [outV, upd_apply, updH_apply, without_apply, showV_ref, cr, tyf, nrm, tynrm, d20, d38, d54, e63, e64, e65, e66, e67, e68, e69, d70, d71, nmB, implies_true, seval] <;> rfl) | rfl
          ·simp only [d71, hs, reduceCtorEq] at h
           cases d72 : (r24.1.Kind == 0 && (r24.1.Number == 0))
           ·simp only [d72, hs, reduceCtorEq] at h
            simp only [vz, tyf, d20, d38, d54, e63, e64, e65, e66, e67, e68, e69, d70, d71, d72, nmB, implies_true, seval]
            refine opd_ret (x := (.lit (.bool false))) (by first | (simp only [Tryz.results5, resV, resL, resV1, tgt_ptr, tgt_tp, upd_apply, updH_apply, without_apply, cr, tyf, d20, d38, d54, e63, e64, e65, e66, e67, e68, e69, d70, d71, d72, nmB, implies_true, seval] <;> rfl) | rfl) ?_
            obtain rfl := kF _ h
            refine rr_tree ?_ ?_
            ·simp only [tre, tytre, Bool.and_self]
            ·first | (simp only [outV, upd_apply, updH_apply, without_apply, showV_ref, cr, tyf, nrm, tynrm, d20, d38, d54, e63, e64, e65, e66, e67, e68, e69, d70, d71, d72, nmB, implies_true, seval] <;> rfl) | rfl
           ·simp only [d72, hs, reduceCtorEq] at h
            cases o74 : (g_law02_known ) with
            | none =>
             simp only [o74, hs, reduceCtorEq] at h
             exact absurd h kN
            | some r73 =>
             simp only [o74, hs, reduceCtorEq] at h
             simp only [vz, tyf, d20, d38, d54, e63, e64, e65, e66, e67, e68, e69, d70, d71, d72, nmB, implies_true, seval]
             refine ktree (args0 := []) (by first | (simp only [nrm, tynrm] <;> rfl) | rfl) (by simp only [tre, tytre, Bool.and_self]) (g_law02_known_ok  _ o74) ?_
             refine fin_cut (fun tm => tm 44 = .lit (.bool true) ∧ tm 45 = .lit (.bool r73) ∧ True) (by refine ⟨?_, ?_, trivial⟩ <;> first | (simp only [upd_apply, updH_apply, without_apply, mV_app, mV_app0, d20, d38, d54, e63, e64, e65, e66, e67, e68, e69, d70, d71, d72, nmB, implies_true, seval] <;> rfl) | rfl) ?_
             rintro tm ⟨e75, e76, _⟩
             simp only [vz, tyf, d20, d38, d54, d70, d71, d72, e75, e76, nmB, implies_true, seval]
             refine opd_ret (x := (.lit (.bool r73))) (by first | (simp only [Tryz.results5, resV, resL, resV1, tgt_ptr, tgt_tp, upd_apply, updH_apply, without_apply, cr, tyf, d20, d38, d54, d70, d71, d72, e75, e76, nmB, implies_true, seval] <;> rfl) | rfl) ?_
             obtain rfl := kF _ h
             refine rr_tree ?_ ?_
             ·simp only [tre, tytre, Bool.and_self]
             ·first | (simp only [outV, upd_apply, updH_apply, without_apply, showV_ref, cr, tyf, nrm, tynrm, d20, d38, d54, d70, d71, d72, e75, e76, nmB, implies_true, seval] <;> rfl) | rfl
         ·simp only [d70, hs, reduceCtorEq] at h
          simp only [vz, tyf, d20, d38, d54, e63, e64, e65, e66, e67, e68, e69, d70, nmB, implies_true, seval]
          refine cwp_drawTF (fun tm => tm 1 = .lit (.int .i64 x1_a1) ∧ tm 3 = .ptr 0 0 ∧ tm 5 = .ptr 1 0 ∧ tm 7 = .ptr 13 0 ∧ tm 8 = .lit (.int .i64 r24.2) ∧ True) (by refine ⟨e63, e64, e65, e66, e67, trivial⟩ <;> first | (simp only [upd_apply, updH_apply, without_apply, mV_app, mV_app0, d20, d38, d54, e63, e64, e65, e66, e67, e68, e69, d70, nmB, implies_true, seval] <;> rfl) | rfl) ?_
          rintro tm ⟨e77, e78, e79, e80, e81, _⟩
          cases o83 : (getI x0_s.Boards x1_a1) with
          | none =>
           simp only [o83, hs, reduceCtorEq] at h
           exact absurd h kN
          | some x82 =>
           simp only [o83, hs, reduceCtorEq] at h
           cases o85 : (g_ref02_Why x0_s x82 x2_a2) with
           | none =>
            simp only [o85, hs, reduceCtorEq] at h
            exact absurd h kN
           | some r84 =>
            simp only [o85, hs, reduceCtorEq] at h
            simp only [vz, tyf, d20, d38, d54, d70, e77, e78, e79, e80, e81, (ix24 o83), nmB, implies_true, seval]
            refine dktree (args0 := [.agg (cGSightStreet x0_s), .agg (cGSightBoard x82), .agg (cGSightPlace x2_a2)]) (by first | (simp only [nrm, tynrm] <;> rfl) | rfl) (by simp only [tre, tytre, Bool.and_self]) (g_ref02_Why_ok _ _ _ _ o85) ?_
            refine fin_cut (fun tm => tm 7 = .ptr 13 0 ∧ tm 8 = .lit (.int .i64 r24.2) ∧ tm 55 = .tup [.agg (cGSightFault r84.1), .lit (.bool r84.2)] ∧ True) (by refine ⟨e80, e81, ?_, trivial⟩ <;> first | (simp only [upd_apply, updH_apply, without_apply, mV_app, mV_app0, d20, d38, d54, d70, e77, e78, e79, e80, e81, nmB, implies_true, seval] <;> rfl) | rfl) ?_
            rintro tm ⟨e86, e87, e88, _⟩
            simp only [vz, tyf, d20, d38, d54, d70, (ix24 o83), e86, e87, e88, nmB, implies_true, seval]
            refine drawK_nil ⟨?_, ?_⟩
            ·simp only [traceR_cons, traceR_nil, hitK_quiet, hitK_nil, and_true, true_and]
             repeat' (first | exact trivial | refine And.intro ?_ ?_ | rw [hitK_quiet] | rw [hitK_cons] | exact Or.inl (by decide +kernel) | exact Or.inl (by dsimp only; decide +kernel) | (refine Or.inr ⟨?_, ?_⟩ <;> simp; done) | (refine Or.inr ⟨?_, ?_⟩ <;> simp <;> omega))
            cases d89 : (r84.2)
            ·simp only [d89, hs, reduceCtorEq] at h
             cases d90 : (r24.2 == 5)
             ·simp only [d90, hs, reduceCtorEq] at h
              simp only [vz, tyf, d20, d38, d54, d70, (ix24 o83), e86, e87, e88, d89, d90, nmB, implies_true, seval]
              refine opd_ret (x := (.lit (.bool false))) (by first | (simp only [Tryz.results5, resV, resL, resV1, tgt_ptr, tgt_tp, upd_apply, updH_apply, without_apply, cr, tyf, d20, d38, d54, d70, (ix24 o83), e86, e87, e88, d89, d90, nmB, implies_true, seval] <;> rfl) | rfl) ?_
              obtain rfl := kF _ h
              refine rr_tree ?_ ?_
              ·simp only [tre, tytre, Bool.and_self]
              ·first | (simp only [outV, upd_apply, updH_apply, without_apply, showV_ref, cr, tyf, nrm, tynrm, d20, d38, d54, d70, (ix24 o83), e86, e87, e88, d89, d90, nmB, implies_true, seval] <;> rfl) | rfl
             ·simp only [d90, hs, reduceCtorEq] at h
              cases d91 : (r24.1.Kind == 0 && (r24.1.Number == 0))
              ·simp only [d91, hs, reduceCtorEq] at h
               simp only [vz, tyf, d20, d38, d54, d70, (ix24 o83), e86, e87, e88, d89, d90, d91, nmB, implies_true, seval]
               refine opd_ret (x := (.lit (.bool false))) (by first | (simp only [Tryz.results5, resV, resL, resV1, tgt_ptr, tgt_tp, upd_apply, updH_apply, without_apply, cr, tyf, d20, d38, d54, d70, (ix24 o83), e86, e87, e88, d89, d90, d91, nmB, implies_true, seval] <;> rfl) | rfl) ?_
               obtain rfl := kF _ h
               refine rr_tree ?_ ?_
               ·simp only [tre, tytre, Bool.and_self]
               ·first | (simp only [outV, upd_apply, updH_apply, without_apply, showV_ref, cr, tyf, nrm, tynrm, d20, d38, d54, d70, (ix24 o83), e86, e87, e88, d89, d90, d91, nmB, implies_true, seval] <;> rfl) | rfl
              ·simp only [d91, hs, reduceCtorEq] at h
               cases o93 : (g_law02_known ) with
               | none =>
                simp only [o93, hs, reduceCtorEq] at h
                exact absurd h kN
               | some r92 =>
                simp only [o93, hs, reduceCtorEq] at h
                simp only [vz, tyf, d20, d38, d54, d70, (ix24 o83), e86, e87, e88, d89, d90, d91, nmB, implies_true, seval]
                refine ktree (args0 := []) (by first | (simp only [nrm, tynrm] <;> rfl) | rfl) (by simp only [tre, tytre, Bool.and_self]) (g_law02_known_ok  _ o93) ?_
                refine fin_cut (fun tm => tm 67 = .lit (.bool true) ∧ tm 68 = .lit (.bool r92) ∧ True) (by refine ⟨?_, ?_, trivial⟩ <;> first | (simp only [upd_apply, updH_apply, without_apply, mV_app, mV_app0, d20, d38, d54, d70, e86, e87, e88, d89, d90, d91, nmB, implies_true, seval] <;> rfl) | rfl) ?_
                rintro tm ⟨e94, e95, _⟩
                simp only [vz, tyf, d20, d38, d54, d70, (ix24 o83), d89, d90, d91, e94, e95, nmB, implies_true, seval]
                refine opd_ret (x := (.lit (.bool r92))) (by first | (simp only [Tryz.results5, resV, resL, resV1, tgt_ptr, tgt_tp, upd_apply, updH_apply, without_apply, cr, tyf, d20, d38, d54, d70, (ix24 o83), d89, d90, d91, e94, e95, nmB, implies_true, seval] <;> rfl) | rfl) ?_
                obtain rfl := kF _ h
                refine rr_tree ?_ ?_
                ·simp only [tre, tytre, Bool.and_self]
                ·first | (simp only [outV, upd_apply, updH_apply, without_apply, showV_ref, cr, tyf, nrm, tynrm, d20, d38, d54, d70, (ix24 o83), d89, d90, d91, e94, e95, nmB, implies_true, seval] <;> rfl) | rfl
            ·simp only [d89, hs, reduceCtorEq] at h
             cases d96 : (r24.2 == 0)
             ·simp only [d96, hs, reduceCtorEq] at h
              simp only [vz, tyf, d20, d38, d54, d70, (ix24 o83), e86, e87, e88, d89, d96, nmB, implies_true, seval]
              refine opd_ret (x := (.lit (.bool false))) (by first | (simp only [Tryz.results5, resV, resL, resV1, tgt_ptr, tgt_tp, upd_apply, updH_apply, without_apply, cr, tyf, d20, d38, d54, d70, (ix24 o83), e86, e87, e88, d89, d96, nmB, implies_true, seval] <;> rfl) | rfl) ?_
              obtain rfl := kF _ h
              refine rr_tree ?_ ?_
              ·simp only [tre, tytre, Bool.and_self]
              ·first | (simp only [outV, upd_apply, updH_apply, without_apply, showV_ref, cr, tyf, nrm, tynrm, d20, d38, d54, d70, (ix24 o83), e86, e87, e88, d89, d96, nmB, implies_true, seval] <;> rfl) | rfl
             ·simp only [d96, hs, reduceCtorEq] at h
              cases d97 : (r24.1.Kind == r84.1.Kind && (r24.1.Number == r84.1.Number))
              ·simp only [d97, hs, reduceCtorEq] at h
               simp only [vz, tyf, d20, d38, d54, d70, (ix24 o83), e86, e87, e88, d89, d96, d97, nmB, implies_true, seval]
               refine opd_ret (x := (.lit (.bool false))) (by first | (simp only [Tryz.results5, resV, resL, resV1, tgt_ptr, tgt_tp, upd_apply, updH_apply, without_apply, cr, tyf, d20, d38, d54, d70, (ix24 o83), e86, e87, e88, d89, d96, d97, nmB, implies_true, seval] <;> rfl) | rfl) ?_
               obtain rfl := kF _ h
               refine rr_tree ?_ ?_
               ·simp only [tre, tytre, Bool.and_self]
               ·first | (simp only [outV, upd_apply, updH_apply, without_apply, showV_ref, cr, tyf, nrm, tynrm, d20, d38, d54, d70, (ix24 o83), e86, e87, e88, d89, d96, d97, nmB, implies_true, seval] <;> rfl) | rfl
              ·simp only [d97, hs, reduceCtorEq] at h
               cases o99 : (g_law02_known ) with
               | none =>
                simp only [o99, hs, reduceCtorEq] at h
                exact absurd h kN
               | some r98 =>
                simp only [o99, hs, reduceCtorEq] at h
                simp only [vz, tyf, d20, d38, d54, d70, (ix24 o83), e86, e87, e88, d89, d96, d97, nmB, implies_true, seval]
                refine ktree (args0 := []) (by first | (simp only [nrm, tynrm] <;> rfl) | rfl) (by simp only [tre, tytre, Bool.and_self]) (g_law02_known_ok  _ o99) ?_
                refine fin_cut (fun tm => tm 77 = .lit (.bool true) ∧ tm 78 = .lit (.bool r98) ∧ True) (by refine ⟨?_, ?_, trivial⟩ <;> first | (simp only [upd_apply, updH_apply, without_apply, mV_app, mV_app0, d20, d38, d54, d70, e86, e87, e88, d89, d96, d97, nmB, implies_true, seval] <;> rfl) | rfl) ?_
                rintro tm ⟨e100, e101, _⟩
                simp only [vz, tyf, d20, d38, d54, d70, (ix24 o83), d89, d96, d97, e100, e101, nmB, implies_true, seval]
                refine opd_ret (x := (.lit (.bool r98))) (by first | (simp only [Tryz.results5, resV, resL, resV1, tgt_ptr, tgt_tp, upd_apply, updH_apply, without_apply, cr, tyf, d20, d38, d54, d70, (ix24 o83), d89, d96, d97, e100, e101, nmB, implies_true, seval] <;> rfl) | rfl) ?_
                obtain rfl := kF _ h
                refine rr_tree ?_ ?_
                ·simp only [tre, tytre, Bool.and_self]
                ·first | (simp only [outV, upd_apply, updH_apply, without_apply, showV_ref, cr, tyf, nrm, tynrm, d20, d38, d54, d70, (ix24 o83), d89, d96, d97, e100, e101, nmB, implies_true, seval] <;> rfl) | rfl
end Go.V
end
section
namespace Go.V
open Go
set_option linter.unusedVariables false
set_option linter.unusedSimpArgs false
theorem SightWhys_true (s : GSightStreet) (n : Int) (p : GSightPlace) (h : FineS s) : g_law02_SightWhys s n p = some true := by
  obtain ⟨bs, hb⟩ := short_some s h
  simp only [g_law02_SightWhys, hb, Option.bind_some, refStreet_eq s h, refBoard_eq, refPlace_eq, g_law02_known]
  change cond bs _ _ = _
  cases bs
  · rfl
  simp only [cond_true]
  rcases Why_eq s n p h with ⟨b, b1, b2, b3, h1, h2, h3, e⟩ | ⟨h1, e⟩
  · rw [e]
    simp only [numB] at h2
    simp only [Option.bind_some, h1, h2, h3, cond_true, b1, refWhy_eq s b p b3]
    cases whyF (s.Eye.Low * s.Light.Low) b.At p s.Blocks b.Letters with
    | none => rfl
    | some f => simp only [whyP, cond_true, beq_self_eq_true, Bool.and_self]
  · rw [e]
    simp only [Option.bind_some]
    cases g1 : streetB s with
    | false => rfl
    | true =>
      simp only [cond_true]
      cases g2 : numB s n with
      | false => simp only [numB] at g2; simp only [g2]; rfl
      | true =>
        cases g3 : placeB s p with
        | false => simp only [numB] at g2; simp only [g2]; rfl
        | true => rw [g1, g2, g3] at h1; cases h1
end Go.V
end
