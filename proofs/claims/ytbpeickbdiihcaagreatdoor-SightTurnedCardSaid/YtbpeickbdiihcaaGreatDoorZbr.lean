/- Part of a proof: a logic of values by content, lifted functions, what follows. -/
import Derived.Test.YtbpeickbdiihcaaGreatDoorZbf
import Derived.Test.YtbpeickbdiihcaaGreatDoorZbi
import Derived.Test.YtbpeickbdiihcaaGreatDoorZbp
import Derived.Test.YtbpeickbdiihcaaGreatDoorZbl
import Derived.Test.YtbpeickbdiihcaaGreatDoorZbo
import Derived.Test.YtbpeickbdiihcaaGreatDoorZbn
import Derived.Test.YtbpeickbdiihcaaGreatDoorZbq
set_option linter.all false
set_option maxRecDepth 4000
set_option maxHeartbeats 4000000
section
namespace Go.V
open Go Go.Proofs
def g_law02_SightTurned (x0_s : GSightStreet) (x1_a1 : Int) (x2_a2 : GSightPlace) : Option (Bool) := Option.bind (g_law02_right x0_s x1_a1 x2_a2) (fun r1 => cond (r1) (Option.bind (g_law02_turned x0_s) (fun r2 => Option.bind (g_law02_at (IntKind.i64.wrap (x0_s.Length - x2_a2.Along)) x2_a2.Across) (fun r3 => Option.bind (g_sight_Seen x0_s x1_a1 x2_a2) (fun r4 => Option.bind (g_sight_Seen r2 x1_a1 r3) (fun r5 => Option.bind (g_sight_Why x0_s x1_a1 x2_a2) (fun r6 => Option.bind (g_sight_Why r2 x1_a1 r3) (fun r7 => Option.bind (g_sight_Hidden x0_s x1_a1 x2_a2) (fun r8 => Option.bind (g_sight_Hidden r2 x1_a1 r3) (fun r9 => Option.bind (g_sight_Many x0_s x1_a1) (fun r10 => Option.bind (g_sight_Many r2 x1_a1) (fun r11 => cond (r4.2 == 0) (cond (r5.2 == 0) (cond (r4.1 == r5.1) (cond (r6.2 == r7.2) (cond (r6.1.Kind == r7.1.Kind && (r6.1.Number == r7.1.Number)) (cond (r8.2 == 0) (cond (r9.2 == 0) (Option.bind (g_ref01_Same r8.1 r9.1) (fun r12 => cond (r12) (cond (r10.2.2 == 0) (cond (r11.2.2 == 0) (cond (r10.1 == r11.1) (cond (r10.2.1 == r11.2.1) (Option.bind (g_law02_known ) (fun r13 => some r13)) (some false)) (some false)) (some false)) (some false)) (some false))) (some false)) (some false)) (some false)) (some false)) (some false)) (some false)) (some false)))))))))))) (Option.bind (g_law02_known ) (fun r14 => some r14)))
theorem g_law02_SightTurned_ok (x0_s : GSightStreet) (x1_a1 : Int) (x2_a2 : GSightPlace) (R : Bool) (h : g_law02_SightTurned x0_s x1_a1 x2_a2 = some R) : VPure Tryz.prog G0 14 [.agg (cGSightStreet x0_s), .lit (.int .i64 x1_a1), .agg (cGSightPlace x2_a2)] (.tree (.lit (.bool R))) := by
 refine VPure.runR mixed Tryz.call14 Tryz.func14 rfl (by simp [Tryz.ntmps14]; kernel_rfl) ?_
 obtain ⟨KF, h, kF, kN⟩ := fun_intro h
 simp only [g_law02_SightTurned] at h
 cases o16 : (g_law02_right x0_s x1_a1 x2_a2) with
 | none =>
  simp only [o16, hs, reduceCtorEq] at h
  exact absurd h kN
 | some r15 =>
  simp only [o16, hs, reduceCtorEq] at h
  simp only [vz, tyf, nm, seval]
  refine ktree (args0 := [.agg (cGSightStreet x0_s), .lit (.int .i64 x1_a1), .agg (cGSightPlace x2_a2)]) (by first | (simp only [nrm, tynrm] <;> rfl) | rfl) (by simp only [tre, tytre, Bool.and_self]) (g_law02_right_ok _ _ _ _ o16) ?_
  refine fin_cut (fun tm => tm 1 = .lit (.int .i64 x1_a1) ∧ tm 3 = .ptr 0 0 ∧ tm 5 = .ptr 1 0 ∧ tm 30 = .lit (.bool r15) ∧ True) (by refine ⟨?_, ?_, ?_, ?_, trivial⟩ <;> first | (simp only [ua, nm, seval] <;> rfl) | rfl) ?_
  rintro tm ⟨e17, e18, e19, e20, _⟩
  cases d21 : (r15)
  ·simp only [d21, hs, reduceCtorEq] at h
   cases o23 : (g_law02_known ) with
   | none =>
    simp only [o23, hs, reduceCtorEq] at h
    exact absurd h kN
   | some r22 =>
    simp only [o23, hs, reduceCtorEq] at h
    simp only [vz, tyf, e17, e18, e19, e20, d21, nm, seval]
    refine ktree (args0 := []) (by first | (simp only [nrm, tynrm] <;> rfl) | rfl) (by simp only [tre, tytre, Bool.and_self]) (g_law02_known_ok  _ o23) ?_
    refine fin_cut (fun tm => tm 32 = .lit (.bool r22) ∧ True) (by refine ⟨?_, trivial⟩ <;> first | (simp only [ua, e17, e18, e19, e20, d21, nm, seval] <;> rfl) | rfl) ?_
    rintro tm ⟨e24, _⟩
    try simp only [vz, tyf, d21, e24, nm, seval]
    obtain rfl := kF _ h
    exact opd_bool Tryz.results14 (by first | rfl | (simp only [upd_apply, seval] <;> rfl))
  simp only [d21, hs, reduceCtorEq] at h
  simp only [vz, tyf, e17, e18, e19, e20, d21, nm, seval]
  refine cwp_drawTF (fun tm => tm 1 = .lit (.int .i64 x1_a1) ∧ tm 3 = .ptr 0 0 ∧ tm 5 = .ptr 1 0 ∧ True) (by refine ⟨e17, e18, e19, trivial⟩ <;> first | (simp only [ua, e17, e18, e19, e20, d21, nm, seval] <;> rfl) | rfl) ?_
  rintro tm ⟨e25, e26, e27, _⟩
  cases o29 : (g_law02_turned x0_s) with
  | none =>
   simp only [o29, hs, reduceCtorEq] at h
   exact absurd h kN
  | some r28 =>
   simp only [o29, hs, reduceCtorEq] at h
   simp only [vz, tyf, d21, e25, e26, e27, nm, seval]
   refine dktree (args0 := [.agg (cGSightStreet x0_s)]) (by first | (simp only [nrm, tynrm] <;> rfl) | rfl) (by simp only [tre, tytre, Bool.and_self]) (g_law02_turned_ok _ _ o29) ?_
   refine fin_cut (fun tm => tm 1 = .lit (.int .i64 x1_a1) ∧ tm 3 = .ptr 0 0 ∧ tm 5 = .ptr 1 0 ∧ tm 34 = .agg (cGSightStreet r28) ∧ True) (by refine ⟨e25, e26, e27, ?_, trivial⟩ <;> first | (simp only [ua, d21, e25, e26, e27, nm, seval] <;> rfl) | rfl) ?_
   rintro tm ⟨e30, e31, e32, e33, _⟩
   cases o35 : (g_law02_at (IntKind.i64.wrap (x0_s.Length - x2_a2.Along)) x2_a2.Across) with
   | none =>
    simp only [o35, hs, reduceCtorEq] at h
    exact absurd h kN
   | some r34 =>
    simp only [o35, hs, reduceCtorEq] at h
    simp only [vz, tyf, d21, e30, e31, e32, e33, nm, seval]
    refine dktree (args0 := [.lit (.int .i64 (IntKind.i64.wrap (x0_s.Length - x2_a2.Along))), .lit (.int .i64 x2_a2.Across)]) (by first | (simp only [nrm, tynrm] <;> rfl) | rfl) (by simp only [tre, tytre, Bool.and_self]) (g_law02_at_ok _ _ _ o35) ?_
    refine fin_cut (fun tm => tm 1 = .lit (.int .i64 x1_a1) ∧ tm 3 = .ptr 0 0 ∧ tm 5 = .ptr 1 0 ∧ tm 34 = .agg (cGSightStreet r28) ∧ tm 42 = .agg (cGSightPlace r34) ∧ True) (by refine ⟨e30, e31, e32, e33, ?_, trivial⟩ <;> first | (simp only [ua, d21, e30, e31, e32, e33, nm, seval] <;> rfl) | rfl) ?_
    rintro tm ⟨e36, e37, e38, e39, e40, _⟩
    simp only [vz, tyf, d21, e36, e37, e38, e39, e40, nm, seval]
    refine drawK_nil ⟨?_, ?_⟩
    ·simp only [traceR_cons, traceR_nil, hitK_quiet, hitK_nil, and_true, true_and]
     repeat' (first | exact trivial | refine And.intro ?_ ?_ | rw [hitK_quiet] | rw [hitK_cons] | exact Or.inl (by decide +kernel) | exact Or.inl (by dsimp only; decide +kernel) | (refine Or.inr ⟨?_, ?_⟩ <;> simp; done) | (refine Or.inr ⟨?_, ?_⟩ <;> simp <;> omega))
    cases o42 : (g_sight_Seen x0_s x1_a1 x2_a2) with
    | none =>
     simp only [o42, hs, reduceCtorEq] at h
     exact absurd h kN
    | some r41 =>
     simp only [o42, hs, reduceCtorEq] at h
     simp only [vz, tyf, d21, e36, e37, e38, e39, e40, nm, seval]
     refine ktree (args0 := [.agg (cGSightStreet x0_s), .lit (.int .i64 x1_a1), .agg (cGSightPlace x2_a2)]) (by first | (simp only [nrm, tynrm] <;> rfl) | rfl) (by simp only [tre, tytre, Bool.and_self]) (g_sight_Seen_ok _ _ _ _ o42) ?_
     refine fin_cut (fun tm => tm 1 = .lit (.int .i64 x1_a1) ∧ tm 3 = .ptr 0 0 ∧ tm 5 = .ptr 1 0 ∧ tm 7 = .ptr 18 0 ∧ tm 8 = .ptr 19 0 ∧ tm 47 = .tup [.lit (.int .i64 r41.1), .lit (.int .i64 r41.2)] ∧ True) (by refine ⟨e36, e37, e38, ?_, ?_, ?_, trivial⟩ <;> first | (simp only [ua, d21, e36, e37, e38, e39, e40, nm, seval] <;> rfl) | rfl) ?_
     rintro tm ⟨e43, e44, e45, e46, e47, e48, _⟩
     cases o50 : (g_sight_Seen r28 x1_a1 r34) with
     | none =>
      simp only [o50, hs, reduceCtorEq] at h
      exact absurd h kN
     | some r49 =>
      simp only [o50, hs, reduceCtorEq] at h
      simp only [vz, tyf, d21, e43, e44, e45, e46, e47, e48, nm, seval]
      refine ktree (args0 := [.agg (cGSightStreet r28), .lit (.int .i64 x1_a1), .agg (cGSightPlace r34)]) (by first | (simp only [nrm, tynrm] <;> rfl) | rfl) (by simp only [tre, tytre, Bool.and_self]) (g_sight_Seen_ok _ _ _ _ o50) ?_
      refine fin_cut (fun tm => tm 1 = .lit (.int .i64 x1_a1) ∧ tm 3 = .ptr 0 0 ∧ tm 5 = .ptr 1 0 ∧ tm 7 = .ptr 18 0 ∧ tm 8 = .ptr 19 0 ∧ tm 9 = .lit (.int .i64 r41.1) ∧ tm 10 = .lit (.int .i64 r41.2) ∧ tm 54 = .tup [.lit (.int .i64 r49.1), .lit (.int .i64 r49.2)] ∧ True) (by refine ⟨e43, e44, e45, e46, e47, ?_, ?_, ?_, trivial⟩ <;> first | (simp only [ua, d21, e43, e44, e45, e46, e47, e48, nm, seval] <;> rfl) | rfl) ?_
      rintro tm ⟨e51, e52, e53, e54, e55, e56, e57, e58, _⟩
      cases o60 : (g_sight_Why x0_s x1_a1 x2_a2) with
      | none =>
       simp only [o60, hs, reduceCtorEq] at h
       exact absurd h kN
      | some r59 =>
       simp only [o60, hs, reduceCtorEq] at h
       simp only [vz, tyf, d21, e51, e52, e53, e54, e55, e56, e57, e58, nm, seval]
       refine ktree (args0 := [.agg (cGSightStreet x0_s), .lit (.int .i64 x1_a1), .agg (cGSightPlace x2_a2)]) (by first | (simp only [nrm, tynrm] <;> rfl) | rfl) (by simp only [tre, tytre, Bool.and_self]) (g_sight_Why_ok _ _ _ _ o60) ?_
       refine fin_cut (fun tm => tm 1 = .lit (.int .i64 x1_a1) ∧ tm 3 = .ptr 0 0 ∧ tm 5 = .ptr 1 0 ∧ tm 7 = .ptr 18 0 ∧ tm 8 = .ptr 19 0 ∧ tm 9 = .lit (.int .i64 r41.1) ∧ tm 10 = .lit (.int .i64 r41.2) ∧ tm 11 = .lit (.int .i64 r49.1) ∧ tm 12 = .lit (.int .i64 r49.2) ∧ tm 61 = .tup [.agg (cGSightFault r59.1), .lit (.int .i64 r59.2)] ∧ True) (by refine ⟨e51, e52, e53, e54, e55, e56, e57, ?_, ?_, ?_, trivial⟩ <;> first | (simp only [ua, d21, e51, e52, e53, e54, e55, e56, e57, e58, nm, seval] <;> rfl) | rfl) ?_
       rintro tm ⟨e61, e62, e63, e64, e65, e66, e67, e68, e69, e70, _⟩
       cases o72 : (g_sight_Why r28 x1_a1 r34) with
       | none =>
        simp only [o72, hs, reduceCtorEq] at h
        exact absurd h kN
       | some r71 =>
        simp only [o72, hs, reduceCtorEq] at h
        simp only [vz, tyf, d21, e61, e62, e63, e64, e65, e66, e67, e68, e69, e70, nm, seval]
        refine ktree (args0 := [.agg (cGSightStreet r28), .lit (.int .i64 x1_a1), .agg (cGSightPlace r34)]) (by first | (simp only [nrm, tynrm] <;> rfl) | rfl) (by simp only [tre, tytre, Bool.and_self]) (g_sight_Why_ok _ _ _ _ o72) ?_
        refine fin_cut (fun tm => tm 1 = .lit (.int .i64 x1_a1) ∧ tm 3 = .ptr 0 0 ∧ tm 5 = .ptr 1 0 ∧ tm 7 = .ptr 18 0 ∧ tm 8 = .ptr 19 0 ∧ tm 9 = .lit (.int .i64 r41.1) ∧ tm 10 = .lit (.int .i64 r41.2) ∧ tm 11 = .lit (.int .i64 r49.1) ∧ tm 12 = .lit (.int .i64 r49.2) ∧ tm 13 = .ptr 47 0 ∧ tm 14 = .lit (.int .i64 r59.2) ∧ tm 68 = .tup [.agg (cGSightFault r71.1), .lit (.int .i64 r71.2)] ∧ True) (by refine ⟨e61, e62, e63, e64, e65, e66, e67, e68, e69, ?_, ?_, ?_, trivial⟩ <;> first | (simp only [ua, d21, e61, e62, e63, e64, e65, e66, e67, e68, e69, e70, nm, seval] <;> rfl) | rfl) ?_
        rintro tm ⟨e73, e74, e75, e76, e77, e78, e79, e80, e81, e82, e83, e84, _⟩
        cases o86 : (g_sight_Hidden x0_s x1_a1 x2_a2) with
        | none =>
         simp only [o86, hs, reduceCtorEq] at h
         exact absurd h kN
        | some r85 =>
         simp only [o86, hs, reduceCtorEq] at h
         simp only [vz, tyf, d21, e73, e74, e75, e76, e77, e78, e79, e80, e81, e82, e83, e84, nm, seval]
         refine ktree (args0 := [.agg (cGSightStreet x0_s), .lit (.int .i64 x1_a1), .agg (cGSightPlace x2_a2)]) (by first | (simp only [nrm, tynrm] <;> rfl) | rfl) (by simp only [tre, tytre, Bool.and_self]) (g_sight_Hidden_ok _ _ _ _ o86) ?_
         refine fin_cut (fun tm => tm 1 = .lit (.int .i64 x1_a1) ∧ tm 3 = .ptr 0 0 ∧ tm 7 = .ptr 18 0 ∧ tm 8 = .ptr 19 0 ∧ tm 9 = .lit (.int .i64 r41.1) ∧ tm 10 = .lit (.int .i64 r41.2) ∧ tm 11 = .lit (.int .i64 r49.1) ∧ tm 12 = .lit (.int .i64 r49.2) ∧ tm 13 = .ptr 47 0 ∧ tm 14 = .lit (.int .i64 r59.2) ∧ tm 15 = .ptr 57 0 ∧ tm 16 = .lit (.int .i64 r71.2) ∧ tm 75 = .tup [.sl (cellsL eI r85.1) (List.length r85.1) false, .lit (.int .i64 r85.2)] ∧ True) (by refine ⟨e73, e74, e76, e77, e78, e79, e80, e81, e82, e83, ?_, ?_, ?_, trivial⟩ <;> first | (simp only [ua, d21, e73, e74, e75, e76, e77, e78, e79, e80, e81, e82, e83, e84, nm, seval] <;> rfl) | rfl) ?_
         rintro tm ⟨e87, e88, e89, e90, e91, e92, e93, e94, e95, e96, e97, e98, e99, _⟩
         cases o101 : (g_sight_Hidden r28 x1_a1 r34) with
         | none =>
          simp only [o101, hs, reduceCtorEq] at h
          exact absurd h kN
         | some r100 =>
          simp only [o101, hs, reduceCtorEq] at h
          simp only [vz, tyf, d21, e87, e88, e89, e90, e91, e92, e93, e94, e95, e96, e97, e98, e99, nm, seval]
          refine ktree (args0 := [.agg (cGSightStreet r28), .lit (.int .i64 x1_a1), .agg (cGSightPlace r34)]) (by first | (simp only [nrm, tynrm] <;> rfl) | rfl) (by simp only [tre, tytre, Bool.and_self]) (g_sight_Hidden_ok _ _ _ _ o101) ?_
          refine fin_cut (fun tm => tm 1 = .lit (.int .i64 x1_a1) ∧ tm 3 = .ptr 0 0 ∧ tm 7 = .ptr 18 0 ∧ tm 9 = .lit (.int .i64 r41.1) ∧ tm 10 = .lit (.int .i64 r41.2) ∧ tm 11 = .lit (.int .i64 r49.1) ∧ tm 12 = .lit (.int .i64 r49.2) ∧ tm 13 = .ptr 47 0 ∧ tm 14 = .lit (.int .i64 r59.2) ∧ tm 15 = .ptr 57 0 ∧ tm 16 = .lit (.int .i64 r71.2) ∧ tm 17 = .sl (cellsL eI r85.1) (List.length r85.1) false ∧ tm 18 = .lit (.int .i64 r85.2) ∧ tm 82 = .tup [.sl (cellsL eI r100.1) (List.length r100.1) false, .lit (.int .i64 r100.2)] ∧ True) (by refine ⟨e87, e88, e89, e91, e92, e93, e94, e95, e96, e97, e98, ?_, ?_, ?_, trivial⟩ <;> first | (simp only [ua, d21, e87, e88, e89, e90, e91, e92, e93, e94, e95, e96, e97, e98, e99, nm, seval] <;> rfl) | rfl) ?_
          rintro tm ⟨e102, e103, e104, e105, e106, e107, e108, e109, e110, e111, e112, e113, e114, e115, _⟩
          cases o117 : (g_sight_Many x0_s x1_a1) with
          | none =>
           simp only [o117, hs, reduceCtorEq] at h
           exact absurd h kN
          | some r116 =>
           simp only [o117, hs, reduceCtorEq] at h
           simp only [vz, tyf, d21, e102, e103, e104, e105, e106, e107, e108, e109, e110, e111, e112, e113, e114, e115, nm, seval]
           refine ktree (args0 := [.agg (cGSightStreet x0_s), .lit (.int .i64 x1_a1)]) (by first | (simp only [nrm, tynrm] <;> rfl) | rfl) (by simp only [tre, tytre, Bool.and_self]) (g_sight_Many_ok _ _ _ o117) ?_
           refine fin_cut (fun tm => tm 1 = .lit (.int .i64 x1_a1) ∧ tm 7 = .ptr 18 0 ∧ tm 9 = .lit (.int .i64 r41.1) ∧ tm 10 = .lit (.int .i64 r41.2) ∧ tm 11 = .lit (.int .i64 r49.1) ∧ tm 12 = .lit (.int .i64 r49.2) ∧ tm 13 = .ptr 47 0 ∧ tm 14 = .lit (.int .i64 r59.2) ∧ tm 15 = .ptr 57 0 ∧ tm 16 = .lit (.int .i64 r71.2) ∧ tm 17 = .sl (cellsL eI r85.1) (List.length r85.1) false ∧ tm 18 = .lit (.int .i64 r85.2) ∧ tm 19 = .sl (cellsL eI r100.1) (List.length r100.1) false ∧ tm 20 = .lit (.int .i64 r100.2) ∧ tm 88 = .tup [.lit (.int .i64 r116.1), .lit (.int .i64 r116.2.1), .lit (.int .i64 r116.2.2)] ∧ True) (by refine ⟨e102, e104, e105, e106, e107, e108, e109, e110, e111, e112, e113, e114, ?_, ?_, ?_, trivial⟩ <;> first | (simp only [ua, d21, e102, e103, e104, e105, e106, e107, e108, e109, e110, e111, e112, e113, e114, e115, nm, seval] <;> rfl) | rfl) ?_
           rintro tm ⟨e118, e119, e120, e121, e122, e123, e124, e125, e126, e127, e128, e129, e130, e131, e132, _⟩
           cases o134 : (g_sight_Many r28 x1_a1) with
           | none =>
            simp only [o134, hs, reduceCtorEq] at h
            exact absurd h kN
           | some r133 =>
            simp only [o134, hs, reduceCtorEq] at h
            simp only [vz, tyf, d21, e118, e119, e120, e121, e122, e123, e124, e125, e126, e127, e128, e129, e130, e131, e132, nm, seval]
            refine ktree (args0 := [.agg (cGSightStreet r28), .lit (.int .i64 x1_a1)]) (by first | (simp only [nrm, tynrm] <;> rfl) | rfl) (by simp only [tre, tytre, Bool.and_self]) (g_sight_Many_ok _ _ _ o134) ?_
            refine fin_cut (fun tm => tm 9 = .lit (.int .i64 r41.1) ∧ tm 10 = .lit (.int .i64 r41.2) ∧ tm 11 = .lit (.int .i64 r49.1) ∧ tm 12 = .lit (.int .i64 r49.2) ∧ tm 13 = .ptr 47 0 ∧ tm 14 = .lit (.int .i64 r59.2) ∧ tm 15 = .ptr 57 0 ∧ tm 16 = .lit (.int .i64 r71.2) ∧ tm 17 = .sl (cellsL eI r85.1) (List.length r85.1) false ∧ tm 18 = .lit (.int .i64 r85.2) ∧ tm 19 = .sl (cellsL eI r100.1) (List.length r100.1) false ∧ tm 20 = .lit (.int .i64 r100.2) ∧ tm 21 = .lit (.int .i64 r116.1) ∧ tm 22 = .lit (.int .i64 r116.2.1) ∧ tm 23 = .lit (.int .i64 r116.2.2) ∧ tm 95 = .tup [.lit (.int .i64 r133.1), .lit (.int .i64 r133.2.1), .lit (.int .i64 r133.2.2)] ∧ True) (by refine ⟨e120, e121, e122, e123, e124, e125, e126, e127, e128, e129, e130, e131, ?_, ?_, ?_, ?_, trivial⟩ <;> first | (simp only [ua, d21, e118, e119, e120, e121, e122, e123, e124, e125, e126, e127, e128, e129, e130, e131, e132, nm, seval] <;> rfl) | rfl) ?_
            rintro tm ⟨e135, e136, e137, e138, e139, e140, e141, e142, e143, e144, e145, e146, e147, e148, e149, e150, _⟩
            cases d151 : (r41.2 == 0)
            ·simp only [d151, hs, reduceCtorEq] at h
             try simp only [vz, tyf, d21, e135, e136, e137, e138, e139, e140, e141, e142, e143, e144, e145, e146, e147, e148, e149, e150, d151, nm, seval]
             obtain rfl := kF _ h
             exact opd_bool Tryz.results14 (by first | rfl | (simp only [upd_apply, seval] <;> rfl))
            simp only [d151, hs, reduceCtorEq] at h
            cases d152 : (r49.2 == 0)
            ·simp only [d152, hs, reduceCtorEq] at h
             try simp only [vz, tyf, d21, e135, e136, e137, e138, e139, e140, e141, e142, e143, e144, e145, e146, e147, e148, e149, e150, d151, d152, nm, seval]
             obtain rfl := kF _ h
             exact opd_bool Tryz.results14 (by first | rfl | (simp only [upd_apply, seval] <;> rfl))
            simp only [d152, hs, reduceCtorEq] at h
            cases d153 : (r41.1 == r49.1)
            ·simp only [d153, hs, reduceCtorEq] at h
             try simp only [vz, tyf, d21, e135, e136, e137, e138, e139, e140, e141, e142, e143, e144, e145, e146, e147, e148, e149, e150, d151, d152, d153, nm, seval]
             obtain rfl := kF _ h
             exact opd_bool Tryz.results14 (by first | rfl | (simp only [upd_apply, seval] <;> rfl))
            simp only [d153, hs, reduceCtorEq] at h
            cases d154 : (r59.2 == r71.2)
            ·simp only [d154, hs, reduceCtorEq] at h
             try simp only [vz, tyf, d21, e135, e136, e137, e138, e139, e140, e141, e142, e143, e144, e145, e146, e147, e148, e149, e150, d151, d152, d153, d154, nm, seval]
             obtain rfl := kF _ h
             exact opd_bool Tryz.results14 (by first | rfl | (simp only [upd_apply, seval] <;> rfl))
            simp only [d154, hs, reduceCtorEq] at h
            cases d155 : (r59.1.Kind == r71.1.Kind && (r59.1.Number == r71.1.Number))
            ·simp only [d155, hs, reduceCtorEq] at h
             try simp only [vz, tyf, d21, e135, e136, e137, e138, e139, e140, e141, e142, e143, e144, e145, e146, e147, e148, e149, e150, d151, d152, d153, d154, d155, nm, seval]
             obtain rfl := kF _ h
             exact opd_bool Tryz.results14 (by first | rfl | (simp only [upd_apply, seval] <;> rfl))
            simp only [d155, hs, reduceCtorEq] at h
            cases d156 : (r85.2 == 0)
            ·simp only [d156, hs, reduceCtorEq] at h
             have b157 := And.intro d21 (And.intro d151 (And.intro d152 (And.intro d153 (And.intro d154 (And.intro d155 d156)))))
             try simp only [vz, tyf, b157, e135, e136, e137, e138, e139, e140, e141, e142, e143, e144, e145, e146, e147, e148, e149, e150, nm, seval]
             obtain rfl := kF _ h
             exact opd_bool Tryz.results14 (by first | rfl | (simp only [upd_apply, seval] <;> rfl))
            simp only [d156, hs, reduceCtorEq] at h
            have b158 := And.intro d21 (And.intro d151 (And.intro d152 (And.intro d153 (And.intro d154 (And.intro d155 d156)))))
            cases d159 : (r100.2 == 0)
            ·simp only [d159, hs, reduceCtorEq] at h
             try simp only [vz, tyf, b158, e135, e136, e137, e138, e139, e140, e141, e142, e143, e144, e145, e146, e147, e148, e149, e150, d159, nm, seval]
             obtain rfl := kF _ h
             exact opd_bool Tryz.results14 (by first | rfl | (simp only [upd_apply, seval] <;> rfl))
            simp only [d159, hs, reduceCtorEq] at h
            cases o161 : (g_ref01_Same r85.1 r100.1) with
            | none =>
             simp only [o161, hs, reduceCtorEq] at h
             exact absurd h kN
            | some r160 =>
             simp only [o161, hs, reduceCtorEq] at h
             simp only [vz, tyf, b158, e135, e136, e137, e138, e139, e140, e141, e142, e143, e144, e145, e146, e147, e148, e149, e150, d159, nm, seval]
             refine ktree (args0 := [.sl (cellsL eI r85.1) (List.length r85.1) false, .sl (cellsL eI r100.1) (List.length r100.1) false]) (by first | (simp only [nrm, tynrm] <;> rfl) | rfl) (by simp only [tre, tytre, Bool.and_self]) (g_ref01_Same_ok _ _ _ o161) ?_
             refine fin_cut (fun tm => tm 21 = .lit (.int .i64 r116.1) ∧ tm 22 = .lit (.int .i64 r116.2.1) ∧ tm 23 = .lit (.int .i64 r116.2.2) ∧ tm 24 = .lit (.int .i64 r133.1) ∧ tm 25 = .lit (.int .i64 r133.2.1) ∧ tm 26 = .lit (.int .i64 r133.2.2) ∧ tm 128 = .lit (.bool true) ∧ tm 131 = .lit (.bool r160) ∧ True) (by refine ⟨e147, e148, e149, ?_, ?_, ?_, ?_, ?_, trivial⟩ <;> first | (simp only [ua, b158, e135, e136, e137, e138, e139, e140, e141, e142, e143, e144, e145, e146, e147, e148, e149, e150, d159, nm, seval] <;> rfl) | rfl) ?_
             rintro tm ⟨e162, e163, e164, e165, e166, e167, e168, e169, _⟩
             cases d170 : (r160)
             ·simp only [d170, hs, reduceCtorEq] at h
              try simp only [vz, tyf, b158, d159, e162, e163, e164, e165, e166, e167, e168, e169, d170, nm, seval]
              obtain rfl := kF _ h
              exact opd_bool Tryz.results14 (by first | rfl | (simp only [upd_apply, seval] <;> rfl))
             simp only [d170, hs, reduceCtorEq] at h
             cases d171 : (r116.2.2 == 0)
             ·simp only [d171, hs, reduceCtorEq] at h
              try simp only [vz, tyf, b158, d159, e162, e163, e164, e165, e166, e167, e168, e169, d170, d171, nm, seval]
              obtain rfl := kF _ h
              exact opd_bool Tryz.results14 (by first | rfl | (simp only [upd_apply, seval] <;> rfl))
             simp only [d171, hs, reduceCtorEq] at h
             cases d172 : (r133.2.2 == 0)
             ·simp only [d172, hs, reduceCtorEq] at h
              try simp only [vz, tyf, b158, d159, e162, e163, e164, e165, e166, e167, e168, e169, d170, d171, d172, nm, seval]
              obtain rfl := kF _ h
              exact opd_bool Tryz.results14 (by first | rfl | (simp only [upd_apply, seval] <;> rfl))
             simp only [d172, hs, reduceCtorEq] at h
             cases d173 : (r116.1 == r133.1)
             ·simp only [d173, hs, reduceCtorEq] at h
              try simp only [vz, tyf, b158, d159, e162, e163, e164, e165, e166, e167, e168, e169, d170, d171, d172, d173, nm, seval]
              obtain rfl := kF _ h
              exact opd_bool Tryz.results14 (by first | rfl | (simp only [upd_apply, seval] <;> rfl))
             simp only [d173, hs, reduceCtorEq] at h
             cases d174 : (r116.2.1 == r133.2.1)
             ·simp only [d174, hs, reduceCtorEq] at h
              have b175 := And.intro b158 (And.intro d159 (And.intro d170 (And.intro d171 (And.intro d172 (And.intro d173 d174)))))
              try simp only [vz, tyf, b175, e162, e163, e164, e165, e166, e167, e168, e169, nm, seval]
              obtain rfl := kF _ h
              exact opd_bool Tryz.results14 (by first | rfl | (simp only [upd_apply, seval] <;> rfl))
             simp only [d174, hs, reduceCtorEq] at h
             have b176 := And.intro b158 (And.intro d159 (And.intro d170 (And.intro d171 (And.intro d172 (And.intro d173 d174)))))
             cases o178 : (g_law02_known ) with
             | none =>
              simp only [o178, hs, reduceCtorEq] at h
              exact absurd h kN
             | some r177 =>
              simp only [o178, hs, reduceCtorEq] at h
              simp only [vz, tyf, b176, e162, e163, e164, e165, e166, e167, e168, e169, nm, seval]
              refine ktree (args0 := []) (by first | (simp only [nrm, tynrm] <;> rfl) | rfl) (by simp only [tre, tytre, Bool.and_self]) (g_law02_known_ok  _ o178) ?_
              refine fin_cut (fun tm => tm 151 = .lit (.bool true) ∧ tm 152 = .lit (.bool r177) ∧ True) (by refine ⟨?_, ?_, trivial⟩ <;> first | (simp only [ua, b176, e162, e163, e164, e165, e166, e167, e168, e169, nm, seval] <;> rfl) | rfl) ?_
              rintro tm ⟨e179, e180, _⟩
              try simp only [vz, tyf, b176, e179, e180, nm, seval]
              obtain rfl := kF _ h
              exact opd_bool Tryz.results14 (by first | rfl | (simp only [upd_apply, seval] <;> rfl))
end Go.V
end
section
namespace Go.V
open Go
def mirP (L : Int) (p : GSightPlace) : GSightPlace := ⟨L - p.Along, p.Across⟩
def mirB (L : Int) (b : GSightBoard) : GSightBoard := ⟨L - b.At, b.Letters⟩
def mirK (L : Int) (k : GSightBlock) : GSightBlock := ⟨⟨L - k.Along.High, L - k.Along.Low⟩, k.Across, k.Sure⟩
def mirS (s : GSightStreet) : GSightStreet := ⟨s.Length, s.Width, s.Eye, s.Light, s.Boards.map (mirB s.Length), s.Blocks.map (mirK s.Length)⟩
theorem mir_far (L a : Int) (p : GSightPlace) : farI (L - a) (mirP L p) = farI a p := by
 have : (mirP L p).Along - (L - a) = -(p.Along - a) := by show L - p.Along - (L - a) = _; omega
 unfold farI
 rw [this, Int.neg_mul_neg]
 rfl
theorem mir_reach (w L a : Int) (p : GSightPlace) (h : Int) : reachB w (L - a) (mirP L p) h = reachB w a p h := by unfold reachB; rw [mir_far]
theorem mir_spread (w L a : Int) (p : GSightPlace) (h : Int) : spreadB w (L - a) (mirP L p) h = spreadB w a p h := by unfold spreadB; rw [mir_far]; rfl
theorem mir_leg (w L a : Int) (p : GSightPlace) (l : GSightLetter) : legB w (L - a) (mirP L p) l = legB w a p l := by
 simp only [legB, tallB, broadB, thickB, mir_reach, mir_spread]
theorem mir_clear (w L a : Int) (p : GSightPlace) : ∀ ls : List GSightLetter, clearB w (L - a) (mirP L p) ls = clearB w a p ls
 | [] => rfl
 | [e] => mir_leg w L a p e
 | e :: e' :: ls => by
  simp only [clearB, mir_leg, apartB, mir_spread, mir_clear w L a p (e' :: ls)]
theorem mir_line (L a : Int) (p : GSightPlace) (c : Int) : lineI (L - a) (mirP L p) c = L * p.Across - lineI a p c := by
 have : (mirP L p).Along - (L - a) = -(p.Along - a) := by show L - p.Along - (L - a) = _; omega
 unfold lineI
 rw [this, Int.neg_mul, show (mirP L p).Across = p.Across from rfl, Int.sub_mul]
 omega
theorem mir_beh (L a : Int) (p : GSightPlace) (k : GSightBlock) : behB (L - a) (mirP L p) (mirK L k) = behB a p k := by
 have e1 : lastC (mirP L p) (mirK L k) = lastC p k := rfl
 have e2 : (L - k.Along.Low) * p.Across = L * p.Across - k.Along.Low * p.Across := Int.sub_mul ..
 have e3 : (L - k.Along.High) * p.Across = L * p.Across - k.Along.High * p.Across := Int.sub_mul ..
 unfold behB
 rw [e1, mir_line, mir_line]
 show (!decide (k.Across.Low > p.Across) && (decide ((if L * p.Across - lineI a p (lastC p k) < L * p.Across - lineI a p k.Across.Low then L * p.Across - lineI a p (lastC p k) else L * p.Across - lineI a p k.Across.Low) ≤ (L - k.Along.Low) * p.Across) &&
  decide ((if L * p.Across - lineI a p k.Across.Low < L * p.Across - lineI a p (lastC p k) then L * p.Across - lineI a p (lastC p k) else L * p.Across - lineI a p k.Across.Low) ≥ (L - k.Along.High) * p.Across))) = _
 rw [e2, e3]
 generalize lineI a p (lastC p k) = x
 generalize lineI a p k.Across.Low = y
 generalize L * p.Across = z
 generalize k.Along.Low * p.Across = u
 generalize k.Along.High * p.Across = v
 have hA : ((if z - x < z - y then z - x else z - y) ≤ z - u) ↔ (if y < x then x else y) ≥ u := by split <;> split <;> omega
 have hB : ((if z - y < z - x then z - x else z - y) ≥ z - v) ↔ (if x < y then x else y) ≤ v := by split <;> split <;> omega
 rw [decide_eq_decide.2 hA, decide_eq_decide.2 hB, Bool.and_comm (decide _) (decide _)]
theorem mir_fnd {α β : Type} (f : β → Bool) (g : α → β) : ∀ (l : List α) (i : Int), fnd f (l.map g) i = fnd (fun x => f (g x)) l i
 | [], _ => rfl
 | e :: l, i => by simp only [List.map_cons, fnd, mir_fnd f g l (i + 1)]
theorem mir_hids {α β : Type} (f : β → Bool) (g : α → β) : ∀ (l : List α) (i : Int), hids f (l.map g) i = hids (fun x => f (g x)) l i
 | [], _ => rfl
 | e :: l, i => by simp only [List.map_cons, hids, mir_hids f g l (i + 1)]
theorem mir_why (w L a : Int) (p : GSightPlace) (ks : List GSightBlock) (ls : List GSightLetter) : whyF w (L - a) (mirP L p) (ks.map (mirK L)) ls = whyF w a p ks ls := by
 simp only [whyF, mir_fnd, mir_beh, tallB, broadB, thickB, apartB, mir_reach, mir_spread]
theorem mir_seen (s : GSightStreet) (b : GSightBoard) (p : GSightPlace) : seenI (mirS s) (mirB s.Length b) (mirP s.Length p) = seenI s b p := by
 have h1 : sureB (mirS s) (mirB s.Length b) (mirP s.Length p) = sureB s b p := by
  simp only [sureB, mirS, mirB, mir_clear, List.all_map, Function.comp_def, mir_beh]
 have h2 : mayB (mirS s) (mirB s.Length b) (mirP s.Length p) = mayB s b p := by
  simp only [mayB, mirS, mirB, mir_clear, List.all_map, Function.comp_def, mir_beh]
  rfl
 unfold seenI
 rw [h1, h2]
theorem mir_hid (s : GSightStreet) (b : GSightBoard) (p : GSightPlace) : hidL (mirS s) (mirB s.Length b) (mirP s.Length p) = hidL s b p := by
 simp only [hidL, mirS, mirB, mir_hids, mir_beh]
theorem mir_street {s : GSightStreet} (h : streetB s = true) : streetB (mirS s) = true := by
 simp only [streetB, Bool.and_eq_true, boardsB, blocksB, List.all_eq_true, boardB, blockB, inB_iff, spanB_iff, decide_eq_true_eq] at h ⊢
 obtain ⟨h1, h2, h3, h4, ⟨h5, h6⟩, h7, h8⟩ := h
 refine ⟨h1, h2, h3, h4, ⟨by simpa [mirS] using h5, fun b hb => ?_⟩, fun k hk => ?_, by simpa [mirS] using h8⟩
 ·obtain ⟨b', hb', rfl⟩ := List.mem_map.1 hb
  obtain ⟨g1, g2⟩ := h6 b' hb'
  refine ⟨?_, g2⟩
  show 0 ≤ s.Length - b'.At ∧ s.Length - b'.At ≤ s.Length
  omega
 ·obtain ⟨k', hk', rfl⟩ := List.mem_map.1 hk
  obtain ⟨g1, g2⟩ := h7 k' hk'
  refine ⟨?_, g2⟩
  show 0 ≤ s.Length - k'.Along.High ∧ s.Length - k'.Along.High ≤ s.Length - k'.Along.Low ∧ s.Length - k'.Along.Low ≤ s.Length
  omega
theorem mir_fine {s : GSightStreet} (h : FineS s) : FineS (mirS s) := by
 obtain ⟨h1, h2, h3⟩ := h
 refine ⟨by simpa [mirS, lenOk] using h1, fun b hb => ?_, by simpa [mirS, lenOk] using h3⟩
 obtain ⟨b', hb', rfl⟩ := List.mem_map.1 hb
 exact h2 b' hb'
theorem mir_num {s : GSightStreet} (n : Int) : numB (mirS s) n = numB s n := by simp [numB, mirS]
theorem mir_place {s : GSightStreet} {p : GSightPlace} (h : placeB s p = true) : placeB (mirS s) (mirP s.Length p) = true := by
 simp only [placeB, Bool.and_eq_true, inB_iff] at h ⊢
 show (0 ≤ s.Length - p.Along ∧ s.Length - p.Along ≤ s.Length) ∧ 1 ≤ p.Across ∧ p.Across ≤ s.Width
 omega
theorem mir_get {α β : Type} (g : α → β) {l : List α} {n : Int} {x : α} (h : getI l n = some x) : getI (l.map g) n = some (g x) := by
 obtain ⟨h0, h1⟩ := getI_lt h
 unfold getI at h ⊢
 rw [List.getElem?_map]
 cases hd : decide (0 ≤ n) with
 | false => exact absurd h0 (of_decide_eq_false hd)
 | true =>
  simp only [hd, h0, if_true, cond_true] at h ⊢
  rw [h]; rfl
theorem turned_l0 {s : GSightStreet} (hl : 1 ≤ s.Length ∧ s.Length ≤ 40) : ∀ (p : List GSightBoard) (c : Int) (acc : List GSightBoard), acc.length + p.length ≤ 100 → (∀ b ∈ p, 0 ≤ b.At ∧ b.At ≤ 40) → g_law02_turned_l0 s p c acc = some (.go (acc ++ p.map (mirB s.Length)))
 | [], c, acc, h, hb => by simp [g_law02_turned_l0]
 | b :: p, c, acc, h, hb => by
  simp only [List.length_cons] at h
  have h1 := hb b (List.mem_cons_self ..)
  have hr : roomOk 32 (acc ++ [GSightBoard.mk (s.Length - b.At) b.Letters]).length = true := room_small _ (by simp; omega) (by omega)
  simp only [g_law02_turned_l0, g_ref02_Moved, Option.bind_some, wrap_eq (show -9223372036854775808 ≤ s.Length - b.At by omega) (by omega), hr, cond_true]
  rw [turned_l0 hl p (c + 1) _ (by simp; omega) (fun b hb' => hb b (List.mem_cons_of_mem _ hb')), List.append_assoc]
  rfl
theorem turned_l1 {s : GSightStreet} (hl : 1 ≤ s.Length ∧ s.Length ≤ 40) : ∀ (p : List GSightBlock) (c : Int) (acc : List GSightBlock), acc.length + p.length ≤ 100 → (∀ k ∈ p, (0 ≤ k.Along.Low ∧ k.Along.Low ≤ 40) ∧ 0 ≤ k.Along.High ∧ k.Along.High ≤ 40) → g_law02_turned_l1 s p c acc = some (.go (acc ++ p.map (mirK s.Length)))
 | [], c, acc, h, hb => by simp [g_law02_turned_l1]
 | k :: p, c, acc, h, hb => by
  simp only [List.length_cons] at h
  have h1 := hb k (List.mem_cons_self ..)
  have hr : roomOk 40 (acc ++ [GSightBlock.mk ⟨s.Length - k.Along.High, s.Length - k.Along.Low⟩ k.Across k.Sure]).length = true := room_small _ (by simp; omega) (by omega)
  simp only [g_law02_turned_l1, g_law02_span, Option.bind_some, wrap_eq (show -9223372036854775808 ≤ s.Length - k.Along.High by omega) (by omega), wrap_eq (show -9223372036854775808 ≤ s.Length - k.Along.Low by omega) (by omega), hr, cond_true]
  rw [turned_l1 hl p (c + 1) _ (by simp; omega) (fun b hb' => hb b (List.mem_cons_of_mem _ hb')), List.append_assoc]
  rfl
theorem turned_eq {s : GSightStreet} (hf : FineS s) (h : streetB s = true) : g_law02_turned s = some (mirS s) := by
 simp only [streetB, Bool.and_eq_true, boardsB, blocksB, List.all_eq_true, boardB, blockB, inB_iff, spanB_iff, decide_eq_true_eq] at h
 obtain ⟨h1, h2, h3, h4, ⟨h5, h6⟩, h7, h8⟩ := h
 simp only [g_law02_turned, hf.1, hf.2.2, cond_true]
 rw [turned_l0 h1 s.Boards 0 [] (by simp; omega) (fun b hb => by have := (h6 b hb).1; omega), lbind_go, turned_l1 h1 s.Blocks 0 [] (by simp; omega) (fun k hk => by have := (h7 k hk).1; omega), lbind_go]
 rfl
theorem row_mir (L a : Int) : ∀ (k : Nat) (c : Int), (rowP a k c).map (mirP L) = rowP (L - a) k c
 | 0, c => rfl
 | k + 1, c => by simp only [rowP, List.map_cons, row_mir L a k (c + 1)]; rfl
theorem grid_snoc (w : Nat) : ∀ (k : Nat) (c : Int), gridP w (k + 1) c = gridP w k c ++ rowP (c + k) w 0
 | 0, c => by simp [gridP]
 | k + 1, c => by
  rw [gridP, grid_snoc w k (c + 1), gridP, List.append_assoc]
  rw [show c + 1 + (k : Int) = c + ((k + 1 : Nat) : Int) by omega]
theorem grid_mir (L : Int) (w : Nat) : ∀ (k : Nat) (c : Int), ((gridP w k c).map (mirP L)).Perm (gridP w k (L - c - k + 1))
 | 0, c => List.Perm.refl _
 | k + 1, c => by
  rw [gridP, List.map_append, row_mir]
  have ih := grid_mir L w k (c + 1)
  rw [show L - (c + 1) - (k : Int) + 1 = L - c - ((k + 1 : Nat) : Int) + 1 by omega] at ih
  rw [grid_snoc, show L - c - ((k + 1 : Nat) : Int) + 1 + (k : Int) = L - c by omega]
  exact (List.perm_append_comm).trans (List.Perm.append_right _ ih)
theorem all_mir (s : GSightStreet) (h : 1 ≤ s.Length) : ((allP s).map (mirP s.Length)).Perm (allP s) := by
 have := grid_mir s.Length s.Width.toNat (s.Length + 1).toNat 0
 rw [show s.Length - 0 - ((s.Length + 1).toNat : Int) + 1 = 0 by omega] at this
 exact this
theorem count_mir (s : GSightStreet) (h : 1 ≤ s.Length) (T T' : GSightPlace → Bool) (hT : ∀ p, T' (mirP s.Length p) = T p) : ((allP s).filter T').length = ((allP s).filter T).length := by
 rw [← ((all_mir s h).filter T').length_eq, List.filter_map, List.length_map]
 congr 2
 funext p
 exact hT p
theorem SightTurned_true (s : GSightStreet) (n : Int) (p : GSightPlace) (h : FineS s) : g_law02_SightTurned s n p = some true := by
 obtain ⟨bs, hb⟩ := short_some s h
 have hr : g_law02_right s n p = some (bs && (streetB s && (numB s n && placeB s p))) := by
  simp only [g_law02_right, hb, Option.bind_some, refStreet_eq s h, refBoard_eq, refPlace_eq, numB]
  cases bs <;> cases streetB s <;> cases inB 0 (IntKind.i64.wrap ((s.Boards.length : Int) - 1)) n <;> rfl
 simp only [g_law02_SightTurned, hr, Option.bind_some]
 cases hg : (bs && (streetB s && (numB s n && placeB s p))) with
 | false => rfl
 | true =>
  simp only [Bool.and_eq_true] at hg
  obtain ⟨_, h1, h2, h3⟩ := hg
  have hL : 1 ≤ s.Length ∧ s.Length ≤ 40 := by have := h1; simp only [streetB, Bool.and_eq_true, inB_iff] at this; exact this.1
  have hp : 0 ≤ p.Along ∧ p.Along ≤ s.Length := by have := h3; simp only [placeB, Bool.and_eq_true, inB_iff] at this; exact this.1
  have m1 := mir_street h1
  have m2 : numB (mirS s) n = true := by rw [mir_num]; exact h2
  have m3 := mir_place h3
  have mf := mir_fine h
  obtain ⟨b, b1, hl, hw, hgd⟩ := all_good h1 h2
  obtain ⟨b', c1, hl', hw', hgd'⟩ := all_good m1 m2
  have eb : b' = mirB s.Length b := by have := mir_get (mirB s.Length) b1; rw [show (mirS s).Boards = s.Boards.map (mirB s.Length) from rfl, this] at c1; cases c1; rfl
  subst eb
  have hM := Many_eq h h1 h2 b1 hl hw hgd
  have hM' := Many_eq mf m1 m2 c1 hl' hw' hgd'
  have k3 := count_mir s hL.1 (fun p => seenI s b p == 3) (fun p => seenI (mirS s) (mirB s.Length b) p == 3) (fun p => by simp only [mir_seen])
  have k2 := count_mir s hL.1 (fun p => decide (seenI s b p ≥ 2)) (fun p => decide (seenI (mirS s) (mirB s.Length b) p ≥ 2)) (fun p => by simp only [mir_seen])
  rw [show allP (mirS s) = allP s from rfl, k3, k2] at hM'
  have hS : g_sight_Seen s n p = some (seenI s b p, 0) := by
   rcases Seen_eq s n p h with ⟨x, x1, _, _, _, _, _, e⟩ | ⟨e, _⟩
   ·rw [b1] at x1; cases x1; exact e
   ·rw [h1, h2, h3] at e; cases e
  have hS' : g_sight_Seen (mirS s) n (mirP s.Length p) = some (seenI s b p, 0) := by
   rcases Seen_eq (mirS s) n (mirP s.Length p) mf with ⟨x, x1, _, _, _, _, _, e⟩ | ⟨e, _⟩
   ·rw [c1] at x1; cases x1; rw [e, mir_seen]
   ·rw [m1, m2, m3] at e; cases e
  have hH : g_sight_Hidden s n p = some (hidL s b p, 0) := by
   rcases LMH_eq s n p h with ⟨x, x1, _, _, _, _, _, _, _, e⟩ | ⟨e, _⟩
   ·rw [b1] at x1; cases x1; exact e
   ·rw [h1, h2, h3] at e; cases e
  have hH' : g_sight_Hidden (mirS s) n (mirP s.Length p) = some (hidL s b p, 0) := by
   rcases LMH_eq (mirS s) n (mirP s.Length p) mf with ⟨x, x1, _, _, _, _, _, _, _, e⟩ | ⟨e, _⟩
   ·rw [c1] at x1; cases x1; rw [e, mir_hid]
   ·rw [m1, m2, m3] at e; cases e
  have hW : ∃ f, g_sight_Why s n p = some f ∧ g_sight_Why (mirS s) n (mirP s.Length p) = some f := by
   rcases Why_eq s n p h with ⟨x, x1, _, _, _, _, _, e⟩ | ⟨e, _⟩
   ·rw [b1] at x1; cases x1
    rcases Why_eq (mirS s) n (mirP s.Length p) mf with ⟨y, y1, _, _, _, _, _, e'⟩ | ⟨e', _⟩
    ·rw [c1] at y1; cases y1
     refine ⟨_, e, ?_⟩
     rw [e']
     have hw := mir_why (s.Eye.Low * s.Light.Low) s.Length b.At p s.Blocks b.Letters
     change whyF ((mirS s).Eye.Low * (mirS s).Light.Low) (mirB s.Length b).At (mirP s.Length p) (mirS s).Blocks (mirB s.Length b).Letters = _ at hw
     rw [hw]
    ·rw [m1, m2, m3] at e'; cases e'
   ·rw [h1, h2, h3] at e; cases e
  obtain ⟨f, f1, f2⟩ := hW
  have hq : lenOk (hidL s b p) = true := lenOk_of (by
   have := hids_len (f := behB b.At p) s.Blocks 0
   have h8 := h1
   simp only [streetB, Bool.and_eq_true, blocksB, decide_eq_true_eq] at h8
   unfold hidL; omega)
  have hA : g_law02_at (IntKind.i64.wrap (s.Length - p.Along)) p.Across = some (mirP s.Length p) := by
   rw [wrap_eq (by omega) (by omega)]; rfl
  simp only [turned_eq h h1, hA, Option.bind_some, hS, hS', hH, hH', f1, f2, hM, hM', same_self _ hq, cond_true, beq_self_eq_true, Bool.and_self, g_law02_known]
end Go.V
end
