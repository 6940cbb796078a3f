/- Part of a proof: a logic of values by content, lifted functions, what follows. -/
import Derived.Test.YtbpeickbdiihcaaGreatDoorQbf
import Derived.Test.YtbpeickbdiihcaaGreatDoorQbi
import Derived.Test.YtbpeickbdiihcaaGreatDoorQbp
import Derived.Test.YtbpeickbdiihcaaGreatDoorQbm
import Derived.Test.YtbpeickbdiihcaaGreatDoorQbn
import Derived.Test.YtbpeickbdiihcaaGreatDoorQbo
set_option linter.all false
set_option maxRecDepth 4000
set_option maxHeartbeats 4000000
section
namespace Go.V
open Go Go.Proofs
def g_law02_SightFaulty (x0_s : GSightStreet) (x1_a1 : Int) (x2_a2 : GSightPlace) (x3_a3 : Int) : Option (Bool) := Option.bind (g_law02_right x0_s x1_a1 x2_a2) (fun r1 => cond (r1) (cond (decide (x3_a3 < 0)) (Option.bind (g_law02_known ) (fun r2 => some r2)) (Option.bind (getI x0_s.Boards x1_a1) (fun x3 => cond (decide (x3_a3 ≥ (List.length x3.Letters : Int))) (Option.bind (g_law02_known ) (fun r4 => some r4)) (Option.bind (g_sight_Why x0_s x1_a1 x2_a2) (fun r5 => Option.bind (g_sight_Seen x0_s x1_a1 x2_a2) (fun r6 => Option.bind (g_sight_Letters x0_s x1_a1 x2_a2) (fun r7 => Option.bind (g_sight_Melts x0_s x1_a1 x2_a2) (fun r8 => Option.bind (g_sight_Hidden x0_s x1_a1 x2_a2) (fun r9 => cond (r6.2 != 0) (some false) (cond (r7.2 != 0) (some false) (cond (r8.2 != 0) (some false) (cond (r9.2 != 0) (some false) (cond (r5.2 != 0) (cond (r5.2 != 5) (some false) (cond ((r5.2 == 5) != (r6.1 == 3)) (some false) (cond ((List.length r7.1 : Int) != (List.length x3.Letters : Int)) (some false) (cond ((List.length r8.1 : Int) != (IntKind.i64.wrap ((List.length x3.Letters : Int) - 1))) (some false) (Option.bind (getI x3.Letters x3_a3) (fun x10 => Option.bind (g_sight_Why (GSightStreet.mk x0_s.Length x0_s.Width x0_s.Eye x0_s.Light ([(GSightBoard.mk x3.At ([(GSightLetter.mk x10.Height x10.Width x10.Stroke 0)]))]) x0_s.Blocks) 0 x2_a2) (fun r11 => cond (r11.2 != 0) (cond (r11.2 != 5) (some false) (cond (r11.2 == 5) (Option.bind (g_law02_known ) (fun r12 => some r12)) (some false))) (cond (r11.2 == 5) (Option.bind (g_law02_known ) (fun r13 => some r13)) (some false))))))))) (cond ((r5.2 == 5) != (r6.1 == 3)) (some false) (cond ((List.length r7.1 : Int) != (List.length x3.Letters : Int)) (some false) (cond ((List.length r8.1 : Int) != (IntKind.i64.wrap ((List.length x3.Letters : Int) - 1))) (some false) (Option.bind (getI x3.Letters x3_a3) (fun x14 => Option.bind (g_sight_Why (GSightStreet.mk x0_s.Length x0_s.Width x0_s.Eye x0_s.Light ([(GSightBoard.mk x3.At ([(GSightLetter.mk x14.Height x14.Width x14.Stroke 0)]))]) x0_s.Blocks) 0 x2_a2) (fun r15 => cond (r15.2 != 0) (cond (r15.2 != 5) (some false) (cond ((r5.1.Kind == 1) != (decide ((List.length r9.1 : Int) > 0))) (some false) (cond (r5.1.Kind == 1) (Option.bind (getI r9.1 0) (fun x16 => cond (r5.1.Number == x16) (cond (r15.2 == 0) (cond (r15.1.Kind == r5.1.Kind && (r15.1.Number == r5.1.Number)) (Option.bind (g_law02_known ) (fun r17 => some r17)) (some false)) (some false)) (some false))) (cond (r5.1.Kind == 2) (cond (decide (r5.1.Number < 0)) (some false) (cond (decide (r5.1.Number ≥ (List.length x3.Letters : Int))) (some false) (Option.bind (getI r7.1 r5.1.Number) (fun x18 => cond (x18 == 3) (some false) (cond (r15.2 == 0) (cond (decide (r15.1.Kind < r5.1.Kind)) (some false) (cond (r15.1.Kind == r5.1.Kind) (cond (decide (x3_a3 < r5.1.Number)) (some false) (cond (x3_a3 != r5.1.Number) (Option.bind (g_law02_known ) (fun r19 => some r19)) (cond (r15.1.Number == 0) (Option.bind (g_law02_known ) (fun r20 => some r20)) (some false)))) (cond (x3_a3 != r5.1.Number) (Option.bind (g_law02_known ) (fun r21 => some r21)) (some false)))) (cond (x3_a3 != r5.1.Number) (Option.bind (g_law02_known ) (fun r22 => some r22)) (some false))))))) (cond (r5.1.Kind == 3) (cond (decide (r5.1.Number < 0)) (some false) (cond (decide (r5.1.Number ≥ (List.length x3.Letters : Int))) (some false) (Option.bind (getI r7.1 r5.1.Number) (fun x23 => cond (x23 == 3) (some false) (cond (r15.2 == 0) (cond (decide (r15.1.Kind < r5.1.Kind)) (some false) (cond (r15.1.Kind == r5.1.Kind) (cond (decide (x3_a3 < r5.1.Number)) (some false) (cond (x3_a3 != r5.1.Number) (Option.bind (g_law02_known ) (fun r24 => some r24)) (cond (r15.1.Number == 0) (Option.bind (g_law02_known ) (fun r25 => some r25)) (some false)))) (cond (x3_a3 != r5.1.Number) (Option.bind (g_law02_known ) (fun r26 => some r26)) (some false)))) (cond (x3_a3 != r5.1.Number) (Option.bind (g_law02_known ) (fun r27 => some r27)) (some false))))))) (cond (r5.1.Kind == 4) (cond (decide (r5.1.Number < 0)) (some false) (cond (decide (r5.1.Number ≥ (List.length x3.Letters : Int))) (some false) (Option.bind (getI r7.1 r5.1.Number) (fun x28 => cond (x28 == 3) (some false) (cond (r15.2 == 0) (cond (decide (r15.1.Kind < r5.1.Kind)) (some false) (cond (r15.1.Kind == r5.1.Kind) (cond (decide (x3_a3 < r5.1.Number)) (some false) (cond (x3_a3 != r5.1.Number) (Option.bind (g_law02_known ) (fun r29 => some r29)) (cond (r15.1.Number == 0) (Option.bind (g_law02_known ) (fun r30 => some r30)) (some false)))) (cond (x3_a3 != r5.1.Number) (Option.bind (g_law02_known ) (fun r31 => some r31)) (some false)))) (cond (x3_a3 != r5.1.Number) (Option.bind (g_law02_known ) (fun r32 => some r32)) (some false))))))) (cond (r5.1.Kind == 5) (cond (decide (r5.1.Number ≥ 0)) (cond (decide (r5.1.Number < (IntKind.i64.wrap ((List.length x3.Letters : Int) - 1)))) (Option.bind (getI r8.1 r5.1.Number) (fun x33 => cond (x33 != 1) (cond (r15.2 == 5) (Option.bind (g_law02_known ) (fun r34 => some r34)) (some false)) (some false))) (some false)) (some false)) (some false)))))))) (cond ((r5.1.Kind == 1) != (decide ((List.length r9.1 : Int) > 0))) (some false) (cond (r5.1.Kind == 1) (Option.bind (getI r9.1 0) (fun x35 => cond (r5.1.Number == x35) (cond (r15.2 == 0) (cond (r15.1.Kind == r5.1.Kind && (r15.1.Number == r5.1.Number)) (Option.bind (g_law02_known ) (fun r36 => some r36)) (some false)) (some false)) (some false))) (cond (r5.1.Kind == 2) (cond (decide (r5.1.Number < 0)) (some false) (cond (decide (r5.1.Number ≥ (List.length x3.Letters : Int))) (some false) (Option.bind (getI r7.1 r5.1.Number) (fun x37 => cond (x37 == 3) (some false) (cond (r15.2 == 0) (cond (decide (r15.1.Kind < r5.1.Kind)) (some false) (cond (r15.1.Kind == r5.1.Kind) (cond (decide (x3_a3 < r5.1.Number)) (some false) (cond (x3_a3 != r5.1.Number) (Option.bind (g_law02_known ) (fun r38 => some r38)) (cond (r15.1.Number == 0) (Option.bind (g_law02_known ) (fun r39 => some r39)) (some false)))) (cond (x3_a3 != r5.1.Number) (Option.bind (g_law02_known ) (fun r40 => some r40)) (some false)))) (cond (x3_a3 != r5.1.Number) (Option.bind (g_law02_known ) (fun r41 => some r41)) (some false))))))) (cond (r5.1.Kind == 3) (cond (decide (r5.1.Number < 0)) (some false) (cond (decide (r5.1.Number ≥ (List.length x3.Letters : Int))) (some false) (Option.bind (getI r7.1 r5.1.Number) (fun x42 => cond (x42 == 3) (some false) (cond (r15.2 == 0) (cond (decide (r15.1.Kind < r5.1.Kind)) (some false) (cond (r15.1.Kind == r5.1.Kind) (cond (decide (x3_a3 < r5.1.Number)) (some false) (cond (x3_a3 != r5.1.Number) (Option.bind (g_law02_known ) (fun r43 => some r43)) (cond (r15.1.Number == 0) (Option.bind (g_law02_known ) (fun r44 => some r44)) (some false)))) (cond (x3_a3 != r5.1.Number) (Option.bind (g_law02_known ) (fun r45 => some r45)) (some false)))) (cond (x3_a3 != r5.1.Number) (Option.bind (g_law02_known ) (fun r46 => some r46)) (some false))))))) (cond (r5.1.Kind == 4) (cond (decide (r5.1.Number < 0)) (some false) (cond (decide (r5.1.Number ≥ (List.length x3.Letters : Int))) (some false) (Option.bind (getI r7.1 r5.1.Number) (fun x47 => cond (x47 == 3) (some false) (cond (r15.2 == 0) (cond (decide (r15.1.Kind < r5.1.Kind)) (some false) (cond (r15.1.Kind == r5.1.Kind) (cond (decide (x3_a3 < r5.1.Number)) (some false) (cond (x3_a3 != r5.1.Number) (Option.bind (g_law02_known ) (fun r48 => some r48)) (cond (r15.1.Number == 0) (Option.bind (g_law02_known ) (fun r49 => some r49)) (some false)))) (cond (x3_a3 != r5.1.Number) (Option.bind (g_law02_known ) (fun r50 => some r50)) (some false)))) (cond (x3_a3 != r5.1.Number) (Option.bind (g_law02_known ) (fun r51 => some r51)) (some false))))))) (cond (r5.1.Kind == 5) (cond (decide (r5.1.Number ≥ 0)) (cond (decide (r5.1.Number < (IntKind.i64.wrap ((List.length x3.Letters : Int) - 1)))) (Option.bind (getI r8.1 r5.1.Number) (fun x52 => cond (x52 != 1) (cond (r15.2 == 5) (Option.bind (g_law02_known ) (fun r53 => some r53)) (some false)) (some false))) (some false)) (some false)) (some false)))))))))))))))))))))))))) (Option.bind (g_law02_known ) (fun r54 => some r54)))
theorem g_law02_SightFaulty_ok (x0_s : GSightStreet) (x1_a1 : Int) (x2_a2 : GSightPlace) (x3_a3 : Int) (R : Bool) (h : g_law02_SightFaulty x0_s x1_a1 x2_a2 x3_a3 = some R) : VPure Tryz.prog G0 6 [.agg (cGSightStreet x0_s), .lit (.int .i64 x1_a1), .agg (cGSightPlace x2_a2), .lit (.int .i64 x3_a3)] (.tree (.lit (.bool R))) := by
 refine VPure.runR mixed Tryz.call6 Tryz.func6 rfl (by simp [Tryz.ntmps6]; kernel_rfl) ?_
 obtain ⟨KF, h, kF, kN⟩ := fun_intro h
 simp only [g_law02_SightFaulty] at h
 cases o56 : (g_law02_right x0_s x1_a1 x2_a2) with
 | none =>
  simp only [o56, hs, reduceCtorEq] at h
  exact absurd h kN
 | some r55 =>
  simp only [o56, hs, reduceCtorEq] at h
  simp only [vz, tyf, nm, seval]
  refine ktree (args0 := [.agg (cGSightStreet x0_s), .lit (.int .i64 x1_a1), .agg (cGSightPlace x2_a2)]) (by first | (simp only [nrm, tynrm] <;> rfl) | rfl) (by simp only [tre, tytre, Bool.and_self]) (g_law02_right_ok _ _ _ _ o56) ?_
  refine fin_cut (fun tm => tm 1 = .lit (.int .i64 x1_a1) ∧ tm 3 = .lit (.int .i64 x3_a3) ∧ tm 4 = .ptr 0 0 ∧ tm 6 = .ptr 1 0 ∧ tm 27 = .lit (.bool r55) ∧ True) (by refine ⟨?_, ?_, ?_, ?_, ?_, trivial⟩ <;> first | (simp only [ua, nm, seval] <;> rfl) | rfl) ?_
  rintro tm ⟨e57, e58, e59, e60, e61, _⟩
  cases d62 : (r55)
  ·simp only [d62, hs, reduceCtorEq] at h
   cases o64 : (g_law02_known ) with
   | none =>
    simp only [o64, hs, reduceCtorEq] at h
    exact absurd h kN
   | some r63 =>
    simp only [o64, hs, reduceCtorEq] at h
    simp only [vz, tyf, e57, e58, e59, e60, e61, d62, nm, seval]
    refine ktree (args0 := []) (by first | (simp only [nrm, tynrm] <;> rfl) | rfl) (by simp only [tre, tytre, Bool.and_self]) (g_law02_known_ok  _ o64) ?_
    refine fin_cut (fun tm => tm 44 = .lit (.bool r63) ∧ True) (by refine ⟨?_, trivial⟩ <;> first | (simp only [ua, e57, e58, e59, e60, e61, d62, nm, seval] <;> rfl) | rfl) ?_
    rintro tm ⟨e65, _⟩
    simp only [vz, tyf, d62, e65, nm, seval]
    obtain rfl := kF _ h
    exact opd_bool Tryz.results6 (by first | rfl | (simp only [upd_apply, seval] <;> rfl))
  simp only [d62, hs, reduceCtorEq] at h
  cases d66 : (decide (x3_a3 < 0))
  ·simp only [d66, hs, reduceCtorEq] at h
   cases o68 : (getI x0_s.Boards x1_a1) with
   | none =>
    simp only [o68, hs, reduceCtorEq] at h
    exact absurd h kN
   | some x67 =>
    simp only [o68, hs, reduceCtorEq] at h
    cases d69 : (decide (x3_a3 ≥ (List.length x67.Letters : Int)))
    ·simp only [d69, hs, reduceCtorEq] at h
     cases o71 : (g_sight_Why x0_s x1_a1 x2_a2) with
     | none =>
      simp only [o71, hs, reduceCtorEq] at h
      exact absurd h kN
     | some r70 =>
      simp only [o71, hs, reduceCtorEq] at h
      simp only [vz, tyf, e57, e58, e59, e60, e61, d62, d66, (ix24 o68), d69, nm, seval]
      refine ktree (args0 := [.agg (cGSightStreet x0_s), .lit (.int .i64 x1_a1), .agg (cGSightPlace x2_a2)]) (by first | (simp only [nrm, tynrm] <;> rfl) | rfl) (by simp only [tre, tytre, Bool.and_self]) (g_sight_Why_ok _ _ _ _ o71) ?_
      refine fin_cut (fun tm => tm 1 = .lit (.int .i64 x1_a1) ∧ tm 3 = .lit (.int .i64 x3_a3) ∧ tm 4 = .ptr 0 0 ∧ tm 6 = .ptr 1 0 ∧ tm 49 = .tup [.agg (cGSightFault r70.1), .lit (.int .i64 r70.2)] ∧ True) (by refine ⟨e57, e58, e59, e60, ?_, trivial⟩ <;> first | (simp only [ua, e57, e58, e59, e60, e61, d62, d66, d69, nm, seval] <;> rfl) | rfl) ?_
      rintro tm ⟨e72, e73, e74, e75, e76, _⟩
      cases o78 : (g_sight_Seen x0_s x1_a1 x2_a2) with
      | none =>
       simp only [o78, hs, reduceCtorEq] at h
       exact absurd h kN
      | some r77 =>
       simp only [o78, hs, reduceCtorEq] at h
       simp only [vz, tyf, d62, d66, (ix24 o68), d69, e72, e73, e74, e75, e76, nm, seval]
       refine ktree (args0 := [.agg (cGSightStreet x0_s), .lit (.int .i64 x1_a1), .agg (cGSightPlace x2_a2)]) (by first | (simp only [nrm, tynrm] <;> rfl) | rfl) (by simp only [tre, tytre, Bool.and_self]) (g_sight_Seen_ok _ _ _ _ o78) ?_
       refine fin_cut (fun tm => tm 1 = .lit (.int .i64 x1_a1) ∧ tm 3 = .lit (.int .i64 x3_a3) ∧ tm 4 = .ptr 0 0 ∧ tm 6 = .ptr 1 0 ∧ tm 9 = .ptr 30 0 ∧ tm 10 = .lit (.int .i64 r70.2) ∧ tm 56 = .tup [.lit (.int .i64 r77.1), .lit (.int .i64 r77.2)] ∧ True) (by refine ⟨e72, e73, e74, e75, ?_, ?_, ?_, trivial⟩ <;> first | (simp only [ua, d62, d66, d69, e72, e73, e74, e75, e76, nm, seval] <;> rfl) | rfl) ?_
       rintro tm ⟨e79, e80, e81, e82, e83, e84, e85, _⟩
       cases o87 : (g_sight_Letters x0_s x1_a1 x2_a2) with
       | none =>
        simp only [o87, hs, reduceCtorEq] at h
        exact absurd h kN
       | some r86 =>
        simp only [o87, hs, reduceCtorEq] at h
        simp only [vz, tyf, d62, d66, (ix24 o68), d69, e79, e80, e81, e82, e83, e84, e85, nm, seval]
        refine ktree (args0 := [.agg (cGSightStreet x0_s), .lit (.int .i64 x1_a1), .agg (cGSightPlace x2_a2)]) (by first | (simp only [nrm, tynrm] <;> rfl) | rfl) (by simp only [tre, tytre, Bool.and_self]) (g_sight_Letters_ok _ _ _ _ o87) ?_
        refine fin_cut (fun tm => tm 1 = .lit (.int .i64 x1_a1) ∧ tm 3 = .lit (.int .i64 x3_a3) ∧ tm 4 = .ptr 0 0 ∧ tm 6 = .ptr 1 0 ∧ tm 9 = .ptr 30 0 ∧ tm 10 = .lit (.int .i64 r70.2) ∧ tm 11 = .lit (.int .i64 r77.1) ∧ tm 12 = .lit (.int .i64 r77.2) ∧ tm 63 = .tup [.sl (cellsL eI r86.1) (List.length r86.1) false, .lit (.int .i64 r86.2)] ∧ True) (by refine ⟨e79, e80, e81, e82, e83, e84, ?_, ?_, ?_, trivial⟩ <;> first | (simp only [ua, d62, d66, d69, e79, e80, e81, e82, e83, e84, e85, nm, seval] <;> rfl) | rfl) ?_
        rintro tm ⟨e88, e89, e90, e91, e92, e93, e94, e95, e96, _⟩
        cases o98 : (g_sight_Melts x0_s x1_a1 x2_a2) with
        | none =>
         simp only [o98, hs, reduceCtorEq] at h
         exact absurd h kN
        | some r97 =>
         simp only [o98, hs, reduceCtorEq] at h
         simp only [vz, tyf, d62, d66, (ix24 o68), d69, e88, e89, e90, e91, e92, e93, e94, e95, e96, nm, seval]
         refine ktree (args0 := [.agg (cGSightStreet x0_s), .lit (.int .i64 x1_a1), .agg (cGSightPlace x2_a2)]) (by first | (simp only [nrm, tynrm] <;> rfl) | rfl) (by simp only [tre, tytre, Bool.and_self]) (g_sight_Melts_ok _ _ _ _ o98) ?_
         refine fin_cut (fun tm => tm 1 = .lit (.int .i64 x1_a1) ∧ tm 3 = .lit (.int .i64 x3_a3) ∧ tm 4 = .ptr 0 0 ∧ tm 6 = .ptr 1 0 ∧ tm 9 = .ptr 30 0 ∧ tm 10 = .lit (.int .i64 r70.2) ∧ tm 11 = .lit (.int .i64 r77.1) ∧ tm 12 = .lit (.int .i64 r77.2) ∧ tm 13 = .sl (cellsL eI r86.1) (List.length r86.1) false ∧ tm 14 = .lit (.int .i64 r86.2) ∧ tm 70 = .tup [.sl (cellsL eI r97.1) (List.length r97.1) false, .lit (.int .i64 r97.2)] ∧ True) (by refine ⟨e88, e89, e90, e91, e92, e93, e94, e95, ?_, ?_, ?_, trivial⟩ <;> first | (simp only [ua, d62, d66, d69, e88, e89, e90, e91, e92, e93, e94, e95, e96, nm, seval] <;> rfl) | rfl) ?_
         rintro tm ⟨e99, e100, e101, e102, e103, e104, e105, e106, e107, e108, e109, _⟩
         cases o111 : (g_sight_Hidden x0_s x1_a1 x2_a2) with
         | none =>
          simp only [o111, hs, reduceCtorEq] at h
          exact absurd h kN
         | some r110 =>
          simp only [o111, hs, reduceCtorEq] at h
          simp only [vz, tyf, d62, d66, (ix24 o68), d69, e99, e100, e101, e102, e103, e104, e105, e106, e107, e108, e109, nm, seval]
          refine ktree (args0 := [.agg (cGSightStreet x0_s), .lit (.int .i64 x1_a1), .agg (cGSightPlace x2_a2)]) (by first | (simp only [nrm, tynrm] <;> rfl) | rfl) (by simp only [tre, tytre, Bool.and_self]) (g_sight_Hidden_ok _ _ _ _ o111) ?_
          refine fin_cut (fun tm => tm 1 = .lit (.int .i64 x1_a1) ∧ tm 3 = .lit (.int .i64 x3_a3) ∧ tm 4 = .ptr 0 0 ∧ tm 6 = .ptr 1 0 ∧ tm 9 = .ptr 30 0 ∧ tm 10 = .lit (.int .i64 r70.2) ∧ tm 11 = .lit (.int .i64 r77.1) ∧ tm 12 = .lit (.int .i64 r77.2) ∧ tm 13 = .sl (cellsL eI r86.1) (List.length r86.1) false ∧ tm 14 = .lit (.int .i64 r86.2) ∧ tm 15 = .sl (cellsL eI r97.1) (List.length r97.1) false ∧ tm 16 = .lit (.int .i64 r97.2) ∧ tm 77 = .tup [.sl (cellsL eI r110.1) (List.length r110.1) false, .lit (.int .i64 r110.2)] ∧ True) (by refine ⟨e99, e100, e101, e102, e103, e104, e105, e106, e107, e108, ?_, ?_, ?_, trivial⟩ <;> first | (simp only [ua, d62, d66, d69, e99, e100, e101, e102, e103, e104, e105, e106, e107, e108, e109, nm, seval] <;> rfl) | rfl) ?_
          rintro tm ⟨e112, e113, e114, e115, e116, e117, e118, e119, e120, e121, e122, e123, e124, _⟩
          cases d125 : (r77.2 != 0)
          ·simp only [d125, hs, reduceCtorEq] at h
           cases d126 : (r86.2 != 0)
           ·simp only [d126, hs, reduceCtorEq] at h
            cases d127 : (r97.2 != 0)
            ·simp only [d127, hs, reduceCtorEq] at h
             cases d128 : (r110.2 != 0)
             ·simp only [d128, hs, reduceCtorEq] at h
              have b129 := And.intro d62 (And.intro d66 (And.intro d69 (And.intro d125 (And.intro d126 (And.intro d127 d128)))))
              cases d130 : (r70.2 != 0)
              ·simp only [d130, hs, reduceCtorEq] at h
               cases d131 : ((r70.2 == 5) != (r77.1 == 3))
               ·simp only [d131, hs, reduceCtorEq] at h
                cases d132 : ((List.length r86.1 : Int) != (List.length x67.Letters : Int))
                ·simp only [d132, hs, reduceCtorEq] at h
                 cases d133 : ((List.length r97.1 : Int) != (IntKind.i64.wrap ((List.length x67.Letters : Int) - 1)))
                 ·simp only [d133, hs, reduceCtorEq] at h
                  cases o135 : (getI x67.Letters x3_a3) with
                  | none =>
                   simp only [o135, hs, reduceCtorEq] at h
                   exact absurd h kN
                  | some x134 =>
                   simp only [o135, hs, reduceCtorEq] at h
                   simp only [vz, tyf, b129, (ix24 o68), e112, e113, e114, e115, e116, e117, e118, e119, e120, e121, e122, e123, e124, d130, d131, d132, d133, (ix40 o135), nm, seval]
                   refine cwp_drawTF (fun tm => tm 1 = .lit (.int .i64 x1_a1) ∧ tm 3 = .lit (.int .i64 x3_a3) ∧ tm 4 = .ptr 0 0 ∧ tm 6 = .ptr 1 0 ∧ tm 9 = .ptr 30 0 ∧ tm 10 = .lit (.int .i64 r70.2) ∧ tm 13 = .sl (cellsL eI r86.1) (List.length r86.1) false ∧ tm 15 = .sl (cellsL eI r97.1) (List.length r97.1) false ∧ tm 17 = .sl (cellsL eI r110.1) (List.length r110.1) false ∧ tm 19 = .lit (.int .i64 (List.length x67.Letters : Int)) ∧ tm 20 = .ptr 120 0 ∧ tm 21 = .ptr 131 0 ∧ True) (by refine ⟨e112, e113, e114, e115, e116, e117, e120, e122, ?_, ?_, ?_, ?_, trivial⟩ <;> first | (simp only [ua, b129, e112, e113, e114, e115, e116, e117, e118, e119, e120, e121, e122, e123, e124, d130, d131, d132, d133, nm, seval] <;> rfl) | rfl) ?_
                   rintro tm ⟨e136, e137, e138, e139, e140, e141, e142, e143, e144, e145, e146, e147, _⟩
                   simp only [vz, tyf, b129, (ix24 o68), d130, d131, d132, d133, (ix40 o135), e136, e137, e138, e139, e140, e141, e142, e143, e144, e145, e146, e147, nm, seval]
                   refine drawK_nil ⟨?_, ?_⟩
                   ·simp only [traceR_cons, traceR_nil, hitK_quiet, hitK_nil, and_true, true_and]
                    repeat' (first | exact trivial | refine And.intro ?_ ?_ | rw [hitK_quiet] | rw [hitK_cons] | exact Or.inl (by decide +kernel) | exact Or.inl (by dsimp only; decide +kernel) | (refine Or.inr ⟨?_, ?_⟩ <;> simp; done) | (refine Or.inr ⟨?_, ?_⟩ <;> simp <;> omega))
                   cases o149 : (g_sight_Why (GSightStreet.mk x0_s.Length x0_s.Width x0_s.Eye x0_s.Light ([(GSightBoard.mk x67.At ([(GSightLetter.mk x134.Height x134.Width x134.Stroke 0)]))]) x0_s.Blocks) 0 x2_a2) with
                   | none =>
                    simp only [o149, hs, reduceCtorEq] at h
                    exact absurd h kN
                   | some r148 =>
                    simp only [o149, hs, reduceCtorEq] at h
                    simp only [vz, tyf, b129, (ix24 o68), d130, d131, d132, d133, (ix40 o135), e136, e137, e138, e139, e140, e141, e142, e143, e144, e145, e146, e147, nm, seval]
                    refine kseen (args0 := [.agg (cGSightStreet (GSightStreet.mk x0_s.Length x0_s.Width x0_s.Eye x0_s.Light ([(GSightBoard.mk x67.At ([(GSightLetter.mk x134.Height x134.Width x134.Stroke 0)]))]) x0_s.Blocks)), .lit (.int .i64 0), .agg (cGSightPlace x2_a2)]) (by simp only [List.map_cons, List.map_nil, showV_ref, updH_apply, without_apply, cr, tyf, nrm, tynrm, b129, (ix24 o68), d130, d131, d132, d133, (ix40 o135), e136, e137, e138, e139, e140, e141, e142, e143, e144, e145, e146, e147, nm, seval] <;> rfl) (by simp only [List.map_cons, List.map_nil, showV_ref, updH_apply, without_apply, cr, tyf, nrm, tynrm, b129, (ix24 o68), d130, d131, d132, d133, (ix40 o135), e136, e137, e138, e139, e140, e141, e142, e143, e144, e145, e146, e147, nm, seval]; simp only [tre, tytre, Bool.and_self]) (g_sight_Why_ok _ _ _ _ o149) (by first | rfl | simp only [VV.flat, flatL, Bool.and_self]) ?_
                    refine fin_cut (fun tm => tm 3 = .lit (.int .i64 x3_a3) ∧ tm 9 = .ptr 30 0 ∧ tm 10 = .lit (.int .i64 r70.2) ∧ tm 13 = .sl (cellsL eI r86.1) (List.length r86.1) false ∧ tm 15 = .sl (cellsL eI r97.1) (List.length r97.1) false ∧ tm 17 = .sl (cellsL eI r110.1) (List.length r110.1) false ∧ tm 19 = .lit (.int .i64 (List.length x67.Letters : Int)) ∧ tm 154 = .tup [.agg (cGSightFault r148.1), .lit (.int .i64 r148.2)] ∧ True) (by refine ⟨e137, e140, e141, e142, e143, e144, e145, ?_, trivial⟩ <;> first | (simp only [ua, b129, d130, d131, d132, d133, e136, e137, e138, e139, e140, e141, e142, e143, e144, e145, e146, e147, nm, seval] <;> rfl) | rfl) ?_
                    rintro tm ⟨e150, e151, e152, e153, e154, e155, e156, e157, _⟩
                    cases d158 : (r148.2 != 0)
                    ·simp only [d158, hs, reduceCtorEq] at h
                     cases d159 : ((r70.1.Kind == 1) != (decide ((List.length r110.1 : Int) > 0)))
                     ·simp only [d159, hs, reduceCtorEq] at h
                      have b160 := And.intro b129 (And.intro d130 (And.intro d131 (And.intro d132 (And.intro d133 (And.intro d158 d159)))))
                      cases d161 : (r70.1.Kind == 1)
                      ·simp only [d161, hs, reduceCtorEq] at h
                       have d162 := d159
                       simp only [d161] at d162
                       cases d163 : (r70.1.Kind == 2)
                       ·simp only [d163, hs, reduceCtorEq] at h
                        cases d164 : (r70.1.Kind == 3)
                        ·simp only [d164, hs, reduceCtorEq] at h
                         cases d165 : (r70.1.Kind == 4)
                         ·simp only [d165, hs, reduceCtorEq] at h
                          cases d166 : (r70.1.Kind == 5)
                          ·simp only [d166, hs, reduceCtorEq] at h
                           have b167 := And.intro b160 (And.intro d161 (And.intro d162 (And.intro d163 (And.intro d164 (And.intro d165 d166)))))
                           simp only [vz, tyf, b167, (ix24 o68), (ix40 o135), e150, e151, e152, e153, e154, e155, e156, e157, nm, seval]
                           obtain rfl := kF _ h
                           exact opd_bool Tryz.results6 (by first | rfl | (simp only [upd_apply, seval] <;> rfl))
                          simp only [d166, hs, reduceCtorEq] at h
                          have b168 := And.intro b160 (And.intro d161 (And.intro d162 (And.intro d163 (And.intro d164 (And.intro d165 d166)))))
                          cases d169 : (decide (r70.1.Number ≥ 0))
                          ·simp only [d169, hs, reduceCtorEq] at h
                           simp only [vz, tyf, b168, (ix24 o68), (ix40 o135), e150, e151, e152, e153, e154, e155, e156, e157, d169, nm, seval]
                           obtain rfl := kF _ h
                           exact opd_bool Tryz.results6 (by first | rfl | (simp only [upd_apply, seval] <;> rfl))
                          simp only [d169, hs, reduceCtorEq] at h
                          cases d170 : (decide (r70.1.Number < (IntKind.i64.wrap ((List.length x67.Letters : Int) - 1))))
                          ·simp only [d170, hs, reduceCtorEq] at h
                           simp only [vz, tyf, b168, (ix24 o68), (ix40 o135), e150, e151, e152, e153, e154, e155, e156, e157, d169, d170, nm, seval]
                           obtain rfl := kF _ h
                           exact opd_bool Tryz.results6 (by first | rfl | (simp only [upd_apply, seval] <;> rfl))
                          simp only [d170, hs, reduceCtorEq] at h
                          cases o172 : (getI r97.1 r70.1.Number) with
                          | none =>
                           simp only [o172, hs, reduceCtorEq] at h
                           exact absurd h kN
                          | some x171 =>
                           simp only [o172, hs, reduceCtorEq] at h
                           cases d173 : (x171 != 1)
                           ·simp only [d173, hs, reduceCtorEq] at h
                            simp only [vz, tyf, b168, (ix24 o68), (ix40 o135), e150, e151, e152, e153, e154, e155, e156, e157, d169, d170, (ix54 o172), d173, nm, seval]
                            obtain rfl := kF _ h
                            exact opd_bool Tryz.results6 (by first | rfl | (simp only [upd_apply, seval] <;> rfl))
                           simp only [d173, hs, reduceCtorEq] at h
                           cases d174 : (r148.2 == 5)
                           ·simp only [d174, hs, reduceCtorEq] at h
                            simp only [vz, tyf, b168, (ix24 o68), (ix40 o135), e150, e151, e152, e153, e154, e155, e156, e157, d169, d170, (ix54 o172), d173, d174, nm, seval]
                            obtain rfl := kF _ h
                            exact opd_bool Tryz.results6 (by first | rfl | (simp only [upd_apply, seval] <;> rfl))
                           simp only [d174, hs, reduceCtorEq] at h
                           cases o176 : (g_law02_known ) with
                           | none =>
                            simp only [o176, hs, reduceCtorEq] at h
                            exact absurd h kN
                           | some r175 =>
                            simp only [o176, hs, reduceCtorEq] at h
                            simp only [vz, tyf, b168, (ix24 o68), (ix40 o135), e150, e151, e152, e153, e154, e155, e156, e157, d169, d170, (ix54 o172), d173, d174, nm, seval]
                            refine ktree (args0 := []) (by first | (simp only [nrm, tynrm] <;> rfl) | rfl) (by simp only [tre, tytre, Bool.and_self]) (g_law02_known_ok  _ o176) ?_
                            refine fin_cut (fun tm => tm 291 = .lit (.bool true) ∧ tm 292 = .lit (.bool r175) ∧ True) (by refine ⟨?_, ?_, trivial⟩ <;> first | (simp only [ua, b168, e150, e151, e152, e153, e154, e155, e156, e157, d169, d170, d173, d174, nm, seval] <;> rfl) | rfl) ?_
                            rintro tm ⟨e177, e178, _⟩
                            simp only [vz, tyf, b168, (ix24 o68), (ix40 o135), d169, d170, (ix54 o172), d173, d174, e177, e178, nm, seval]
                            obtain rfl := kF _ h
                            exact opd_bool Tryz.results6 (by first | rfl | (simp only [upd_apply, seval] <;> rfl))
                         simp only [d165, hs, reduceCtorEq] at h
                         cases d179 : (decide (r70.1.Number < 0))
                         ·simp only [d179, hs, reduceCtorEq] at h
                          have b180 := And.intro b160 (And.intro d161 (And.intro d162 (And.intro d163 (And.intro d164 (And.intro d165 d179)))))
                          cases d181 : (decide (r70.1.Number ≥ (List.length x67.Letters : Int)))
                          ·simp only [d181, hs, reduceCtorEq] at h
                           cases o183 : (getI r86.1 r70.1.Number) with
                           | none =>
                            simp only [o183, hs, reduceCtorEq] at h
                            exact absurd h kN
                           | some x182 =>
                            simp only [o183, hs, reduceCtorEq] at h
                            cases d184 : (x182 == 3)
                            ·simp only [d184, hs, reduceCtorEq] at h
                             cases d185 : (r148.2 == 0)
                             ·simp only [d185, hs, reduceCtorEq] at h
                              cases d186 : (x3_a3 != r70.1.Number)
                              ·simp only [d186, hs, reduceCtorEq] at h
                               simp only [vz, tyf, b180, (ix24 o68), (ix40 o135), e150, e151, e152, e153, e154, e155, e156, e157, d181, (ix54 o183), d184, d185, d186, nm, seval]
                               obtain rfl := kF _ h
                               exact opd_bool Tryz.results6 (by first | rfl | (simp only [upd_apply, seval] <;> rfl))
                              simp only [d186, hs, reduceCtorEq] at h
                              cases o188 : (g_law02_known ) with
                              | none =>
                               simp only [o188, hs, reduceCtorEq] at h
                               exact absurd h kN
                              | some r187 =>
                               simp only [o188, hs, reduceCtorEq] at h
                               simp only [vz, tyf, b180, (ix24 o68), (ix40 o135), e150, e151, e152, e153, e154, e155, e156, e157, d181, (ix54 o183), d184, d185, d186, nm, seval]
                               refine ktree (args0 := []) (by first | (simp only [nrm, tynrm] <;> rfl) | rfl) (by simp only [tre, tytre, Bool.and_self]) (g_law02_known_ok  _ o188) ?_
                               refine fin_cut (fun tm => tm 264 = .lit (.bool true) ∧ tm 265 = .lit (.bool r187) ∧ True) (by refine ⟨?_, ?_, trivial⟩ <;> first | (simp only [ua, b180, e150, e151, e152, e153, e154, e155, e156, e157, d181, d184, d185, d186, nm, seval] <;> rfl) | rfl) ?_
                               rintro tm ⟨e189, e190, _⟩
                               simp only [vz, tyf, b180, (ix24 o68), (ix40 o135), d181, (ix54 o183), d184, d185, d186, e189, e190, nm, seval]
                               obtain rfl := kF _ h
                               exact opd_bool Tryz.results6 (by first | rfl | (simp only [upd_apply, seval] <;> rfl))
                             simp only [d185, hs, reduceCtorEq] at h
                             cases d191 : (decide (r148.1.Kind < r70.1.Kind))
                             ·simp only [d191, hs, reduceCtorEq] at h
                              cases d192 : (r148.1.Kind == r70.1.Kind)
                              ·simp only [d192, hs, reduceCtorEq] at h
                               cases d193 : (x3_a3 != r70.1.Number)
                               ·simp only [d193, hs, reduceCtorEq] at h
                                have b194 := And.intro b180 (And.intro d181 (And.intro d184 (And.intro d185 (And.intro d191 (And.intro d192 d193)))))
                                simp only [vz, tyf, b194, (ix24 o68), (ix40 o135), e150, e151, e152, e153, e154, e155, e156, e157, (ix54 o183), nm, seval]
                                obtain rfl := kF _ h
                                exact opd_bool Tryz.results6 (by first | rfl | (simp only [upd_apply, seval] <;> rfl))
                               simp only [d193, hs, reduceCtorEq] at h
                               have b195 := And.intro b180 (And.intro d181 (And.intro d184 (And.intro d185 (And.intro d191 (And.intro d192 d193)))))
                               cases o197 : (g_law02_known ) with
                               | none =>
                                simp only [o197, hs, reduceCtorEq] at h
                                exact absurd h kN
                               | some r196 =>
                                simp only [o197, hs, reduceCtorEq] at h
                                simp only [vz, tyf, b195, (ix24 o68), (ix40 o135), e150, e151, e152, e153, e154, e155, e156, e157, (ix54 o183), nm, seval]
                                refine ktree (args0 := []) (by first | (simp only [nrm, tynrm] <;> rfl) | rfl) (by simp only [tre, tytre, Bool.and_self]) (g_law02_known_ok  _ o197) ?_
                                refine fin_cut (fun tm => tm 264 = .lit (.bool true) ∧ tm 265 = .lit (.bool r196) ∧ True) (by refine ⟨?_, ?_, trivial⟩ <;> first | (simp only [ua, b195, e150, e151, e152, e153, e154, e155, e156, e157, nm, seval] <;> rfl) | rfl) ?_
                                rintro tm ⟨e198, e199, _⟩
                                simp only [vz, tyf, b195, (ix24 o68), (ix40 o135), (ix54 o183), e198, e199, nm, seval]
                                obtain rfl := kF _ h
                                exact opd_bool Tryz.results6 (by first | rfl | (simp only [upd_apply, seval] <;> rfl))
                              simp only [d192, hs, reduceCtorEq] at h
                              cases d200 : (decide (x3_a3 < r70.1.Number))
                              ·simp only [d200, hs, reduceCtorEq] at h
                               have b201 := And.intro b180 (And.intro d181 (And.intro d184 (And.intro d185 (And.intro d191 (And.intro d192 d200)))))
                               cases d202 : (x3_a3 != r70.1.Number)
                               ·simp only [d202, hs, reduceCtorEq] at h
                                cases d203 : (r148.1.Number == 0)
                                ·simp only [d203, hs, reduceCtorEq] at h
                                 simp only [vz, tyf, b201, (ix24 o68), (ix40 o135), e150, e151, e152, e153, e154, e155, e156, e157, (ix54 o183), d202, d203, nm, seval]
                                 obtain rfl := kF _ h
                                 exact opd_bool Tryz.results6 (by first | rfl | (simp only [upd_apply, seval] <;> rfl))
                                simp only [d203, hs, reduceCtorEq] at h
                                cases o205 : (g_law02_known ) with
                                | none =>
                                 simp only [o205, hs, reduceCtorEq] at h
                                 exact absurd h kN
                                | some r204 =>
                                 simp only [o205, hs, reduceCtorEq] at h
                                 simp only [vz, tyf, b201, (ix24 o68), (ix40 o135), e150, e151, e152, e153, e154, e155, e156, e157, (ix54 o183), d202, d203, nm, seval]
                                 refine ktree (args0 := []) (by first | (simp only [nrm, tynrm] <;> rfl) | rfl) (by simp only [tre, tytre, Bool.and_self]) (g_law02_known_ok  _ o205) ?_
                                 refine fin_cut (fun tm => tm 264 = .lit (.bool true) ∧ tm 265 = .lit (.bool r204) ∧ True) (by refine ⟨?_, ?_, trivial⟩ <;> first | (simp only [ua, b201, e150, e151, e152, e153, e154, e155, e156, e157, d202, d203, nm, seval] <;> rfl) | rfl) ?_
                                 rintro tm ⟨e206, e207, _⟩
                                 simp only [vz, tyf, b201, (ix24 o68), (ix40 o135), (ix54 o183), d202, d203, e206, e207, nm, seval]
                                 obtain rfl := kF _ h
                                 exact opd_bool Tryz.results6 (by first | rfl | (simp only [upd_apply, seval] <;> rfl))
                               simp only [d202, hs, reduceCtorEq] at h
                               cases o209 : (g_law02_known ) with
                               | none =>
                                simp only [o209, hs, reduceCtorEq] at h
                                exact absurd h kN
                               | some r208 =>
                                simp only [o209, hs, reduceCtorEq] at h
                                simp only [vz, tyf, b201, (ix24 o68), (ix40 o135), e150, e151, e152, e153, e154, e155, e156, e157, (ix54 o183), d202, nm, seval]
                                refine ktree (args0 := []) (by first | (simp only [nrm, tynrm] <;> rfl) | rfl) (by simp only [tre, tytre, Bool.and_self]) (g_law02_known_ok  _ o209) ?_
                                refine fin_cut (fun tm => tm 264 = .lit (.bool true) ∧ tm 265 = .lit (.bool r208) ∧ True) (by refine ⟨?_, ?_, trivial⟩ <;> first | (simp only [ua, b201, e150, e151, e152, e153, e154, e155, e156, e157, d202, nm, seval] <;> rfl) | rfl) ?_
                                rintro tm ⟨e210, e211, _⟩
                                simp only [vz, tyf, b201, (ix24 o68), (ix40 o135), (ix54 o183), d202, e210, e211, nm, seval]
                                obtain rfl := kF _ h
                                exact opd_bool Tryz.results6 (by first | rfl | (simp only [upd_apply, seval] <;> rfl))
                              simp only [d200, hs, reduceCtorEq] at h
                              have b212 := And.intro b180 (And.intro d181 (And.intro d184 (And.intro d185 (And.intro d191 (And.intro d192 d200)))))
                              simp only [vz, tyf, b212, (ix24 o68), (ix40 o135), e150, e151, e152, e153, e154, e155, e156, e157, (ix54 o183), nm, seval]
                              obtain rfl := kF _ h
                              exact opd_bool Tryz.results6 (by first | rfl | (simp only [upd_apply, seval] <;> rfl))
                             simp only [d191, hs, reduceCtorEq] at h
                             simp only [vz, tyf, b180, (ix24 o68), (ix40 o135), e150, e151, e152, e153, e154, e155, e156, e157, d181, (ix54 o183), d184, d185, d191, nm, seval]
                             obtain rfl := kF _ h
                             exact opd_bool Tryz.results6 (by first | rfl | (simp only [upd_apply, seval] <;> rfl))
                            simp only [d184, hs, reduceCtorEq] at h
                            simp only [vz, tyf, b180, (ix24 o68), (ix40 o135), e150, e151, e152, e153, e154, e155, e156, e157, d181, (ix54 o183), d184, nm, seval]
                            obtain rfl := kF _ h
                            exact opd_bool Tryz.results6 (by first | rfl | (simp only [upd_apply, seval] <;> rfl))
                          simp only [d181, hs, reduceCtorEq] at h
                          simp only [vz, tyf, b180, (ix24 o68), (ix40 o135), e150, e151, e152, e153, e154, e155, e156, e157, d181, nm, seval]
                          obtain rfl := kF _ h
                          exact opd_bool Tryz.results6 (by first | rfl | (simp only [upd_apply, seval] <;> rfl))
                         simp only [d179, hs, reduceCtorEq] at h
                         have b213 := And.intro b160 (And.intro d161 (And.intro d162 (And.intro d163 (And.intro d164 (And.intro d165 d179)))))
                         simp only [vz, tyf, b213, (ix24 o68), (ix40 o135), e150, e151, e152, e153, e154, e155, e156, e157, nm, seval]
                         obtain rfl := kF _ h
                         exact opd_bool Tryz.results6 (by first | rfl | (simp only [upd_apply, seval] <;> rfl))
                        simp only [d164, hs, reduceCtorEq] at h
                        cases d214 : (decide (r70.1.Number < 0))
                        ·simp only [d214, hs, reduceCtorEq] at h
                         cases d215 : (decide (r70.1.Number ≥ (List.length x67.Letters : Int)))
                         ·simp only [d215, hs, reduceCtorEq] at h
                          have b216 := And.intro b160 (And.intro d161 (And.intro d162 (And.intro d163 (And.intro d164 (And.intro d214 d215)))))
                          cases o218 : (getI r86.1 r70.1.Number) with
                          | none =>
                           simp only [o218, hs, reduceCtorEq] at h
                           exact absurd h kN
                          | some x217 =>
                           simp only [o218, hs, reduceCtorEq] at h
                           cases d219 : (x217 == 3)
                           ·simp only [d219, hs, reduceCtorEq] at h
                            cases d220 : (r148.2 == 0)
                            ·simp only [d220, hs, reduceCtorEq] at h
                             cases d221 : (x3_a3 != r70.1.Number)
                             ·simp only [d221, hs, reduceCtorEq] at h
                              simp only [vz, tyf, b216, (ix24 o68), (ix40 o135), e150, e151, e152, e153, e154, e155, e156, e157, (ix54 o218), d219, d220, d221, nm, seval]
                              obtain rfl := kF _ h
                              exact opd_bool Tryz.results6 (by first | rfl | (simp only [upd_apply, seval] <;> rfl))
                             simp only [d221, hs, reduceCtorEq] at h
                             cases o223 : (g_law02_known ) with
                             | none =>
                              simp only [o223, hs, reduceCtorEq] at h
                              exact absurd h kN
                             | some r222 =>
                              simp only [o223, hs, reduceCtorEq] at h
                              simp only [vz, tyf, b216, (ix24 o68), (ix40 o135), e150, e151, e152, e153, e154, e155, e156, e157, (ix54 o218), d219, d220, d221, nm, seval]
                              refine ktree (args0 := []) (by first | (simp only [nrm, tynrm] <;> rfl) | rfl) (by simp only [tre, tytre, Bool.and_self]) (g_law02_known_ok  _ o223) ?_
                              refine fin_cut (fun tm => tm 264 = .lit (.bool true) ∧ tm 265 = .lit (.bool r222) ∧ True) (by refine ⟨?_, ?_, trivial⟩ <;> first | (simp only [ua, b216, e150, e151, e152, e153, e154, e155, e156, e157, d219, d220, d221, nm, seval] <;> rfl) | rfl) ?_
                              rintro tm ⟨e224, e225, _⟩
                              simp only [vz, tyf, b216, (ix24 o68), (ix40 o135), (ix54 o218), d219, d220, d221, e224, e225, nm, seval]
                              obtain rfl := kF _ h
                              exact opd_bool Tryz.results6 (by first | rfl | (simp only [upd_apply, seval] <;> rfl))
                            simp only [d220, hs, reduceCtorEq] at h
                            cases d226 : (decide (r148.1.Kind < r70.1.Kind))
                            ·simp only [d226, hs, reduceCtorEq] at h
                             cases d227 : (r148.1.Kind == r70.1.Kind)
                             ·simp only [d227, hs, reduceCtorEq] at h
                              cases d228 : (x3_a3 != r70.1.Number)
                              ·simp only [d228, hs, reduceCtorEq] at h
                               simp only [vz, tyf, b216, (ix24 o68), (ix40 o135), e150, e151, e152, e153, e154, e155, e156, e157, (ix54 o218), d219, d220, d226, d227, d228, nm, seval]
                               obtain rfl := kF _ h
                               exact opd_bool Tryz.results6 (by first | rfl | (simp only [upd_apply, seval] <;> rfl))
                              simp only [d228, hs, reduceCtorEq] at h
                              cases o230 : (g_law02_known ) with
                              | none =>
                               simp only [o230, hs, reduceCtorEq] at h
                               exact absurd h kN
                              | some r229 =>
                               simp only [o230, hs, reduceCtorEq] at h
                               simp only [vz, tyf, b216, (ix24 o68), (ix40 o135), e150, e151, e152, e153, e154, e155, e156, e157, (ix54 o218), d219, d220, d226, d227, d228, nm, seval]
                               refine ktree (args0 := []) (by first | (simp only [nrm, tynrm] <;> rfl) | rfl) (by simp only [tre, tytre, Bool.and_self]) (g_law02_known_ok  _ o230) ?_
                               refine fin_cut (fun tm => tm 264 = .lit (.bool true) ∧ tm 265 = .lit (.bool r229) ∧ True) (by refine ⟨?_, ?_, trivial⟩ <;> first | (simp only [ua, b216, e150, e151, e152, e153, e154, e155, e156, e157, d219, d220, d226, d227, d228, nm, seval] <;> rfl) | rfl) ?_
                               rintro tm ⟨e231, e232, _⟩
                               simp only [vz, tyf, b216, (ix24 o68), (ix40 o135), (ix54 o218), d219, d220, d226, d227, d228, e231, e232, nm, seval]
                               obtain rfl := kF _ h
                               exact opd_bool Tryz.results6 (by first | rfl | (simp only [upd_apply, seval] <;> rfl))
                             simp only [d227, hs, reduceCtorEq] at h
                             cases d233 : (decide (x3_a3 < r70.1.Number))
                             ·simp only [d233, hs, reduceCtorEq] at h
                              cases d234 : (x3_a3 != r70.1.Number)
                              ·simp only [d234, hs, reduceCtorEq] at h
                               have b235 := And.intro b216 (And.intro d219 (And.intro d220 (And.intro d226 (And.intro d227 (And.intro d233 d234)))))
                               cases d236 : (r148.1.Number == 0)
                               ·simp only [d236, hs, reduceCtorEq] at h
                                simp only [vz, tyf, b235, (ix24 o68), (ix40 o135), e150, e151, e152, e153, e154, e155, e156, e157, (ix54 o218), d236, nm, seval]
                                obtain rfl := kF _ h
                                exact opd_bool Tryz.results6 (by first | rfl | (simp only [upd_apply, seval] <;> rfl))
                               simp only [d236, hs, reduceCtorEq] at h
                               cases o238 : (g_law02_known ) with
                               | none =>
                                simp only [o238, hs, reduceCtorEq] at h
                                exact absurd h kN
                               | some r237 =>
                                simp only [o238, hs, reduceCtorEq] at h
                                simp only [vz, tyf, b235, (ix24 o68), (ix40 o135), e150, e151, e152, e153, e154, e155, e156, e157, (ix54 o218), d236, nm, seval]
                                refine ktree (args0 := []) (by first | (simp only [nrm, tynrm] <;> rfl) | rfl) (by simp only [tre, tytre, Bool.and_self]) (g_law02_known_ok  _ o238) ?_
                                refine fin_cut (fun tm => tm 264 = .lit (.bool true) ∧ tm 265 = .lit (.bool r237) ∧ True) (by refine ⟨?_, ?_, trivial⟩ <;> first | (simp only [ua, b235, e150, e151, e152, e153, e154, e155, e156, e157, d236, nm, seval] <;> rfl) | rfl) ?_
                                rintro tm ⟨e239, e240, _⟩
                                simp only [vz, tyf, b235, (ix24 o68), (ix40 o135), (ix54 o218), d236, e239, e240, nm, seval]
                                obtain rfl := kF _ h
                                exact opd_bool Tryz.results6 (by first | rfl | (simp only [upd_apply, seval] <;> rfl))
                              simp only [d234, hs, reduceCtorEq] at h
                              have b241 := And.intro b216 (And.intro d219 (And.intro d220 (And.intro d226 (And.intro d227 (And.intro d233 d234)))))
                              cases o243 : (g_law02_known ) with
                              | none =>
                               simp only [o243, hs, reduceCtorEq] at h
                               exact absurd h kN
                              | some r242 =>
                               simp only [o243, hs, reduceCtorEq] at h
                               simp only [vz, tyf, b241, (ix24 o68), (ix40 o135), e150, e151, e152, e153, e154, e155, e156, e157, (ix54 o218), nm, seval]
                               refine ktree (args0 := []) (by first | (simp only [nrm, tynrm] <;> rfl) | rfl) (by simp only [tre, tytre, Bool.and_self]) (g_law02_known_ok  _ o243) ?_
                               refine fin_cut (fun tm => tm 264 = .lit (.bool true) ∧ tm 265 = .lit (.bool r242) ∧ True) (by refine ⟨?_, ?_, trivial⟩ <;> first | (simp only [ua, b241, e150, e151, e152, e153, e154, e155, e156, e157, nm, seval] <;> rfl) | rfl) ?_
                               rintro tm ⟨e244, e245, _⟩
                               simp only [vz, tyf, b241, (ix24 o68), (ix40 o135), (ix54 o218), e244, e245, nm, seval]
                               obtain rfl := kF _ h
                               exact opd_bool Tryz.results6 (by first | rfl | (simp only [upd_apply, seval] <;> rfl))
                             simp only [d233, hs, reduceCtorEq] at h
                             simp only [vz, tyf, b216, (ix24 o68), (ix40 o135), e150, e151, e152, e153, e154, e155, e156, e157, (ix54 o218), d219, d220, d226, d227, d233, nm, seval]
                             obtain rfl := kF _ h
                             exact opd_bool Tryz.results6 (by first | rfl | (simp only [upd_apply, seval] <;> rfl))
                            simp only [d226, hs, reduceCtorEq] at h
                            simp only [vz, tyf, b216, (ix24 o68), (ix40 o135), e150, e151, e152, e153, e154, e155, e156, e157, (ix54 o218), d219, d220, d226, nm, seval]
                            obtain rfl := kF _ h
                            exact opd_bool Tryz.results6 (by first | rfl | (simp only [upd_apply, seval] <;> rfl))
                           simp only [d219, hs, reduceCtorEq] at h
                           simp only [vz, tyf, b216, (ix24 o68), (ix40 o135), e150, e151, e152, e153, e154, e155, e156, e157, (ix54 o218), d219, nm, seval]
                           obtain rfl := kF _ h
                           exact opd_bool Tryz.results6 (by first | rfl | (simp only [upd_apply, seval] <;> rfl))
                         simp only [d215, hs, reduceCtorEq] at h
                         have b246 := And.intro b160 (And.intro d161 (And.intro d162 (And.intro d163 (And.intro d164 (And.intro d214 d215)))))
                         simp only [vz, tyf, b246, (ix24 o68), (ix40 o135), e150, e151, e152, e153, e154, e155, e156, e157, nm, seval]
                         obtain rfl := kF _ h
                         exact opd_bool Tryz.results6 (by first | rfl | (simp only [upd_apply, seval] <;> rfl))
                        simp only [d214, hs, reduceCtorEq] at h
                        simp only [vz, tyf, b160, (ix24 o68), (ix40 o135), e150, e151, e152, e153, e154, e155, e156, e157, d161, d162, d163, d164, d214, nm, seval]
                        obtain rfl := kF _ h
                        exact opd_bool Tryz.results6 (by first | rfl | (simp only [upd_apply, seval] <;> rfl))
                       simp only [d163, hs, reduceCtorEq] at h
                       cases d247 : (decide (r70.1.Number < 0))
                       ·simp only [d247, hs, reduceCtorEq] at h
                        cases d248 : (decide (r70.1.Number ≥ (List.length x67.Letters : Int)))
                        ·simp only [d248, hs, reduceCtorEq] at h
                         cases o250 : (getI r86.1 r70.1.Number) with
                         | none =>
                          simp only [o250, hs, reduceCtorEq] at h
                          exact absurd h kN
                         | some x249 =>
                          simp only [o250, hs, reduceCtorEq] at h
                          cases d251 : (x249 == 3)
                          ·simp only [d251, hs, reduceCtorEq] at h
                           have b252 := And.intro b160 (And.intro d161 (And.intro d162 (And.intro d163 (And.intro d247 (And.intro d248 d251)))))
                           cases d253 : (r148.2 == 0)
                           ·simp only [d253, hs, reduceCtorEq] at h
                            cases d254 : (x3_a3 != r70.1.Number)
                            ·simp only [d254, hs, reduceCtorEq] at h
                             simp only [vz, tyf, b252, (ix24 o68), (ix40 o135), e150, e151, e152, e153, e154, e155, e156, e157, (ix54 o250), d253, d254, nm, seval]
                             obtain rfl := kF _ h
                             exact opd_bool Tryz.results6 (by first | rfl | (simp only [upd_apply, seval] <;> rfl))
                            simp only [d254, hs, reduceCtorEq] at h
                            cases o256 : (g_law02_known ) with
                            | none =>
                             simp only [o256, hs, reduceCtorEq] at h
                             exact absurd h kN
                            | some r255 =>
                             simp only [o256, hs, reduceCtorEq] at h
                             simp only [vz, tyf, b252, (ix24 o68), (ix40 o135), e150, e151, e152, e153, e154, e155, e156, e157, (ix54 o250), d253, d254, nm, seval]
                             refine ktree (args0 := []) (by first | (simp only [nrm, tynrm] <;> rfl) | rfl) (by simp only [tre, tytre, Bool.and_self]) (g_law02_known_ok  _ o256) ?_
                             refine fin_cut (fun tm => tm 264 = .lit (.bool true) ∧ tm 265 = .lit (.bool r255) ∧ True) (by refine ⟨?_, ?_, trivial⟩ <;> first | (simp only [ua, b252, e150, e151, e152, e153, e154, e155, e156, e157, d253, d254, nm, seval] <;> rfl) | rfl) ?_
                             rintro tm ⟨e257, e258, _⟩
                             simp only [vz, tyf, b252, (ix24 o68), (ix40 o135), (ix54 o250), d253, d254, e257, e258, nm, seval]
                             obtain rfl := kF _ h
                             exact opd_bool Tryz.results6 (by first | rfl | (simp only [upd_apply, seval] <;> rfl))
                           simp only [d253, hs, reduceCtorEq] at h
                           cases d259 : (decide (r148.1.Kind < r70.1.Kind))
                           ·simp only [d259, hs, reduceCtorEq] at h
                            cases d260 : (r148.1.Kind == r70.1.Kind)
                            ·simp only [d260, hs, reduceCtorEq] at h
                             cases d261 : (x3_a3 != r70.1.Number)
                             ·simp only [d261, hs, reduceCtorEq] at h
                              simp only [vz, tyf, b252, (ix24 o68), (ix40 o135), e150, e151, e152, e153, e154, e155, e156, e157, (ix54 o250), d253, d259, d260, d261, nm, seval]
                              obtain rfl := kF _ h
                              exact opd_bool Tryz.results6 (by first | rfl | (simp only [upd_apply, seval] <;> rfl))
                             simp only [d261, hs, reduceCtorEq] at h
                             cases o263 : (g_law02_known ) with
                             | none =>
                              simp only [o263, hs, reduceCtorEq] at h
                              exact absurd h kN
                             | some r262 =>
                              simp only [o263, hs, reduceCtorEq] at h
                              simp only [vz, tyf, b252, (ix24 o68), (ix40 o135), e150, e151, e152, e153, e154, e155, e156, e157, (ix54 o250), d253, d259, d260, d261, nm, seval]
                              refine ktree (args0 := []) (by first | (simp only [nrm, tynrm] <;> rfl) | rfl) (by simp only [tre, tytre, Bool.and_self]) (g_law02_known_ok  _ o263) ?_
                              refine fin_cut (fun tm => tm 264 = .lit (.bool true) ∧ tm 265 = .lit (.bool r262) ∧ True) (by refine ⟨?_, ?_, trivial⟩ <;> first | (simp only [ua, b252, e150, e151, e152, e153, e154, e155, e156, e157, d253, d259, d260, d261, nm, seval] <;> rfl) | rfl) ?_
                              rintro tm ⟨e264, e265, _⟩
                              simp only [vz, tyf, b252, (ix24 o68), (ix40 o135), (ix54 o250), d253, d259, d260, d261, e264, e265, nm, seval]
                              obtain rfl := kF _ h
                              exact opd_bool Tryz.results6 (by first | rfl | (simp only [upd_apply, seval] <;> rfl))
                            simp only [d260, hs, reduceCtorEq] at h
                            cases d266 : (decide (x3_a3 < r70.1.Number))
                            ·simp only [d266, hs, reduceCtorEq] at h
                             cases d267 : (x3_a3 != r70.1.Number)
                             ·simp only [d267, hs, reduceCtorEq] at h
                              cases d268 : (r148.1.Number == 0)
                              ·simp only [d268, hs, reduceCtorEq] at h
                               have b269 := And.intro b252 (And.intro d253 (And.intro d259 (And.intro d260 (And.intro d266 (And.intro d267 d268)))))
                               simp only [vz, tyf, b269, (ix24 o68), (ix40 o135), e150, e151, e152, e153, e154, e155, e156, e157, (ix54 o250), nm, seval]
                               obtain rfl := kF _ h
                               exact opd_bool Tryz.results6 (by first | rfl | (simp only [upd_apply, seval] <;> rfl))
                              simp only [d268, hs, reduceCtorEq] at h
                              have b270 := And.intro b252 (And.intro d253 (And.intro d259 (And.intro d260 (And.intro d266 (And.intro d267 d268)))))
                              cases o272 : (g_law02_known ) with
                              | none =>
                               simp only [o272, hs, reduceCtorEq] at h
                               exact absurd h kN
                              | some r271 =>
                               simp only [o272, hs, reduceCtorEq] at h
                               simp only [vz, tyf, b270, (ix24 o68), (ix40 o135), e150, e151, e152, e153, e154, e155, e156, e157, (ix54 o250), nm, seval]
                               refine ktree (args0 := []) (by first | (simp only [nrm, tynrm] <;> rfl) | rfl) (by simp only [tre, tytre, Bool.and_self]) (g_law02_known_ok  _ o272) ?_
                               refine fin_cut (fun tm => tm 264 = .lit (.bool true) ∧ tm 265 = .lit (.bool r271) ∧ True) (by refine ⟨?_, ?_, trivial⟩ <;> first | (simp only [ua, b270, e150, e151, e152, e153, e154, e155, e156, e157, nm, seval] <;> rfl) | rfl) ?_
                               rintro tm ⟨e273, e274, _⟩
                               simp only [vz, tyf, b270, (ix24 o68), (ix40 o135), (ix54 o250), e273, e274, nm, seval]
                               obtain rfl := kF _ h
                               exact opd_bool Tryz.results6 (by first | rfl | (simp only [upd_apply, seval] <;> rfl))
                             simp only [d267, hs, reduceCtorEq] at h
                             cases o276 : (g_law02_known ) with
                             | none =>
                              simp only [o276, hs, reduceCtorEq] at h
                              exact absurd h kN
                             | some r275 =>
                              simp only [o276, hs, reduceCtorEq] at h
                              simp only [vz, tyf, b252, (ix24 o68), (ix40 o135), e150, e151, e152, e153, e154, e155, e156, e157, (ix54 o250), d253, d259, d260, d266, d267, nm, seval]
                              refine ktree (args0 := []) (by first | (simp only [nrm, tynrm] <;> rfl) | rfl) (by simp only [tre, tytre, Bool.and_self]) (g_law02_known_ok  _ o276) ?_
                              refine fin_cut (fun tm => tm 264 = .lit (.bool true) ∧ tm 265 = .lit (.bool r275) ∧ True) (by refine ⟨?_, ?_, trivial⟩ <;> first | (simp only [ua, b252, e150, e151, e152, e153, e154, e155, e156, e157, d253, d259, d260, d266, d267, nm, seval] <;> rfl) | rfl) ?_
                              rintro tm ⟨e277, e278, _⟩
                              simp only [vz, tyf, b252, (ix24 o68), (ix40 o135), (ix54 o250), d253, d259, d260, d266, d267, e277, e278, nm, seval]
                              obtain rfl := kF _ h
                              exact opd_bool Tryz.results6 (by first | rfl | (simp only [upd_apply, seval] <;> rfl))
                            simp only [d266, hs, reduceCtorEq] at h
                            simp only [vz, tyf, b252, (ix24 o68), (ix40 o135), e150, e151, e152, e153, e154, e155, e156, e157, (ix54 o250), d253, d259, d260, d266, nm, seval]
                            obtain rfl := kF _ h
                            exact opd_bool Tryz.results6 (by first | rfl | (simp only [upd_apply, seval] <;> rfl))
                           simp only [d259, hs, reduceCtorEq] at h
                           simp only [vz, tyf, b252, (ix24 o68), (ix40 o135), e150, e151, e152, e153, e154, e155, e156, e157, (ix54 o250), d253, d259, nm, seval]
                           obtain rfl := kF _ h
                           exact opd_bool Tryz.results6 (by first | rfl | (simp only [upd_apply, seval] <;> rfl))
                          simp only [d251, hs, reduceCtorEq] at h
                          have b279 := And.intro b160 (And.intro d161 (And.intro d162 (And.intro d163 (And.intro d247 (And.intro d248 d251)))))
                          simp only [vz, tyf, b279, (ix24 o68), (ix40 o135), e150, e151, e152, e153, e154, e155, e156, e157, (ix54 o250), nm, seval]
                          obtain rfl := kF _ h
                          exact opd_bool Tryz.results6 (by first | rfl | (simp only [upd_apply, seval] <;> rfl))
                        simp only [d248, hs, reduceCtorEq] at h
                        simp only [vz, tyf, b160, (ix24 o68), (ix40 o135), e150, e151, e152, e153, e154, e155, e156, e157, d161, d162, d163, d247, d248, nm, seval]
                        obtain rfl := kF _ h
                        exact opd_bool Tryz.results6 (by first | rfl | (simp only [upd_apply, seval] <;> rfl))
                       simp only [d247, hs, reduceCtorEq] at h
                       simp only [vz, tyf, b160, (ix24 o68), (ix40 o135), e150, e151, e152, e153, e154, e155, e156, e157, d161, d162, d163, d247, nm, seval]
                       obtain rfl := kF _ h
                       exact opd_bool Tryz.results6 (by first | rfl | (simp only [upd_apply, seval] <;> rfl))
                      simp only [d161, hs, reduceCtorEq] at h
                      have d280 := d159
                      simp only [d161] at d280
                      simp only [vz, tyf, b160, (ix24 o68), (ix40 o135), e150, e151, e152, e153, e154, e155, e156, e157, d161, d280, nm, seval]
                      refine cwp_drwQF (fun tm => tm 9 = .ptr 30 0 ∧ tm 17 = .sl (cellsL eI r110.1) (List.length r110.1) false ∧ tm 22 = .ptr 153 0 ∧ tm 23 = .lit (.int .i64 r148.2) ∧ True) (by refine ⟨e151, e155, ?_, ?_, trivial⟩ <;> first | (simp only [ua, b160, e150, e151, e152, e153, e154, e155, e156, e157, d161, d280, nm, seval] <;> rfl) | rfl) ?_
                      rintro tm ⟨e281, e282, e283, e284, _⟩
                      cases o286 : (getI r110.1 0) with
                      | none =>
                       simp only [o286, hs, reduceCtorEq] at h
                       exact absurd h kN
                      | some x285 =>
                       simp only [o286, hs, reduceCtorEq] at h
                       cases d287 : (r70.1.Number == x285)
                       ·simp only [d287, hs, reduceCtorEq] at h
                        simp only [vz, tyf, b160, (ix24 o68), (ix40 o135), d161, d280, e281, e282, e283, e284, (ix57 o286), d287, nm, seval]
                        obtain rfl := kF _ h
                        exact opd_bool Tryz.results6 (by first | rfl | (simp only [upd_apply, seval] <;> rfl))
                       simp only [d287, hs, reduceCtorEq] at h
                       cases d288 : (r148.2 == 0)
                       ·simp only [d288, hs, reduceCtorEq] at h
                        simp only [vz, tyf, b160, (ix24 o68), (ix40 o135), d161, d280, e281, e282, e283, e284, (ix57 o286), d287, d288, nm, seval]
                        obtain rfl := kF _ h
                        exact opd_bool Tryz.results6 (by first | rfl | (simp only [upd_apply, seval] <;> rfl))
                       simp only [d288, hs, reduceCtorEq] at h
                       cases d289 : (r148.1.Kind == r70.1.Kind && (r148.1.Number == r70.1.Number))
                       ·simp only [d289, hs, reduceCtorEq] at h
                        simp only [vz, tyf, b160, (ix24 o68), (ix40 o135), d161, d280, e281, e282, e283, e284, (ix57 o286), d287, d288, d289, nm, seval]
                        obtain rfl := kF _ h
                        exact opd_bool Tryz.results6 (by first | rfl | (simp only [upd_apply, seval] <;> rfl))
                       simp only [d289, hs, reduceCtorEq] at h
                       cases o291 : (g_law02_known ) with
                       | none =>
                        simp only [o291, hs, reduceCtorEq] at h
                        exact absurd h kN
                       | some r290 =>
                        simp only [o291, hs, reduceCtorEq] at h
                        simp only [vz, tyf, b160, (ix24 o68), (ix40 o135), d161, d280, e281, e282, e283, e284, (ix57 o286), d287, d288, d289, nm, seval]
                        refine dktree (args0 := []) (by first | (simp only [nrm, tynrm] <;> rfl) | rfl) (by simp only [tre, tytre, Bool.and_self]) (g_law02_known_ok  _ o291) ?_
                        refine fin_cut (fun tm => tm 196 = .lit (.bool true) ∧ tm 197 = .lit (.bool r290) ∧ True) (by refine ⟨?_, ?_, trivial⟩ <;> first | (simp only [ua, b160, d161, d280, e281, e282, e283, e284, d287, d288, d289, nm, seval] <;> rfl) | rfl) ?_
                        rintro tm ⟨e292, e293, _⟩
                        simp only [vz, tyf, b160, (ix24 o68), (ix40 o135), d161, d280, (ix57 o286), d287, d288, d289, e292, e293, nm, seval]
                        obtain rfl := kF _ h
                        exact opd_bool Tryz.results6 (by first | rfl | (simp only [upd_apply, seval] <;> rfl))
                     simp only [d159, hs, reduceCtorEq] at h
                     have b294 := And.intro b129 (And.intro d130 (And.intro d131 (And.intro d132 (And.intro d133 (And.intro d158 d159)))))
                     simp only [vz, tyf, b294, (ix24 o68), (ix40 o135), e150, e151, e152, e153, e154, e155, e156, e157, nm, seval]
                     obtain rfl := kF _ h
                     exact opd_bool Tryz.results6 (by first | rfl | (simp only [upd_apply, seval] <;> rfl))
                    simp only [d158, hs, reduceCtorEq] at h
                    cases d295 : (r148.2 != 5)
                    ·simp only [d295, hs, reduceCtorEq] at h
                     have b296 := And.intro b129 (And.intro d130 (And.intro d131 (And.intro d132 (And.intro d133 (And.intro d158 d295)))))
                     cases d297 : ((r70.1.Kind == 1) != (decide ((List.length r110.1 : Int) > 0)))
                     ·simp only [d297, hs, reduceCtorEq] at h
                      cases d298 : (r70.1.Kind == 1)
                      ·simp only [d298, hs, reduceCtorEq] at h
                       have d299 := d297
                       simp only [d298] at d299
                       cases d300 : (r70.1.Kind == 2)
                       ·simp only [d300, hs, reduceCtorEq] at h
                        cases d301 : (r70.1.Kind == 3)
                        ·simp only [d301, hs, reduceCtorEq] at h
                         cases d302 : (r70.1.Kind == 4)
                         ·simp only [d302, hs, reduceCtorEq] at h
                          have b303 := And.intro b296 (And.intro d297 (And.intro d298 (And.intro d299 (And.intro d300 (And.intro d301 d302)))))
                          cases d304 : (r70.1.Kind == 5)
                          ·simp only [d304, hs, reduceCtorEq] at h
                           simp only [vz, tyf, b303, (ix24 o68), (ix40 o135), e150, e151, e152, e153, e154, e155, e156, e157, d304, nm, seval]
                           obtain rfl := kF _ h
                           exact opd_bool Tryz.results6 (by first | rfl | (simp only [upd_apply, seval] <;> rfl))
                          simp only [d304, hs, reduceCtorEq] at h
                          cases d305 : (decide (r70.1.Number ≥ 0))
                          ·simp only [d305, hs, reduceCtorEq] at h
                           simp only [vz, tyf, b303, (ix24 o68), (ix40 o135), e150, e151, e152, e153, e154, e155, e156, e157, d304, d305, nm, seval]
                           obtain rfl := kF _ h
                           exact opd_bool Tryz.results6 (by first | rfl | (simp only [upd_apply, seval] <;> rfl))
                          simp only [d305, hs, reduceCtorEq] at h
                          cases d306 : (decide (r70.1.Number < (IntKind.i64.wrap ((List.length x67.Letters : Int) - 1))))
                          ·simp only [d306, hs, reduceCtorEq] at h
                           simp only [vz, tyf, b303, (ix24 o68), (ix40 o135), e150, e151, e152, e153, e154, e155, e156, e157, d304, d305, d306, nm, seval]
                           obtain rfl := kF _ h
                           exact opd_bool Tryz.results6 (by first | rfl | (simp only [upd_apply, seval] <;> rfl))
                          simp only [d306, hs, reduceCtorEq] at h
                          cases o308 : (getI r97.1 r70.1.Number) with
                          | none =>
                           simp only [o308, hs, reduceCtorEq] at h
                           exact absurd h kN
                          | some x307 =>
                           simp only [o308, hs, reduceCtorEq] at h
                           cases d309 : (x307 != 1)
                           ·simp only [d309, hs, reduceCtorEq] at h
                            simp only [vz, tyf, b303, (ix24 o68), (ix40 o135), e150, e151, e152, e153, e154, e155, e156, e157, d304, d305, d306, (ix54 o308), d309, nm, seval]
                            obtain rfl := kF _ h
                            exact opd_bool Tryz.results6 (by first | rfl | (simp only [upd_apply, seval] <;> rfl))
                           simp only [d309, hs, reduceCtorEq] at h
                           cases d310 : (r148.2 == 5)
                           ·simp only [d310, hs, reduceCtorEq] at h
                            simp only [vz, tyf, b303, (ix24 o68), (ix40 o135), e150, e151, e152, e153, e154, e155, e156, e157, d304, d305, d306, (ix54 o308), d309, d310, nm, seval]
                            obtain rfl := kF _ h
                            exact opd_bool Tryz.results6 (by first | rfl | (simp only [upd_apply, seval] <;> rfl))
                           simp only [d310, hs, reduceCtorEq] at h
                           cases o312 : (g_law02_known ) with
                           | none =>
                            simp only [o312, hs, reduceCtorEq] at h
                            exact absurd h kN
                           | some r311 =>
                            simp only [o312, hs, reduceCtorEq] at h
                            simp only [vz, tyf, b303, (ix24 o68), (ix40 o135), e150, e151, e152, e153, e154, e155, e156, e157, d304, d305, d306, (ix54 o308), d309, d310, nm, seval]
                            refine ktree (args0 := []) (by first | (simp only [nrm, tynrm] <;> rfl) | rfl) (by simp only [tre, tytre, Bool.and_self]) (g_law02_known_ok  _ o312) ?_
                            refine fin_cut (fun tm => tm 291 = .lit (.bool true) ∧ tm 292 = .lit (.bool r311) ∧ True) (by refine ⟨?_, ?_, trivial⟩ <;> first | (simp only [ua, b303, e150, e151, e152, e153, e154, e155, e156, e157, d304, d305, d306, d309, d310, nm, seval] <;> rfl) | rfl) ?_
                            rintro tm ⟨e313, e314, _⟩
                            simp only [vz, tyf, b303, (ix24 o68), (ix40 o135), d304, d305, d306, (ix54 o308), d309, d310, e313, e314, nm, seval]
                            obtain rfl := kF _ h
                            exact opd_bool Tryz.results6 (by first | rfl | (simp only [upd_apply, seval] <;> rfl))
                         simp only [d302, hs, reduceCtorEq] at h
                         have b315 := And.intro b296 (And.intro d297 (And.intro d298 (And.intro d299 (And.intro d300 (And.intro d301 d302)))))
                         cases d316 : (decide (r70.1.Number < 0))
                         ·simp only [d316, hs, reduceCtorEq] at h
                          cases d317 : (decide (r70.1.Number ≥ (List.length x67.Letters : Int)))
                          ·simp only [d317, hs, reduceCtorEq] at h
                           cases o319 : (getI r86.1 r70.1.Number) with
                           | none =>
                            simp only [o319, hs, reduceCtorEq] at h
                            exact absurd h kN
                           | some x318 =>
                            simp only [o319, hs, reduceCtorEq] at h
                            cases d320 : (x318 == 3)
                            ·simp only [d320, hs, reduceCtorEq] at h
                             cases d321 : (r148.2 == 0)
                             ·simp only [d321, hs, reduceCtorEq] at h
                              cases d322 : (x3_a3 != r70.1.Number)
                              ·simp only [d322, hs, reduceCtorEq] at h
                               simp only [vz, tyf, b315, (ix24 o68), (ix40 o135), e150, e151, e152, e153, e154, e155, e156, e157, d316, d317, (ix54 o319), d320, d321, d322, nm, seval]
                               obtain rfl := kF _ h
                               exact opd_bool Tryz.results6 (by first | rfl | (simp only [upd_apply, seval] <;> rfl))
                              simp only [d322, hs, reduceCtorEq] at h
                              cases o324 : (g_law02_known ) with
                              | none =>
                               simp only [o324, hs, reduceCtorEq] at h
                               exact absurd h kN
                              | some r323 =>
                               simp only [o324, hs, reduceCtorEq] at h
                               simp only [vz, tyf, b315, (ix24 o68), (ix40 o135), e150, e151, e152, e153, e154, e155, e156, e157, d316, d317, (ix54 o319), d320, d321, d322, nm, seval]
                               refine ktree (args0 := []) (by first | (simp only [nrm, tynrm] <;> rfl) | rfl) (by simp only [tre, tytre, Bool.and_self]) (g_law02_known_ok  _ o324) ?_
                               refine fin_cut (fun tm => tm 264 = .lit (.bool true) ∧ tm 265 = .lit (.bool r323) ∧ True) (by refine ⟨?_, ?_, trivial⟩ <;> first | (simp only [ua, b315, e150, e151, e152, e153, e154, e155, e156, e157, d316, d317, d320, d321, d322, nm, seval] <;> rfl) | rfl) ?_
                               rintro tm ⟨e325, e326, _⟩
                               simp only [vz, tyf, b315, (ix24 o68), (ix40 o135), d316, d317, (ix54 o319), d320, d321, d322, e325, e326, nm, seval]
                               obtain rfl := kF _ h
                               exact opd_bool Tryz.results6 (by first | rfl | (simp only [upd_apply, seval] <;> rfl))
                             simp only [d321, hs, reduceCtorEq] at h
                             cases d327 : (decide (r148.1.Kind < r70.1.Kind))
                             ·simp only [d327, hs, reduceCtorEq] at h
                              cases d328 : (r148.1.Kind == r70.1.Kind)
                              ·simp only [d328, hs, reduceCtorEq] at h
                               have b329 := And.intro b315 (And.intro d316 (And.intro d317 (And.intro d320 (And.intro d321 (And.intro d327 d328)))))
                               cases d330 : (x3_a3 != r70.1.Number)
                               ·simp only [d330, hs, reduceCtorEq] at h
                                simp only [vz, tyf, b329, (ix24 o68), (ix40 o135), e150, e151, e152, e153, e154, e155, e156, e157, (ix54 o319), d330, nm, seval]
                                obtain rfl := kF _ h
                                exact opd_bool Tryz.results6 (by first | rfl | (simp only [upd_apply, seval] <;> rfl))
                               simp only [d330, hs, reduceCtorEq] at h
                               cases o332 : (g_law02_known ) with
                               | none =>
                                simp only [o332, hs, reduceCtorEq] at h
                                exact absurd h kN
                               | some r331 =>
                                simp only [o332, hs, reduceCtorEq] at h
                                simp only [vz, tyf, b329, (ix24 o68), (ix40 o135), e150, e151, e152, e153, e154, e155, e156, e157, (ix54 o319), d330, nm, seval]
                                refine ktree (args0 := []) (by first | (simp only [nrm, tynrm] <;> rfl) | rfl) (by simp only [tre, tytre, Bool.and_self]) (g_law02_known_ok  _ o332) ?_
                                refine fin_cut (fun tm => tm 264 = .lit (.bool true) ∧ tm 265 = .lit (.bool r331) ∧ True) (by refine ⟨?_, ?_, trivial⟩ <;> first | (simp only [ua, b329, e150, e151, e152, e153, e154, e155, e156, e157, d330, nm, seval] <;> rfl) | rfl) ?_
                                rintro tm ⟨e333, e334, _⟩
                                simp only [vz, tyf, b329, (ix24 o68), (ix40 o135), (ix54 o319), d330, e333, e334, nm, seval]
                                obtain rfl := kF _ h
                                exact opd_bool Tryz.results6 (by first | rfl | (simp only [upd_apply, seval] <;> rfl))
                              simp only [d328, hs, reduceCtorEq] at h
                              have b335 := And.intro b315 (And.intro d316 (And.intro d317 (And.intro d320 (And.intro d321 (And.intro d327 d328)))))
                              cases d336 : (decide (x3_a3 < r70.1.Number))
                              ·simp only [d336, hs, reduceCtorEq] at h
                               cases d337 : (x3_a3 != r70.1.Number)
                               ·simp only [d337, hs, reduceCtorEq] at h
                                cases d338 : (r148.1.Number == 0)
                                ·simp only [d338, hs, reduceCtorEq] at h
                                 simp only [vz, tyf, b335, (ix24 o68), (ix40 o135), e150, e151, e152, e153, e154, e155, e156, e157, (ix54 o319), d336, d337, d338, nm, seval]
                                 obtain rfl := kF _ h
                                 exact opd_bool Tryz.results6 (by first | rfl | (simp only [upd_apply, seval] <;> rfl))
                                simp only [d338, hs, reduceCtorEq] at h
                                cases o340 : (g_law02_known ) with
                                | none =>
                                 simp only [o340, hs, reduceCtorEq] at h
                                 exact absurd h kN
                                | some r339 =>
                                 simp only [o340, hs, reduceCtorEq] at h
                                 simp only [vz, tyf, b335, (ix24 o68), (ix40 o135), e150, e151, e152, e153, e154, e155, e156, e157, (ix54 o319), d336, d337, d338, nm, seval]
                                 refine ktree (args0 := []) (by first | (simp only [nrm, tynrm] <;> rfl) | rfl) (by simp only [tre, tytre, Bool.and_self]) (g_law02_known_ok  _ o340) ?_
                                 refine fin_cut (fun tm => tm 264 = .lit (.bool true) ∧ tm 265 = .lit (.bool r339) ∧ True) (by refine ⟨?_, ?_, trivial⟩ <;> first | (simp only [ua, b335, e150, e151, e152, e153, e154, e155, e156, e157, d336, d337, d338, nm, seval] <;> rfl) | rfl) ?_
                                 rintro tm ⟨e341, e342, _⟩
                                 simp only [vz, tyf, b335, (ix24 o68), (ix40 o135), (ix54 o319), d336, d337, d338, e341, e342, nm, seval]
                                 obtain rfl := kF _ h
                                 exact opd_bool Tryz.results6 (by first | rfl | (simp only [upd_apply, seval] <;> rfl))
                               simp only [d337, hs, reduceCtorEq] at h
                               cases o344 : (g_law02_known ) with
                               | none =>
                                simp only [o344, hs, reduceCtorEq] at h
                                exact absurd h kN
                               | some r343 =>
                                simp only [o344, hs, reduceCtorEq] at h
                                simp only [vz, tyf, b335, (ix24 o68), (ix40 o135), e150, e151, e152, e153, e154, e155, e156, e157, (ix54 o319), d336, d337, nm, seval]
                                refine ktree (args0 := []) (by first | (simp only [nrm, tynrm] <;> rfl) | rfl) (by simp only [tre, tytre, Bool.and_self]) (g_law02_known_ok  _ o344) ?_
                                refine fin_cut (fun tm => tm 264 = .lit (.bool true) ∧ tm 265 = .lit (.bool r343) ∧ True) (by refine ⟨?_, ?_, trivial⟩ <;> first | (simp only [ua, b335, e150, e151, e152, e153, e154, e155, e156, e157, d336, d337, nm, seval] <;> rfl) | rfl) ?_
                                rintro tm ⟨e345, e346, _⟩
                                simp only [vz, tyf, b335, (ix24 o68), (ix40 o135), (ix54 o319), d336, d337, e345, e346, nm, seval]
                                obtain rfl := kF _ h
                                exact opd_bool Tryz.results6 (by first | rfl | (simp only [upd_apply, seval] <;> rfl))
                              simp only [d336, hs, reduceCtorEq] at h
                              simp only [vz, tyf, b335, (ix24 o68), (ix40 o135), e150, e151, e152, e153, e154, e155, e156, e157, (ix54 o319), d336, nm, seval]
                              obtain rfl := kF _ h
                              exact opd_bool Tryz.results6 (by first | rfl | (simp only [upd_apply, seval] <;> rfl))
                             simp only [d327, hs, reduceCtorEq] at h
                             simp only [vz, tyf, b315, (ix24 o68), (ix40 o135), e150, e151, e152, e153, e154, e155, e156, e157, d316, d317, (ix54 o319), d320, d321, d327, nm, seval]
                             obtain rfl := kF _ h
                             exact opd_bool Tryz.results6 (by first | rfl | (simp only [upd_apply, seval] <;> rfl))
                            simp only [d320, hs, reduceCtorEq] at h
                            simp only [vz, tyf, b315, (ix24 o68), (ix40 o135), e150, e151, e152, e153, e154, e155, e156, e157, d316, d317, (ix54 o319), d320, nm, seval]
                            obtain rfl := kF _ h
                            exact opd_bool Tryz.results6 (by first | rfl | (simp only [upd_apply, seval] <;> rfl))
                          simp only [d317, hs, reduceCtorEq] at h
                          simp only [vz, tyf, b315, (ix24 o68), (ix40 o135), e150, e151, e152, e153, e154, e155, e156, e157, d316, d317, nm, seval]
                          obtain rfl := kF _ h
                          exact opd_bool Tryz.results6 (by first | rfl | (simp only [upd_apply, seval] <;> rfl))
                         simp only [d316, hs, reduceCtorEq] at h
                         simp only [vz, tyf, b315, (ix24 o68), (ix40 o135), e150, e151, e152, e153, e154, e155, e156, e157, d316, nm, seval]
                         obtain rfl := kF _ h
                         exact opd_bool Tryz.results6 (by first | rfl | (simp only [upd_apply, seval] <;> rfl))
                        simp only [d301, hs, reduceCtorEq] at h
                        cases d347 : (decide (r70.1.Number < 0))
                        ·simp only [d347, hs, reduceCtorEq] at h
                         have b348 := And.intro b296 (And.intro d297 (And.intro d298 (And.intro d299 (And.intro d300 (And.intro d301 d347)))))
                         cases d349 : (decide (r70.1.Number ≥ (List.length x67.Letters : Int)))
                         ·simp only [d349, hs, reduceCtorEq] at h
                          cases o351 : (getI r86.1 r70.1.Number) with
                          | none =>
                           simp only [o351, hs, reduceCtorEq] at h
                           exact absurd h kN
                          | some x350 =>
                           simp only [o351, hs, reduceCtorEq] at h
                           cases d352 : (x350 == 3)
                           ·simp only [d352, hs, reduceCtorEq] at h
                            cases d353 : (r148.2 == 0)
                            ·simp only [d353, hs, reduceCtorEq] at h
                             cases d354 : (x3_a3 != r70.1.Number)
                             ·simp only [d354, hs, reduceCtorEq] at h
                              simp only [vz, tyf, b348, (ix24 o68), (ix40 o135), e150, e151, e152, e153, e154, e155, e156, e157, d349, (ix54 o351), d352, d353, d354, nm, seval]
                              obtain rfl := kF _ h
                              exact opd_bool Tryz.results6 (by first | rfl | (simp only [upd_apply, seval] <;> rfl))
                             simp only [d354, hs, reduceCtorEq] at h
                             cases o356 : (g_law02_known ) with
                             | none =>
                              simp only [o356, hs, reduceCtorEq] at h
                              exact absurd h kN
                             | some r355 =>
                              simp only [o356, hs, reduceCtorEq] at h
                              simp only [vz, tyf, b348, (ix24 o68), (ix40 o135), e150, e151, e152, e153, e154, e155, e156, e157, d349, (ix54 o351), d352, d353, d354, nm, seval]
                              refine ktree (args0 := []) (by first | (simp only [nrm, tynrm] <;> rfl) | rfl) (by simp only [tre, tytre, Bool.and_self]) (g_law02_known_ok  _ o356) ?_
                              refine fin_cut (fun tm => tm 264 = .lit (.bool true) ∧ tm 265 = .lit (.bool r355) ∧ True) (by refine ⟨?_, ?_, trivial⟩ <;> first | (simp only [ua, b348, e150, e151, e152, e153, e154, e155, e156, e157, d349, d352, d353, d354, nm, seval] <;> rfl) | rfl) ?_
                              rintro tm ⟨e357, e358, _⟩
                              simp only [vz, tyf, b348, (ix24 o68), (ix40 o135), d349, (ix54 o351), d352, d353, d354, e357, e358, nm, seval]
                              obtain rfl := kF _ h
                              exact opd_bool Tryz.results6 (by first | rfl | (simp only [upd_apply, seval] <;> rfl))
                            simp only [d353, hs, reduceCtorEq] at h
                            cases d359 : (decide (r148.1.Kind < r70.1.Kind))
                            ·simp only [d359, hs, reduceCtorEq] at h
                             cases d360 : (r148.1.Kind == r70.1.Kind)
                             ·simp only [d360, hs, reduceCtorEq] at h
                              cases d361 : (x3_a3 != r70.1.Number)
                              ·simp only [d361, hs, reduceCtorEq] at h
                               have b362 := And.intro b348 (And.intro d349 (And.intro d352 (And.intro d353 (And.intro d359 (And.intro d360 d361)))))
                               simp only [vz, tyf, b362, (ix24 o68), (ix40 o135), e150, e151, e152, e153, e154, e155, e156, e157, (ix54 o351), nm, seval]
                               obtain rfl := kF _ h
                               exact opd_bool Tryz.results6 (by first | rfl | (simp only [upd_apply, seval] <;> rfl))
                              simp only [d361, hs, reduceCtorEq] at h
                              have b363 := And.intro b348 (And.intro d349 (And.intro d352 (And.intro d353 (And.intro d359 (And.intro d360 d361)))))
                              cases o365 : (g_law02_known ) with
                              | none =>
                               simp only [o365, hs, reduceCtorEq] at h
                               exact absurd h kN
                              | some r364 =>
                               simp only [o365, hs, reduceCtorEq] at h
                               simp only [vz, tyf, b363, (ix24 o68), (ix40 o135), e150, e151, e152, e153, e154, e155, e156, e157, (ix54 o351), nm, seval]
                               refine ktree (args0 := []) (by first | (simp only [nrm, tynrm] <;> rfl) | rfl) (by simp only [tre, tytre, Bool.and_self]) (g_law02_known_ok  _ o365) ?_
                               refine fin_cut (fun tm => tm 264 = .lit (.bool true) ∧ tm 265 = .lit (.bool r364) ∧ True) (by refine ⟨?_, ?_, trivial⟩ <;> first | (simp only [ua, b363, e150, e151, e152, e153, e154, e155, e156, e157, nm, seval] <;> rfl) | rfl) ?_
                               rintro tm ⟨e366, e367, _⟩
                               simp only [vz, tyf, b363, (ix24 o68), (ix40 o135), (ix54 o351), e366, e367, nm, seval]
                               obtain rfl := kF _ h
                               exact opd_bool Tryz.results6 (by first | rfl | (simp only [upd_apply, seval] <;> rfl))
                             simp only [d360, hs, reduceCtorEq] at h
                             cases d368 : (decide (x3_a3 < r70.1.Number))
                             ·simp only [d368, hs, reduceCtorEq] at h
                              have b369 := And.intro b348 (And.intro d349 (And.intro d352 (And.intro d353 (And.intro d359 (And.intro d360 d368)))))
                              cases d370 : (x3_a3 != r70.1.Number)
                              ·simp only [d370, hs, reduceCtorEq] at h
                               cases d371 : (r148.1.Number == 0)
                               ·simp only [d371, hs, reduceCtorEq] at h
                                simp only [vz, tyf, b369, (ix24 o68), (ix40 o135), e150, e151, e152, e153, e154, e155, e156, e157, (ix54 o351), d370, d371, nm, seval]
                                obtain rfl := kF _ h
                                exact opd_bool Tryz.results6 (by first | rfl | (simp only [upd_apply, seval] <;> rfl))
                               simp only [d371, hs, reduceCtorEq] at h
                               cases o373 : (g_law02_known ) with
                               | none =>
                                simp only [o373, hs, reduceCtorEq] at h
                                exact absurd h kN
                               | some r372 =>
                                simp only [o373, hs, reduceCtorEq] at h
                                simp only [vz, tyf, b369, (ix24 o68), (ix40 o135), e150, e151, e152, e153, e154, e155, e156, e157, (ix54 o351), d370, d371, nm, seval]
                                refine ktree (args0 := []) (by first | (simp only [nrm, tynrm] <;> rfl) | rfl) (by simp only [tre, tytre, Bool.and_self]) (g_law02_known_ok  _ o373) ?_
                                refine fin_cut (fun tm => tm 264 = .lit (.bool true) ∧ tm 265 = .lit (.bool r372) ∧ True) (by refine ⟨?_, ?_, trivial⟩ <;> first | (simp only [ua, b369, e150, e151, e152, e153, e154, e155, e156, e157, d370, d371, nm, seval] <;> rfl) | rfl) ?_
                                rintro tm ⟨e374, e375, _⟩
                                simp only [vz, tyf, b369, (ix24 o68), (ix40 o135), (ix54 o351), d370, d371, e374, e375, nm, seval]
                                obtain rfl := kF _ h
                                exact opd_bool Tryz.results6 (by first | rfl | (simp only [upd_apply, seval] <;> rfl))
                              simp only [d370, hs, reduceCtorEq] at h
                              cases o377 : (g_law02_known ) with
                              | none =>
                               simp only [o377, hs, reduceCtorEq] at h
                               exact absurd h kN
                              | some r376 =>
                               simp only [o377, hs, reduceCtorEq] at h
                               simp only [vz, tyf, b369, (ix24 o68), (ix40 o135), e150, e151, e152, e153, e154, e155, e156, e157, (ix54 o351), d370, nm, seval]
                               refine ktree (args0 := []) (by first | (simp only [nrm, tynrm] <;> rfl) | rfl) (by simp only [tre, tytre, Bool.and_self]) (g_law02_known_ok  _ o377) ?_
                               refine fin_cut (fun tm => tm 264 = .lit (.bool true) ∧ tm 265 = .lit (.bool r376) ∧ True) (by refine ⟨?_, ?_, trivial⟩ <;> first | (simp only [ua, b369, e150, e151, e152, e153, e154, e155, e156, e157, d370, nm, seval] <;> rfl) | rfl) ?_
                               rintro tm ⟨e378, e379, _⟩
                               simp only [vz, tyf, b369, (ix24 o68), (ix40 o135), (ix54 o351), d370, e378, e379, nm, seval]
                               obtain rfl := kF _ h
                               exact opd_bool Tryz.results6 (by first | rfl | (simp only [upd_apply, seval] <;> rfl))
                             simp only [d368, hs, reduceCtorEq] at h
                             have b380 := And.intro b348 (And.intro d349 (And.intro d352 (And.intro d353 (And.intro d359 (And.intro d360 d368)))))
                             simp only [vz, tyf, b380, (ix24 o68), (ix40 o135), e150, e151, e152, e153, e154, e155, e156, e157, (ix54 o351), nm, seval]
                             obtain rfl := kF _ h
                             exact opd_bool Tryz.results6 (by first | rfl | (simp only [upd_apply, seval] <;> rfl))
                            simp only [d359, hs, reduceCtorEq] at h
                            simp only [vz, tyf, b348, (ix24 o68), (ix40 o135), e150, e151, e152, e153, e154, e155, e156, e157, d349, (ix54 o351), d352, d353, d359, nm, seval]
                            obtain rfl := kF _ h
                            exact opd_bool Tryz.results6 (by first | rfl | (simp only [upd_apply, seval] <;> rfl))
                           simp only [d352, hs, reduceCtorEq] at h
                           simp only [vz, tyf, b348, (ix24 o68), (ix40 o135), e150, e151, e152, e153, e154, e155, e156, e157, d349, (ix54 o351), d352, nm, seval]
                           obtain rfl := kF _ h
                           exact opd_bool Tryz.results6 (by first | rfl | (simp only [upd_apply, seval] <;> rfl))
                         simp only [d349, hs, reduceCtorEq] at h
                         simp only [vz, tyf, b348, (ix24 o68), (ix40 o135), e150, e151, e152, e153, e154, e155, e156, e157, d349, nm, seval]
                         obtain rfl := kF _ h
                         exact opd_bool Tryz.results6 (by first | rfl | (simp only [upd_apply, seval] <;> rfl))
                        simp only [d347, hs, reduceCtorEq] at h
                        have b381 := And.intro b296 (And.intro d297 (And.intro d298 (And.intro d299 (And.intro d300 (And.intro d301 d347)))))
                        simp only [vz, tyf, b381, (ix24 o68), (ix40 o135), e150, e151, e152, e153, e154, e155, e156, e157, nm, seval]
                        obtain rfl := kF _ h
                        exact opd_bool Tryz.results6 (by first | rfl | (simp only [upd_apply, seval] <;> rfl))
                       simp only [d300, hs, reduceCtorEq] at h
                       cases d382 : (decide (r70.1.Number < 0))
                       ·simp only [d382, hs, reduceCtorEq] at h
                        cases d383 : (decide (r70.1.Number ≥ (List.length x67.Letters : Int)))
                        ·simp only [d383, hs, reduceCtorEq] at h
                         have b384 := And.intro b296 (And.intro d297 (And.intro d298 (And.intro d299 (And.intro d300 (And.intro d382 d383)))))
                         cases o386 : (getI r86.1 r70.1.Number) with
                         | none =>
                          simp only [o386, hs, reduceCtorEq] at h
                          exact absurd h kN
                         | some x385 =>
                          simp only [o386, hs, reduceCtorEq] at h
                          cases d387 : (x385 == 3)
                          ·simp only [d387, hs, reduceCtorEq] at h
                           cases d388 : (r148.2 == 0)
                           ·simp only [d388, hs, reduceCtorEq] at h
                            cases d389 : (x3_a3 != r70.1.Number)
                            ·simp only [d389, hs, reduceCtorEq] at h
                             simp only [vz, tyf, b384, (ix24 o68), (ix40 o135), e150, e151, e152, e153, e154, e155, e156, e157, (ix54 o386), d387, d388, d389, nm, seval]
                             obtain rfl := kF _ h
                             exact opd_bool Tryz.results6 (by first | rfl | (simp only [upd_apply, seval] <;> rfl))
                            simp only [d389, hs, reduceCtorEq] at h
                            cases o391 : (g_law02_known ) with
                            | none =>
                             simp only [o391, hs, reduceCtorEq] at h
                             exact absurd h kN
                            | some r390 =>
                             simp only [o391, hs, reduceCtorEq] at h
                             simp only [vz, tyf, b384, (ix24 o68), (ix40 o135), e150, e151, e152, e153, e154, e155, e156, e157, (ix54 o386), d387, d388, d389, nm, seval]
                             refine ktree (args0 := []) (by first | (simp only [nrm, tynrm] <;> rfl) | rfl) (by simp only [tre, tytre, Bool.and_self]) (g_law02_known_ok  _ o391) ?_
                             refine fin_cut (fun tm => tm 264 = .lit (.bool true) ∧ tm 265 = .lit (.bool r390) ∧ True) (by refine ⟨?_, ?_, trivial⟩ <;> first | (simp only [ua, b384, e150, e151, e152, e153, e154, e155, e156, e157, d387, d388, d389, nm, seval] <;> rfl) | rfl) ?_
                             rintro tm ⟨e392, e393, _⟩
                             simp only [vz, tyf, b384, (ix24 o68), (ix40 o135), (ix54 o386), d387, d388, d389, e392, e393, nm, seval]
                             obtain rfl := kF _ h
                             exact opd_bool Tryz.results6 (by first | rfl | (simp only [upd_apply, seval] <;> rfl))
                           simp only [d388, hs, reduceCtorEq] at h
                           cases d394 : (decide (r148.1.Kind < r70.1.Kind))
                           ·simp only [d394, hs, reduceCtorEq] at h
                            cases d395 : (r148.1.Kind == r70.1.Kind)
                            ·simp only [d395, hs, reduceCtorEq] at h
                             cases d396 : (x3_a3 != r70.1.Number)
                             ·simp only [d396, hs, reduceCtorEq] at h
                              simp only [vz, tyf, b384, (ix24 o68), (ix40 o135), e150, e151, e152, e153, e154, e155, e156, e157, (ix54 o386), d387, d388, d394, d395, d396, nm, seval]
                              obtain rfl := kF _ h
                              exact opd_bool Tryz.results6 (by first | rfl | (simp only [upd_apply, seval] <;> rfl))
                             simp only [d396, hs, reduceCtorEq] at h
                             cases o398 : (g_law02_known ) with
                             | none =>
                              simp only [o398, hs, reduceCtorEq] at h
                              exact absurd h kN
                             | some r397 =>
                              simp only [o398, hs, reduceCtorEq] at h
                              simp only [vz, tyf, b384, (ix24 o68), (ix40 o135), e150, e151, e152, e153, e154, e155, e156, e157, (ix54 o386), d387, d388, d394, d395, d396, nm, seval]
                              refine ktree (args0 := []) (by first | (simp only [nrm, tynrm] <;> rfl) | rfl) (by simp only [tre, tytre, Bool.and_self]) (g_law02_known_ok  _ o398) ?_
                              refine fin_cut (fun tm => tm 264 = .lit (.bool true) ∧ tm 265 = .lit (.bool r397) ∧ True) (by refine ⟨?_, ?_, trivial⟩ <;> first | (simp only [ua, b384, e150, e151, e152, e153, e154, e155, e156, e157, d387, d388, d394, d395, d396, nm, seval] <;> rfl) | rfl) ?_
                              rintro tm ⟨e399, e400, _⟩
                              simp only [vz, tyf, b384, (ix24 o68), (ix40 o135), (ix54 o386), d387, d388, d394, d395, d396, e399, e400, nm, seval]
                              obtain rfl := kF _ h
                              exact opd_bool Tryz.results6 (by first | rfl | (simp only [upd_apply, seval] <;> rfl))
                            simp only [d395, hs, reduceCtorEq] at h
                            cases d401 : (decide (x3_a3 < r70.1.Number))
                            ·simp only [d401, hs, reduceCtorEq] at h
                             cases d402 : (x3_a3 != r70.1.Number)
                             ·simp only [d402, hs, reduceCtorEq] at h
                              have b403 := And.intro b384 (And.intro d387 (And.intro d388 (And.intro d394 (And.intro d395 (And.intro d401 d402)))))
                              cases d404 : (r148.1.Number == 0)
                              ·simp only [d404, hs, reduceCtorEq] at h
                               simp only [vz, tyf, b403, (ix24 o68), (ix40 o135), e150, e151, e152, e153, e154, e155, e156, e157, (ix54 o386), d404, nm, seval]
                               obtain rfl := kF _ h
                               exact opd_bool Tryz.results6 (by first | rfl | (simp only [upd_apply, seval] <;> rfl))
                              simp only [d404, hs, reduceCtorEq] at h
                              cases o406 : (g_law02_known ) with
                              | none =>
                               simp only [o406, hs, reduceCtorEq] at h
                               exact absurd h kN
                              | some r405 =>
                               simp only [o406, hs, reduceCtorEq] at h
                               simp only [vz, tyf, b403, (ix24 o68), (ix40 o135), e150, e151, e152, e153, e154, e155, e156, e157, (ix54 o386), d404, nm, seval]
                               refine ktree (args0 := []) (by first | (simp only [nrm, tynrm] <;> rfl) | rfl) (by simp only [tre, tytre, Bool.and_self]) (g_law02_known_ok  _ o406) ?_
                               refine fin_cut (fun tm => tm 264 = .lit (.bool true) ∧ tm 265 = .lit (.bool r405) ∧ True) (by refine ⟨?_, ?_, trivial⟩ <;> first | (simp only [ua, b403, e150, e151, e152, e153, e154, e155, e156, e157, d404, nm, seval] <;> rfl) | rfl) ?_
                               rintro tm ⟨e407, e408, _⟩
                               simp only [vz, tyf, b403, (ix24 o68), (ix40 o135), (ix54 o386), d404, e407, e408, nm, seval]
                               obtain rfl := kF _ h
                               exact opd_bool Tryz.results6 (by first | rfl | (simp only [upd_apply, seval] <;> rfl))
                             simp only [d402, hs, reduceCtorEq] at h
                             have b409 := And.intro b384 (And.intro d387 (And.intro d388 (And.intro d394 (And.intro d395 (And.intro d401 d402)))))
                             cases o411 : (g_law02_known ) with
                             | none =>
                              simp only [o411, hs, reduceCtorEq] at h
                              exact absurd h kN
                             | some r410 =>
                              simp only [o411, hs, reduceCtorEq] at h
                              simp only [vz, tyf, b409, (ix24 o68), (ix40 o135), e150, e151, e152, e153, e154, e155, e156, e157, (ix54 o386), nm, seval]
                              refine ktree (args0 := []) (by first | (simp only [nrm, tynrm] <;> rfl) | rfl) (by simp only [tre, tytre, Bool.and_self]) (g_law02_known_ok  _ o411) ?_
                              refine fin_cut (fun tm => tm 264 = .lit (.bool true) ∧ tm 265 = .lit (.bool r410) ∧ True) (by refine ⟨?_, ?_, trivial⟩ <;> first | (simp only [ua, b409, e150, e151, e152, e153, e154, e155, e156, e157, nm, seval] <;> rfl) | rfl) ?_
                              rintro tm ⟨e412, e413, _⟩
                              simp only [vz, tyf, b409, (ix24 o68), (ix40 o135), (ix54 o386), e412, e413, nm, seval]
                              obtain rfl := kF _ h
                              exact opd_bool Tryz.results6 (by first | rfl | (simp only [upd_apply, seval] <;> rfl))
                            simp only [d401, hs, reduceCtorEq] at h
                            simp only [vz, tyf, b384, (ix24 o68), (ix40 o135), e150, e151, e152, e153, e154, e155, e156, e157, (ix54 o386), d387, d388, d394, d395, d401, nm, seval]
                            obtain rfl := kF _ h
                            exact opd_bool Tryz.results6 (by first | rfl | (simp only [upd_apply, seval] <;> rfl))
                           simp only [d394, hs, reduceCtorEq] at h
                           simp only [vz, tyf, b384, (ix24 o68), (ix40 o135), e150, e151, e152, e153, e154, e155, e156, e157, (ix54 o386), d387, d388, d394, nm, seval]
                           obtain rfl := kF _ h
                           exact opd_bool Tryz.results6 (by first | rfl | (simp only [upd_apply, seval] <;> rfl))
                          simp only [d387, hs, reduceCtorEq] at h
                          simp only [vz, tyf, b384, (ix24 o68), (ix40 o135), e150, e151, e152, e153, e154, e155, e156, e157, (ix54 o386), d387, nm, seval]
                          obtain rfl := kF _ h
                          exact opd_bool Tryz.results6 (by first | rfl | (simp only [upd_apply, seval] <;> rfl))
                        simp only [d383, hs, reduceCtorEq] at h
                        have b414 := And.intro b296 (And.intro d297 (And.intro d298 (And.intro d299 (And.intro d300 (And.intro d382 d383)))))
                        simp only [vz, tyf, b414, (ix24 o68), (ix40 o135), e150, e151, e152, e153, e154, e155, e156, e157, nm, seval]
                        obtain rfl := kF _ h
                        exact opd_bool Tryz.results6 (by first | rfl | (simp only [upd_apply, seval] <;> rfl))
                       simp only [d382, hs, reduceCtorEq] at h
                       simp only [vz, tyf, b296, (ix24 o68), (ix40 o135), e150, e151, e152, e153, e154, e155, e156, e157, d297, d298, d299, d300, d382, nm, seval]
                       obtain rfl := kF _ h
                       exact opd_bool Tryz.results6 (by first | rfl | (simp only [upd_apply, seval] <;> rfl))
                      simp only [d298, hs, reduceCtorEq] at h
                      have d415 := d297
                      simp only [d298] at d415
                      simp only [vz, tyf, b296, (ix24 o68), (ix40 o135), e150, e151, e152, e153, e154, e155, e156, e157, d297, d298, d415, nm, seval]
                      refine cwp_drwQF (fun tm => tm 9 = .ptr 30 0 ∧ tm 17 = .sl (cellsL eI r110.1) (List.length r110.1) false ∧ tm 22 = .ptr 153 0 ∧ tm 23 = .lit (.int .i64 r148.2) ∧ True) (by refine ⟨e151, e155, ?_, ?_, trivial⟩ <;> first | (simp only [ua, b296, e150, e151, e152, e153, e154, e155, e156, e157, d297, d298, d415, nm, seval] <;> rfl) | rfl) ?_
                      rintro tm ⟨e416, e417, e418, e419, _⟩
                      cases o421 : (getI r110.1 0) with
                      | none =>
                       simp only [o421, hs, reduceCtorEq] at h
                       exact absurd h kN
                      | some x420 =>
                       simp only [o421, hs, reduceCtorEq] at h
                       cases d422 : (r70.1.Number == x420)
                       ·simp only [d422, hs, reduceCtorEq] at h
                        simp only [vz, tyf, b296, (ix24 o68), (ix40 o135), d297, d298, d415, e416, e417, e418, e419, (ix57 o421), d422, nm, seval]
                        obtain rfl := kF _ h
                        exact opd_bool Tryz.results6 (by first | rfl | (simp only [upd_apply, seval] <;> rfl))
                       simp only [d422, hs, reduceCtorEq] at h
                       cases d423 : (r148.2 == 0)
                       ·simp only [d423, hs, reduceCtorEq] at h
                        simp only [vz, tyf, b296, (ix24 o68), (ix40 o135), d297, d298, d415, e416, e417, e418, e419, (ix57 o421), d422, d423, nm, seval]
                        obtain rfl := kF _ h
                        exact opd_bool Tryz.results6 (by first | rfl | (simp only [upd_apply, seval] <;> rfl))
                       simp only [d423, hs, reduceCtorEq] at h
                       cases d424 : (r148.1.Kind == r70.1.Kind && (r148.1.Number == r70.1.Number))
                       ·simp only [d424, hs, reduceCtorEq] at h
                        have b425 := And.intro b296 (And.intro d297 (And.intro d298 (And.intro d415 (And.intro d422 (And.intro d423 d424)))))
                        simp only [vz, tyf, b425, (ix24 o68), (ix40 o135), e416, e417, e418, e419, (ix57 o421), nm, seval]
                        obtain rfl := kF _ h
                        exact opd_bool Tryz.results6 (by first | rfl | (simp only [upd_apply, seval] <;> rfl))
                       simp only [d424, hs, reduceCtorEq] at h
                       have b426 := And.intro b296 (And.intro d297 (And.intro d298 (And.intro d415 (And.intro d422 (And.intro d423 d424)))))
                       cases o428 : (g_law02_known ) with
                       | none =>
                        simp only [o428, hs, reduceCtorEq] at h
                        exact absurd h kN
                       | some r427 =>
                        simp only [o428, hs, reduceCtorEq] at h
                        simp only [vz, tyf, b426, (ix24 o68), (ix40 o135), e416, e417, e418, e419, (ix57 o421), nm, seval]
                        refine dktree (args0 := []) (by first | (simp only [nrm, tynrm] <;> rfl) | rfl) (by simp only [tre, tytre, Bool.and_self]) (g_law02_known_ok  _ o428) ?_
                        refine fin_cut (fun tm => tm 196 = .lit (.bool true) ∧ tm 197 = .lit (.bool r427) ∧ True) (by refine ⟨?_, ?_, trivial⟩ <;> first | (simp only [ua, b426, e416, e417, e418, e419, nm, seval] <;> rfl) | rfl) ?_
                        rintro tm ⟨e429, e430, _⟩
                        simp only [vz, tyf, b426, (ix24 o68), (ix40 o135), (ix57 o421), e429, e430, nm, seval]
                        obtain rfl := kF _ h
                        exact opd_bool Tryz.results6 (by first | rfl | (simp only [upd_apply, seval] <;> rfl))
                     simp only [d297, hs, reduceCtorEq] at h
                     simp only [vz, tyf, b296, (ix24 o68), (ix40 o135), e150, e151, e152, e153, e154, e155, e156, e157, d297, nm, seval]
                     obtain rfl := kF _ h
                     exact opd_bool Tryz.results6 (by first | rfl | (simp only [upd_apply, seval] <;> rfl))
                    simp only [d295, hs, reduceCtorEq] at h
                    have b431 := And.intro b129 (And.intro d130 (And.intro d131 (And.intro d132 (And.intro d133 (And.intro d158 d295)))))
                    simp only [vz, tyf, b431, (ix24 o68), (ix40 o135), e150, e151, e152, e153, e154, e155, e156, e157, nm, seval]
                    obtain rfl := kF _ h
                    exact opd_bool Tryz.results6 (by first | rfl | (simp only [upd_apply, seval] <;> rfl))
                 simp only [d133, hs, reduceCtorEq] at h
                 simp only [vz, tyf, b129, (ix24 o68), e112, e113, e114, e115, e116, e117, e118, e119, e120, e121, e122, e123, e124, d130, d131, d132, d133, nm, seval]
                 obtain rfl := kF _ h
                 exact opd_bool Tryz.results6 (by first | rfl | (simp only [upd_apply, seval] <;> rfl))
                simp only [d132, hs, reduceCtorEq] at h
                simp only [vz, tyf, b129, (ix24 o68), e112, e113, e114, e115, e116, e117, e118, e119, e120, e121, e122, e123, e124, d130, d131, d132, nm, seval]
                obtain rfl := kF _ h
                exact opd_bool Tryz.results6 (by first | rfl | (simp only [upd_apply, seval] <;> rfl))
               simp only [d131, hs, reduceCtorEq] at h
               simp only [vz, tyf, b129, (ix24 o68), e112, e113, e114, e115, e116, e117, e118, e119, e120, e121, e122, e123, e124, d130, d131, nm, seval]
               obtain rfl := kF _ h
               exact opd_bool Tryz.results6 (by first | rfl | (simp only [upd_apply, seval] <;> rfl))
              simp only [d130, hs, reduceCtorEq] at h
              cases d432 : (r70.2 != 5)
              ·simp only [d432, hs, reduceCtorEq] at h
               cases d433 : ((r70.2 == 5) != (r77.1 == 3))
               ·simp only [d433, hs, reduceCtorEq] at h
                cases d434 : ((List.length r86.1 : Int) != (List.length x67.Letters : Int))
                ·simp only [d434, hs, reduceCtorEq] at h
                 cases d435 : ((List.length r97.1 : Int) != (IntKind.i64.wrap ((List.length x67.Letters : Int) - 1)))
                 ·simp only [d435, hs, reduceCtorEq] at h
                  cases o437 : (getI x67.Letters x3_a3) with
                  | none =>
                   simp only [o437, hs, reduceCtorEq] at h
                   exact absurd h kN
                  | some x436 =>
                   simp only [o437, hs, reduceCtorEq] at h
                   simp only [vz, tyf, b129, (ix24 o68), e112, e113, e114, e115, e116, e117, e118, e119, e120, e121, e122, e123, e124, d130, d432, d433, d434, d435, (ix40 o437), nm, seval]
                   refine cwp_drawTF (fun tm => tm 1 = .lit (.int .i64 x1_a1) ∧ tm 3 = .lit (.int .i64 x3_a3) ∧ tm 4 = .ptr 0 0 ∧ tm 6 = .ptr 1 0 ∧ tm 9 = .ptr 30 0 ∧ tm 10 = .lit (.int .i64 r70.2) ∧ tm 13 = .sl (cellsL eI r86.1) (List.length r86.1) false ∧ tm 15 = .sl (cellsL eI r97.1) (List.length r97.1) false ∧ tm 17 = .sl (cellsL eI r110.1) (List.length r110.1) false ∧ tm 19 = .lit (.int .i64 (List.length x67.Letters : Int)) ∧ tm 20 = .ptr 120 0 ∧ tm 21 = .ptr 131 0 ∧ True) (by refine ⟨e112, e113, e114, e115, e116, e117, e120, e122, ?_, ?_, ?_, ?_, trivial⟩ <;> first | (simp only [ua, b129, e112, e113, e114, e115, e116, e117, e118, e119, e120, e121, e122, e123, e124, d130, d432, d433, d434, d435, nm, seval] <;> rfl) | rfl) ?_
                   rintro tm ⟨e438, e439, e440, e441, e442, e443, e444, e445, e446, e447, e448, e449, _⟩
                   simp only [vz, tyf, b129, (ix24 o68), d130, d432, d433, d434, d435, (ix40 o437), e438, e439, e440, e441, e442, e443, e444, e445, e446, e447, e448, e449, nm, seval]
                   refine drawK_nil ⟨?_, ?_⟩
                   ·simp only [traceR_cons, traceR_nil, hitK_quiet, hitK_nil, and_true, true_and]
                    repeat' (first | exact trivial | refine And.intro ?_ ?_ | rw [hitK_quiet] | rw [hitK_cons] | exact Or.inl (by decide +kernel) | exact Or.inl (by dsimp only; decide +kernel) | (refine Or.inr ⟨?_, ?_⟩ <;> simp; done) | (refine Or.inr ⟨?_, ?_⟩ <;> simp <;> omega))
                   cases o451 : (g_sight_Why (GSightStreet.mk x0_s.Length x0_s.Width x0_s.Eye x0_s.Light ([(GSightBoard.mk x67.At ([(GSightLetter.mk x436.Height x436.Width x436.Stroke 0)]))]) x0_s.Blocks) 0 x2_a2) with
                   | none =>
                    simp only [o451, hs, reduceCtorEq] at h
                    exact absurd h kN
                   | some r450 =>
                    simp only [o451, hs, reduceCtorEq] at h
                    simp only [vz, tyf, b129, (ix24 o68), d130, d432, d433, d434, d435, (ix40 o437), e438, e439, e440, e441, e442, e443, e444, e445, e446, e447, e448, e449, nm, seval]
                    refine kseen (args0 := [.agg (cGSightStreet (GSightStreet.mk x0_s.Length x0_s.Width x0_s.Eye x0_s.Light ([(GSightBoard.mk x67.At ([(GSightLetter.mk x436.Height x436.Width x436.Stroke 0)]))]) x0_s.Blocks)), .lit (.int .i64 0), .agg (cGSightPlace x2_a2)]) (by simp only [List.map_cons, List.map_nil, showV_ref, updH_apply, without_apply, cr, tyf, nrm, tynrm, b129, (ix24 o68), d130, d432, d433, d434, d435, (ix40 o437), e438, e439, e440, e441, e442, e443, e444, e445, e446, e447, e448, e449, nm, seval] <;> rfl) (by simp only [List.map_cons, List.map_nil, showV_ref, updH_apply, without_apply, cr, tyf, nrm, tynrm, b129, (ix24 o68), d130, d432, d433, d434, d435, (ix40 o437), e438, e439, e440, e441, e442, e443, e444, e445, e446, e447, e448, e449, nm, seval]; simp only [tre, tytre, Bool.and_self]) (g_sight_Why_ok _ _ _ _ o451) (by first | rfl | simp only [VV.flat, flatL, Bool.and_self]) ?_
                    refine fin_cut (fun tm => tm 3 = .lit (.int .i64 x3_a3) ∧ tm 9 = .ptr 30 0 ∧ tm 10 = .lit (.int .i64 r70.2) ∧ tm 13 = .sl (cellsL eI r86.1) (List.length r86.1) false ∧ tm 15 = .sl (cellsL eI r97.1) (List.length r97.1) false ∧ tm 17 = .sl (cellsL eI r110.1) (List.length r110.1) false ∧ tm 19 = .lit (.int .i64 (List.length x67.Letters : Int)) ∧ tm 154 = .tup [.agg (cGSightFault r450.1), .lit (.int .i64 r450.2)] ∧ True) (by refine ⟨e439, e442, e443, e444, e445, e446, e447, ?_, trivial⟩ <;> first | (simp only [ua, b129, d130, d432, d433, d434, d435, e438, e439, e440, e441, e442, e443, e444, e445, e446, e447, e448, e449, nm, seval] <;> rfl) | rfl) ?_
                    rintro tm ⟨e452, e453, e454, e455, e456, e457, e458, e459, _⟩
                    cases d460 : (r450.2 != 0)
                    ·simp only [d460, hs, reduceCtorEq] at h
                     have b461 := And.intro b129 (And.intro d130 (And.intro d432 (And.intro d433 (And.intro d434 (And.intro d435 d460)))))
                     cases d462 : (r450.2 == 5)
                     ·simp only [d462, hs, reduceCtorEq] at h
                      simp only [vz, tyf, b461, (ix24 o68), (ix40 o437), e452, e453, e454, e455, e456, e457, e458, e459, d462, nm, seval]
                      obtain rfl := kF _ h
                      exact opd_bool Tryz.results6 (by first | rfl | (simp only [upd_apply, seval] <;> rfl))
                     simp only [d462, hs, reduceCtorEq] at h
                     cases o464 : (g_law02_known ) with
                     | none =>
                      simp only [o464, hs, reduceCtorEq] at h
                      exact absurd h kN
                     | some r463 =>
                      simp only [o464, hs, reduceCtorEq] at h
                      simp only [vz, tyf, b461, (ix24 o68), (ix40 o437), e452, e453, e454, e455, e456, e457, e458, e459, d462, nm, seval]
                      refine ktree (args0 := []) (by first | (simp only [nrm, tynrm] <;> rfl) | rfl) (by simp only [tre, tytre, Bool.and_self]) (g_law02_known_ok  _ o464) ?_
                      refine fin_cut (fun tm => tm 167 = .lit (.bool true) ∧ tm 168 = .lit (.bool r463) ∧ True) (by refine ⟨?_, ?_, trivial⟩ <;> first | (simp only [ua, b461, e452, e453, e454, e455, e456, e457, e458, e459, d462, nm, seval] <;> rfl) | rfl) ?_
                      rintro tm ⟨e465, e466, _⟩
                      simp only [vz, tyf, b461, (ix24 o68), (ix40 o437), d462, e465, e466, nm, seval]
                      obtain rfl := kF _ h
                      exact opd_bool Tryz.results6 (by first | rfl | (simp only [upd_apply, seval] <;> rfl))
                    simp only [d460, hs, reduceCtorEq] at h
                    have b467 := And.intro b129 (And.intro d130 (And.intro d432 (And.intro d433 (And.intro d434 (And.intro d435 d460)))))
                    cases d468 : (r450.2 != 5)
                    ·simp only [d468, hs, reduceCtorEq] at h
                     cases d469 : (r450.2 == 5)
                     ·simp only [d469, hs, reduceCtorEq] at h
                      simp only [vz, tyf, b467, (ix24 o68), (ix40 o437), e452, e453, e454, e455, e456, e457, e458, e459, d468, d469, nm, seval]
                      obtain rfl := kF _ h
                      exact opd_bool Tryz.results6 (by first | rfl | (simp only [upd_apply, seval] <;> rfl))
                     simp only [d469, hs, reduceCtorEq] at h
                     cases o471 : (g_law02_known ) with
                     | none =>
                      simp only [o471, hs, reduceCtorEq] at h
                      exact absurd h kN
                     | some r470 =>
                      simp only [o471, hs, reduceCtorEq] at h
                      simp only [vz, tyf, b467, (ix24 o68), (ix40 o437), e452, e453, e454, e455, e456, e457, e458, e459, d468, d469, nm, seval]
                      refine ktree (args0 := []) (by first | (simp only [nrm, tynrm] <;> rfl) | rfl) (by simp only [tre, tytre, Bool.and_self]) (g_law02_known_ok  _ o471) ?_
                      refine fin_cut (fun tm => tm 167 = .lit (.bool true) ∧ tm 168 = .lit (.bool r470) ∧ True) (by refine ⟨?_, ?_, trivial⟩ <;> first | (simp only [ua, b467, e452, e453, e454, e455, e456, e457, e458, e459, d468, d469, nm, seval] <;> rfl) | rfl) ?_
                      rintro tm ⟨e472, e473, _⟩
                      simp only [vz, tyf, b467, (ix24 o68), (ix40 o437), d468, d469, e472, e473, nm, seval]
                      obtain rfl := kF _ h
                      exact opd_bool Tryz.results6 (by first | rfl | (simp only [upd_apply, seval] <;> rfl))
                    simp only [d468, hs, reduceCtorEq] at h
                    simp only [vz, tyf, b467, (ix24 o68), (ix40 o437), e452, e453, e454, e455, e456, e457, e458, e459, d468, nm, seval]
                    obtain rfl := kF _ h
                    exact opd_bool Tryz.results6 (by first | rfl | (simp only [upd_apply, seval] <;> rfl))
                 simp only [d435, hs, reduceCtorEq] at h
                 simp only [vz, tyf, b129, (ix24 o68), e112, e113, e114, e115, e116, e117, e118, e119, e120, e121, e122, e123, e124, d130, d432, d433, d434, d435, nm, seval]
                 obtain rfl := kF _ h
                 exact opd_bool Tryz.results6 (by first | rfl | (simp only [upd_apply, seval] <;> rfl))
                simp only [d434, hs, reduceCtorEq] at h
                simp only [vz, tyf, b129, (ix24 o68), e112, e113, e114, e115, e116, e117, e118, e119, e120, e121, e122, e123, e124, d130, d432, d433, d434, nm, seval]
                obtain rfl := kF _ h
                exact opd_bool Tryz.results6 (by first | rfl | (simp only [upd_apply, seval] <;> rfl))
               simp only [d433, hs, reduceCtorEq] at h
               simp only [vz, tyf, b129, (ix24 o68), e112, e113, e114, e115, e116, e117, e118, e119, e120, e121, e122, e123, e124, d130, d432, d433, nm, seval]
               obtain rfl := kF _ h
               exact opd_bool Tryz.results6 (by first | rfl | (simp only [upd_apply, seval] <;> rfl))
              simp only [d432, hs, reduceCtorEq] at h
              simp only [vz, tyf, b129, (ix24 o68), e112, e113, e114, e115, e116, e117, e118, e119, e120, e121, e122, e123, e124, d130, d432, nm, seval]
              obtain rfl := kF _ h
              exact opd_bool Tryz.results6 (by first | rfl | (simp only [upd_apply, seval] <;> rfl))
             simp only [d128, hs, reduceCtorEq] at h
             have b474 := And.intro d62 (And.intro d66 (And.intro d69 (And.intro d125 (And.intro d126 (And.intro d127 d128)))))
             simp only [vz, tyf, b474, (ix24 o68), e112, e113, e114, e115, e116, e117, e118, e119, e120, e121, e122, e123, e124, nm, seval]
             obtain rfl := kF _ h
             exact opd_bool Tryz.results6 (by first | rfl | (simp only [upd_apply, seval] <;> rfl))
            simp only [d127, hs, reduceCtorEq] at h
            simp only [vz, tyf, d62, d66, (ix24 o68), d69, e112, e113, e114, e115, e116, e117, e118, e119, e120, e121, e122, e123, e124, d125, d126, d127, nm, seval]
            obtain rfl := kF _ h
            exact opd_bool Tryz.results6 (by first | rfl | (simp only [upd_apply, seval] <;> rfl))
           simp only [d126, hs, reduceCtorEq] at h
           simp only [vz, tyf, d62, d66, (ix24 o68), d69, e112, e113, e114, e115, e116, e117, e118, e119, e120, e121, e122, e123, e124, d125, d126, nm, seval]
           obtain rfl := kF _ h
           exact opd_bool Tryz.results6 (by first | rfl | (simp only [upd_apply, seval] <;> rfl))
          simp only [d125, hs, reduceCtorEq] at h
          simp only [vz, tyf, d62, d66, (ix24 o68), d69, e112, e113, e114, e115, e116, e117, e118, e119, e120, e121, e122, e123, e124, d125, nm, seval]
          obtain rfl := kF _ h
          exact opd_bool Tryz.results6 (by first | rfl | (simp only [upd_apply, seval] <;> rfl))
    simp only [d69, hs, reduceCtorEq] at h
    cases o476 : (g_law02_known ) with
    | none =>
     simp only [o476, hs, reduceCtorEq] at h
     exact absurd h kN
    | some r475 =>
     simp only [o476, hs, reduceCtorEq] at h
     simp only [vz, tyf, e57, e58, e59, e60, e61, d62, d66, (ix24 o68), d69, nm, seval]
     refine ktree (args0 := []) (by first | (simp only [nrm, tynrm] <;> rfl) | rfl) (by simp only [tre, tytre, Bool.and_self]) (g_law02_known_ok  _ o476) ?_
     refine fin_cut (fun tm => tm 44 = .lit (.bool r475) ∧ True) (by refine ⟨?_, trivial⟩ <;> first | (simp only [ua, e57, e58, e59, e60, e61, d62, d66, d69, nm, seval] <;> rfl) | rfl) ?_
     rintro tm ⟨e477, _⟩
     simp only [vz, tyf, d62, d66, (ix24 o68), d69, e477, nm, seval]
     obtain rfl := kF _ h
     exact opd_bool Tryz.results6 (by first | rfl | (simp only [upd_apply, seval] <;> rfl))
  simp only [d66, hs, reduceCtorEq] at h
  cases o479 : (g_law02_known ) with
  | none =>
   simp only [o479, hs, reduceCtorEq] at h
   exact absurd h kN
  | some r478 =>
   simp only [o479, hs, reduceCtorEq] at h
   simp only [vz, tyf, e57, e58, e59, e60, e61, d62, d66, nm, seval]
   refine ktree (args0 := []) (by first | (simp only [nrm, tynrm] <;> rfl) | rfl) (by simp only [tre, tytre, Bool.and_self]) (g_law02_known_ok  _ o479) ?_
   refine fin_cut (fun tm => tm 44 = .lit (.bool r478) ∧ True) (by refine ⟨?_, trivial⟩ <;> first | (simp only [ua, e57, e58, e59, e60, e61, d62, d66, nm, seval] <;> rfl) | rfl) ?_
   rintro tm ⟨e480, _⟩
   simp only [vz, tyf, d62, d66, e480, nm, seval]
   obtain rfl := kF _ h
   exact opd_bool Tryz.results6 (by first | rfl | (simp only [upd_apply, seval] <;> rfl))
end Go.V
end
