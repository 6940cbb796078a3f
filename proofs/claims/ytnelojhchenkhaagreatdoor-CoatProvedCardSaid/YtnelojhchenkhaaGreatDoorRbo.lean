/- Part of a proof: a logic of values by content, lifted functions, what follows. -/
import Derived.Test.YtnelojhchenkhaaGreatDoorRbf
import Derived.Test.YtnelojhchenkhaaGreatDoorRbi
import Derived.Test.YtnelojhchenkhaaGreatDoorRbn
import Derived.Test.YtnelojhchenkhaaGreatDoorRbl
import Derived.Test.YtnelojhchenkhaaGreatDoorRbm
import Derived.Test.YtnelojhchenkhaaGreatDoorRbk
set_option linter.all false
set_option maxRecDepth 4000
set_option maxHeartbeats 4000000
section
namespace Go.V
open Go Go.Proofs
def g_law03_CoatProved (x0_s : GCoatSheet) (x1_a1 : List Int) (x2_a2 : List Int) (x3_a3 : Int) : Option (Bool) := Option.bind (g_law03_right x0_s x1_a1) (fun r1 => cond (r1) (cond (decide ((List.length x2_a2 : Int) > 14)) (some true) (Option.bind (g_ref03_Weather x0_s x2_a2) (fun r2 => cond (r2) (Option.bind (g_ref03_Coat x0_s x3_a3) (fun r3 => cond (r3) (Option.bind (g_coat_Fails x0_s x1_a1) (fun r4 => Option.bind (g_coat_Proof x0_s x1_a1) (fun r5 => Option.bind (g_coat_Holds x0_s x1_a1 x2_a2) (fun r6 => cond (r4.2.2 != 0) (cond (r4.2.2 != 5) (some false) (cond (r5.2 != r4.2.2) (some false) (cond (r6.2 != 0) (some false) (cond (r6.1) (Option.bind (g_ref03_Lows x0_s) (fun r7 => Option.bind (g_ref03_Dries x1_a1 x3_a3 r7) (fun r8 => Option.bind (getI x0_s.Coats x3_a3) (fun x9 => cond (decide ((IntKind.i64.wrap (x3_a3 + 1)) < (List.length x1_a1 : Int))) (Option.bind (g_ref03_Highs x0_s) (fun r10 => Option.bind (g_ref03_Dries x1_a1 x3_a3 r10) (fun r11 => cond (decide (r8 < x9.Need)) (some false) (cond (decide (r11 > x9.Peel)) (some false) (some true))))) (cond (decide (r8 < x9.Need)) (some false) (some true)))))) (some false))))) (cond (r5.2 != r4.2.2) (some false) (cond (r6.2 != 0) (some false) (Option.bind (g_ref03_Lows x0_s) (fun r12 => Option.bind (g_ref03_Dries x1_a1 x3_a3 r12) (fun r13 => Option.bind (getI x0_s.Coats x3_a3) (fun x14 => cond (decide ((IntKind.i64.wrap (x3_a3 + 1)) < (List.length x1_a1 : Int))) (Option.bind (g_ref03_Highs x0_s) (fun r15 => Option.bind (g_ref03_Dries x1_a1 x3_a3 r15) (fun r16 => Option.bind (g_ref03_Coat x0_s r4.1) (fun r17 => cond (r17) (Option.bind (g_ref03_Weather x0_s r5.1) (fun r18 => cond (r18) (cond (r4.2.1 != 1) (cond (r4.2.1 != 2) (some false) (cond (r6.1) (cond (decide (r13 < x14.Need)) (cond (decide (r4.1 > x3_a3)) (some false) (cond (r4.1 == x3_a3) (cond ((r4.2.1 == 1) != true) (some false) (Option.bind (g_coat_Holds x0_s x1_a1 r5.1) (fun r19 => cond (r19.2 == 0) (cond (r19.1) (some false) (some true)) (some false)))) (Option.bind (g_coat_Holds x0_s x1_a1 r5.1) (fun r20 => cond (r20.2 == 0) (cond (r20.1) (some false) (some true)) (some false))))) (cond (decide (r16 > x14.Peel)) (cond (decide (r4.1 > x3_a3)) (some false) (cond (r4.1 == x3_a3) (cond ((r4.2.1 == 1) != false) (some false) (Option.bind (g_coat_Holds x0_s x1_a1 r5.1) (fun r21 => cond (r21.2 == 0) (cond (r21.1) (some false) (some true)) (some false)))) (Option.bind (g_coat_Holds x0_s x1_a1 r5.1) (fun r22 => cond (r22.2 == 0) (cond (r22.1) (some false) (some true)) (some false))))) (cond (r4.1 == x3_a3) (cond ((r4.2.1 == 1) != false) (some false) (some false)) (Option.bind (g_coat_Holds x0_s x1_a1 r5.1) (fun r23 => cond (r23.2 == 0) (cond (r23.1) (some false) (some true)) (some false)))))) (Option.bind (g_ref01_Before x2_a2 r5.1) (fun r24 => cond (r24) (some false) (cond (decide (r13 < x14.Need)) (cond (decide (r4.1 > x3_a3)) (some false) (cond (r4.1 == x3_a3) (cond ((r4.2.1 == 1) != true) (some false) (Option.bind (g_coat_Holds x0_s x1_a1 r5.1) (fun r25 => cond (r25.2 == 0) (cond (r25.1) (some false) (some true)) (some false)))) (Option.bind (g_coat_Holds x0_s x1_a1 r5.1) (fun r26 => cond (r26.2 == 0) (cond (r26.1) (some false) (some true)) (some false))))) (cond (decide (r16 > x14.Peel)) (cond (decide (r4.1 > x3_a3)) (some false) (cond (r4.1 == x3_a3) (cond ((r4.2.1 == 1) != false) (some false) (Option.bind (g_coat_Holds x0_s x1_a1 r5.1) (fun r27 => cond (r27.2 == 0) (cond (r27.1) (some false) (some true)) (some false)))) (Option.bind (g_coat_Holds x0_s x1_a1 r5.1) (fun r28 => cond (r28.2 == 0) (cond (r28.1) (some false) (some true)) (some false))))) (cond (r4.1 == x3_a3) (cond ((r4.2.1 == 1) != false) (some false) (some false)) (Option.bind (g_coat_Holds x0_s x1_a1 r5.1) (fun r29 => cond (r29.2 == 0) (cond (r29.1) (some false) (some true)) (some false)))))))))) (cond (r6.1) (cond (decide (r13 < x14.Need)) (cond (decide (r4.1 > x3_a3)) (some false) (cond (r4.1 == x3_a3) (cond ((r4.2.1 == 1) != true) (some false) (Option.bind (g_coat_Holds x0_s x1_a1 r5.1) (fun r30 => cond (r30.2 == 0) (cond (r30.1) (some false) (some true)) (some false)))) (Option.bind (g_coat_Holds x0_s x1_a1 r5.1) (fun r31 => cond (r31.2 == 0) (cond (r31.1) (some false) (some true)) (some false))))) (cond (decide (r16 > x14.Peel)) (cond (decide (r4.1 > x3_a3)) (some false) (cond (r4.1 == x3_a3) (cond ((r4.2.1 == 1) != false) (some false) (Option.bind (g_coat_Holds x0_s x1_a1 r5.1) (fun r32 => cond (r32.2 == 0) (cond (r32.1) (some false) (some true)) (some false)))) (Option.bind (g_coat_Holds x0_s x1_a1 r5.1) (fun r33 => cond (r33.2 == 0) (cond (r33.1) (some false) (some true)) (some false))))) (cond (r4.1 == x3_a3) (cond ((r4.2.1 == 1) != false) (some false) (some false)) (Option.bind (g_coat_Holds x0_s x1_a1 r5.1) (fun r34 => cond (r34.2 == 0) (cond (r34.1) (some false) (some true)) (some false)))))) (Option.bind (g_ref01_Before x2_a2 r5.1) (fun r35 => cond (r35) (some false) (cond (decide (r13 < x14.Need)) (cond (decide (r4.1 > x3_a3)) (some false) (cond (r4.1 == x3_a3) (cond ((r4.2.1 == 1) != true) (some false) (Option.bind (g_coat_Holds x0_s x1_a1 r5.1) (fun r36 => cond (r36.2 == 0) (cond (r36.1) (some false) (some true)) (some false)))) (Option.bind (g_coat_Holds x0_s x1_a1 r5.1) (fun r37 => cond (r37.2 == 0) (cond (r37.1) (some false) (some true)) (some false))))) (cond (decide (r16 > x14.Peel)) (cond (decide (r4.1 > x3_a3)) (some false) (cond (r4.1 == x3_a3) (cond ((r4.2.1 == 1) != false) (some false) (Option.bind (g_coat_Holds x0_s x1_a1 r5.1) (fun r38 => cond (r38.2 == 0) (cond (r38.1) (some false) (some true)) (some false)))) (Option.bind (g_coat_Holds x0_s x1_a1 r5.1) (fun r39 => cond (r39.2 == 0) (cond (r39.1) (some false) (some true)) (some false))))) (cond (r4.1 == x3_a3) (cond ((r4.2.1 == 1) != false) (some false) (some false)) (Option.bind (g_coat_Holds x0_s x1_a1 r5.1) (fun r40 => cond (r40.2 == 0) (cond (r40.1) (some false) (some true)) (some false)))))))))) (some false))) (some false))))) (Option.bind (g_ref03_Coat x0_s r4.1) (fun r41 => cond (r41) (Option.bind (g_ref03_Weather x0_s r5.1) (fun r42 => cond (r42) (cond (r4.2.1 != 1) (cond (r4.2.1 != 2) (some false) (cond (r6.1) (cond (decide (r13 < x14.Need)) (cond (decide (r4.1 > x3_a3)) (some false) (cond (r4.1 == x3_a3) (cond ((r4.2.1 == 1) != true) (some false) (Option.bind (g_coat_Holds x0_s x1_a1 r5.1) (fun r43 => cond (r43.2 == 0) (cond (r43.1) (some false) (some true)) (some false)))) (Option.bind (g_coat_Holds x0_s x1_a1 r5.1) (fun r44 => cond (r44.2 == 0) (cond (r44.1) (some false) (some true)) (some false))))) (cond (r4.1 == x3_a3) (cond ((r4.2.1 == 1) != false) (some false) (some false)) (Option.bind (g_coat_Holds x0_s x1_a1 r5.1) (fun r45 => cond (r45.2 == 0) (cond (r45.1) (some false) (some true)) (some false))))) (Option.bind (g_ref01_Before x2_a2 r5.1) (fun r46 => cond (r46) (some false) (cond (decide (r13 < x14.Need)) (cond (decide (r4.1 > x3_a3)) (some false) (cond (r4.1 == x3_a3) (cond ((r4.2.1 == 1) != true) (some false) (Option.bind (g_coat_Holds x0_s x1_a1 r5.1) (fun r47 => cond (r47.2 == 0) (cond (r47.1) (some false) (some true)) (some false)))) (Option.bind (g_coat_Holds x0_s x1_a1 r5.1) (fun r48 => cond (r48.2 == 0) (cond (r48.1) (some false) (some true)) (some false))))) (cond (r4.1 == x3_a3) (cond ((r4.2.1 == 1) != false) (some false) (some false)) (Option.bind (g_coat_Holds x0_s x1_a1 r5.1) (fun r49 => cond (r49.2 == 0) (cond (r49.1) (some false) (some true)) (some false))))))))) (cond (r6.1) (cond (decide (r13 < x14.Need)) (cond (decide (r4.1 > x3_a3)) (some false) (cond (r4.1 == x3_a3) (cond ((r4.2.1 == 1) != true) (some false) (Option.bind (g_coat_Holds x0_s x1_a1 r5.1) (fun r50 => cond (r50.2 == 0) (cond (r50.1) (some false) (some true)) (some false)))) (Option.bind (g_coat_Holds x0_s x1_a1 r5.1) (fun r51 => cond (r51.2 == 0) (cond (r51.1) (some false) (some true)) (some false))))) (cond (r4.1 == x3_a3) (cond ((r4.2.1 == 1) != false) (some false) (some false)) (Option.bind (g_coat_Holds x0_s x1_a1 r5.1) (fun r52 => cond (r52.2 == 0) (cond (r52.1) (some false) (some true)) (some false))))) (Option.bind (g_ref01_Before x2_a2 r5.1) (fun r53 => cond (r53) (some false) (cond (decide (r13 < x14.Need)) (cond (decide (r4.1 > x3_a3)) (some false) (cond (r4.1 == x3_a3) (cond ((r4.2.1 == 1) != true) (some false) (Option.bind (g_coat_Holds x0_s x1_a1 r5.1) (fun r54 => cond (r54.2 == 0) (cond (r54.1) (some false) (some true)) (some false)))) (Option.bind (g_coat_Holds x0_s x1_a1 r5.1) (fun r55 => cond (r55.2 == 0) (cond (r55.1) (some false) (some true)) (some false))))) (cond (r4.1 == x3_a3) (cond ((r4.2.1 == 1) != false) (some false) (some false)) (Option.bind (g_coat_Holds x0_s x1_a1 r5.1) (fun r56 => cond (r56.2 == 0) (cond (r56.1) (some false) (some true)) (some false))))))))) (some false))) (some false))))))))))))) (some true))) (some true)))) (some true))
theorem g_law03_CoatProved_ok (x0_s : GCoatSheet) (x1_a1 : List Int) (x2_a2 : List Int) (x3_a3 : Int) (R : Bool) (h : g_law03_CoatProved x0_s x1_a1 x2_a2 x3_a3 = some R) : VPure Tryz.prog G0 7 [.agg (cGCoatSheet x0_s), .sl (cellsL eI x1_a1) (List.length x1_a1) false, .sl (cellsL eI x2_a2) (List.length x2_a2) false, .lit (.int .i64 x3_a3)] (.tree (.lit (.bool R))) := by
 refine VPure.runR mixed Tryz.call7 Tryz.func7 rfl (by simp [Tryz.ntmps7]; kernel_rfl) ?_
 obtain ⟨KF, h, kF, kN⟩ := fun_intro h
 simp only [g_law03_CoatProved] at h
 rcases o58 : (g_law03_right x0_s x1_a1) with _ | r57
 ·simp only [o58, hs] at h
  exact absurd h kN
 simp only [o58, hs] at h
 simp only [vz, tyf, nm, seval]
 refine ktree (args0 := [.agg (cGCoatSheet x0_s), .sl (cellsL eI x1_a1) (List.length x1_a1) false]) (by first | (simp only [nrm, tynrm] <;> rfl) | rfl) (by simp only [tre, tytre, Bool.and_self]) (g_law03_right_ok _ _ _ o58) ?_
 refine fin_cut (fun tm => tm 1 = .sl (cellsL eI x1_a1) (List.length x1_a1) false ∧ tm 2 = .sl (cellsL eI x2_a2) (List.length x2_a2) false ∧ tm 3 = .lit (.int .i64 x3_a3) ∧ tm 4 = .ptr 0 0 ∧ tm 22 = .lit (.bool r57) ∧ True) (by refine ⟨?_, ?_, ?_, ?_, ?_, trivial⟩ <;> first | (simp only [ua, nm, seval] <;> rfl) | rfl) ?_
 rintro tm ⟨e59, e60, e61, e62, e63, _⟩
 cases d64 : (r57)
 ·simp only [d64, hs] at h
  simp only [vz, tyf, e59, e60, e61, e62, e63, d64, nm, seval]
  refine ktree0 g_law03_known_ok ?_
  try simp only [vz, tyf, e59, e60, e61, e62, e63, d64, nm, seval]
  obtain rfl := kF _ h
  exact opd_bool Tryz.results7 rfl
 simp only [d64, hs] at h
 cases d65 : (decide ((List.length x2_a2 : Int) > 14))
 ·simp only [d65, hs] at h
  rcases o67 : (g_ref03_Weather x0_s x2_a2) with _ | r66
  ·simp only [o67, hs] at h
   exact absurd h kN
  simp only [o67, hs] at h
  simp only [vz, tyf, e59, e60, e61, e62, e63, d64, d65, nm, seval]
  refine ktree (args0 := [.agg (cGCoatSheet x0_s), .sl (cellsL eI x2_a2) (List.length x2_a2) false]) (by first | (simp only [nrm, tynrm] <;> rfl) | rfl) (by simp only [tre, tytre, Bool.and_self]) (g_ref03_Weather_ok _ _ _ o67) ?_
  refine fin_cut (fun tm => tm 1 = .sl (cellsL eI x1_a1) (List.length x1_a1) false ∧ tm 2 = .sl (cellsL eI x2_a2) (List.length x2_a2) false ∧ tm 3 = .lit (.int .i64 x3_a3) ∧ tm 4 = .ptr 0 0 ∧ tm 29 = .lit (.bool false) ∧ tm 32 = .lit (.bool r66) ∧ True) (by refine ⟨e59, e60, e61, e62, ?_, ?_, trivial⟩ <;> first | (simp only [ua, e59, e60, e61, e62, e63, d64, d65, nm, seval] <;> rfl) | rfl) ?_
  rintro tm ⟨e68, e69, e70, e71, e72, e73, _⟩
  cases d74 : (r66)
  ·simp only [d74, hs] at h
   simp only [vz, tyf, d64, d65, e68, e69, e70, e71, e72, e73, d74, nm, seval]
   refine ktree0 g_law03_known_ok ?_
   try simp only [vz, tyf, d64, d65, e68, e69, e70, e71, e72, e73, d74, nm, seval]
   obtain rfl := kF _ h
   exact opd_bool Tryz.results7 rfl
  simp only [d74, hs] at h
  rcases o76 : (g_ref03_Coat x0_s x3_a3) with _ | r75
  ·simp only [o76, hs] at h
   exact absurd h kN
  simp only [o76, hs] at h
  simp only [vz, tyf, d64, d65, e68, e69, e70, e71, e72, e73, d74, nm, seval]
  refine ktree (args0 := [.agg (cGCoatSheet x0_s), .lit (.int .i64 x3_a3)]) (by first | (simp only [nrm, tynrm] <;> rfl) | rfl) (by simp only [tre, tytre, Bool.and_self]) (g_ref03_Coat_ok _ _ _ o76) ?_
  refine fin_cut (fun tm => tm 1 = .sl (cellsL eI x1_a1) (List.length x1_a1) false ∧ tm 2 = .sl (cellsL eI x2_a2) (List.length x2_a2) false ∧ tm 3 = .lit (.int .i64 x3_a3) ∧ tm 4 = .ptr 0 0 ∧ tm 35 = .lit (.bool false) ∧ tm 38 = .lit (.bool r75) ∧ True) (by refine ⟨e68, e69, e70, e71, ?_, ?_, trivial⟩ <;> first | (simp only [ua, d64, d65, e68, e69, e70, e71, e72, e73, d74, nm, seval] <;> rfl) | rfl) ?_
  rintro tm ⟨e77, e78, e79, e80, e81, e82, _⟩
  cases d83 : (r75)
  ·simp only [d83, hs] at h
   simp only [vz, tyf, d64, d65, d74, e77, e78, e79, e80, e81, e82, d83, nm, seval]
   refine ktree0 g_law03_known_ok ?_
   try simp only [vz, tyf, d64, d65, d74, e77, e78, e79, e80, e81, e82, d83, nm, seval]
   obtain rfl := kF _ h
   exact opd_bool Tryz.results7 rfl
  simp only [d83, hs] at h
  rcases o85 : (g_coat_Fails x0_s x1_a1) with _ | r84
  ·simp only [o85, hs] at h
   exact absurd h kN
  simp only [o85, hs] at h
  simp only [vz, tyf, d64, d65, d74, e77, e78, e79, e80, e81, e82, d83, nm, seval]
  refine ktree (args0 := [.agg (cGCoatSheet x0_s), .sl (cellsL eI x1_a1) (List.length x1_a1) false]) (by first | (simp only [nrm, tynrm] <;> rfl) | rfl) (by simp only [tre, tytre, Bool.and_self]) (g_coat_Fails_ok _ _ _ o85) ?_
  refine fin_cut (fun tm => tm 1 = .sl (cellsL eI x1_a1) (List.length x1_a1) false ∧ tm 2 = .sl (cellsL eI x2_a2) (List.length x2_a2) false ∧ tm 3 = .lit (.int .i64 x3_a3) ∧ tm 4 = .ptr 0 0 ∧ tm 45 = .tup [.lit (.int .i64 r84.1), .lit (.int .i64 r84.2.1), .lit (.int .i64 r84.2.2)] ∧ True) (by refine ⟨e77, e78, e79, e80, ?_, trivial⟩ <;> first | (simp only [ua, d64, d65, d74, e77, e78, e79, e80, e81, e82, d83, nm, seval] <;> rfl) | rfl) ?_
  rintro tm ⟨e86, e87, e88, e89, e90, _⟩
  rcases o92 : (g_coat_Proof x0_s x1_a1) with _ | r91
  ·simp only [o92, hs] at h
   exact absurd h kN
  simp only [o92, hs] at h
  simp only [vz, tyf, d64, d65, d74, d83, e86, e87, e88, e89, e90, nm, seval]
  refine ktree (args0 := [.agg (cGCoatSheet x0_s), .sl (cellsL eI x1_a1) (List.length x1_a1) false]) (by first | (simp only [nrm, tynrm] <;> rfl) | rfl) (by simp only [tre, tytre, Bool.and_self]) (g_coat_Proof_ok _ _ _ o92) ?_
  refine fin_cut (fun tm => tm 1 = .sl (cellsL eI x1_a1) (List.length x1_a1) false ∧ tm 2 = .sl (cellsL eI x2_a2) (List.length x2_a2) false ∧ tm 3 = .lit (.int .i64 x3_a3) ∧ tm 4 = .ptr 0 0 ∧ tm 9 = .lit (.int .i64 r84.1) ∧ tm 10 = .lit (.int .i64 r84.2.1) ∧ tm 11 = .lit (.int .i64 r84.2.2) ∧ tm 52 = .tup [.sl (cellsL eI r91.1) (List.length r91.1) false, .lit (.int .i64 r91.2)] ∧ True) (by refine ⟨e86, e87, e88, e89, ?_, ?_, ?_, ?_, trivial⟩ <;> first | (simp only [ua, d64, d65, d74, d83, e86, e87, e88, e89, e90, nm, seval] <;> rfl) | rfl) ?_
  rintro tm ⟨e93, e94, e95, e96, e97, e98, e99, e100, _⟩
  rcases o102 : (g_coat_Holds x0_s x1_a1 x2_a2) with _ | r101
  ·simp only [o102, hs] at h
   exact absurd h kN
  simp only [o102, hs] at h
  simp only [vz, tyf, d64, d65, d74, d83, e93, e94, e95, e96, e97, e98, e99, e100, nm, seval]
  refine ktree (args0 := [.agg (cGCoatSheet x0_s), .sl (cellsL eI x1_a1) (List.length x1_a1) false, .sl (cellsL eI x2_a2) (List.length x2_a2) false]) (by first | (simp only [nrm, tynrm] <;> rfl) | rfl) (by simp only [tre, tytre, Bool.and_self]) (g_coat_Holds_ok _ _ _ _ o102) ?_
  refine fin_cut (fun tm => tm 1 = .sl (cellsL eI x1_a1) (List.length x1_a1) false ∧ tm 2 = .sl (cellsL eI x2_a2) (List.length x2_a2) false ∧ tm 3 = .lit (.int .i64 x3_a3) ∧ tm 4 = .ptr 0 0 ∧ tm 9 = .lit (.int .i64 r84.1) ∧ tm 10 = .lit (.int .i64 r84.2.1) ∧ tm 11 = .lit (.int .i64 r84.2.2) ∧ tm 12 = .sl (cellsL eI r91.1) (List.length r91.1) false ∧ tm 13 = .lit (.int .i64 r91.2) ∧ tm 59 = .tup [.lit (.bool r101.1), .lit (.int .i64 r101.2)] ∧ True) (by refine ⟨e93, e94, e95, e96, e97, e98, e99, ?_, ?_, ?_, trivial⟩ <;> first | (simp only [ua, d64, d65, d74, d83, e93, e94, e95, e96, e97, e98, e99, e100, nm, seval] <;> rfl) | rfl) ?_
  rintro tm ⟨e103, e104, e105, e106, e107, e108, e109, e110, e111, e112, _⟩
  cases d113 : (r84.2.2 != 0)
  ·simp only [d113, hs] at h
   cases d114 : (r91.2 != r84.2.2)
   ·simp only [d114, hs] at h
    cases d115 : (r101.2 != 0)
    ·simp only [d115, hs] at h
     have b116 := And.intro d64 (And.intro d65 (And.intro d74 (And.intro d83 (And.intro d113 (And.intro d114 d115)))))
     simp only [vz, tyf, b116, e103, e104, e105, e106, e107, e108, e109, e110, e111, e112, nm, seval]
     refine cwp_drwQF (fun tm => tm 1 = .sl (cellsL eI x1_a1) (List.length x1_a1) false ∧ tm 2 = .sl (cellsL eI x2_a2) (List.length x2_a2) false ∧ tm 3 = .lit (.int .i64 x3_a3) ∧ tm 4 = .ptr 0 0 ∧ tm 9 = .lit (.int .i64 r84.1) ∧ tm 10 = .lit (.int .i64 r84.2.1) ∧ tm 11 = .lit (.int .i64 r84.2.2) ∧ tm 12 = .sl (cellsL eI r91.1) (List.length r91.1) false ∧ tm 14 = .lit (.bool r101.1) ∧ True) (by refine ⟨e103, e104, e105, e106, e107, e108, e109, e110, ?_, trivial⟩ <;> first | (simp only [ua, b116, e103, e104, e105, e106, e107, e108, e109, e110, e111, e112, nm, seval] <;> rfl) | rfl) ?_
     rintro tm ⟨e117, e118, e119, e120, e121, e122, e123, e124, e125, _⟩
     rcases o127 : (g_ref03_Lows x0_s) with _ | r126
     ·simp only [o127, hs] at h
      exact absurd h kN
     simp only [o127, hs] at h
     simp only [vz, tyf, b116, e117, e118, e119, e120, e121, e122, e123, e124, e125, nm, seval]
     refine dktree (args0 := [.agg (cGCoatSheet x0_s)]) (by first | (simp only [nrm, tynrm] <;> rfl) | rfl) (by simp only [tre, tytre, Bool.and_self]) (g_ref03_Lows_ok _ _ o127) ?_
     refine fin_cut (fun tm => tm 1 = .sl (cellsL eI x1_a1) (List.length x1_a1) false ∧ tm 2 = .sl (cellsL eI x2_a2) (List.length x2_a2) false ∧ tm 3 = .lit (.int .i64 x3_a3) ∧ tm 4 = .ptr 0 0 ∧ tm 9 = .lit (.int .i64 r84.1) ∧ tm 10 = .lit (.int .i64 r84.2.1) ∧ tm 11 = .lit (.int .i64 r84.2.2) ∧ tm 12 = .sl (cellsL eI r91.1) (List.length r91.1) false ∧ tm 14 = .lit (.bool r101.1) ∧ tm 85 = .sl (cellsL eI x1_a1) (List.length x1_a1) false ∧ tm 86 = .lit (.int .i64 x3_a3) ∧ tm 88 = .sl (cellsL eI r126) (List.length r126) false ∧ True) (by refine ⟨e117, e118, e119, e120, e121, e122, e123, e124, e125, ?_, ?_, ?_, trivial⟩ <;> first | (simp only [ua, b116, e117, e118, e119, e120, e121, e122, e123, e124, e125, nm, seval] <;> rfl) | rfl) ?_
     rintro tm ⟨e128, e129, e130, e131, e132, e133, e134, e135, e136, e137, e138, e139, _⟩
     rcases o141 : (g_ref03_Dries x1_a1 x3_a3 r126) with _ | r140
     ·simp only [o141, hs] at h
      exact absurd h kN
     simp only [o141, hs] at h
     simp only [vz, tyf, b116, e128, e129, e130, e131, e132, e133, e134, e135, e136, e137, e138, e139, nm, seval]
     refine dktree (args0 := [.sl (cellsL eI x1_a1) (List.length x1_a1) false, .lit (.int .i64 x3_a3), .sl (cellsL eI r126) (List.length r126) false]) (by first | (simp only [nrm, tynrm] <;> rfl) | rfl) (by simp only [tre, tytre, Bool.and_self]) (g_ref03_Dries_ok _ _ _ _ o141) ?_
     refine fin_cut (fun tm => tm 1 = .sl (cellsL eI x1_a1) (List.length x1_a1) false ∧ tm 2 = .sl (cellsL eI x2_a2) (List.length x2_a2) false ∧ tm 3 = .lit (.int .i64 x3_a3) ∧ tm 4 = .ptr 0 0 ∧ tm 9 = .lit (.int .i64 r84.1) ∧ tm 10 = .lit (.int .i64 r84.2.1) ∧ tm 11 = .lit (.int .i64 r84.2.2) ∧ tm 12 = .sl (cellsL eI r91.1) (List.length r91.1) false ∧ tm 14 = .lit (.bool r101.1) ∧ tm 89 = .lit (.int .i64 r140) ∧ True) (by refine ⟨e128, e129, e130, e131, e132, e133, e134, e135, e136, ?_, trivial⟩ <;> first | (simp only [ua, b116, e128, e129, e130, e131, e132, e133, e134, e135, e136, e137, e138, e139, nm, seval] <;> rfl) | rfl) ?_
     rintro tm ⟨e142, e143, e144, e145, e146, e147, e148, e149, e150, e151, _⟩
     rcases o153 : (getI x0_s.Coats x3_a3) with _ | x152
     ·simp only [o153, hs] at h
      exact absurd h kN
     simp only [o153, hs] at h
     simp only [vz, tyf, b116, e142, e143, e144, e145, e146, e147, e148, e149, e150, e151, (ix24 o153), nm, seval]
     refine cwp_drwQF (fun tm => tm 1 = .sl (cellsL eI x1_a1) (List.length x1_a1) false ∧ tm 2 = .sl (cellsL eI x2_a2) (List.length x2_a2) false ∧ tm 3 = .lit (.int .i64 x3_a3) ∧ tm 4 = .ptr 0 0 ∧ tm 9 = .lit (.int .i64 r84.1) ∧ tm 10 = .lit (.int .i64 r84.2.1) ∧ tm 11 = .lit (.int .i64 r84.2.2) ∧ tm 12 = .sl (cellsL eI r91.1) (List.length r91.1) false ∧ tm 14 = .lit (.bool r101.1) ∧ tm 16 = .lit (.bool (decide (r140 < x152.Need))) ∧ True) (by refine ⟨e142, e143, e144, e145, e146, e147, e148, e149, e150, ?_, trivial⟩ <;> first | (simp only [ua, b116, e142, e143, e144, e145, e146, e147, e148, e149, e150, e151, nm, seval] <;> rfl) | rfl) ?_
     rintro tm ⟨e154, e155, e156, e157, e158, e159, e160, e161, e162, e163, _⟩
     cases d164 : (decide ((IntKind.i64.wrap (x3_a3 + 1)) < (List.length x1_a1 : Int)))
     ·simp only [d164, hs] at h
      rcases o166 : (g_ref03_Coat x0_s r84.1) with _ | r165
      ·simp only [o166, hs] at h
       exact absurd h kN
      simp only [o166, hs] at h
      simp only [vz, tyf, b116, (ix24 o153), e154, e155, e156, e157, e158, e159, e160, e161, e162, e163, d164, nm, seval]
      refine ktree (args0 := [.agg (cGCoatSheet x0_s), .lit (.int .i64 r84.1)]) (by first | (simp only [nrm, tynrm] <;> rfl) | rfl) (by simp only [tre, tytre, Bool.and_self]) (g_ref03_Coat_ok _ _ _ o166) ?_
      refine fin_cut (fun tm => tm 1 = .sl (cellsL eI x1_a1) (List.length x1_a1) false ∧ tm 2 = .sl (cellsL eI x2_a2) (List.length x2_a2) false ∧ tm 3 = .lit (.int .i64 x3_a3) ∧ tm 4 = .ptr 0 0 ∧ tm 9 = .lit (.int .i64 r84.1) ∧ tm 10 = .lit (.int .i64 r84.2.1) ∧ tm 12 = .sl (cellsL eI r91.1) (List.length r91.1) false ∧ tm 14 = .lit (.bool r101.1) ∧ tm 16 = .lit (.bool (decide (r140 < x152.Need))) ∧ tm 17 = .lit (.bool false) ∧ tm 129 = .lit (.bool r165) ∧ True) (by refine ⟨e154, e155, e156, e157, e158, e159, e161, e162, e163, ?_, ?_, trivial⟩ <;> first | (simp only [ua, b116, e154, e155, e156, e157, e158, e159, e160, e161, e162, e163, d164, nm, seval] <;> rfl) | rfl) ?_
      rintro tm ⟨e167, e168, e169, e170, e171, e172, e173, e174, e175, e176, e177, _⟩
      cases d178 : (r165)
      ·simp only [d178, hs] at h
       try simp only [vz, tyf, b116, (ix24 o153), d164, e167, e168, e169, e170, e171, e172, e173, e174, e175, e176, e177, d178, nm, seval]
       obtain rfl := kF _ h
       exact opd_bool Tryz.results7 rfl
      simp only [d178, hs] at h
      rcases o180 : (g_ref03_Weather x0_s r91.1) with _ | r179
      ·simp only [o180, hs] at h
       exact absurd h kN
      simp only [o180, hs] at h
      simp only [vz, tyf, b116, (ix24 o153), d164, e167, e168, e169, e170, e171, e172, e173, e174, e175, e176, e177, d178, nm, seval]
      refine ktree (args0 := [.agg (cGCoatSheet x0_s), .sl (cellsL eI r91.1) (List.length r91.1) false]) (by first | (simp only [nrm, tynrm] <;> rfl) | rfl) (by simp only [tre, tytre, Bool.and_self]) (g_ref03_Weather_ok _ _ _ o180) ?_
      refine fin_cut (fun tm => tm 1 = .sl (cellsL eI x1_a1) (List.length x1_a1) false ∧ tm 2 = .sl (cellsL eI x2_a2) (List.length x2_a2) false ∧ tm 3 = .lit (.int .i64 x3_a3) ∧ tm 4 = .ptr 0 0 ∧ tm 9 = .lit (.int .i64 r84.1) ∧ tm 10 = .lit (.int .i64 r84.2.1) ∧ tm 12 = .sl (cellsL eI r91.1) (List.length r91.1) false ∧ tm 14 = .lit (.bool r101.1) ∧ tm 16 = .lit (.bool (decide (r140 < x152.Need))) ∧ tm 17 = .lit (.bool false) ∧ tm 131 = .lit (.bool false) ∧ tm 134 = .lit (.bool r179) ∧ True) (by refine ⟨e167, e168, e169, e170, e171, e172, e173, e174, e175, e176, ?_, ?_, trivial⟩ <;> first | (simp only [ua, b116, d164, e167, e168, e169, e170, e171, e172, e173, e174, e175, e176, e177, d178, nm, seval] <;> rfl) | rfl) ?_
      rintro tm ⟨e181, e182, e183, e184, e185, e186, e187, e188, e189, e190, e191, e192, _⟩
      cases d193 : (r179)
      ·simp only [d193, hs] at h
       try simp only [vz, tyf, b116, (ix24 o153), d164, d178, e181, e182, e183, e184, e185, e186, e187, e188, e189, e190, e191, e192, d193, nm, seval]
       obtain rfl := kF _ h
       exact opd_bool Tryz.results7 rfl
      simp only [d193, hs] at h
      cases d194 : (r84.2.1 != 1)
      ·simp only [d194, hs] at h
       cases d195 : (r101.1)
       ·simp only [d195, hs] at h
        rcases o197 : (g_ref01_Before x2_a2 r91.1) with _ | r196
        ·simp only [o197, hs] at h
         exact absurd h kN
        simp only [o197, hs] at h
        simp only [vz, tyf, b116, (ix24 o153), d164, d178, e181, e182, e183, e184, e185, e186, e187, e188, e189, e190, e191, e192, d193, d194, d195, nm, seval]
        refine ktree (args0 := [.sl (cellsL eI x2_a2) (List.length x2_a2) false, .sl (cellsL eI r91.1) (List.length r91.1) false]) (by first | (simp only [nrm, tynrm] <;> rfl) | rfl) (by simp only [tre, tytre, Bool.and_self]) (g_ref01_Before_ok _ _ _ o197) ?_
        refine fin_cut (fun tm => tm 1 = .sl (cellsL eI x1_a1) (List.length x1_a1) false ∧ tm 3 = .lit (.int .i64 x3_a3) ∧ tm 4 = .ptr 0 0 ∧ tm 9 = .lit (.int .i64 r84.1) ∧ tm 10 = .lit (.int .i64 r84.2.1) ∧ tm 12 = .sl (cellsL eI r91.1) (List.length r91.1) false ∧ tm 16 = .lit (.bool (decide (r140 < x152.Need))) ∧ tm 17 = .lit (.bool false) ∧ tm 145 = .lit (.bool false) ∧ tm 148 = .lit (.bool true) ∧ tm 151 = .lit (.bool r196) ∧ True) (by refine ⟨e181, e183, e184, e185, e186, e187, e189, e190, ?_, ?_, ?_, trivial⟩ <;> first | (simp only [ua, b116, d164, d178, e181, e182, e183, e184, e185, e186, e187, e188, e189, e190, e191, e192, d193, d194, d195, nm, seval] <;> rfl) | rfl) ?_
        rintro tm ⟨e198, e199, e200, e201, e202, e203, e204, e205, e206, e207, e208, _⟩
        cases d209 : (r196)
        ·simp only [d209, hs] at h
         have b210 := And.intro b116 (And.intro d164 (And.intro d178 (And.intro d193 (And.intro d194 (And.intro d195 d209)))))
         cases d211 : (decide (r140 < x152.Need))
         ·simp only [d211, hs] at h
          cases d212 : (r84.1 == x3_a3)
          ·simp only [d212, hs] at h
           rcases o214 : (g_coat_Holds x0_s x1_a1 r91.1) with _ | r213
           ·simp only [o214, hs] at h
            exact absurd h kN
           simp only [o214, hs] at h
           simp only [vz, tyf, b210, (ix24 o153), e198, e199, e200, e201, e202, e203, e204, e205, e206, e207, e208, d211, d212, nm, seval]
           refine ktree (args0 := [.agg (cGCoatSheet x0_s), .sl (cellsL eI x1_a1) (List.length x1_a1) false, .sl (cellsL eI r91.1) (List.length r91.1) false]) (by first | (simp only [nrm, tynrm] <;> rfl) | rfl) (by simp only [tre, tytre, Bool.and_self]) (g_coat_Holds_ok _ _ _ _ o214) ?_
           refine fin_cut (fun tm => tm 191 = .tup [.lit (.bool r213.1), .lit (.int .i64 r213.2)] ∧ True) (by refine ⟨?_, trivial⟩ <;> first | (simp only [ua, b210, e198, e199, e200, e201, e202, e203, e204, e205, e206, e207, e208, d211, d212, nm, seval] <;> rfl) | rfl) ?_
           rintro tm ⟨e215, _⟩
           cases d216 : (r213.2 == 0)
           ·simp only [d216, hs] at h
            try simp only [vz, tyf, b210, (ix24 o153), d211, d212, e215, d216, nm, seval]
            obtain rfl := kF _ h
            exact opd_bool Tryz.results7 rfl
           simp only [d216, hs] at h
           cases d217 : (r213.1)
           ·simp only [d217, hs] at h
            simp only [vz, tyf, b210, (ix24 o153), d211, d212, e215, d216, d217, nm, seval]
            refine ktree0 g_law03_known_ok ?_
            try simp only [vz, tyf, b210, (ix24 o153), d211, d212, e215, d216, d217, nm, seval]
            obtain rfl := kF _ h
            exact opd_bool Tryz.results7 rfl
           simp only [d217, hs] at h
           try simp only [vz, tyf, b210, (ix24 o153), d211, d212, e215, d216, d217, nm, seval]
           obtain rfl := kF _ h
           exact opd_bool Tryz.results7 rfl
          simp only [d212, hs] at h
          cases d218 : ((r84.2.1 == 1) != false)
          ·simp only [d218, hs] at h
           try simp only [vz, tyf, b210, (ix24 o153), e198, e199, e200, e201, e202, e203, e204, e205, e206, e207, e208, d211, d212, d218, nm, seval]
           obtain rfl := kF _ h
           exact opd_bool Tryz.results7 rfl
          simp only [d218, hs] at h
          try simp only [vz, tyf, b210, (ix24 o153), e198, e199, e200, e201, e202, e203, e204, e205, e206, e207, e208, d211, d212, d218, nm, seval]
          obtain rfl := kF _ h
          exact opd_bool Tryz.results7 rfl
         simp only [d211, hs] at h
         cases d219 : (decide (r84.1 > x3_a3))
         ·simp only [d219, hs] at h
          cases d220 : (r84.1 == x3_a3)
          ·simp only [d220, hs] at h
           rcases o222 : (g_coat_Holds x0_s x1_a1 r91.1) with _ | r221
           ·simp only [o222, hs] at h
            exact absurd h kN
           simp only [o222, hs] at h
           simp only [vz, tyf, b210, (ix24 o153), e198, e199, e200, e201, e202, e203, e204, e205, e206, e207, e208, d211, d219, d220, nm, seval]
           refine ktree (args0 := [.agg (cGCoatSheet x0_s), .sl (cellsL eI x1_a1) (List.length x1_a1) false, .sl (cellsL eI r91.1) (List.length r91.1) false]) (by first | (simp only [nrm, tynrm] <;> rfl) | rfl) (by simp only [tre, tytre, Bool.and_self]) (g_coat_Holds_ok _ _ _ _ o222) ?_
           refine fin_cut (fun tm => tm 191 = .tup [.lit (.bool r221.1), .lit (.int .i64 r221.2)] ∧ True) (by refine ⟨?_, trivial⟩ <;> first | (simp only [ua, b210, e198, e199, e200, e201, e202, e203, e204, e205, e206, e207, e208, d211, d219, d220, nm, seval] <;> rfl) | rfl) ?_
           rintro tm ⟨e223, _⟩
           cases d224 : (r221.2 == 0)
           ·simp only [d224, hs] at h
            try simp only [vz, tyf, b210, (ix24 o153), d211, d219, d220, e223, d224, nm, seval]
            obtain rfl := kF _ h
            exact opd_bool Tryz.results7 rfl
           simp only [d224, hs] at h
           cases d225 : (r221.1)
           ·simp only [d225, hs] at h
            simp only [vz, tyf, b210, (ix24 o153), d211, d219, d220, e223, d224, d225, nm, seval]
            refine ktree0 g_law03_known_ok ?_
            try simp only [vz, tyf, b210, (ix24 o153), d211, d219, d220, e223, d224, d225, nm, seval]
            obtain rfl := kF _ h
            exact opd_bool Tryz.results7 rfl
           simp only [d225, hs] at h
           try simp only [vz, tyf, b210, (ix24 o153), d211, d219, d220, e223, d224, d225, nm, seval]
           obtain rfl := kF _ h
           exact opd_bool Tryz.results7 rfl
          simp only [d220, hs] at h
          cases d226 : ((r84.2.1 == 1) != true)
          ·simp only [d226, hs] at h
           rcases o228 : (g_coat_Holds x0_s x1_a1 r91.1) with _ | r227
           ·simp only [o228, hs] at h
            exact absurd h kN
           simp only [o228, hs] at h
           simp only [vz, tyf, b210, (ix24 o153), e198, e199, e200, e201, e202, e203, e204, e205, e206, e207, e208, d211, d219, d220, d226, nm, seval]
           refine ktree (args0 := [.agg (cGCoatSheet x0_s), .sl (cellsL eI x1_a1) (List.length x1_a1) false, .sl (cellsL eI r91.1) (List.length r91.1) false]) (by first | (simp only [nrm, tynrm] <;> rfl) | rfl) (by simp only [tre, tytre, Bool.and_self]) (g_coat_Holds_ok _ _ _ _ o228) ?_
           refine fin_cut (fun tm => tm 191 = .tup [.lit (.bool r227.1), .lit (.int .i64 r227.2)] ∧ True) (by refine ⟨?_, trivial⟩ <;> first | (simp only [ua, b210, e198, e199, e200, e201, e202, e203, e204, e205, e206, e207, e208, d211, d219, d220, d226, nm, seval] <;> rfl) | rfl) ?_
           rintro tm ⟨e229, _⟩
           cases d230 : (r227.2 == 0)
           ·simp only [d230, hs] at h
            try simp only [vz, tyf, b210, (ix24 o153), d211, d219, d220, d226, e229, d230, nm, seval]
            obtain rfl := kF _ h
            exact opd_bool Tryz.results7 rfl
           simp only [d230, hs] at h
           cases d231 : (r227.1)
           ·simp only [d231, hs] at h
            have b232 := And.intro b210 (And.intro d211 (And.intro d219 (And.intro d220 (And.intro d226 (And.intro d230 d231)))))
            simp only [vz, tyf, b232, (ix24 o153), e229, nm, seval]
            refine ktree0 g_law03_known_ok ?_
            try simp only [vz, tyf, b232, (ix24 o153), e229, nm, seval]
            obtain rfl := kF _ h
            exact opd_bool Tryz.results7 rfl
           simp only [d231, hs] at h
           have b233 := And.intro b210 (And.intro d211 (And.intro d219 (And.intro d220 (And.intro d226 (And.intro d230 d231)))))
           try simp only [vz, tyf, b233, (ix24 o153), e229, nm, seval]
           obtain rfl := kF _ h
           exact opd_bool Tryz.results7 rfl
          simp only [d226, hs] at h
          try simp only [vz, tyf, b210, (ix24 o153), e198, e199, e200, e201, e202, e203, e204, e205, e206, e207, e208, d211, d219, d220, d226, nm, seval]
          obtain rfl := kF _ h
          exact opd_bool Tryz.results7 rfl
         simp only [d219, hs] at h
         try simp only [vz, tyf, b210, (ix24 o153), e198, e199, e200, e201, e202, e203, e204, e205, e206, e207, e208, d211, d219, nm, seval]
         obtain rfl := kF _ h
         exact opd_bool Tryz.results7 rfl
        simp only [d209, hs] at h
        have b234 := And.intro b116 (And.intro d164 (And.intro d178 (And.intro d193 (And.intro d194 (And.intro d195 d209)))))
        try simp only [vz, tyf, b234, (ix24 o153), e198, e199, e200, e201, e202, e203, e204, e205, e206, e207, e208, nm, seval]
        obtain rfl := kF _ h
        exact opd_bool Tryz.results7 rfl
       simp only [d195, hs] at h
       cases d235 : (decide (r140 < x152.Need))
       ·simp only [d235, hs] at h
        have b236 := And.intro b116 (And.intro d164 (And.intro d178 (And.intro d193 (And.intro d194 (And.intro d195 d235)))))
        cases d237 : (r84.1 == x3_a3)
        ·simp only [d237, hs] at h
         rcases o239 : (g_coat_Holds x0_s x1_a1 r91.1) with _ | r238
         ·simp only [o239, hs] at h
          exact absurd h kN
         simp only [o239, hs] at h
         simp only [vz, tyf, b236, (ix24 o153), e181, e182, e183, e184, e185, e186, e187, e188, e189, e190, e191, e192, d237, nm, seval]
         refine ktree (args0 := [.agg (cGCoatSheet x0_s), .sl (cellsL eI x1_a1) (List.length x1_a1) false, .sl (cellsL eI r91.1) (List.length r91.1) false]) (by first | (simp only [nrm, tynrm] <;> rfl) | rfl) (by simp only [tre, tytre, Bool.and_self]) (g_coat_Holds_ok _ _ _ _ o239) ?_
         refine fin_cut (fun tm => tm 191 = .tup [.lit (.bool r238.1), .lit (.int .i64 r238.2)] ∧ True) (by refine ⟨?_, trivial⟩ <;> first | (simp only [ua, b236, e181, e182, e183, e184, e185, e186, e187, e188, e189, e190, e191, e192, d237, nm, seval] <;> rfl) | rfl) ?_
         rintro tm ⟨e240, _⟩
         cases d241 : (r238.2 == 0)
         ·simp only [d241, hs] at h
          try simp only [vz, tyf, b236, (ix24 o153), d237, e240, d241, nm, seval]
          obtain rfl := kF _ h
          exact opd_bool Tryz.results7 rfl
         simp only [d241, hs] at h
         cases d242 : (r238.1)
         ·simp only [d242, hs] at h
          simp only [vz, tyf, b236, (ix24 o153), d237, e240, d241, d242, nm, seval]
          refine ktree0 g_law03_known_ok ?_
          try simp only [vz, tyf, b236, (ix24 o153), d237, e240, d241, d242, nm, seval]
          obtain rfl := kF _ h
          exact opd_bool Tryz.results7 rfl
         simp only [d242, hs] at h
         try simp only [vz, tyf, b236, (ix24 o153), d237, e240, d241, d242, nm, seval]
         obtain rfl := kF _ h
         exact opd_bool Tryz.results7 rfl
        simp only [d237, hs] at h
        cases d243 : ((r84.2.1 == 1) != false)
        ·simp only [d243, hs] at h
         try simp only [vz, tyf, b236, (ix24 o153), e181, e182, e183, e184, e185, e186, e187, e188, e189, e190, e191, e192, d237, d243, nm, seval]
         obtain rfl := kF _ h
         exact opd_bool Tryz.results7 rfl
        simp only [d243, hs] at h
        try simp only [vz, tyf, b236, (ix24 o153), e181, e182, e183, e184, e185, e186, e187, e188, e189, e190, e191, e192, d237, d243, nm, seval]
        obtain rfl := kF _ h
        exact opd_bool Tryz.results7 rfl
       simp only [d235, hs] at h
       have b244 := And.intro b116 (And.intro d164 (And.intro d178 (And.intro d193 (And.intro d194 (And.intro d195 d235)))))
       cases d245 : (decide (r84.1 > x3_a3))
       ·simp only [d245, hs] at h
        cases d246 : (r84.1 == x3_a3)
        ·simp only [d246, hs] at h
         rcases o248 : (g_coat_Holds x0_s x1_a1 r91.1) with _ | r247
         ·simp only [o248, hs] at h
          exact absurd h kN
         simp only [o248, hs] at h
         simp only [vz, tyf, b244, (ix24 o153), e181, e182, e183, e184, e185, e186, e187, e188, e189, e190, e191, e192, d245, d246, nm, seval]
         refine ktree (args0 := [.agg (cGCoatSheet x0_s), .sl (cellsL eI x1_a1) (List.length x1_a1) false, .sl (cellsL eI r91.1) (List.length r91.1) false]) (by first | (simp only [nrm, tynrm] <;> rfl) | rfl) (by simp only [tre, tytre, Bool.and_self]) (g_coat_Holds_ok _ _ _ _ o248) ?_
         refine fin_cut (fun tm => tm 191 = .tup [.lit (.bool r247.1), .lit (.int .i64 r247.2)] ∧ True) (by refine ⟨?_, trivial⟩ <;> first | (simp only [ua, b244, e181, e182, e183, e184, e185, e186, e187, e188, e189, e190, e191, e192, d245, d246, nm, seval] <;> rfl) | rfl) ?_
         rintro tm ⟨e249, _⟩
         cases d250 : (r247.2 == 0)
         ·simp only [d250, hs] at h
          try simp only [vz, tyf, b244, (ix24 o153), d245, d246, e249, d250, nm, seval]
          obtain rfl := kF _ h
          exact opd_bool Tryz.results7 rfl
         simp only [d250, hs] at h
         cases d251 : (r247.1)
         ·simp only [d251, hs] at h
          simp only [vz, tyf, b244, (ix24 o153), d245, d246, e249, d250, d251, nm, seval]
          refine ktree0 g_law03_known_ok ?_
          try simp only [vz, tyf, b244, (ix24 o153), d245, d246, e249, d250, d251, nm, seval]
          obtain rfl := kF _ h
          exact opd_bool Tryz.results7 rfl
         simp only [d251, hs] at h
         try simp only [vz, tyf, b244, (ix24 o153), d245, d246, e249, d250, d251, nm, seval]
         obtain rfl := kF _ h
         exact opd_bool Tryz.results7 rfl
        simp only [d246, hs] at h
        cases d252 : ((r84.2.1 == 1) != true)
        ·simp only [d252, hs] at h
         rcases o254 : (g_coat_Holds x0_s x1_a1 r91.1) with _ | r253
         ·simp only [o254, hs] at h
          exact absurd h kN
         simp only [o254, hs] at h
         simp only [vz, tyf, b244, (ix24 o153), e181, e182, e183, e184, e185, e186, e187, e188, e189, e190, e191, e192, d245, d246, d252, nm, seval]
         refine ktree (args0 := [.agg (cGCoatSheet x0_s), .sl (cellsL eI x1_a1) (List.length x1_a1) false, .sl (cellsL eI r91.1) (List.length r91.1) false]) (by first | (simp only [nrm, tynrm] <;> rfl) | rfl) (by simp only [tre, tytre, Bool.and_self]) (g_coat_Holds_ok _ _ _ _ o254) ?_
         refine fin_cut (fun tm => tm 191 = .tup [.lit (.bool r253.1), .lit (.int .i64 r253.2)] ∧ True) (by refine ⟨?_, trivial⟩ <;> first | (simp only [ua, b244, e181, e182, e183, e184, e185, e186, e187, e188, e189, e190, e191, e192, d245, d246, d252, nm, seval] <;> rfl) | rfl) ?_
         rintro tm ⟨e255, _⟩
         cases d256 : (r253.2 == 0)
         ·simp only [d256, hs] at h
          try simp only [vz, tyf, b244, (ix24 o153), d245, d246, d252, e255, d256, nm, seval]
          obtain rfl := kF _ h
          exact opd_bool Tryz.results7 rfl
         simp only [d256, hs] at h
         cases d257 : (r253.1)
         ·simp only [d257, hs] at h
          simp only [vz, tyf, b244, (ix24 o153), d245, d246, d252, e255, d256, d257, nm, seval]
          refine ktree0 g_law03_known_ok ?_
          try simp only [vz, tyf, b244, (ix24 o153), d245, d246, d252, e255, d256, d257, nm, seval]
          obtain rfl := kF _ h
          exact opd_bool Tryz.results7 rfl
         simp only [d257, hs] at h
         try simp only [vz, tyf, b244, (ix24 o153), d245, d246, d252, e255, d256, d257, nm, seval]
         obtain rfl := kF _ h
         exact opd_bool Tryz.results7 rfl
        simp only [d252, hs] at h
        try simp only [vz, tyf, b244, (ix24 o153), e181, e182, e183, e184, e185, e186, e187, e188, e189, e190, e191, e192, d245, d246, d252, nm, seval]
        obtain rfl := kF _ h
        exact opd_bool Tryz.results7 rfl
       simp only [d245, hs] at h
       try simp only [vz, tyf, b244, (ix24 o153), e181, e182, e183, e184, e185, e186, e187, e188, e189, e190, e191, e192, d245, nm, seval]
       obtain rfl := kF _ h
       exact opd_bool Tryz.results7 rfl
      simp only [d194, hs] at h
      cases d258 : (r84.2.1 != 2)
      ·simp only [d258, hs] at h
       cases d259 : (r101.1)
       ·simp only [d259, hs] at h
        have b260 := And.intro b116 (And.intro d164 (And.intro d178 (And.intro d193 (And.intro d194 (And.intro d258 d259)))))
        rcases o262 : (g_ref01_Before x2_a2 r91.1) with _ | r261
        ·simp only [o262, hs] at h
         exact absurd h kN
        simp only [o262, hs] at h
        simp only [vz, tyf, b260, (ix24 o153), e181, e182, e183, e184, e185, e186, e187, e188, e189, e190, e191, e192, nm, seval]
        refine ktree (args0 := [.sl (cellsL eI x2_a2) (List.length x2_a2) false, .sl (cellsL eI r91.1) (List.length r91.1) false]) (by first | (simp only [nrm, tynrm] <;> rfl) | rfl) (by simp only [tre, tytre, Bool.and_self]) (g_ref01_Before_ok _ _ _ o262) ?_
        refine fin_cut (fun tm => tm 1 = .sl (cellsL eI x1_a1) (List.length x1_a1) false ∧ tm 3 = .lit (.int .i64 x3_a3) ∧ tm 4 = .ptr 0 0 ∧ tm 9 = .lit (.int .i64 r84.1) ∧ tm 10 = .lit (.int .i64 r84.2.1) ∧ tm 12 = .sl (cellsL eI r91.1) (List.length r91.1) false ∧ tm 16 = .lit (.bool (decide (r140 < x152.Need))) ∧ tm 17 = .lit (.bool false) ∧ tm 145 = .lit (.bool false) ∧ tm 148 = .lit (.bool true) ∧ tm 151 = .lit (.bool r261) ∧ True) (by refine ⟨e181, e183, e184, e185, e186, e187, e189, e190, ?_, ?_, ?_, trivial⟩ <;> first | (simp only [ua, b260, e181, e182, e183, e184, e185, e186, e187, e188, e189, e190, e191, e192, nm, seval] <;> rfl) | rfl) ?_
        rintro tm ⟨e263, e264, e265, e266, e267, e268, e269, e270, e271, e272, e273, _⟩
        cases d274 : (r261)
        ·simp only [d274, hs] at h
         cases d275 : (decide (r140 < x152.Need))
         ·simp only [d275, hs] at h
          cases d276 : (r84.1 == x3_a3)
          ·simp only [d276, hs] at h
           rcases o278 : (g_coat_Holds x0_s x1_a1 r91.1) with _ | r277
           ·simp only [o278, hs] at h
            exact absurd h kN
           simp only [o278, hs] at h
           simp only [vz, tyf, b260, (ix24 o153), e263, e264, e265, e266, e267, e268, e269, e270, e271, e272, e273, d274, d275, d276, nm, seval]
           refine ktree (args0 := [.agg (cGCoatSheet x0_s), .sl (cellsL eI x1_a1) (List.length x1_a1) false, .sl (cellsL eI r91.1) (List.length r91.1) false]) (by first | (simp only [nrm, tynrm] <;> rfl) | rfl) (by simp only [tre, tytre, Bool.and_self]) (g_coat_Holds_ok _ _ _ _ o278) ?_
           refine fin_cut (fun tm => tm 191 = .tup [.lit (.bool r277.1), .lit (.int .i64 r277.2)] ∧ True) (by refine ⟨?_, trivial⟩ <;> first | (simp only [ua, b260, e263, e264, e265, e266, e267, e268, e269, e270, e271, e272, e273, d274, d275, d276, nm, seval] <;> rfl) | rfl) ?_
           rintro tm ⟨e279, _⟩
           cases d280 : (r277.2 == 0)
           ·simp only [d280, hs] at h
            try simp only [vz, tyf, b260, (ix24 o153), d274, d275, d276, e279, d280, nm, seval]
            obtain rfl := kF _ h
            exact opd_bool Tryz.results7 rfl
           simp only [d280, hs] at h
           cases d281 : (r277.1)
           ·simp only [d281, hs] at h
            simp only [vz, tyf, b260, (ix24 o153), d274, d275, d276, e279, d280, d281, nm, seval]
            refine ktree0 g_law03_known_ok ?_
            try simp only [vz, tyf, b260, (ix24 o153), d274, d275, d276, e279, d280, d281, nm, seval]
            obtain rfl := kF _ h
            exact opd_bool Tryz.results7 rfl
           simp only [d281, hs] at h
           try simp only [vz, tyf, b260, (ix24 o153), d274, d275, d276, e279, d280, d281, nm, seval]
           obtain rfl := kF _ h
           exact opd_bool Tryz.results7 rfl
          simp only [d276, hs] at h
          cases d282 : ((r84.2.1 == 1) != false)
          ·simp only [d282, hs] at h
           try simp only [vz, tyf, b260, (ix24 o153), e263, e264, e265, e266, e267, e268, e269, e270, e271, e272, e273, d274, d275, d276, d282, nm, seval]
           obtain rfl := kF _ h
           exact opd_bool Tryz.results7 rfl
          simp only [d282, hs] at h
          try simp only [vz, tyf, b260, (ix24 o153), e263, e264, e265, e266, e267, e268, e269, e270, e271, e272, e273, d274, d275, d276, d282, nm, seval]
          obtain rfl := kF _ h
          exact opd_bool Tryz.results7 rfl
         simp only [d275, hs] at h
         cases d283 : (decide (r84.1 > x3_a3))
         ·simp only [d283, hs] at h
          cases d284 : (r84.1 == x3_a3)
          ·simp only [d284, hs] at h
           rcases o286 : (g_coat_Holds x0_s x1_a1 r91.1) with _ | r285
           ·simp only [o286, hs] at h
            exact absurd h kN
           simp only [o286, hs] at h
           simp only [vz, tyf, b260, (ix24 o153), e263, e264, e265, e266, e267, e268, e269, e270, e271, e272, e273, d274, d275, d283, d284, nm, seval]
           refine ktree (args0 := [.agg (cGCoatSheet x0_s), .sl (cellsL eI x1_a1) (List.length x1_a1) false, .sl (cellsL eI r91.1) (List.length r91.1) false]) (by first | (simp only [nrm, tynrm] <;> rfl) | rfl) (by simp only [tre, tytre, Bool.and_self]) (g_coat_Holds_ok _ _ _ _ o286) ?_
           refine fin_cut (fun tm => tm 191 = .tup [.lit (.bool r285.1), .lit (.int .i64 r285.2)] ∧ True) (by refine ⟨?_, trivial⟩ <;> first | (simp only [ua, b260, e263, e264, e265, e266, e267, e268, e269, e270, e271, e272, e273, d274, d275, d283, d284, nm, seval] <;> rfl) | rfl) ?_
           rintro tm ⟨e287, _⟩
           cases d288 : (r285.2 == 0)
           ·simp only [d288, hs] at h
            try simp only [vz, tyf, b260, (ix24 o153), d274, d275, d283, d284, e287, d288, nm, seval]
            obtain rfl := kF _ h
            exact opd_bool Tryz.results7 rfl
           simp only [d288, hs] at h
           cases d289 : (r285.1)
           ·simp only [d289, hs] at h
            have b290 := And.intro b260 (And.intro d274 (And.intro d275 (And.intro d283 (And.intro d284 (And.intro d288 d289)))))
            simp only [vz, tyf, b290, (ix24 o153), e287, nm, seval]
            refine ktree0 g_law03_known_ok ?_
            try simp only [vz, tyf, b290, (ix24 o153), e287, nm, seval]
            obtain rfl := kF _ h
            exact opd_bool Tryz.results7 rfl
           simp only [d289, hs] at h
           have b291 := And.intro b260 (And.intro d274 (And.intro d275 (And.intro d283 (And.intro d284 (And.intro d288 d289)))))
           try simp only [vz, tyf, b291, (ix24 o153), e287, nm, seval]
           obtain rfl := kF _ h
           exact opd_bool Tryz.results7 rfl
          simp only [d284, hs] at h
          cases d292 : ((r84.2.1 == 1) != true)
          ·simp only [d292, hs] at h
           rcases o294 : (g_coat_Holds x0_s x1_a1 r91.1) with _ | r293
           ·simp only [o294, hs] at h
            exact absurd h kN
           simp only [o294, hs] at h
           simp only [vz, tyf, b260, (ix24 o153), e263, e264, e265, e266, e267, e268, e269, e270, e271, e272, e273, d274, d275, d283, d284, d292, nm, seval]
           refine ktree (args0 := [.agg (cGCoatSheet x0_s), .sl (cellsL eI x1_a1) (List.length x1_a1) false, .sl (cellsL eI r91.1) (List.length r91.1) false]) (by first | (simp only [nrm, tynrm] <;> rfl) | rfl) (by simp only [tre, tytre, Bool.and_self]) (g_coat_Holds_ok _ _ _ _ o294) ?_
           refine fin_cut (fun tm => tm 191 = .tup [.lit (.bool r293.1), .lit (.int .i64 r293.2)] ∧ True) (by refine ⟨?_, trivial⟩ <;> first | (simp only [ua, b260, e263, e264, e265, e266, e267, e268, e269, e270, e271, e272, e273, d274, d275, d283, d284, d292, nm, seval] <;> rfl) | rfl) ?_
           rintro tm ⟨e295, _⟩
           cases d296 : (r293.2 == 0)
           ·simp only [d296, hs] at h
            have b297 := And.intro b260 (And.intro d274 (And.intro d275 (And.intro d283 (And.intro d284 (And.intro d292 d296)))))
            try simp only [vz, tyf, b297, (ix24 o153), e295, nm, seval]
            obtain rfl := kF _ h
            exact opd_bool Tryz.results7 rfl
           simp only [d296, hs] at h
           have b298 := And.intro b260 (And.intro d274 (And.intro d275 (And.intro d283 (And.intro d284 (And.intro d292 d296)))))
           cases d299 : (r293.1)
           ·simp only [d299, hs] at h
            simp only [vz, tyf, b298, (ix24 o153), e295, d299, nm, seval]
            refine ktree0 g_law03_known_ok ?_
            try simp only [vz, tyf, b298, (ix24 o153), e295, d299, nm, seval]
            obtain rfl := kF _ h
            exact opd_bool Tryz.results7 rfl
           simp only [d299, hs] at h
           try simp only [vz, tyf, b298, (ix24 o153), e295, d299, nm, seval]
           obtain rfl := kF _ h
           exact opd_bool Tryz.results7 rfl
          simp only [d292, hs] at h
          try simp only [vz, tyf, b260, (ix24 o153), e263, e264, e265, e266, e267, e268, e269, e270, e271, e272, e273, d274, d275, d283, d284, d292, nm, seval]
          obtain rfl := kF _ h
          exact opd_bool Tryz.results7 rfl
         simp only [d283, hs] at h
         try simp only [vz, tyf, b260, (ix24 o153), e263, e264, e265, e266, e267, e268, e269, e270, e271, e272, e273, d274, d275, d283, nm, seval]
         obtain rfl := kF _ h
         exact opd_bool Tryz.results7 rfl
        simp only [d274, hs] at h
        try simp only [vz, tyf, b260, (ix24 o153), e263, e264, e265, e266, e267, e268, e269, e270, e271, e272, e273, d274, nm, seval]
        obtain rfl := kF _ h
        exact opd_bool Tryz.results7 rfl
       simp only [d259, hs] at h
       have b300 := And.intro b116 (And.intro d164 (And.intro d178 (And.intro d193 (And.intro d194 (And.intro d258 d259)))))
       cases d301 : (decide (r140 < x152.Need))
       ·simp only [d301, hs] at h
        cases d302 : (r84.1 == x3_a3)
        ·simp only [d302, hs] at h
         rcases o304 : (g_coat_Holds x0_s x1_a1 r91.1) with _ | r303
         ·simp only [o304, hs] at h
          exact absurd h kN
         simp only [o304, hs] at h
         simp only [vz, tyf, b300, (ix24 o153), e181, e182, e183, e184, e185, e186, e187, e188, e189, e190, e191, e192, d301, d302, nm, seval]
         refine ktree (args0 := [.agg (cGCoatSheet x0_s), .sl (cellsL eI x1_a1) (List.length x1_a1) false, .sl (cellsL eI r91.1) (List.length r91.1) false]) (by first | (simp only [nrm, tynrm] <;> rfl) | rfl) (by simp only [tre, tytre, Bool.and_self]) (g_coat_Holds_ok _ _ _ _ o304) ?_
         refine fin_cut (fun tm => tm 191 = .tup [.lit (.bool r303.1), .lit (.int .i64 r303.2)] ∧ True) (by refine ⟨?_, trivial⟩ <;> first | (simp only [ua, b300, e181, e182, e183, e184, e185, e186, e187, e188, e189, e190, e191, e192, d301, d302, nm, seval] <;> rfl) | rfl) ?_
         rintro tm ⟨e305, _⟩
         cases d306 : (r303.2 == 0)
         ·simp only [d306, hs] at h
          try simp only [vz, tyf, b300, (ix24 o153), d301, d302, e305, d306, nm, seval]
          obtain rfl := kF _ h
          exact opd_bool Tryz.results7 rfl
         simp only [d306, hs] at h
         cases d307 : (r303.1)
         ·simp only [d307, hs] at h
          simp only [vz, tyf, b300, (ix24 o153), d301, d302, e305, d306, d307, nm, seval]
          refine ktree0 g_law03_known_ok ?_
          try simp only [vz, tyf, b300, (ix24 o153), d301, d302, e305, d306, d307, nm, seval]
          obtain rfl := kF _ h
          exact opd_bool Tryz.results7 rfl
         simp only [d307, hs] at h
         try simp only [vz, tyf, b300, (ix24 o153), d301, d302, e305, d306, d307, nm, seval]
         obtain rfl := kF _ h
         exact opd_bool Tryz.results7 rfl
        simp only [d302, hs] at h
        cases d308 : ((r84.2.1 == 1) != false)
        ·simp only [d308, hs] at h
         try simp only [vz, tyf, b300, (ix24 o153), e181, e182, e183, e184, e185, e186, e187, e188, e189, e190, e191, e192, d301, d302, d308, nm, seval]
         obtain rfl := kF _ h
         exact opd_bool Tryz.results7 rfl
        simp only [d308, hs] at h
        try simp only [vz, tyf, b300, (ix24 o153), e181, e182, e183, e184, e185, e186, e187, e188, e189, e190, e191, e192, d301, d302, d308, nm, seval]
        obtain rfl := kF _ h
        exact opd_bool Tryz.results7 rfl
       simp only [d301, hs] at h
       cases d309 : (decide (r84.1 > x3_a3))
       ·simp only [d309, hs] at h
        cases d310 : (r84.1 == x3_a3)
        ·simp only [d310, hs] at h
         rcases o312 : (g_coat_Holds x0_s x1_a1 r91.1) with _ | r311
         ·simp only [o312, hs] at h
          exact absurd h kN
         simp only [o312, hs] at h
         simp only [vz, tyf, b300, (ix24 o153), e181, e182, e183, e184, e185, e186, e187, e188, e189, e190, e191, e192, d301, d309, d310, nm, seval]
         refine ktree (args0 := [.agg (cGCoatSheet x0_s), .sl (cellsL eI x1_a1) (List.length x1_a1) false, .sl (cellsL eI r91.1) (List.length r91.1) false]) (by first | (simp only [nrm, tynrm] <;> rfl) | rfl) (by simp only [tre, tytre, Bool.and_self]) (g_coat_Holds_ok _ _ _ _ o312) ?_
         refine fin_cut (fun tm => tm 191 = .tup [.lit (.bool r311.1), .lit (.int .i64 r311.2)] ∧ True) (by refine ⟨?_, trivial⟩ <;> first | (simp only [ua, b300, e181, e182, e183, e184, e185, e186, e187, e188, e189, e190, e191, e192, d301, d309, d310, nm, seval] <;> rfl) | rfl) ?_
         rintro tm ⟨e313, _⟩
         cases d314 : (r311.2 == 0)
         ·simp only [d314, hs] at h
          try simp only [vz, tyf, b300, (ix24 o153), d301, d309, d310, e313, d314, nm, seval]
          obtain rfl := kF _ h
          exact opd_bool Tryz.results7 rfl
         simp only [d314, hs] at h
         cases d315 : (r311.1)
         ·simp only [d315, hs] at h
          simp only [vz, tyf, b300, (ix24 o153), d301, d309, d310, e313, d314, d315, nm, seval]
          refine ktree0 g_law03_known_ok ?_
          try simp only [vz, tyf, b300, (ix24 o153), d301, d309, d310, e313, d314, d315, nm, seval]
          obtain rfl := kF _ h
          exact opd_bool Tryz.results7 rfl
         simp only [d315, hs] at h
         try simp only [vz, tyf, b300, (ix24 o153), d301, d309, d310, e313, d314, d315, nm, seval]
         obtain rfl := kF _ h
         exact opd_bool Tryz.results7 rfl
        simp only [d310, hs] at h
        cases d316 : ((r84.2.1 == 1) != true)
        ·simp only [d316, hs] at h
         rcases o318 : (g_coat_Holds x0_s x1_a1 r91.1) with _ | r317
         ·simp only [o318, hs] at h
          exact absurd h kN
         simp only [o318, hs] at h
         simp only [vz, tyf, b300, (ix24 o153), e181, e182, e183, e184, e185, e186, e187, e188, e189, e190, e191, e192, d301, d309, d310, d316, nm, seval]
         refine ktree (args0 := [.agg (cGCoatSheet x0_s), .sl (cellsL eI x1_a1) (List.length x1_a1) false, .sl (cellsL eI r91.1) (List.length r91.1) false]) (by first | (simp only [nrm, tynrm] <;> rfl) | rfl) (by simp only [tre, tytre, Bool.and_self]) (g_coat_Holds_ok _ _ _ _ o318) ?_
         refine fin_cut (fun tm => tm 191 = .tup [.lit (.bool r317.1), .lit (.int .i64 r317.2)] ∧ True) (by refine ⟨?_, trivial⟩ <;> first | (simp only [ua, b300, e181, e182, e183, e184, e185, e186, e187, e188, e189, e190, e191, e192, d301, d309, d310, d316, nm, seval] <;> rfl) | rfl) ?_
         rintro tm ⟨e319, _⟩
         cases d320 : (r317.2 == 0)
         ·simp only [d320, hs] at h
          try simp only [vz, tyf, b300, (ix24 o153), d301, d309, d310, d316, e319, d320, nm, seval]
          obtain rfl := kF _ h
          exact opd_bool Tryz.results7 rfl
         simp only [d320, hs] at h
         cases d321 : (r317.1)
         ·simp only [d321, hs] at h
          have b322 := And.intro b300 (And.intro d301 (And.intro d309 (And.intro d310 (And.intro d316 (And.intro d320 d321)))))
          simp only [vz, tyf, b322, (ix24 o153), e319, nm, seval]
          refine ktree0 g_law03_known_ok ?_
          try simp only [vz, tyf, b322, (ix24 o153), e319, nm, seval]
          obtain rfl := kF _ h
          exact opd_bool Tryz.results7 rfl
         simp only [d321, hs] at h
         have b323 := And.intro b300 (And.intro d301 (And.intro d309 (And.intro d310 (And.intro d316 (And.intro d320 d321)))))
         try simp only [vz, tyf, b323, (ix24 o153), e319, nm, seval]
         obtain rfl := kF _ h
         exact opd_bool Tryz.results7 rfl
        simp only [d316, hs] at h
        try simp only [vz, tyf, b300, (ix24 o153), e181, e182, e183, e184, e185, e186, e187, e188, e189, e190, e191, e192, d301, d309, d310, d316, nm, seval]
        obtain rfl := kF _ h
        exact opd_bool Tryz.results7 rfl
       simp only [d309, hs] at h
       try simp only [vz, tyf, b300, (ix24 o153), e181, e182, e183, e184, e185, e186, e187, e188, e189, e190, e191, e192, d301, d309, nm, seval]
       obtain rfl := kF _ h
       exact opd_bool Tryz.results7 rfl
      simp only [d258, hs] at h
      try simp only [vz, tyf, b116, (ix24 o153), d164, d178, e181, e182, e183, e184, e185, e186, e187, e188, e189, e190, e191, e192, d193, d194, d258, nm, seval]
      obtain rfl := kF _ h
      exact opd_bool Tryz.results7 rfl
     simp only [d164, hs] at h
     rcases o325 : (g_ref03_Highs x0_s) with _ | r324
     ·simp only [o325, hs] at h
      exact absurd h kN
     simp only [o325, hs] at h
     simp only [vz, tyf, b116, (ix24 o153), e154, e155, e156, e157, e158, e159, e160, e161, e162, e163, d164, nm, seval]
     refine dktree (args0 := [.agg (cGCoatSheet x0_s)]) (by first | (simp only [nrm, tynrm] <;> rfl) | rfl) (by simp only [tre, tytre, Bool.and_self]) (g_ref03_Highs_ok _ _ o325) ?_
     refine fin_cut (fun tm => tm 1 = .sl (cellsL eI x1_a1) (List.length x1_a1) false ∧ tm 2 = .sl (cellsL eI x2_a2) (List.length x2_a2) false ∧ tm 3 = .lit (.int .i64 x3_a3) ∧ tm 4 = .ptr 0 0 ∧ tm 9 = .lit (.int .i64 r84.1) ∧ tm 10 = .lit (.int .i64 r84.2.1) ∧ tm 11 = .lit (.int .i64 r84.2.2) ∧ tm 12 = .sl (cellsL eI r91.1) (List.length r91.1) false ∧ tm 14 = .lit (.bool r101.1) ∧ tm 16 = .lit (.bool (decide (r140 < x152.Need))) ∧ tm 102 = .lit (.bool true) ∧ tm 103 = .sl (cellsL eI x1_a1) (List.length x1_a1) false ∧ tm 104 = .lit (.int .i64 x3_a3) ∧ tm 106 = .sl (cellsL eI r324) (List.length r324) false ∧ True) (by refine ⟨e154, e155, e156, e157, e158, e159, e160, e161, e162, e163, ?_, ?_, ?_, ?_, trivial⟩ <;> first | (simp only [ua, b116, e154, e155, e156, e157, e158, e159, e160, e161, e162, e163, d164, nm, seval] <;> rfl) | rfl) ?_
     rintro tm ⟨e326, e327, e328, e329, e330, e331, e332, e333, e334, e335, e336, e337, e338, e339, _⟩
     rcases o341 : (g_ref03_Dries x1_a1 x3_a3 r324) with _ | r340
     ·simp only [o341, hs] at h
      exact absurd h kN
     simp only [o341, hs] at h
     simp only [vz, tyf, b116, (ix24 o153), d164, e326, e327, e328, e329, e330, e331, e332, e333, e334, e335, e336, e337, e338, e339, nm, seval]
     refine dktree (args0 := [.sl (cellsL eI x1_a1) (List.length x1_a1) false, .lit (.int .i64 x3_a3), .sl (cellsL eI r324) (List.length r324) false]) (by first | (simp only [nrm, tynrm] <;> rfl) | rfl) (by simp only [tre, tytre, Bool.and_self]) (g_ref03_Dries_ok _ _ _ _ o341) ?_
     refine fin_cut (fun tm => tm 1 = .sl (cellsL eI x1_a1) (List.length x1_a1) false ∧ tm 2 = .sl (cellsL eI x2_a2) (List.length x2_a2) false ∧ tm 3 = .lit (.int .i64 x3_a3) ∧ tm 4 = .ptr 0 0 ∧ tm 9 = .lit (.int .i64 r84.1) ∧ tm 10 = .lit (.int .i64 r84.2.1) ∧ tm 11 = .lit (.int .i64 r84.2.2) ∧ tm 12 = .sl (cellsL eI r91.1) (List.length r91.1) false ∧ tm 14 = .lit (.bool r101.1) ∧ tm 16 = .lit (.bool (decide (r140 < x152.Need))) ∧ tm 102 = .lit (.bool true) ∧ tm 107 = .lit (.int .i64 r340) ∧ True) (by refine ⟨e326, e327, e328, e329, e330, e331, e332, e333, e334, e335, e336, ?_, trivial⟩ <;> first | (simp only [ua, b116, d164, e326, e327, e328, e329, e330, e331, e332, e333, e334, e335, e336, e337, e338, e339, nm, seval] <;> rfl) | rfl) ?_
     rintro tm ⟨e342, e343, e344, e345, e346, e347, e348, e349, e350, e351, e352, e353, _⟩
     rcases o355 : (g_ref03_Coat x0_s r84.1) with _ | r354
     ·simp only [o355, hs] at h
      exact absurd h kN
     simp only [o355, hs] at h
     simp only [vz, tyf, b116, (ix24 o153), d164, e342, e343, e344, e345, e346, e347, e348, e349, e350, e351, e352, e353, nm, seval]
     refine ktree (args0 := [.agg (cGCoatSheet x0_s), .lit (.int .i64 r84.1)]) (by first | (simp only [nrm, tynrm] <;> rfl) | rfl) (by simp only [tre, tytre, Bool.and_self]) (g_ref03_Coat_ok _ _ _ o355) ?_
     refine fin_cut (fun tm => tm 1 = .sl (cellsL eI x1_a1) (List.length x1_a1) false ∧ tm 2 = .sl (cellsL eI x2_a2) (List.length x2_a2) false ∧ tm 3 = .lit (.int .i64 x3_a3) ∧ tm 4 = .ptr 0 0 ∧ tm 9 = .lit (.int .i64 r84.1) ∧ tm 10 = .lit (.int .i64 r84.2.1) ∧ tm 12 = .sl (cellsL eI r91.1) (List.length r91.1) false ∧ tm 14 = .lit (.bool r101.1) ∧ tm 16 = .lit (.bool (decide (r140 < x152.Need))) ∧ tm 17 = .lit (.bool (decide (r340 > x152.Peel))) ∧ tm 129 = .lit (.bool r354) ∧ True) (by refine ⟨e342, e343, e344, e345, e346, e347, e349, e350, e351, ?_, ?_, trivial⟩ <;> first | (simp only [ua, b116, d164, e342, e343, e344, e345, e346, e347, e348, e349, e350, e351, e352, e353, nm, seval] <;> rfl) | rfl) ?_
     rintro tm ⟨e356, e357, e358, e359, e360, e361, e362, e363, e364, e365, e366, _⟩
     cases d367 : (r354)
     ·simp only [d367, hs] at h
      try simp only [vz, tyf, b116, (ix24 o153), d164, e356, e357, e358, e359, e360, e361, e362, e363, e364, e365, e366, d367, nm, seval]
      obtain rfl := kF _ h
      exact opd_bool Tryz.results7 rfl
     simp only [d367, hs] at h
     rcases o369 : (g_ref03_Weather x0_s r91.1) with _ | r368
     ·simp only [o369, hs] at h
      exact absurd h kN
     simp only [o369, hs] at h
     simp only [vz, tyf, b116, (ix24 o153), d164, e356, e357, e358, e359, e360, e361, e362, e363, e364, e365, e366, d367, nm, seval]
     refine ktree (args0 := [.agg (cGCoatSheet x0_s), .sl (cellsL eI r91.1) (List.length r91.1) false]) (by first | (simp only [nrm, tynrm] <;> rfl) | rfl) (by simp only [tre, tytre, Bool.and_self]) (g_ref03_Weather_ok _ _ _ o369) ?_
     refine fin_cut (fun tm => tm 1 = .sl (cellsL eI x1_a1) (List.length x1_a1) false ∧ tm 2 = .sl (cellsL eI x2_a2) (List.length x2_a2) false ∧ tm 3 = .lit (.int .i64 x3_a3) ∧ tm 4 = .ptr 0 0 ∧ tm 9 = .lit (.int .i64 r84.1) ∧ tm 10 = .lit (.int .i64 r84.2.1) ∧ tm 12 = .sl (cellsL eI r91.1) (List.length r91.1) false ∧ tm 14 = .lit (.bool r101.1) ∧ tm 16 = .lit (.bool (decide (r140 < x152.Need))) ∧ tm 17 = .lit (.bool (decide (r340 > x152.Peel))) ∧ tm 131 = .lit (.bool false) ∧ tm 134 = .lit (.bool r368) ∧ True) (by refine ⟨e356, e357, e358, e359, e360, e361, e362, e363, e364, e365, ?_, ?_, trivial⟩ <;> first | (simp only [ua, b116, d164, e356, e357, e358, e359, e360, e361, e362, e363, e364, e365, e366, d367, nm, seval] <;> rfl) | rfl) ?_
     rintro tm ⟨e370, e371, e372, e373, e374, e375, e376, e377, e378, e379, e380, e381, _⟩
     cases d382 : (r368)
     ·simp only [d382, hs] at h
      try simp only [vz, tyf, b116, (ix24 o153), d164, d367, e370, e371, e372, e373, e374, e375, e376, e377, e378, e379, e380, e381, d382, nm, seval]
      obtain rfl := kF _ h
      exact opd_bool Tryz.results7 rfl
     simp only [d382, hs] at h
     cases d383 : (r84.2.1 != 1)
     ·simp only [d383, hs] at h
      cases d384 : (r101.1)
      ·simp only [d384, hs] at h
       rcases o386 : (g_ref01_Before x2_a2 r91.1) with _ | r385
       ·simp only [o386, hs] at h
        exact absurd h kN
       simp only [o386, hs] at h
       simp only [vz, tyf, b116, (ix24 o153), d164, d367, e370, e371, e372, e373, e374, e375, e376, e377, e378, e379, e380, e381, d382, d383, d384, nm, seval]
       refine ktree (args0 := [.sl (cellsL eI x2_a2) (List.length x2_a2) false, .sl (cellsL eI r91.1) (List.length r91.1) false]) (by first | (simp only [nrm, tynrm] <;> rfl) | rfl) (by simp only [tre, tytre, Bool.and_self]) (g_ref01_Before_ok _ _ _ o386) ?_
       refine fin_cut (fun tm => tm 1 = .sl (cellsL eI x1_a1) (List.length x1_a1) false ∧ tm 3 = .lit (.int .i64 x3_a3) ∧ tm 4 = .ptr 0 0 ∧ tm 9 = .lit (.int .i64 r84.1) ∧ tm 10 = .lit (.int .i64 r84.2.1) ∧ tm 12 = .sl (cellsL eI r91.1) (List.length r91.1) false ∧ tm 16 = .lit (.bool (decide (r140 < x152.Need))) ∧ tm 17 = .lit (.bool (decide (r340 > x152.Peel))) ∧ tm 145 = .lit (.bool false) ∧ tm 148 = .lit (.bool true) ∧ tm 151 = .lit (.bool r385) ∧ True) (by refine ⟨e370, e372, e373, e374, e375, e376, e378, e379, ?_, ?_, ?_, trivial⟩ <;> first | (simp only [ua, b116, d164, d367, e370, e371, e372, e373, e374, e375, e376, e377, e378, e379, e380, e381, d382, d383, d384, nm, seval] <;> rfl) | rfl) ?_
       rintro tm ⟨e387, e388, e389, e390, e391, e392, e393, e394, e395, e396, e397, _⟩
       cases d398 : (r385)
       ·simp only [d398, hs] at h
        have b399 := And.intro b116 (And.intro d164 (And.intro d367 (And.intro d382 (And.intro d383 (And.intro d384 d398)))))
        cases d400 : (decide (r140 < x152.Need))
        ·simp only [d400, hs] at h
         cases d401 : (decide (r340 > x152.Peel))
         ·simp only [d401, hs] at h
          cases d402 : (r84.1 == x3_a3)
          ·simp only [d402, hs] at h
           rcases o404 : (g_coat_Holds x0_s x1_a1 r91.1) with _ | r403
           ·simp only [o404, hs] at h
            exact absurd h kN
           simp only [o404, hs] at h
           simp only [vz, tyf, b399, (ix24 o153), e387, e388, e389, e390, e391, e392, e393, e394, e395, e396, e397, d400, d401, d402, nm, seval]
           refine ktree (args0 := [.agg (cGCoatSheet x0_s), .sl (cellsL eI x1_a1) (List.length x1_a1) false, .sl (cellsL eI r91.1) (List.length r91.1) false]) (by first | (simp only [nrm, tynrm] <;> rfl) | rfl) (by simp only [tre, tytre, Bool.and_self]) (g_coat_Holds_ok _ _ _ _ o404) ?_
           refine fin_cut (fun tm => tm 191 = .tup [.lit (.bool r403.1), .lit (.int .i64 r403.2)] ∧ True) (by refine ⟨?_, trivial⟩ <;> first | (simp only [ua, b399, e387, e388, e389, e390, e391, e392, e393, e394, e395, e396, e397, d400, d401, d402, nm, seval] <;> rfl) | rfl) ?_
           rintro tm ⟨e405, _⟩
           cases d406 : (r403.2 == 0)
           ·simp only [d406, hs] at h
            try simp only [vz, tyf, b399, (ix24 o153), d400, d401, d402, e405, d406, nm, seval]
            obtain rfl := kF _ h
            exact opd_bool Tryz.results7 rfl
           simp only [d406, hs] at h
           cases d407 : (r403.1)
           ·simp only [d407, hs] at h
            simp only [vz, tyf, b399, (ix24 o153), d400, d401, d402, e405, d406, d407, nm, seval]
            refine ktree0 g_law03_known_ok ?_
            try simp only [vz, tyf, b399, (ix24 o153), d400, d401, d402, e405, d406, d407, nm, seval]
            obtain rfl := kF _ h
            exact opd_bool Tryz.results7 rfl
           simp only [d407, hs] at h
           try simp only [vz, tyf, b399, (ix24 o153), d400, d401, d402, e405, d406, d407, nm, seval]
           obtain rfl := kF _ h
           exact opd_bool Tryz.results7 rfl
          simp only [d402, hs] at h
          cases d408 : ((r84.2.1 == 1) != false)
          ·simp only [d408, hs] at h
           try simp only [vz, tyf, b399, (ix24 o153), e387, e388, e389, e390, e391, e392, e393, e394, e395, e396, e397, d400, d401, d402, d408, nm, seval]
           obtain rfl := kF _ h
           exact opd_bool Tryz.results7 rfl
          simp only [d408, hs] at h
          try simp only [vz, tyf, b399, (ix24 o153), e387, e388, e389, e390, e391, e392, e393, e394, e395, e396, e397, d400, d401, d402, d408, nm, seval]
          obtain rfl := kF _ h
          exact opd_bool Tryz.results7 rfl
         simp only [d401, hs] at h
         cases d409 : (decide (r84.1 > x3_a3))
         ·simp only [d409, hs] at h
          cases d410 : (r84.1 == x3_a3)
          ·simp only [d410, hs] at h
           rcases o412 : (g_coat_Holds x0_s x1_a1 r91.1) with _ | r411
           ·simp only [o412, hs] at h
            exact absurd h kN
           simp only [o412, hs] at h
           simp only [vz, tyf, b399, (ix24 o153), e387, e388, e389, e390, e391, e392, e393, e394, e395, e396, e397, d400, d401, d409, d410, nm, seval]
           refine ktree (args0 := [.agg (cGCoatSheet x0_s), .sl (cellsL eI x1_a1) (List.length x1_a1) false, .sl (cellsL eI r91.1) (List.length r91.1) false]) (by first | (simp only [nrm, tynrm] <;> rfl) | rfl) (by simp only [tre, tytre, Bool.and_self]) (g_coat_Holds_ok _ _ _ _ o412) ?_
           refine fin_cut (fun tm => tm 191 = .tup [.lit (.bool r411.1), .lit (.int .i64 r411.2)] ∧ True) (by refine ⟨?_, trivial⟩ <;> first | (simp only [ua, b399, e387, e388, e389, e390, e391, e392, e393, e394, e395, e396, e397, d400, d401, d409, d410, nm, seval] <;> rfl) | rfl) ?_
           rintro tm ⟨e413, _⟩
           cases d414 : (r411.2 == 0)
           ·simp only [d414, hs] at h
            try simp only [vz, tyf, b399, (ix24 o153), d400, d401, d409, d410, e413, d414, nm, seval]
            obtain rfl := kF _ h
            exact opd_bool Tryz.results7 rfl
           simp only [d414, hs] at h
           cases d415 : (r411.1)
           ·simp only [d415, hs] at h
            have b416 := And.intro b399 (And.intro d400 (And.intro d401 (And.intro d409 (And.intro d410 (And.intro d414 d415)))))
            simp only [vz, tyf, b416, (ix24 o153), e413, nm, seval]
            refine ktree0 g_law03_known_ok ?_
            try simp only [vz, tyf, b416, (ix24 o153), e413, nm, seval]
            obtain rfl := kF _ h
            exact opd_bool Tryz.results7 rfl
           simp only [d415, hs] at h
           have b417 := And.intro b399 (And.intro d400 (And.intro d401 (And.intro d409 (And.intro d410 (And.intro d414 d415)))))
           try simp only [vz, tyf, b417, (ix24 o153), e413, nm, seval]
           obtain rfl := kF _ h
           exact opd_bool Tryz.results7 rfl
          simp only [d410, hs] at h
          cases d418 : ((r84.2.1 == 1) != false)
          ·simp only [d418, hs] at h
           rcases o420 : (g_coat_Holds x0_s x1_a1 r91.1) with _ | r419
           ·simp only [o420, hs] at h
            exact absurd h kN
           simp only [o420, hs] at h
           simp only [vz, tyf, b399, (ix24 o153), e387, e388, e389, e390, e391, e392, e393, e394, e395, e396, e397, d400, d401, d409, d410, d418, nm, seval]
           refine ktree (args0 := [.agg (cGCoatSheet x0_s), .sl (cellsL eI x1_a1) (List.length x1_a1) false, .sl (cellsL eI r91.1) (List.length r91.1) false]) (by first | (simp only [nrm, tynrm] <;> rfl) | rfl) (by simp only [tre, tytre, Bool.and_self]) (g_coat_Holds_ok _ _ _ _ o420) ?_
           refine fin_cut (fun tm => tm 191 = .tup [.lit (.bool r419.1), .lit (.int .i64 r419.2)] ∧ True) (by refine ⟨?_, trivial⟩ <;> first | (simp only [ua, b399, e387, e388, e389, e390, e391, e392, e393, e394, e395, e396, e397, d400, d401, d409, d410, d418, nm, seval] <;> rfl) | rfl) ?_
           rintro tm ⟨e421, _⟩
           cases d422 : (r419.2 == 0)
           ·simp only [d422, hs] at h
            have b423 := And.intro b399 (And.intro d400 (And.intro d401 (And.intro d409 (And.intro d410 (And.intro d418 d422)))))
            try simp only [vz, tyf, b423, (ix24 o153), e421, nm, seval]
            obtain rfl := kF _ h
            exact opd_bool Tryz.results7 rfl
           simp only [d422, hs] at h
           have b424 := And.intro b399 (And.intro d400 (And.intro d401 (And.intro d409 (And.intro d410 (And.intro d418 d422)))))
           cases d425 : (r419.1)
           ·simp only [d425, hs] at h
            simp only [vz, tyf, b424, (ix24 o153), e421, d425, nm, seval]
            refine ktree0 g_law03_known_ok ?_
            try simp only [vz, tyf, b424, (ix24 o153), e421, d425, nm, seval]
            obtain rfl := kF _ h
            exact opd_bool Tryz.results7 rfl
           simp only [d425, hs] at h
           try simp only [vz, tyf, b424, (ix24 o153), e421, d425, nm, seval]
           obtain rfl := kF _ h
           exact opd_bool Tryz.results7 rfl
          simp only [d418, hs] at h
          try simp only [vz, tyf, b399, (ix24 o153), e387, e388, e389, e390, e391, e392, e393, e394, e395, e396, e397, d400, d401, d409, d410, d418, nm, seval]
          obtain rfl := kF _ h
          exact opd_bool Tryz.results7 rfl
         simp only [d409, hs] at h
         try simp only [vz, tyf, b399, (ix24 o153), e387, e388, e389, e390, e391, e392, e393, e394, e395, e396, e397, d400, d401, d409, nm, seval]
         obtain rfl := kF _ h
         exact opd_bool Tryz.results7 rfl
        simp only [d400, hs] at h
        cases d426 : (decide (r84.1 > x3_a3))
        ·simp only [d426, hs] at h
         cases d427 : (r84.1 == x3_a3)
         ·simp only [d427, hs] at h
          rcases o429 : (g_coat_Holds x0_s x1_a1 r91.1) with _ | r428
          ·simp only [o429, hs] at h
           exact absurd h kN
          simp only [o429, hs] at h
          simp only [vz, tyf, b399, (ix24 o153), e387, e388, e389, e390, e391, e392, e393, e394, e395, e396, e397, d400, d426, d427, nm, seval]
          refine ktree (args0 := [.agg (cGCoatSheet x0_s), .sl (cellsL eI x1_a1) (List.length x1_a1) false, .sl (cellsL eI r91.1) (List.length r91.1) false]) (by first | (simp only [nrm, tynrm] <;> rfl) | rfl) (by simp only [tre, tytre, Bool.and_self]) (g_coat_Holds_ok _ _ _ _ o429) ?_
          refine fin_cut (fun tm => tm 191 = .tup [.lit (.bool r428.1), .lit (.int .i64 r428.2)] ∧ True) (by refine ⟨?_, trivial⟩ <;> first | (simp only [ua, b399, e387, e388, e389, e390, e391, e392, e393, e394, e395, e396, e397, d400, d426, d427, nm, seval] <;> rfl) | rfl) ?_
          rintro tm ⟨e430, _⟩
          cases d431 : (r428.2 == 0)
          ·simp only [d431, hs] at h
           try simp only [vz, tyf, b399, (ix24 o153), d400, d426, d427, e430, d431, nm, seval]
           obtain rfl := kF _ h
           exact opd_bool Tryz.results7 rfl
          simp only [d431, hs] at h
          cases d432 : (r428.1)
          ·simp only [d432, hs] at h
           simp only [vz, tyf, b399, (ix24 o153), d400, d426, d427, e430, d431, d432, nm, seval]
           refine ktree0 g_law03_known_ok ?_
           try simp only [vz, tyf, b399, (ix24 o153), d400, d426, d427, e430, d431, d432, nm, seval]
           obtain rfl := kF _ h
           exact opd_bool Tryz.results7 rfl
          simp only [d432, hs] at h
          try simp only [vz, tyf, b399, (ix24 o153), d400, d426, d427, e430, d431, d432, nm, seval]
          obtain rfl := kF _ h
          exact opd_bool Tryz.results7 rfl
         simp only [d427, hs] at h
         cases d433 : ((r84.2.1 == 1) != true)
         ·simp only [d433, hs] at h
          rcases o435 : (g_coat_Holds x0_s x1_a1 r91.1) with _ | r434
          ·simp only [o435, hs] at h
           exact absurd h kN
          simp only [o435, hs] at h
          simp only [vz, tyf, b399, (ix24 o153), e387, e388, e389, e390, e391, e392, e393, e394, e395, e396, e397, d400, d426, d427, d433, nm, seval]
          refine ktree (args0 := [.agg (cGCoatSheet x0_s), .sl (cellsL eI x1_a1) (List.length x1_a1) false, .sl (cellsL eI r91.1) (List.length r91.1) false]) (by first | (simp only [nrm, tynrm] <;> rfl) | rfl) (by simp only [tre, tytre, Bool.and_self]) (g_coat_Holds_ok _ _ _ _ o435) ?_
          refine fin_cut (fun tm => tm 191 = .tup [.lit (.bool r434.1), .lit (.int .i64 r434.2)] ∧ True) (by refine ⟨?_, trivial⟩ <;> first | (simp only [ua, b399, e387, e388, e389, e390, e391, e392, e393, e394, e395, e396, e397, d400, d426, d427, d433, nm, seval] <;> rfl) | rfl) ?_
          rintro tm ⟨e436, _⟩
          cases d437 : (r434.2 == 0)
          ·simp only [d437, hs] at h
           try simp only [vz, tyf, b399, (ix24 o153), d400, d426, d427, d433, e436, d437, nm, seval]
           obtain rfl := kF _ h
           exact opd_bool Tryz.results7 rfl
          simp only [d437, hs] at h
          cases d438 : (r434.1)
          ·simp only [d438, hs] at h
           have b439 := And.intro b399 (And.intro d400 (And.intro d426 (And.intro d427 (And.intro d433 (And.intro d437 d438)))))
           simp only [vz, tyf, b439, (ix24 o153), e436, nm, seval]
           refine ktree0 g_law03_known_ok ?_
           try simp only [vz, tyf, b439, (ix24 o153), e436, nm, seval]
           obtain rfl := kF _ h
           exact opd_bool Tryz.results7 rfl
          simp only [d438, hs] at h
          have b440 := And.intro b399 (And.intro d400 (And.intro d426 (And.intro d427 (And.intro d433 (And.intro d437 d438)))))
          try simp only [vz, tyf, b440, (ix24 o153), e436, nm, seval]
          obtain rfl := kF _ h
          exact opd_bool Tryz.results7 rfl
         simp only [d433, hs] at h
         try simp only [vz, tyf, b399, (ix24 o153), e387, e388, e389, e390, e391, e392, e393, e394, e395, e396, e397, d400, d426, d427, d433, nm, seval]
         obtain rfl := kF _ h
         exact opd_bool Tryz.results7 rfl
        simp only [d426, hs] at h
        try simp only [vz, tyf, b399, (ix24 o153), e387, e388, e389, e390, e391, e392, e393, e394, e395, e396, e397, d400, d426, nm, seval]
        obtain rfl := kF _ h
        exact opd_bool Tryz.results7 rfl
       simp only [d398, hs] at h
       have b441 := And.intro b116 (And.intro d164 (And.intro d367 (And.intro d382 (And.intro d383 (And.intro d384 d398)))))
       try simp only [vz, tyf, b441, (ix24 o153), e387, e388, e389, e390, e391, e392, e393, e394, e395, e396, e397, nm, seval]
       obtain rfl := kF _ h
       exact opd_bool Tryz.results7 rfl
      simp only [d384, hs] at h
      cases d442 : (decide (r140 < x152.Need))
      ·simp only [d442, hs] at h
       have b443 := And.intro b116 (And.intro d164 (And.intro d367 (And.intro d382 (And.intro d383 (And.intro d384 d442)))))
       cases d444 : (decide (r340 > x152.Peel))
       ·simp only [d444, hs] at h
        cases d445 : (r84.1 == x3_a3)
        ·simp only [d445, hs] at h
         rcases o447 : (g_coat_Holds x0_s x1_a1 r91.1) with _ | r446
         ·simp only [o447, hs] at h
          exact absurd h kN
         simp only [o447, hs] at h
         simp only [vz, tyf, b443, (ix24 o153), e370, e371, e372, e373, e374, e375, e376, e377, e378, e379, e380, e381, d444, d445, nm, seval]
         refine ktree (args0 := [.agg (cGCoatSheet x0_s), .sl (cellsL eI x1_a1) (List.length x1_a1) false, .sl (cellsL eI r91.1) (List.length r91.1) false]) (by first | (simp only [nrm, tynrm] <;> rfl) | rfl) (by simp only [tre, tytre, Bool.and_self]) (g_coat_Holds_ok _ _ _ _ o447) ?_
         refine fin_cut (fun tm => tm 191 = .tup [.lit (.bool r446.1), .lit (.int .i64 r446.2)] ∧ True) (by refine ⟨?_, trivial⟩ <;> first | (simp only [ua, b443, e370, e371, e372, e373, e374, e375, e376, e377, e378, e379, e380, e381, d444, d445, nm, seval] <;> rfl) | rfl) ?_
         rintro tm ⟨e448, _⟩
         cases d449 : (r446.2 == 0)
         ·simp only [d449, hs] at h
          try simp only [vz, tyf, b443, (ix24 o153), d444, d445, e448, d449, nm, seval]
          obtain rfl := kF _ h
          exact opd_bool Tryz.results7 rfl
         simp only [d449, hs] at h
         cases d450 : (r446.1)
         ·simp only [d450, hs] at h
          simp only [vz, tyf, b443, (ix24 o153), d444, d445, e448, d449, d450, nm, seval]
          refine ktree0 g_law03_known_ok ?_
          try simp only [vz, tyf, b443, (ix24 o153), d444, d445, e448, d449, d450, nm, seval]
          obtain rfl := kF _ h
          exact opd_bool Tryz.results7 rfl
         simp only [d450, hs] at h
         try simp only [vz, tyf, b443, (ix24 o153), d444, d445, e448, d449, d450, nm, seval]
         obtain rfl := kF _ h
         exact opd_bool Tryz.results7 rfl
        simp only [d445, hs] at h
        cases d451 : ((r84.2.1 == 1) != false)
        ·simp only [d451, hs] at h
         try simp only [vz, tyf, b443, (ix24 o153), e370, e371, e372, e373, e374, e375, e376, e377, e378, e379, e380, e381, d444, d445, d451, nm, seval]
         obtain rfl := kF _ h
         exact opd_bool Tryz.results7 rfl
        simp only [d451, hs] at h
        try simp only [vz, tyf, b443, (ix24 o153), e370, e371, e372, e373, e374, e375, e376, e377, e378, e379, e380, e381, d444, d445, d451, nm, seval]
        obtain rfl := kF _ h
        exact opd_bool Tryz.results7 rfl
       simp only [d444, hs] at h
       cases d452 : (decide (r84.1 > x3_a3))
       ·simp only [d452, hs] at h
        cases d453 : (r84.1 == x3_a3)
        ·simp only [d453, hs] at h
         rcases o455 : (g_coat_Holds x0_s x1_a1 r91.1) with _ | r454
         ·simp only [o455, hs] at h
          exact absurd h kN
         simp only [o455, hs] at h
         simp only [vz, tyf, b443, (ix24 o153), e370, e371, e372, e373, e374, e375, e376, e377, e378, e379, e380, e381, d444, d452, d453, nm, seval]
         refine ktree (args0 := [.agg (cGCoatSheet x0_s), .sl (cellsL eI x1_a1) (List.length x1_a1) false, .sl (cellsL eI r91.1) (List.length r91.1) false]) (by first | (simp only [nrm, tynrm] <;> rfl) | rfl) (by simp only [tre, tytre, Bool.and_self]) (g_coat_Holds_ok _ _ _ _ o455) ?_
         refine fin_cut (fun tm => tm 191 = .tup [.lit (.bool r454.1), .lit (.int .i64 r454.2)] ∧ True) (by refine ⟨?_, trivial⟩ <;> first | (simp only [ua, b443, e370, e371, e372, e373, e374, e375, e376, e377, e378, e379, e380, e381, d444, d452, d453, nm, seval] <;> rfl) | rfl) ?_
         rintro tm ⟨e456, _⟩
         cases d457 : (r454.2 == 0)
         ·simp only [d457, hs] at h
          try simp only [vz, tyf, b443, (ix24 o153), d444, d452, d453, e456, d457, nm, seval]
          obtain rfl := kF _ h
          exact opd_bool Tryz.results7 rfl
         simp only [d457, hs] at h
         cases d458 : (r454.1)
         ·simp only [d458, hs] at h
          simp only [vz, tyf, b443, (ix24 o153), d444, d452, d453, e456, d457, d458, nm, seval]
          refine ktree0 g_law03_known_ok ?_
          try simp only [vz, tyf, b443, (ix24 o153), d444, d452, d453, e456, d457, d458, nm, seval]
          obtain rfl := kF _ h
          exact opd_bool Tryz.results7 rfl
         simp only [d458, hs] at h
         try simp only [vz, tyf, b443, (ix24 o153), d444, d452, d453, e456, d457, d458, nm, seval]
         obtain rfl := kF _ h
         exact opd_bool Tryz.results7 rfl
        simp only [d453, hs] at h
        cases d459 : ((r84.2.1 == 1) != false)
        ·simp only [d459, hs] at h
         rcases o461 : (g_coat_Holds x0_s x1_a1 r91.1) with _ | r460
         ·simp only [o461, hs] at h
          exact absurd h kN
         simp only [o461, hs] at h
         simp only [vz, tyf, b443, (ix24 o153), e370, e371, e372, e373, e374, e375, e376, e377, e378, e379, e380, e381, d444, d452, d453, d459, nm, seval]
         refine ktree (args0 := [.agg (cGCoatSheet x0_s), .sl (cellsL eI x1_a1) (List.length x1_a1) false, .sl (cellsL eI r91.1) (List.length r91.1) false]) (by first | (simp only [nrm, tynrm] <;> rfl) | rfl) (by simp only [tre, tytre, Bool.and_self]) (g_coat_Holds_ok _ _ _ _ o461) ?_
         refine fin_cut (fun tm => tm 191 = .tup [.lit (.bool r460.1), .lit (.int .i64 r460.2)] ∧ True) (by refine ⟨?_, trivial⟩ <;> first | (simp only [ua, b443, e370, e371, e372, e373, e374, e375, e376, e377, e378, e379, e380, e381, d444, d452, d453, d459, nm, seval] <;> rfl) | rfl) ?_
         rintro tm ⟨e462, _⟩
         cases d463 : (r460.2 == 0)
         ·simp only [d463, hs] at h
          try simp only [vz, tyf, b443, (ix24 o153), d444, d452, d453, d459, e462, d463, nm, seval]
          obtain rfl := kF _ h
          exact opd_bool Tryz.results7 rfl
         simp only [d463, hs] at h
         cases d464 : (r460.1)
         ·simp only [d464, hs] at h
          have b465 := And.intro b443 (And.intro d444 (And.intro d452 (And.intro d453 (And.intro d459 (And.intro d463 d464)))))
          simp only [vz, tyf, b465, (ix24 o153), e462, nm, seval]
          refine ktree0 g_law03_known_ok ?_
          try simp only [vz, tyf, b465, (ix24 o153), e462, nm, seval]
          obtain rfl := kF _ h
          exact opd_bool Tryz.results7 rfl
         simp only [d464, hs] at h
         have b466 := And.intro b443 (And.intro d444 (And.intro d452 (And.intro d453 (And.intro d459 (And.intro d463 d464)))))
         try simp only [vz, tyf, b466, (ix24 o153), e462, nm, seval]
         obtain rfl := kF _ h
         exact opd_bool Tryz.results7 rfl
        simp only [d459, hs] at h
        try simp only [vz, tyf, b443, (ix24 o153), e370, e371, e372, e373, e374, e375, e376, e377, e378, e379, e380, e381, d444, d452, d453, d459, nm, seval]
        obtain rfl := kF _ h
        exact opd_bool Tryz.results7 rfl
       simp only [d452, hs] at h
       try simp only [vz, tyf, b443, (ix24 o153), e370, e371, e372, e373, e374, e375, e376, e377, e378, e379, e380, e381, d444, d452, nm, seval]
       obtain rfl := kF _ h
       exact opd_bool Tryz.results7 rfl
      simp only [d442, hs] at h
      have b467 := And.intro b116 (And.intro d164 (And.intro d367 (And.intro d382 (And.intro d383 (And.intro d384 d442)))))
      cases d468 : (decide (r84.1 > x3_a3))
      ·simp only [d468, hs] at h
       cases d469 : (r84.1 == x3_a3)
       ·simp only [d469, hs] at h
        rcases o471 : (g_coat_Holds x0_s x1_a1 r91.1) with _ | r470
        ·simp only [o471, hs] at h
         exact absurd h kN
        simp only [o471, hs] at h
        simp only [vz, tyf, b467, (ix24 o153), e370, e371, e372, e373, e374, e375, e376, e377, e378, e379, e380, e381, d468, d469, nm, seval]
        refine ktree (args0 := [.agg (cGCoatSheet x0_s), .sl (cellsL eI x1_a1) (List.length x1_a1) false, .sl (cellsL eI r91.1) (List.length r91.1) false]) (by first | (simp only [nrm, tynrm] <;> rfl) | rfl) (by simp only [tre, tytre, Bool.and_self]) (g_coat_Holds_ok _ _ _ _ o471) ?_
        refine fin_cut (fun tm => tm 191 = .tup [.lit (.bool r470.1), .lit (.int .i64 r470.2)] ∧ True) (by refine ⟨?_, trivial⟩ <;> first | (simp only [ua, b467, e370, e371, e372, e373, e374, e375, e376, e377, e378, e379, e380, e381, d468, d469, nm, seval] <;> rfl) | rfl) ?_
        rintro tm ⟨e472, _⟩
        cases d473 : (r470.2 == 0)
        ·simp only [d473, hs] at h
         try simp only [vz, tyf, b467, (ix24 o153), d468, d469, e472, d473, nm, seval]
         obtain rfl := kF _ h
         exact opd_bool Tryz.results7 rfl
        simp only [d473, hs] at h
        cases d474 : (r470.1)
        ·simp only [d474, hs] at h
         simp only [vz, tyf, b467, (ix24 o153), d468, d469, e472, d473, d474, nm, seval]
         refine ktree0 g_law03_known_ok ?_
         try simp only [vz, tyf, b467, (ix24 o153), d468, d469, e472, d473, d474, nm, seval]
         obtain rfl := kF _ h
         exact opd_bool Tryz.results7 rfl
        simp only [d474, hs] at h
        try simp only [vz, tyf, b467, (ix24 o153), d468, d469, e472, d473, d474, nm, seval]
        obtain rfl := kF _ h
        exact opd_bool Tryz.results7 rfl
       simp only [d469, hs] at h
       cases d475 : ((r84.2.1 == 1) != true)
       ·simp only [d475, hs] at h
        rcases o477 : (g_coat_Holds x0_s x1_a1 r91.1) with _ | r476
        ·simp only [o477, hs] at h
         exact absurd h kN
        simp only [o477, hs] at h
        simp only [vz, tyf, b467, (ix24 o153), e370, e371, e372, e373, e374, e375, e376, e377, e378, e379, e380, e381, d468, d469, d475, nm, seval]
        refine ktree (args0 := [.agg (cGCoatSheet x0_s), .sl (cellsL eI x1_a1) (List.length x1_a1) false, .sl (cellsL eI r91.1) (List.length r91.1) false]) (by first | (simp only [nrm, tynrm] <;> rfl) | rfl) (by simp only [tre, tytre, Bool.and_self]) (g_coat_Holds_ok _ _ _ _ o477) ?_
        refine fin_cut (fun tm => tm 191 = .tup [.lit (.bool r476.1), .lit (.int .i64 r476.2)] ∧ True) (by refine ⟨?_, trivial⟩ <;> first | (simp only [ua, b467, e370, e371, e372, e373, e374, e375, e376, e377, e378, e379, e380, e381, d468, d469, d475, nm, seval] <;> rfl) | rfl) ?_
        rintro tm ⟨e478, _⟩
        cases d479 : (r476.2 == 0)
        ·simp only [d479, hs] at h
         try simp only [vz, tyf, b467, (ix24 o153), d468, d469, d475, e478, d479, nm, seval]
         obtain rfl := kF _ h
         exact opd_bool Tryz.results7 rfl
        simp only [d479, hs] at h
        cases d480 : (r476.1)
        ·simp only [d480, hs] at h
         simp only [vz, tyf, b467, (ix24 o153), d468, d469, d475, e478, d479, d480, nm, seval]
         refine ktree0 g_law03_known_ok ?_
         try simp only [vz, tyf, b467, (ix24 o153), d468, d469, d475, e478, d479, d480, nm, seval]
         obtain rfl := kF _ h
         exact opd_bool Tryz.results7 rfl
        simp only [d480, hs] at h
        try simp only [vz, tyf, b467, (ix24 o153), d468, d469, d475, e478, d479, d480, nm, seval]
        obtain rfl := kF _ h
        exact opd_bool Tryz.results7 rfl
       simp only [d475, hs] at h
       try simp only [vz, tyf, b467, (ix24 o153), e370, e371, e372, e373, e374, e375, e376, e377, e378, e379, e380, e381, d468, d469, d475, nm, seval]
       obtain rfl := kF _ h
       exact opd_bool Tryz.results7 rfl
      simp only [d468, hs] at h
      try simp only [vz, tyf, b467, (ix24 o153), e370, e371, e372, e373, e374, e375, e376, e377, e378, e379, e380, e381, d468, nm, seval]
      obtain rfl := kF _ h
      exact opd_bool Tryz.results7 rfl
     simp only [d383, hs] at h
     cases d481 : (r84.2.1 != 2)
     ·simp only [d481, hs] at h
      cases d482 : (r101.1)
      ·simp only [d482, hs] at h
       have b483 := And.intro b116 (And.intro d164 (And.intro d367 (And.intro d382 (And.intro d383 (And.intro d481 d482)))))
       rcases o485 : (g_ref01_Before x2_a2 r91.1) with _ | r484
       ·simp only [o485, hs] at h
        exact absurd h kN
       simp only [o485, hs] at h
       simp only [vz, tyf, b483, (ix24 o153), e370, e371, e372, e373, e374, e375, e376, e377, e378, e379, e380, e381, nm, seval]
       refine ktree (args0 := [.sl (cellsL eI x2_a2) (List.length x2_a2) false, .sl (cellsL eI r91.1) (List.length r91.1) false]) (by first | (simp only [nrm, tynrm] <;> rfl) | rfl) (by simp only [tre, tytre, Bool.and_self]) (g_ref01_Before_ok _ _ _ o485) ?_
       refine fin_cut (fun tm => tm 1 = .sl (cellsL eI x1_a1) (List.length x1_a1) false ∧ tm 3 = .lit (.int .i64 x3_a3) ∧ tm 4 = .ptr 0 0 ∧ tm 9 = .lit (.int .i64 r84.1) ∧ tm 10 = .lit (.int .i64 r84.2.1) ∧ tm 12 = .sl (cellsL eI r91.1) (List.length r91.1) false ∧ tm 16 = .lit (.bool (decide (r140 < x152.Need))) ∧ tm 17 = .lit (.bool (decide (r340 > x152.Peel))) ∧ tm 145 = .lit (.bool false) ∧ tm 148 = .lit (.bool true) ∧ tm 151 = .lit (.bool r484) ∧ True) (by refine ⟨e370, e372, e373, e374, e375, e376, e378, e379, ?_, ?_, ?_, trivial⟩ <;> first | (simp only [ua, b483, e370, e371, e372, e373, e374, e375, e376, e377, e378, e379, e380, e381, nm, seval] <;> rfl) | rfl) ?_
       rintro tm ⟨e486, e487, e488, e489, e490, e491, e492, e493, e494, e495, e496, _⟩
       cases d497 : (r484)
       ·simp only [d497, hs] at h
        cases d498 : (decide (r140 < x152.Need))
        ·simp only [d498, hs] at h
         cases d499 : (decide (r340 > x152.Peel))
         ·simp only [d499, hs] at h
          cases d500 : (r84.1 == x3_a3)
          ·simp only [d500, hs] at h
           rcases o502 : (g_coat_Holds x0_s x1_a1 r91.1) with _ | r501
           ·simp only [o502, hs] at h
            exact absurd h kN
           simp only [o502, hs] at h
           simp only [vz, tyf, b483, (ix24 o153), e486, e487, e488, e489, e490, e491, e492, e493, e494, e495, e496, d497, d498, d499, d500, nm, seval]
           refine ktree (args0 := [.agg (cGCoatSheet x0_s), .sl (cellsL eI x1_a1) (List.length x1_a1) false, .sl (cellsL eI r91.1) (List.length r91.1) false]) (by first | (simp only [nrm, tynrm] <;> rfl) | rfl) (by simp only [tre, tytre, Bool.and_self]) (g_coat_Holds_ok _ _ _ _ o502) ?_
           refine fin_cut (fun tm => tm 191 = .tup [.lit (.bool r501.1), .lit (.int .i64 r501.2)] ∧ True) (by refine ⟨?_, trivial⟩ <;> first | (simp only [ua, b483, e486, e487, e488, e489, e490, e491, e492, e493, e494, e495, e496, d497, d498, d499, d500, nm, seval] <;> rfl) | rfl) ?_
           rintro tm ⟨e503, _⟩
           cases d504 : (r501.2 == 0)
           ·simp only [d504, hs] at h
            try simp only [vz, tyf, b483, (ix24 o153), d497, d498, d499, d500, e503, d504, nm, seval]
            obtain rfl := kF _ h
            exact opd_bool Tryz.results7 rfl
           simp only [d504, hs] at h
           cases d505 : (r501.1)
           ·simp only [d505, hs] at h
            have b506 := And.intro b483 (And.intro d497 (And.intro d498 (And.intro d499 (And.intro d500 (And.intro d504 d505)))))
            simp only [vz, tyf, b506, (ix24 o153), e503, nm, seval]
            refine ktree0 g_law03_known_ok ?_
            try simp only [vz, tyf, b506, (ix24 o153), e503, nm, seval]
            obtain rfl := kF _ h
            exact opd_bool Tryz.results7 rfl
           simp only [d505, hs] at h
           have b507 := And.intro b483 (And.intro d497 (And.intro d498 (And.intro d499 (And.intro d500 (And.intro d504 d505)))))
           try simp only [vz, tyf, b507, (ix24 o153), e503, nm, seval]
           obtain rfl := kF _ h
           exact opd_bool Tryz.results7 rfl
          simp only [d500, hs] at h
          cases d508 : ((r84.2.1 == 1) != false)
          ·simp only [d508, hs] at h
           try simp only [vz, tyf, b483, (ix24 o153), e486, e487, e488, e489, e490, e491, e492, e493, e494, e495, e496, d497, d498, d499, d500, d508, nm, seval]
           obtain rfl := kF _ h
           exact opd_bool Tryz.results7 rfl
          simp only [d508, hs] at h
          try simp only [vz, tyf, b483, (ix24 o153), e486, e487, e488, e489, e490, e491, e492, e493, e494, e495, e496, d497, d498, d499, d500, d508, nm, seval]
          obtain rfl := kF _ h
          exact opd_bool Tryz.results7 rfl
         simp only [d499, hs] at h
         cases d509 : (decide (r84.1 > x3_a3))
         ·simp only [d509, hs] at h
          cases d510 : (r84.1 == x3_a3)
          ·simp only [d510, hs] at h
           rcases o512 : (g_coat_Holds x0_s x1_a1 r91.1) with _ | r511
           ·simp only [o512, hs] at h
            exact absurd h kN
           simp only [o512, hs] at h
           simp only [vz, tyf, b483, (ix24 o153), e486, e487, e488, e489, e490, e491, e492, e493, e494, e495, e496, d497, d498, d499, d509, d510, nm, seval]
           refine ktree (args0 := [.agg (cGCoatSheet x0_s), .sl (cellsL eI x1_a1) (List.length x1_a1) false, .sl (cellsL eI r91.1) (List.length r91.1) false]) (by first | (simp only [nrm, tynrm] <;> rfl) | rfl) (by simp only [tre, tytre, Bool.and_self]) (g_coat_Holds_ok _ _ _ _ o512) ?_
           refine fin_cut (fun tm => tm 191 = .tup [.lit (.bool r511.1), .lit (.int .i64 r511.2)] ∧ True) (by refine ⟨?_, trivial⟩ <;> first | (simp only [ua, b483, e486, e487, e488, e489, e490, e491, e492, e493, e494, e495, e496, d497, d498, d499, d509, d510, nm, seval] <;> rfl) | rfl) ?_
           rintro tm ⟨e513, _⟩
           cases d514 : (r511.2 == 0)
           ·simp only [d514, hs] at h
            have b515 := And.intro b483 (And.intro d497 (And.intro d498 (And.intro d499 (And.intro d509 (And.intro d510 d514)))))
            try simp only [vz, tyf, b515, (ix24 o153), e513, nm, seval]
            obtain rfl := kF _ h
            exact opd_bool Tryz.results7 rfl
           simp only [d514, hs] at h
           have b516 := And.intro b483 (And.intro d497 (And.intro d498 (And.intro d499 (And.intro d509 (And.intro d510 d514)))))
           cases d517 : (r511.1)
           ·simp only [d517, hs] at h
            simp only [vz, tyf, b516, (ix24 o153), e513, d517, nm, seval]
            refine ktree0 g_law03_known_ok ?_
            try simp only [vz, tyf, b516, (ix24 o153), e513, d517, nm, seval]
            obtain rfl := kF _ h
            exact opd_bool Tryz.results7 rfl
           simp only [d517, hs] at h
           try simp only [vz, tyf, b516, (ix24 o153), e513, d517, nm, seval]
           obtain rfl := kF _ h
           exact opd_bool Tryz.results7 rfl
          simp only [d510, hs] at h
          cases d518 : ((r84.2.1 == 1) != false)
          ·simp only [d518, hs] at h
           have b519 := And.intro b483 (And.intro d497 (And.intro d498 (And.intro d499 (And.intro d509 (And.intro d510 d518)))))
           rcases o521 : (g_coat_Holds x0_s x1_a1 r91.1) with _ | r520
           ·simp only [o521, hs] at h
            exact absurd h kN
           simp only [o521, hs] at h
           simp only [vz, tyf, b519, (ix24 o153), e486, e487, e488, e489, e490, e491, e492, e493, e494, e495, e496, nm, seval]
           refine ktree (args0 := [.agg (cGCoatSheet x0_s), .sl (cellsL eI x1_a1) (List.length x1_a1) false, .sl (cellsL eI r91.1) (List.length r91.1) false]) (by first | (simp only [nrm, tynrm] <;> rfl) | rfl) (by simp only [tre, tytre, Bool.and_self]) (g_coat_Holds_ok _ _ _ _ o521) ?_
           refine fin_cut (fun tm => tm 191 = .tup [.lit (.bool r520.1), .lit (.int .i64 r520.2)] ∧ True) (by refine ⟨?_, trivial⟩ <;> first | (simp only [ua, b519, e486, e487, e488, e489, e490, e491, e492, e493, e494, e495, e496, nm, seval] <;> rfl) | rfl) ?_
           rintro tm ⟨e522, _⟩
           cases d523 : (r520.2 == 0)
           ·simp only [d523, hs] at h
            try simp only [vz, tyf, b519, (ix24 o153), e522, d523, nm, seval]
            obtain rfl := kF _ h
            exact opd_bool Tryz.results7 rfl
           simp only [d523, hs] at h
           cases d524 : (r520.1)
           ·simp only [d524, hs] at h
            simp only [vz, tyf, b519, (ix24 o153), e522, d523, d524, nm, seval]
            refine ktree0 g_law03_known_ok ?_
            try simp only [vz, tyf, b519, (ix24 o153), e522, d523, d524, nm, seval]
            obtain rfl := kF _ h
            exact opd_bool Tryz.results7 rfl
           simp only [d524, hs] at h
           try simp only [vz, tyf, b519, (ix24 o153), e522, d523, d524, nm, seval]
           obtain rfl := kF _ h
           exact opd_bool Tryz.results7 rfl
          simp only [d518, hs] at h
          have b525 := And.intro b483 (And.intro d497 (And.intro d498 (And.intro d499 (And.intro d509 (And.intro d510 d518)))))
          try simp only [vz, tyf, b525, (ix24 o153), e486, e487, e488, e489, e490, e491, e492, e493, e494, e495, e496, nm, seval]
          obtain rfl := kF _ h
          exact opd_bool Tryz.results7 rfl
         simp only [d509, hs] at h
         try simp only [vz, tyf, b483, (ix24 o153), e486, e487, e488, e489, e490, e491, e492, e493, e494, e495, e496, d497, d498, d499, d509, nm, seval]
         obtain rfl := kF _ h
         exact opd_bool Tryz.results7 rfl
        simp only [d498, hs] at h
        cases d526 : (decide (r84.1 > x3_a3))
        ·simp only [d526, hs] at h
         cases d527 : (r84.1 == x3_a3)
         ·simp only [d527, hs] at h
          rcases o529 : (g_coat_Holds x0_s x1_a1 r91.1) with _ | r528
          ·simp only [o529, hs] at h
           exact absurd h kN
          simp only [o529, hs] at h
          simp only [vz, tyf, b483, (ix24 o153), e486, e487, e488, e489, e490, e491, e492, e493, e494, e495, e496, d497, d498, d526, d527, nm, seval]
          refine ktree (args0 := [.agg (cGCoatSheet x0_s), .sl (cellsL eI x1_a1) (List.length x1_a1) false, .sl (cellsL eI r91.1) (List.length r91.1) false]) (by first | (simp only [nrm, tynrm] <;> rfl) | rfl) (by simp only [tre, tytre, Bool.and_self]) (g_coat_Holds_ok _ _ _ _ o529) ?_
          refine fin_cut (fun tm => tm 191 = .tup [.lit (.bool r528.1), .lit (.int .i64 r528.2)] ∧ True) (by refine ⟨?_, trivial⟩ <;> first | (simp only [ua, b483, e486, e487, e488, e489, e490, e491, e492, e493, e494, e495, e496, d497, d498, d526, d527, nm, seval] <;> rfl) | rfl) ?_
          rintro tm ⟨e530, _⟩
          cases d531 : (r528.2 == 0)
          ·simp only [d531, hs] at h
           try simp only [vz, tyf, b483, (ix24 o153), d497, d498, d526, d527, e530, d531, nm, seval]
           obtain rfl := kF _ h
           exact opd_bool Tryz.results7 rfl
          simp only [d531, hs] at h
          cases d532 : (r528.1)
          ·simp only [d532, hs] at h
           have b533 := And.intro b483 (And.intro d497 (And.intro d498 (And.intro d526 (And.intro d527 (And.intro d531 d532)))))
           simp only [vz, tyf, b533, (ix24 o153), e530, nm, seval]
           refine ktree0 g_law03_known_ok ?_
           try simp only [vz, tyf, b533, (ix24 o153), e530, nm, seval]
           obtain rfl := kF _ h
           exact opd_bool Tryz.results7 rfl
          simp only [d532, hs] at h
          have b534 := And.intro b483 (And.intro d497 (And.intro d498 (And.intro d526 (And.intro d527 (And.intro d531 d532)))))
          try simp only [vz, tyf, b534, (ix24 o153), e530, nm, seval]
          obtain rfl := kF _ h
          exact opd_bool Tryz.results7 rfl
         simp only [d527, hs] at h
         cases d535 : ((r84.2.1 == 1) != true)
         ·simp only [d535, hs] at h
          rcases o537 : (g_coat_Holds x0_s x1_a1 r91.1) with _ | r536
          ·simp only [o537, hs] at h
           exact absurd h kN
          simp only [o537, hs] at h
          simp only [vz, tyf, b483, (ix24 o153), e486, e487, e488, e489, e490, e491, e492, e493, e494, e495, e496, d497, d498, d526, d527, d535, nm, seval]
          refine ktree (args0 := [.agg (cGCoatSheet x0_s), .sl (cellsL eI x1_a1) (List.length x1_a1) false, .sl (cellsL eI r91.1) (List.length r91.1) false]) (by first | (simp only [nrm, tynrm] <;> rfl) | rfl) (by simp only [tre, tytre, Bool.and_self]) (g_coat_Holds_ok _ _ _ _ o537) ?_
          refine fin_cut (fun tm => tm 191 = .tup [.lit (.bool r536.1), .lit (.int .i64 r536.2)] ∧ True) (by refine ⟨?_, trivial⟩ <;> first | (simp only [ua, b483, e486, e487, e488, e489, e490, e491, e492, e493, e494, e495, e496, d497, d498, d526, d527, d535, nm, seval] <;> rfl) | rfl) ?_
          rintro tm ⟨e538, _⟩
          cases d539 : (r536.2 == 0)
          ·simp only [d539, hs] at h
           have b540 := And.intro b483 (And.intro d497 (And.intro d498 (And.intro d526 (And.intro d527 (And.intro d535 d539)))))
           try simp only [vz, tyf, b540, (ix24 o153), e538, nm, seval]
           obtain rfl := kF _ h
           exact opd_bool Tryz.results7 rfl
          simp only [d539, hs] at h
          have b541 := And.intro b483 (And.intro d497 (And.intro d498 (And.intro d526 (And.intro d527 (And.intro d535 d539)))))
          cases d542 : (r536.1)
          ·simp only [d542, hs] at h
           simp only [vz, tyf, b541, (ix24 o153), e538, d542, nm, seval]
           refine ktree0 g_law03_known_ok ?_
           try simp only [vz, tyf, b541, (ix24 o153), e538, d542, nm, seval]
           obtain rfl := kF _ h
           exact opd_bool Tryz.results7 rfl
          simp only [d542, hs] at h
          try simp only [vz, tyf, b541, (ix24 o153), e538, d542, nm, seval]
          obtain rfl := kF _ h
          exact opd_bool Tryz.results7 rfl
         simp only [d535, hs] at h
         try simp only [vz, tyf, b483, (ix24 o153), e486, e487, e488, e489, e490, e491, e492, e493, e494, e495, e496, d497, d498, d526, d527, d535, nm, seval]
         obtain rfl := kF _ h
         exact opd_bool Tryz.results7 rfl
        simp only [d526, hs] at h
        try simp only [vz, tyf, b483, (ix24 o153), e486, e487, e488, e489, e490, e491, e492, e493, e494, e495, e496, d497, d498, d526, nm, seval]
        obtain rfl := kF _ h
        exact opd_bool Tryz.results7 rfl
       simp only [d497, hs] at h
       try simp only [vz, tyf, b483, (ix24 o153), e486, e487, e488, e489, e490, e491, e492, e493, e494, e495, e496, d497, nm, seval]
       obtain rfl := kF _ h
       exact opd_bool Tryz.results7 rfl
      simp only [d482, hs] at h
      have b543 := And.intro b116 (And.intro d164 (And.intro d367 (And.intro d382 (And.intro d383 (And.intro d481 d482)))))
      cases d544 : (decide (r140 < x152.Need))
      ·simp only [d544, hs] at h
       cases d545 : (decide (r340 > x152.Peel))
       ·simp only [d545, hs] at h
        cases d546 : (r84.1 == x3_a3)
        ·simp only [d546, hs] at h
         rcases o548 : (g_coat_Holds x0_s x1_a1 r91.1) with _ | r547
         ·simp only [o548, hs] at h
          exact absurd h kN
         simp only [o548, hs] at h
         simp only [vz, tyf, b543, (ix24 o153), e370, e371, e372, e373, e374, e375, e376, e377, e378, e379, e380, e381, d544, d545, d546, nm, seval]
         refine ktree (args0 := [.agg (cGCoatSheet x0_s), .sl (cellsL eI x1_a1) (List.length x1_a1) false, .sl (cellsL eI r91.1) (List.length r91.1) false]) (by first | (simp only [nrm, tynrm] <;> rfl) | rfl) (by simp only [tre, tytre, Bool.and_self]) (g_coat_Holds_ok _ _ _ _ o548) ?_
         refine fin_cut (fun tm => tm 191 = .tup [.lit (.bool r547.1), .lit (.int .i64 r547.2)] ∧ True) (by refine ⟨?_, trivial⟩ <;> first | (simp only [ua, b543, e370, e371, e372, e373, e374, e375, e376, e377, e378, e379, e380, e381, d544, d545, d546, nm, seval] <;> rfl) | rfl) ?_
         rintro tm ⟨e549, _⟩
         cases d550 : (r547.2 == 0)
         ·simp only [d550, hs] at h
          try simp only [vz, tyf, b543, (ix24 o153), d544, d545, d546, e549, d550, nm, seval]
          obtain rfl := kF _ h
          exact opd_bool Tryz.results7 rfl
         simp only [d550, hs] at h
         cases d551 : (r547.1)
         ·simp only [d551, hs] at h
          simp only [vz, tyf, b543, (ix24 o153), d544, d545, d546, e549, d550, d551, nm, seval]
          refine ktree0 g_law03_known_ok ?_
          try simp only [vz, tyf, b543, (ix24 o153), d544, d545, d546, e549, d550, d551, nm, seval]
          obtain rfl := kF _ h
          exact opd_bool Tryz.results7 rfl
         simp only [d551, hs] at h
         try simp only [vz, tyf, b543, (ix24 o153), d544, d545, d546, e549, d550, d551, nm, seval]
         obtain rfl := kF _ h
         exact opd_bool Tryz.results7 rfl
        simp only [d546, hs] at h
        cases d552 : ((r84.2.1 == 1) != false)
        ·simp only [d552, hs] at h
         try simp only [vz, tyf, b543, (ix24 o153), e370, e371, e372, e373, e374, e375, e376, e377, e378, e379, e380, e381, d544, d545, d546, d552, nm, seval]
         obtain rfl := kF _ h
         exact opd_bool Tryz.results7 rfl
        simp only [d552, hs] at h
        try simp only [vz, tyf, b543, (ix24 o153), e370, e371, e372, e373, e374, e375, e376, e377, e378, e379, e380, e381, d544, d545, d546, d552, nm, seval]
        obtain rfl := kF _ h
        exact opd_bool Tryz.results7 rfl
       simp only [d545, hs] at h
       cases d553 : (decide (r84.1 > x3_a3))
       ·simp only [d553, hs] at h
        cases d554 : (r84.1 == x3_a3)
        ·simp only [d554, hs] at h
         rcases o556 : (g_coat_Holds x0_s x1_a1 r91.1) with _ | r555
         ·simp only [o556, hs] at h
          exact absurd h kN
         simp only [o556, hs] at h
         simp only [vz, tyf, b543, (ix24 o153), e370, e371, e372, e373, e374, e375, e376, e377, e378, e379, e380, e381, d544, d545, d553, d554, nm, seval]
         refine ktree (args0 := [.agg (cGCoatSheet x0_s), .sl (cellsL eI x1_a1) (List.length x1_a1) false, .sl (cellsL eI r91.1) (List.length r91.1) false]) (by first | (simp only [nrm, tynrm] <;> rfl) | rfl) (by simp only [tre, tytre, Bool.and_self]) (g_coat_Holds_ok _ _ _ _ o556) ?_
         refine fin_cut (fun tm => tm 191 = .tup [.lit (.bool r555.1), .lit (.int .i64 r555.2)] ∧ True) (by refine ⟨?_, trivial⟩ <;> first | (simp only [ua, b543, e370, e371, e372, e373, e374, e375, e376, e377, e378, e379, e380, e381, d544, d545, d553, d554, nm, seval] <;> rfl) | rfl) ?_
         rintro tm ⟨e557, _⟩
         cases d558 : (r555.2 == 0)
         ·simp only [d558, hs] at h
          try simp only [vz, tyf, b543, (ix24 o153), d544, d545, d553, d554, e557, d558, nm, seval]
          obtain rfl := kF _ h
          exact opd_bool Tryz.results7 rfl
         simp only [d558, hs] at h
         cases d559 : (r555.1)
         ·simp only [d559, hs] at h
          have b560 := And.intro b543 (And.intro d544 (And.intro d545 (And.intro d553 (And.intro d554 (And.intro d558 d559)))))
          simp only [vz, tyf, b560, (ix24 o153), e557, nm, seval]
          refine ktree0 g_law03_known_ok ?_
          try simp only [vz, tyf, b560, (ix24 o153), e557, nm, seval]
          obtain rfl := kF _ h
          exact opd_bool Tryz.results7 rfl
         simp only [d559, hs] at h
         have b561 := And.intro b543 (And.intro d544 (And.intro d545 (And.intro d553 (And.intro d554 (And.intro d558 d559)))))
         try simp only [vz, tyf, b561, (ix24 o153), e557, nm, seval]
         obtain rfl := kF _ h
         exact opd_bool Tryz.results7 rfl
        simp only [d554, hs] at h
        cases d562 : ((r84.2.1 == 1) != false)
        ·simp only [d562, hs] at h
         rcases o564 : (g_coat_Holds x0_s x1_a1 r91.1) with _ | r563
         ·simp only [o564, hs] at h
          exact absurd h kN
         simp only [o564, hs] at h
         simp only [vz, tyf, b543, (ix24 o153), e370, e371, e372, e373, e374, e375, e376, e377, e378, e379, e380, e381, d544, d545, d553, d554, d562, nm, seval]
         refine ktree (args0 := [.agg (cGCoatSheet x0_s), .sl (cellsL eI x1_a1) (List.length x1_a1) false, .sl (cellsL eI r91.1) (List.length r91.1) false]) (by first | (simp only [nrm, tynrm] <;> rfl) | rfl) (by simp only [tre, tytre, Bool.and_self]) (g_coat_Holds_ok _ _ _ _ o564) ?_
         refine fin_cut (fun tm => tm 191 = .tup [.lit (.bool r563.1), .lit (.int .i64 r563.2)] ∧ True) (by refine ⟨?_, trivial⟩ <;> first | (simp only [ua, b543, e370, e371, e372, e373, e374, e375, e376, e377, e378, e379, e380, e381, d544, d545, d553, d554, d562, nm, seval] <;> rfl) | rfl) ?_
         rintro tm ⟨e565, _⟩
         cases d566 : (r563.2 == 0)
         ·simp only [d566, hs] at h
          have b567 := And.intro b543 (And.intro d544 (And.intro d545 (And.intro d553 (And.intro d554 (And.intro d562 d566)))))
          try simp only [vz, tyf, b567, (ix24 o153), e565, nm, seval]
          obtain rfl := kF _ h
          exact opd_bool Tryz.results7 rfl
         simp only [d566, hs] at h
         have b568 := And.intro b543 (And.intro d544 (And.intro d545 (And.intro d553 (And.intro d554 (And.intro d562 d566)))))
         cases d569 : (r563.1)
         ·simp only [d569, hs] at h
          simp only [vz, tyf, b568, (ix24 o153), e565, d569, nm, seval]
          refine ktree0 g_law03_known_ok ?_
          try simp only [vz, tyf, b568, (ix24 o153), e565, d569, nm, seval]
          obtain rfl := kF _ h
          exact opd_bool Tryz.results7 rfl
         simp only [d569, hs] at h
         try simp only [vz, tyf, b568, (ix24 o153), e565, d569, nm, seval]
         obtain rfl := kF _ h
         exact opd_bool Tryz.results7 rfl
        simp only [d562, hs] at h
        try simp only [vz, tyf, b543, (ix24 o153), e370, e371, e372, e373, e374, e375, e376, e377, e378, e379, e380, e381, d544, d545, d553, d554, d562, nm, seval]
        obtain rfl := kF _ h
        exact opd_bool Tryz.results7 rfl
       simp only [d553, hs] at h
       try simp only [vz, tyf, b543, (ix24 o153), e370, e371, e372, e373, e374, e375, e376, e377, e378, e379, e380, e381, d544, d545, d553, nm, seval]
       obtain rfl := kF _ h
       exact opd_bool Tryz.results7 rfl
      simp only [d544, hs] at h
      cases d570 : (decide (r84.1 > x3_a3))
      ·simp only [d570, hs] at h
       cases d571 : (r84.1 == x3_a3)
       ·simp only [d571, hs] at h
        rcases o573 : (g_coat_Holds x0_s x1_a1 r91.1) with _ | r572
        ·simp only [o573, hs] at h
         exact absurd h kN
        simp only [o573, hs] at h
        simp only [vz, tyf, b543, (ix24 o153), e370, e371, e372, e373, e374, e375, e376, e377, e378, e379, e380, e381, d544, d570, d571, nm, seval]
        refine ktree (args0 := [.agg (cGCoatSheet x0_s), .sl (cellsL eI x1_a1) (List.length x1_a1) false, .sl (cellsL eI r91.1) (List.length r91.1) false]) (by first | (simp only [nrm, tynrm] <;> rfl) | rfl) (by simp only [tre, tytre, Bool.and_self]) (g_coat_Holds_ok _ _ _ _ o573) ?_
        refine fin_cut (fun tm => tm 191 = .tup [.lit (.bool r572.1), .lit (.int .i64 r572.2)] ∧ True) (by refine ⟨?_, trivial⟩ <;> first | (simp only [ua, b543, e370, e371, e372, e373, e374, e375, e376, e377, e378, e379, e380, e381, d544, d570, d571, nm, seval] <;> rfl) | rfl) ?_
        rintro tm ⟨e574, _⟩
        cases d575 : (r572.2 == 0)
        ·simp only [d575, hs] at h
         try simp only [vz, tyf, b543, (ix24 o153), d544, d570, d571, e574, d575, nm, seval]
         obtain rfl := kF _ h
         exact opd_bool Tryz.results7 rfl
        simp only [d575, hs] at h
        cases d576 : (r572.1)
        ·simp only [d576, hs] at h
         simp only [vz, tyf, b543, (ix24 o153), d544, d570, d571, e574, d575, d576, nm, seval]
         refine ktree0 g_law03_known_ok ?_
         try simp only [vz, tyf, b543, (ix24 o153), d544, d570, d571, e574, d575, d576, nm, seval]
         obtain rfl := kF _ h
         exact opd_bool Tryz.results7 rfl
        simp only [d576, hs] at h
        try simp only [vz, tyf, b543, (ix24 o153), d544, d570, d571, e574, d575, d576, nm, seval]
        obtain rfl := kF _ h
        exact opd_bool Tryz.results7 rfl
       simp only [d571, hs] at h
       cases d577 : ((r84.2.1 == 1) != true)
       ·simp only [d577, hs] at h
        rcases o579 : (g_coat_Holds x0_s x1_a1 r91.1) with _ | r578
        ·simp only [o579, hs] at h
         exact absurd h kN
        simp only [o579, hs] at h
        simp only [vz, tyf, b543, (ix24 o153), e370, e371, e372, e373, e374, e375, e376, e377, e378, e379, e380, e381, d544, d570, d571, d577, nm, seval]
        refine ktree (args0 := [.agg (cGCoatSheet x0_s), .sl (cellsL eI x1_a1) (List.length x1_a1) false, .sl (cellsL eI r91.1) (List.length r91.1) false]) (by first | (simp only [nrm, tynrm] <;> rfl) | rfl) (by simp only [tre, tytre, Bool.and_self]) (g_coat_Holds_ok _ _ _ _ o579) ?_
        refine fin_cut (fun tm => tm 191 = .tup [.lit (.bool r578.1), .lit (.int .i64 r578.2)] ∧ True) (by refine ⟨?_, trivial⟩ <;> first | (simp only [ua, b543, e370, e371, e372, e373, e374, e375, e376, e377, e378, e379, e380, e381, d544, d570, d571, d577, nm, seval] <;> rfl) | rfl) ?_
        rintro tm ⟨e580, _⟩
        cases d581 : (r578.2 == 0)
        ·simp only [d581, hs] at h
         try simp only [vz, tyf, b543, (ix24 o153), d544, d570, d571, d577, e580, d581, nm, seval]
         obtain rfl := kF _ h
         exact opd_bool Tryz.results7 rfl
        simp only [d581, hs] at h
        cases d582 : (r578.1)
        ·simp only [d582, hs] at h
         have b583 := And.intro b543 (And.intro d544 (And.intro d570 (And.intro d571 (And.intro d577 (And.intro d581 d582)))))
         simp only [vz, tyf, b583, (ix24 o153), e580, nm, seval]
         refine ktree0 g_law03_known_ok ?_
         try simp only [vz, tyf, b583, (ix24 o153), e580, nm, seval]
         obtain rfl := kF _ h
         exact opd_bool Tryz.results7 rfl
        simp only [d582, hs] at h
        have b584 := And.intro b543 (And.intro d544 (And.intro d570 (And.intro d571 (And.intro d577 (And.intro d581 d582)))))
        try simp only [vz, tyf, b584, (ix24 o153), e580, nm, seval]
        obtain rfl := kF _ h
        exact opd_bool Tryz.results7 rfl
       simp only [d577, hs] at h
       try simp only [vz, tyf, b543, (ix24 o153), e370, e371, e372, e373, e374, e375, e376, e377, e378, e379, e380, e381, d544, d570, d571, d577, nm, seval]
       obtain rfl := kF _ h
       exact opd_bool Tryz.results7 rfl
      simp only [d570, hs] at h
      try simp only [vz, tyf, b543, (ix24 o153), e370, e371, e372, e373, e374, e375, e376, e377, e378, e379, e380, e381, d544, d570, nm, seval]
      obtain rfl := kF _ h
      exact opd_bool Tryz.results7 rfl
     simp only [d481, hs] at h
     try simp only [vz, tyf, b116, (ix24 o153), d164, d367, e370, e371, e372, e373, e374, e375, e376, e377, e378, e379, e380, e381, d382, d383, d481, nm, seval]
     obtain rfl := kF _ h
     exact opd_bool Tryz.results7 rfl
    simp only [d115, hs] at h
    have b585 := And.intro d64 (And.intro d65 (And.intro d74 (And.intro d83 (And.intro d113 (And.intro d114 d115)))))
    try simp only [vz, tyf, b585, e103, e104, e105, e106, e107, e108, e109, e110, e111, e112, nm, seval]
    obtain rfl := kF _ h
    exact opd_bool Tryz.results7 rfl
   simp only [d114, hs] at h
   try simp only [vz, tyf, d64, d65, d74, d83, e103, e104, e105, e106, e107, e108, e109, e110, e111, e112, d113, d114, nm, seval]
   obtain rfl := kF _ h
   exact opd_bool Tryz.results7 rfl
  simp only [d113, hs] at h
  cases d586 : (r84.2.2 != 5)
  ·simp only [d586, hs] at h
   cases d587 : (r91.2 != r84.2.2)
   ·simp only [d587, hs] at h
    have b588 := And.intro d64 (And.intro d65 (And.intro d74 (And.intro d83 (And.intro d113 (And.intro d586 d587)))))
    cases d589 : (r101.2 != 0)
    ·simp only [d589, hs] at h
     cases d590 : (r101.1)
     ·simp only [d590, hs] at h
      try simp only [vz, tyf, b588, e103, e104, e105, e106, e107, e108, e109, e110, e111, e112, d589, d590, nm, seval]
      obtain rfl := kF _ h
      exact opd_bool Tryz.results7 rfl
     simp only [d590, hs] at h
     simp only [vz, tyf, b588, e103, e104, e105, e106, e107, e108, e109, e110, e111, e112, d589, d590, nm, seval]
     refine cwp_drwQF (fun tm => tm 1 = .sl (cellsL eI x1_a1) (List.length x1_a1) false ∧ tm 2 = .sl (cellsL eI x2_a2) (List.length x2_a2) false ∧ tm 3 = .lit (.int .i64 x3_a3) ∧ tm 4 = .ptr 0 0 ∧ tm 9 = .lit (.int .i64 r84.1) ∧ tm 10 = .lit (.int .i64 r84.2.1) ∧ tm 11 = .lit (.int .i64 r84.2.2) ∧ tm 12 = .sl (cellsL eI r91.1) (List.length r91.1) false ∧ tm 14 = .lit (.bool true) ∧ True) (by refine ⟨e103, e104, e105, e106, e107, e108, e109, e110, ?_, trivial⟩ <;> first | (simp only [ua, b588, e103, e104, e105, e106, e107, e108, e109, e110, e111, e112, d589, d590, nm, seval] <;> rfl) | rfl) ?_
     rintro tm ⟨e591, e592, e593, e594, e595, e596, e597, e598, e599, _⟩
     rcases o601 : (g_ref03_Lows x0_s) with _ | r600
     ·simp only [o601, hs] at h
      exact absurd h kN
     simp only [o601, hs] at h
     simp only [vz, tyf, b588, d589, d590, e591, e592, e593, e594, e595, e596, e597, e598, e599, nm, seval]
     refine dktree (args0 := [.agg (cGCoatSheet x0_s)]) (by first | (simp only [nrm, tynrm] <;> rfl) | rfl) (by simp only [tre, tytre, Bool.and_self]) (g_ref03_Lows_ok _ _ o601) ?_
     refine fin_cut (fun tm => tm 1 = .sl (cellsL eI x1_a1) (List.length x1_a1) false ∧ tm 2 = .sl (cellsL eI x2_a2) (List.length x2_a2) false ∧ tm 3 = .lit (.int .i64 x3_a3) ∧ tm 4 = .ptr 0 0 ∧ tm 9 = .lit (.int .i64 r84.1) ∧ tm 10 = .lit (.int .i64 r84.2.1) ∧ tm 11 = .lit (.int .i64 r84.2.2) ∧ tm 12 = .sl (cellsL eI r91.1) (List.length r91.1) false ∧ tm 14 = .lit (.bool true) ∧ tm 85 = .sl (cellsL eI x1_a1) (List.length x1_a1) false ∧ tm 86 = .lit (.int .i64 x3_a3) ∧ tm 88 = .sl (cellsL eI r600) (List.length r600) false ∧ True) (by refine ⟨e591, e592, e593, e594, e595, e596, e597, e598, e599, ?_, ?_, ?_, trivial⟩ <;> first | (simp only [ua, b588, d589, d590, e591, e592, e593, e594, e595, e596, e597, e598, e599, nm, seval] <;> rfl) | rfl) ?_
     rintro tm ⟨e602, e603, e604, e605, e606, e607, e608, e609, e610, e611, e612, e613, _⟩
     rcases o615 : (g_ref03_Dries x1_a1 x3_a3 r600) with _ | r614
     ·simp only [o615, hs] at h
      exact absurd h kN
     simp only [o615, hs] at h
     simp only [vz, tyf, b588, d589, d590, e602, e603, e604, e605, e606, e607, e608, e609, e610, e611, e612, e613, nm, seval]
     refine dktree (args0 := [.sl (cellsL eI x1_a1) (List.length x1_a1) false, .lit (.int .i64 x3_a3), .sl (cellsL eI r600) (List.length r600) false]) (by first | (simp only [nrm, tynrm] <;> rfl) | rfl) (by simp only [tre, tytre, Bool.and_self]) (g_ref03_Dries_ok _ _ _ _ o615) ?_
     refine fin_cut (fun tm => tm 1 = .sl (cellsL eI x1_a1) (List.length x1_a1) false ∧ tm 2 = .sl (cellsL eI x2_a2) (List.length x2_a2) false ∧ tm 3 = .lit (.int .i64 x3_a3) ∧ tm 4 = .ptr 0 0 ∧ tm 9 = .lit (.int .i64 r84.1) ∧ tm 10 = .lit (.int .i64 r84.2.1) ∧ tm 11 = .lit (.int .i64 r84.2.2) ∧ tm 12 = .sl (cellsL eI r91.1) (List.length r91.1) false ∧ tm 14 = .lit (.bool true) ∧ tm 89 = .lit (.int .i64 r614) ∧ True) (by refine ⟨e602, e603, e604, e605, e606, e607, e608, e609, e610, ?_, trivial⟩ <;> first | (simp only [ua, b588, d589, d590, e602, e603, e604, e605, e606, e607, e608, e609, e610, e611, e612, e613, nm, seval] <;> rfl) | rfl) ?_
     rintro tm ⟨e616, e617, e618, e619, e620, e621, e622, e623, e624, e625, _⟩
     rcases o627 : (getI x0_s.Coats x3_a3) with _ | x626
     ·simp only [o627, hs] at h
      exact absurd h kN
     simp only [o627, hs] at h
     simp only [vz, tyf, b588, d589, d590, e616, e617, e618, e619, e620, e621, e622, e623, e624, e625, (ix24 o627), nm, seval]
     refine cwp_drwQF (fun tm => tm 1 = .sl (cellsL eI x1_a1) (List.length x1_a1) false ∧ tm 2 = .sl (cellsL eI x2_a2) (List.length x2_a2) false ∧ tm 3 = .lit (.int .i64 x3_a3) ∧ tm 4 = .ptr 0 0 ∧ tm 9 = .lit (.int .i64 r84.1) ∧ tm 10 = .lit (.int .i64 r84.2.1) ∧ tm 11 = .lit (.int .i64 r84.2.2) ∧ tm 12 = .sl (cellsL eI r91.1) (List.length r91.1) false ∧ tm 14 = .lit (.bool true) ∧ tm 16 = .lit (.bool (decide (r614 < x626.Need))) ∧ True) (by refine ⟨e616, e617, e618, e619, e620, e621, e622, e623, e624, ?_, trivial⟩ <;> first | (simp only [ua, b588, d589, d590, e616, e617, e618, e619, e620, e621, e622, e623, e624, e625, nm, seval] <;> rfl) | rfl) ?_
     rintro tm ⟨e628, e629, e630, e631, e632, e633, e634, e635, e636, e637, _⟩
     cases d638 : (decide ((IntKind.i64.wrap (x3_a3 + 1)) < (List.length x1_a1 : Int)))
     ·simp only [d638, hs] at h
      cases d639 : (decide (r614 < x626.Need))
      ·simp only [d639, hs] at h
       simp only [vz, tyf, b588, d589, d590, (ix24 o627), e628, e629, e630, e631, e632, e633, e634, e635, e636, e637, d638, d639, nm, seval]
       refine ktree0 g_law03_known_ok ?_
       try simp only [vz, tyf, b588, d589, d590, (ix24 o627), e628, e629, e630, e631, e632, e633, e634, e635, e636, e637, d638, d639, nm, seval]
       obtain rfl := kF _ h
       exact opd_bool Tryz.results7 rfl
      simp only [d639, hs] at h
      try simp only [vz, tyf, b588, d589, d590, (ix24 o627), e628, e629, e630, e631, e632, e633, e634, e635, e636, e637, d638, d639, nm, seval]
      obtain rfl := kF _ h
      exact opd_bool Tryz.results7 rfl
     simp only [d638, hs] at h
     rcases o641 : (g_ref03_Highs x0_s) with _ | r640
     ·simp only [o641, hs] at h
      exact absurd h kN
     simp only [o641, hs] at h
     simp only [vz, tyf, b588, d589, d590, (ix24 o627), e628, e629, e630, e631, e632, e633, e634, e635, e636, e637, d638, nm, seval]
     refine dktree (args0 := [.agg (cGCoatSheet x0_s)]) (by first | (simp only [nrm, tynrm] <;> rfl) | rfl) (by simp only [tre, tytre, Bool.and_self]) (g_ref03_Highs_ok _ _ o641) ?_
     refine fin_cut (fun tm => tm 1 = .sl (cellsL eI x1_a1) (List.length x1_a1) false ∧ tm 2 = .sl (cellsL eI x2_a2) (List.length x2_a2) false ∧ tm 3 = .lit (.int .i64 x3_a3) ∧ tm 4 = .ptr 0 0 ∧ tm 9 = .lit (.int .i64 r84.1) ∧ tm 10 = .lit (.int .i64 r84.2.1) ∧ tm 11 = .lit (.int .i64 r84.2.2) ∧ tm 12 = .sl (cellsL eI r91.1) (List.length r91.1) false ∧ tm 14 = .lit (.bool true) ∧ tm 16 = .lit (.bool (decide (r614 < x626.Need))) ∧ tm 102 = .lit (.bool true) ∧ tm 103 = .sl (cellsL eI x1_a1) (List.length x1_a1) false ∧ tm 104 = .lit (.int .i64 x3_a3) ∧ tm 106 = .sl (cellsL eI r640) (List.length r640) false ∧ True) (by refine ⟨e628, e629, e630, e631, e632, e633, e634, e635, e636, e637, ?_, ?_, ?_, ?_, trivial⟩ <;> first | (simp only [ua, b588, d589, d590, e628, e629, e630, e631, e632, e633, e634, e635, e636, e637, d638, nm, seval] <;> rfl) | rfl) ?_
     rintro tm ⟨e642, e643, e644, e645, e646, e647, e648, e649, e650, e651, e652, e653, e654, e655, _⟩
     rcases o657 : (g_ref03_Dries x1_a1 x3_a3 r640) with _ | r656
     ·simp only [o657, hs] at h
      exact absurd h kN
     simp only [o657, hs] at h
     simp only [vz, tyf, b588, d589, d590, (ix24 o627), d638, e642, e643, e644, e645, e646, e647, e648, e649, e650, e651, e652, e653, e654, e655, nm, seval]
     refine dktree (args0 := [.sl (cellsL eI x1_a1) (List.length x1_a1) false, .lit (.int .i64 x3_a3), .sl (cellsL eI r640) (List.length r640) false]) (by first | (simp only [nrm, tynrm] <;> rfl) | rfl) (by simp only [tre, tytre, Bool.and_self]) (g_ref03_Dries_ok _ _ _ _ o657) ?_
     refine fin_cut (fun tm => tm 1 = .sl (cellsL eI x1_a1) (List.length x1_a1) false ∧ tm 2 = .sl (cellsL eI x2_a2) (List.length x2_a2) false ∧ tm 3 = .lit (.int .i64 x3_a3) ∧ tm 4 = .ptr 0 0 ∧ tm 9 = .lit (.int .i64 r84.1) ∧ tm 10 = .lit (.int .i64 r84.2.1) ∧ tm 11 = .lit (.int .i64 r84.2.2) ∧ tm 12 = .sl (cellsL eI r91.1) (List.length r91.1) false ∧ tm 14 = .lit (.bool true) ∧ tm 16 = .lit (.bool (decide (r614 < x626.Need))) ∧ tm 102 = .lit (.bool true) ∧ tm 107 = .lit (.int .i64 r656) ∧ True) (by refine ⟨e642, e643, e644, e645, e646, e647, e648, e649, e650, e651, e652, ?_, trivial⟩ <;> first | (simp only [ua, b588, d589, d590, d638, e642, e643, e644, e645, e646, e647, e648, e649, e650, e651, e652, e653, e654, e655, nm, seval] <;> rfl) | rfl) ?_
     rintro tm ⟨e658, e659, e660, e661, e662, e663, e664, e665, e666, e667, e668, e669, _⟩
     cases d670 : (decide (r614 < x626.Need))
     ·simp only [d670, hs] at h
      cases d671 : (decide (r656 > x626.Peel))
      ·simp only [d671, hs] at h
       simp only [vz, tyf, b588, d589, d590, (ix24 o627), d638, e658, e659, e660, e661, e662, e663, e664, e665, e666, e667, e668, e669, d670, d671, nm, seval]
       refine ktree0 g_law03_known_ok ?_
       try simp only [vz, tyf, b588, d589, d590, (ix24 o627), d638, e658, e659, e660, e661, e662, e663, e664, e665, e666, e667, e668, e669, d670, d671, nm, seval]
       obtain rfl := kF _ h
       exact opd_bool Tryz.results7 rfl
      simp only [d671, hs] at h
      try simp only [vz, tyf, b588, d589, d590, (ix24 o627), d638, e658, e659, e660, e661, e662, e663, e664, e665, e666, e667, e668, e669, d670, d671, nm, seval]
      obtain rfl := kF _ h
      exact opd_bool Tryz.results7 rfl
     simp only [d670, hs] at h
     try simp only [vz, tyf, b588, d589, d590, (ix24 o627), d638, e658, e659, e660, e661, e662, e663, e664, e665, e666, e667, e668, e669, d670, nm, seval]
     obtain rfl := kF _ h
     exact opd_bool Tryz.results7 rfl
    simp only [d589, hs] at h
    try simp only [vz, tyf, b588, e103, e104, e105, e106, e107, e108, e109, e110, e111, e112, d589, nm, seval]
    obtain rfl := kF _ h
    exact opd_bool Tryz.results7 rfl
   simp only [d587, hs] at h
   have b672 := And.intro d64 (And.intro d65 (And.intro d74 (And.intro d83 (And.intro d113 (And.intro d586 d587)))))
   try simp only [vz, tyf, b672, e103, e104, e105, e106, e107, e108, e109, e110, e111, e112, nm, seval]
   obtain rfl := kF _ h
   exact opd_bool Tryz.results7 rfl
  simp only [d586, hs] at h
  try simp only [vz, tyf, d64, d65, d74, d83, e103, e104, e105, e106, e107, e108, e109, e110, e111, e112, d113, d586, nm, seval]
  obtain rfl := kF _ h
  exact opd_bool Tryz.results7 rfl
 simp only [d65, hs] at h
 simp only [vz, tyf, e59, e60, e61, e62, e63, d64, d65, nm, seval]
 refine ktree0 g_law03_known_ok ?_
 try simp only [vz, tyf, e59, e60, e61, e62, e63, d64, d65, nm, seval]
 obtain rfl := kF _ h
 exact opd_bool Tryz.results7 rfl
end Go.V
end
