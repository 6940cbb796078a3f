/- Part of a proof: a logic of values by content, lifted functions, what follows. -/
import Derived.Test.YtbpeickbdiihcaaGreatDoorYbq
import Derived.Test.YtbpeickbdiihcaaGreatDoorYbf
import Derived.Test.YtbpeickbdiihcaaGreatDoorYbn
import Derived.Test.YtbpeickbdiihcaaGreatDoorYbi
import Derived.Test.YtbpeickbdiihcaaGreatDoorYbj
import Derived.Test.YtbpeickbdiihcaaGreatDoorYbp
import Derived.Test.YtbpeickbdiihcaaGreatDoorYbo
set_option linter.all false
set_option maxRecDepth 4000
set_option maxHeartbeats 4000000
section
namespace Go.V
open Go Go.Proofs
theorem pS : VPure Tryz.prog G0 50 [] (.tree kS) := VPure.closedB hmix 1000 (by kernel_rfl)
theorem pT : VPure Tryz.prog G0 51 [] (.tree kT) := VPure.closedB hmix 1000 (by kernel_rfl)
theorem pAt46 : VPure Tryz.prog G0 49 [.lit (.int .i64 (4)), .lit (.int .i64 (6))] (.tree kAt46) := VPure.closedB hmix 1000 (by kernel_rfl)
theorem pAt41 : VPure Tryz.prog G0 49 [.lit (.int .i64 (4)), .lit (.int .i64 (1))] (.tree kAt41) := VPure.closedB hmix 1000 (by kernel_rfl)
theorem pAt201 : VPure Tryz.prog G0 49 [.lit (.int .i64 (20)), .lit (.int .i64 (1))] (.tree kAt201) := VPure.closedB hmix 1000 (by kernel_rfl)
theorem pAt166 : VPure Tryz.prog G0 49 [.lit (.int .i64 (16)), .lit (.int .i64 (6))] (.tree kAt166) := VPure.closedB hmix 1000 (by kernel_rfl)
theorem pAt106 : VPure Tryz.prog G0 49 [.lit (.int .i64 (10)), .lit (.int .i64 (6))] (.tree kAt106) := VPure.closedB hmix 1000 (by kernel_rfl)
theorem pSeen : VPure Tryz.prog G0 18 [kS, .lit (.int .i64 (0)), kAt46] (.tree kSeen) := VPure.closedB hmix 1000 (by kernel_rfl)
theorem pWhy : VPure Tryz.prog G0 26 [kS, .lit (.int .i64 (0)), kAt41] (.tree kWhy) := VPure.closedB hmix 1000 (by kernel_rfl)
theorem pLetters : VPure Tryz.prog G0 28 [kS, .lit (.int .i64 (0)), kAt46] (.tree kLetters) := VPure.closedB hmix 1000 (by kernel_rfl)
theorem pMelts : VPure Tryz.prog G0 29 [kS, .lit (.int .i64 (0)), kAt201] (.tree kMelts) := VPure.closedB hmix 1000 (by kernel_rfl)
theorem pHidden : VPure Tryz.prog G0 30 [kS, .lit (.int .i64 (0)), kAt166] (.tree kHidden) := VPure.closedB hmix 1000 (by kernel_rfl)
end Go.V
end
section
namespace Go.V
open Go Go.Proofs
theorem pMany : VPure Tryz.prog G0 36 [kT, .lit (.int .i64 (0))] (.tree kMany) := VPure.closedB hmix 1000 (by kernel_rfl)
theorem pFarthest : VPure Tryz.prog G0 37 [kT, .lit (.int .i64 (0))] (.tree kFarthest) := VPure.closedB hmix 1000 (by kernel_rfl)
theorem pLeast : VPure Tryz.prog G0 41 [kS, .lit (.int .i64 (0)), kAt41] (.tree kLeast) := VPure.closedB hmix 1000 (by kernel_rfl)
theorem pLight : VPure Tryz.prog G0 42 [kS, .lit (.int .i64 (0)), kAt106] (.tree kLight) := VPure.closedB hmix 1000 (by kernel_rfl)
end Go.V
end
section
namespace Go.V
open Go Go.Proofs
theorem pHang : VPure Tryz.prog G0 52 [kT, .lit (.int .i64 (0))] (.tree kHang) := VPure.closedB hmix 1000 (by kernel_rfl)
end Go.V
end
section
namespace Go.V
open Go Go.Proofs
theorem pRead : VPure Tryz.prog G0 53 [.lit (.string ⟨⟨[115, 105, 103, 104, 116, 32, 49, 32, 49, 32, 49, 32, 49, 32, 49, 32, 49, 10, 98, 111, 97, 114, 100, 32, 48, 10, 108, 101, 116, 116, 101, 114, 32, 49, 32, 49, 32, 49, 32, 48, 10, 101, 110, 100, 32, 48, 49, 57, 10]⟩⟩)] (.tree kRead) := VPure.closedB hmix 1000 (by kernel_rfl)
end Go.V
end
section
namespace Go.V
open Go Go.Proofs
def kTab : KTab := [
  (50, [], kS),
  (51, [], kT),
  (49, [.lit (.int .i64 (4)), .lit (.int .i64 (6))], kAt46),
  (49, [.lit (.int .i64 (4)), .lit (.int .i64 (1))], kAt41),
  (49, [.lit (.int .i64 (20)), .lit (.int .i64 (1))], kAt201),
  (49, [.lit (.int .i64 (16)), .lit (.int .i64 (6))], kAt166),
  (49, [.lit (.int .i64 (10)), .lit (.int .i64 (6))], kAt106),
  (18, [kS, .lit (.int .i64 (0)), kAt46], kSeen),
  (26, [kS, .lit (.int .i64 (0)), kAt41], kWhy),
  (28, [kS, .lit (.int .i64 (0)), kAt46], kLetters),
  (29, [kS, .lit (.int .i64 (0)), kAt201], kMelts),
  (30, [kS, .lit (.int .i64 (0)), kAt166], kHidden),
  (36, [kT, .lit (.int .i64 (0))], kMany),
  (37, [kT, .lit (.int .i64 (0))], kFarthest),
  (41, [kS, .lit (.int .i64 (0)), kAt41], kLeast),
  (42, [kS, .lit (.int .i64 (0)), kAt106], kLight),
  (52, [kT, .lit (.int .i64 (0))], kHang),
  (53, [.lit (.string ⟨⟨[115, 105, 103, 104, 116, 32, 49, 32, 49, 32, 49, 32, 49, 32, 49, 32, 49, 10, 98, 111, 97, 114, 100, 32, 48, 10, 108, 101, 116, 116, 101, 114, 32, 49, 32, 49, 32, 49, 32, 48, 10, 101, 110, 100, 32, 48, 49, 57, 10]⟩⟩)], kRead)]
theorem kTabOk : KTabOk Tryz.prog G0 kTab := ⟨⟨by kernel_rfl, pS⟩, ⟨⟨by kernel_rfl, pT⟩, ⟨⟨by kernel_rfl, pAt46⟩, ⟨⟨by kernel_rfl, pAt41⟩, ⟨⟨by kernel_rfl, pAt201⟩, ⟨⟨by kernel_rfl, pAt166⟩, ⟨⟨by kernel_rfl, pAt106⟩, ⟨⟨by kernel_rfl, pSeen⟩, ⟨⟨by kernel_rfl, pWhy⟩, ⟨⟨by kernel_rfl, pLetters⟩, ⟨⟨by kernel_rfl, pMelts⟩, ⟨⟨by kernel_rfl, pHidden⟩, ⟨⟨by kernel_rfl, pMany⟩, ⟨⟨by kernel_rfl, pFarthest⟩, ⟨⟨by kernel_rfl, pLeast⟩, ⟨⟨by kernel_rfl, pLight⟩, ⟨⟨by kernel_rfl, pHang⟩, ⟨⟨by kernel_rfl, pRead⟩, trivial⟩⟩⟩⟩⟩⟩⟩⟩⟩⟩⟩⟩⟩⟩⟩⟩⟩⟩
theorem pKnown : VPure Tryz.prog G0 16 [] (.tree (.lit (.bool true))) := VPure.closedT hmix kTabOk 1000 (by kernel_rfl)
#print axioms pKnown
end Go.V
end
section
namespace Go.V
open Go Go.Proofs
def g_law02_known : Option Bool := some true
theorem g_law02_known_ok (R : Bool) (h : g_law02_known = some R) : VPure Tryz.prog G0 16 [] (.tree (.lit (.bool R))) := by
 cases h
 exact pKnown
end Go.V
end
section
namespace Go.V
open Go Go.Proofs
def g_law02_SightManys (x0_s : GSightStreet) (x1_a1 : Int) : Option (Bool) := Option.bind (g_law02_short x0_s) (fun r1 => cond (r1) (Option.bind (g_sight_Many x0_s x1_a1) (fun r2 => Option.bind (g_sight_Farthest x0_s x1_a1) (fun r3 => Option.bind (g_ref02_Street x0_s) (fun r4 => cond (r4) (Option.bind (g_ref02_Board x0_s x1_a1) (fun r5 => cond (r5) (Option.bind (getI x0_s.Boards x1_a1) (fun x6 => Option.bind (g_ref02_From x0_s x6) (fun r7 => cond (r2.2.2 != 0) (some false) (cond (r2.1 != (List.length r7 : Int)) (some false) (Option.bind (g_ref02_Maybe x0_s x6) (fun r8 => cond (r2.2.1 != r8) (some false) (cond ((List.length r7 : Int) == 0) (cond (r3.2 == 5) (cond (r3.1.Along == 0 && (r3.1.Across == 0)) (Option.bind (g_law02_known ) (fun r9 => some r9)) (some false)) (some false)) (cond (r3.2 == 0) (Option.bind (g_ref02_Farthest x6 r7) (fun r10 => cond (r3.1.Along == r10.Along && (r3.1.Across == r10.Across)) (Option.bind (g_law02_known ) (fun r11 => some r11)) (some false))) (some false))))))))) (cond (r2.2.2 == 2) (cond (r2.1 == 0) (cond (r2.2.1 == 0) (cond (r3.2 == 2) (cond (r3.1.Along == 0 && (r3.1.Across == 0)) (Option.bind (g_law02_known ) (fun r12 => some r12)) (some false)) (some false)) (some false)) (some false)) (some false)))) (cond (r2.2.2 == 2) (cond (r2.1 == 0) (cond (r2.2.1 == 0) (cond (r3.2 == 2) (cond (r3.1.Along == 0 && (r3.1.Across == 0)) (Option.bind (g_law02_known ) (fun r13 => some r13)) (some false)) (some false)) (some false)) (some false)) (some false)))))) (Option.bind (g_law02_known ) (fun r14 => some r14)))
theorem g_law02_SightManys_ok (x0_s : GSightStreet) (x1_a1 : Int) (R : Bool) (h : g_law02_SightManys x0_s x1_a1 = some R) : VPure Tryz.prog G0 9 [.agg (cGSightStreet x0_s), .lit (.int .i64 x1_a1)] (.tree (.lit (.bool R))) := by
 refine VPure.runR mixed Tryz.call9 Tryz.func9 rfl (by simp [Tryz.ntmps9]; kernel_rfl) ?_
 obtain ⟨KF, h, kF, kN⟩ := fun_intro h
 simp only [g_law02_SightManys] at h
 cases o16 : (g_law02_short x0_s) with
 | none =>
  simp only [o16, hs, reduceCtorEq] at h
  exact absurd h kN
 | some r15 =>
  simp only [o16, hs, reduceCtorEq] at h
  simp only [vz, mq, mqm, tyf, mqt, nm, seval]
  refine ktree (args0 := [.agg (cGSightStreet x0_s)]) (by first | (simp only [nrm, tynrm] <;> rfl) | rfl) (by simp only [tre, tytre, Bool.and_self]) (g_law02_short_ok _ _ o16) ?_
  refine fin_cut (fun tm => tm 1 = .lit (.int .i64 x1_a1) ∧ tm 2 = .ptr 0 0 ∧ tm 13 = .lit (.bool r15) ∧ True) (by refine ⟨?_, ?_, ?_, trivial⟩ <;> first | (simp only [ua, encM_nil, nm, seval] <;> rfl) | rfl) ?_
  rintro tm ⟨e17, e18, e19, _⟩
  cases d20 : (r15)
  ·simp only [d20, hs, reduceCtorEq] at h
   cases o22 : (g_law02_known ) with
   | none =>
    simp only [o22, hs, reduceCtorEq] at h
    exact absurd h kN
   | some r21 =>
    simp only [o22, hs, reduceCtorEq] at h
    simp only [vz, mq, mqm, tyf, mqt, e17, e18, e19, d20, nm, seval]
    refine ktree (args0 := []) (by first | (simp only [nrm, tynrm] <;> rfl) | rfl) (by simp only [tre, tytre, Bool.and_self]) (g_law02_known_ok  _ o22) ?_
    refine fin_cut (fun tm => tm 15 = .lit (.bool r21) ∧ True) (by refine ⟨?_, trivial⟩ <;> first | (simp only [ua, encM_nil, e17, e18, e19, d20, nm, seval] <;> rfl) | rfl) ?_
    rintro tm ⟨e23, _⟩
    try simp only [vz, mq, mqm, tyf, mqt, d20, e23, nm, seval]
    obtain rfl := kF _ h
    exact opd_bool Tryz.results9 (by first | rfl | (simp only [upd_apply, seval] <;> rfl))
  simp only [d20, hs, reduceCtorEq] at h
  cases o25 : (g_sight_Many x0_s x1_a1) with
  | none =>
   simp only [o25, hs, reduceCtorEq] at h
   exact absurd h kN
  | some r24 =>
   simp only [o25, hs, reduceCtorEq] at h
   simp only [vz, mq, mqm, tyf, mqt, e17, e18, e19, d20, nm, seval]
   refine ktree (args0 := [.agg (cGSightStreet x0_s), .lit (.int .i64 x1_a1)]) (by first | (simp only [nrm, tynrm] <;> rfl) | rfl) (by simp only [tre, tytre, Bool.and_self]) (g_sight_Many_ok _ _ _ o25) ?_
   refine fin_cut (fun tm => tm 1 = .lit (.int .i64 x1_a1) ∧ tm 2 = .ptr 0 0 ∧ tm 19 = .tup [.lit (.int .i64 r24.1), .lit (.int .i64 r24.2.1), .lit (.int .i64 r24.2.2)] ∧ True) (by refine ⟨e17, e18, ?_, trivial⟩ <;> first | (simp only [ua, encM_nil, e17, e18, e19, d20, nm, seval] <;> rfl) | rfl) ?_
   rintro tm ⟨e26, e27, e28, _⟩
   cases o30 : (g_sight_Farthest x0_s x1_a1) with
   | none =>
    simp only [o30, hs, reduceCtorEq] at h
    exact absurd h kN
   | some r29 =>
    simp only [o30, hs, reduceCtorEq] at h
    simp only [vz, mq, mqm, tyf, mqt, d20, e26, e27, e28, nm, seval]
    refine ktree (args0 := [.agg (cGSightStreet x0_s), .lit (.int .i64 x1_a1)]) (by first | (simp only [nrm, tynrm] <;> rfl) | rfl) (by simp only [tre, tytre, Bool.and_self]) (g_sight_Farthest_ok _ _ _ o30) ?_
    refine fin_cut (fun tm => tm 1 = .lit (.int .i64 x1_a1) ∧ tm 2 = .ptr 0 0 ∧ tm 5 = .lit (.int .i64 r24.1) ∧ tm 6 = .lit (.int .i64 r24.2.1) ∧ tm 7 = .lit (.int .i64 r24.2.2) ∧ tm 26 = .tup [.agg (cGSightPlace r29.1), .lit (.int .i64 r29.2)] ∧ True) (by refine ⟨e26, e27, ?_, ?_, ?_, ?_, trivial⟩ <;> first | (simp only [ua, encM_nil, d20, e26, e27, e28, nm, seval] <;> rfl) | rfl) ?_
    rintro tm ⟨e31, e32, e33, e34, e35, e36, _⟩
    cases o38 : (g_ref02_Street x0_s) with
    | none =>
     simp only [o38, hs, reduceCtorEq] at h
     exact absurd h kN
    | some r37 =>
     simp only [o38, hs, reduceCtorEq] at h
     simp only [vz, mq, mqm, tyf, mqt, d20, e31, e32, e33, e34, e35, e36, nm, seval]
     refine ktree (args0 := [.agg (cGSightStreet x0_s)]) (by first | (simp only [nrm, tynrm] <;> rfl) | rfl) (by simp only [tre, tytre, Bool.and_self]) (g_ref02_Street_ok _ _ o38) ?_
     refine fin_cut (fun tm => tm 1 = .lit (.int .i64 x1_a1) ∧ tm 2 = .ptr 0 0 ∧ tm 5 = .lit (.int .i64 r24.1) ∧ tm 6 = .lit (.int .i64 r24.2.1) ∧ tm 7 = .lit (.int .i64 r24.2.2) ∧ tm 8 = .ptr 21 0 ∧ tm 9 = .lit (.int .i64 r29.2) ∧ tm 30 = .lit (.bool r37) ∧ True) (by refine ⟨e31, e32, e33, e34, e35, ?_, ?_, ?_, trivial⟩ <;> first | (simp only [ua, encM_nil, d20, e31, e32, e33, e34, e35, e36, nm, seval] <;> rfl) | rfl) ?_
     rintro tm ⟨e39, e40, e41, e42, e43, e44, e45, e46, _⟩
     cases d47 : (r37)
     ·simp only [d47, hs, reduceCtorEq] at h
      cases d48 : (r24.2.2 == 2)
      ·simp only [d48, hs, reduceCtorEq] at h
       try simp only [vz, mq, mqm, tyf, mqt, d20, e39, e40, e41, e42, e43, e44, e45, e46, d47, d48, nm, seval]
       obtain rfl := kF _ h
       exact opd_bool Tryz.results9 (by first | rfl | (simp only [upd_apply, seval] <;> rfl))
      simp only [d48, hs, reduceCtorEq] at h
      cases d49 : (r24.1 == 0)
      ·simp only [d49, hs, reduceCtorEq] at h
       try simp only [vz, mq, mqm, tyf, mqt, d20, e39, e40, e41, e42, e43, e44, e45, e46, d47, d48, d49, nm, seval]
       obtain rfl := kF _ h
       exact opd_bool Tryz.results9 (by first | rfl | (simp only [upd_apply, seval] <;> rfl))
      simp only [d49, hs, reduceCtorEq] at h
      cases d50 : (r24.2.1 == 0)
      ·simp only [d50, hs, reduceCtorEq] at h
       try simp only [vz, mq, mqm, tyf, mqt, d20, e39, e40, e41, e42, e43, e44, e45, e46, d47, d48, d49, d50, nm, seval]
       obtain rfl := kF _ h
       exact opd_bool Tryz.results9 (by first | rfl | (simp only [upd_apply, seval] <;> rfl))
      simp only [d50, hs, reduceCtorEq] at h
      cases d51 : (r29.2 == 2)
      ·simp only [d51, hs, reduceCtorEq] at h
       try simp only [vz, mq, mqm, tyf, mqt, d20, e39, e40, e41, e42, e43, e44, e45, e46, d47, d48, d49, d50, d51, nm, seval]
       obtain rfl := kF _ h
       exact opd_bool Tryz.results9 (by first | rfl | (simp only [upd_apply, seval] <;> rfl))
      simp only [d51, hs, reduceCtorEq] at h
      cases d52 : (r29.1.Along == 0 && (r29.1.Across == 0))
      ·simp only [d52, hs, reduceCtorEq] at h
       have b53 := And.intro d20 (And.intro d47 (And.intro d48 (And.intro d49 (And.intro d50 (And.intro d51 d52)))))
       try simp only [vz, mq, mqm, tyf, mqt, b53, e39, e40, e41, e42, e43, e44, e45, e46, nm, seval]
       obtain rfl := kF _ h
       exact opd_bool Tryz.results9 (by first | rfl | (simp only [upd_apply, seval] <;> rfl))
      simp only [d52, hs, reduceCtorEq] at h
      have b54 := And.intro d20 (And.intro d47 (And.intro d48 (And.intro d49 (And.intro d50 (And.intro d51 d52)))))
      cases o56 : (g_law02_known ) with
      | none =>
       simp only [o56, hs, reduceCtorEq] at h
       exact absurd h kN
      | some r55 =>
       simp only [o56, hs, reduceCtorEq] at h
       simp only [vz, mq, mqm, tyf, mqt, b54, e39, e40, e41, e42, e43, e44, e45, e46, nm, seval]
       refine ktree (args0 := []) (by first | (simp only [nrm, tynrm] <;> rfl) | rfl) (by simp only [tre, tytre, Bool.and_self]) (g_law02_known_ok  _ o56) ?_
       refine fin_cut (fun tm => tm 57 = .lit (.bool true) ∧ tm 58 = .lit (.bool r55) ∧ True) (by refine ⟨?_, ?_, trivial⟩ <;> first | (simp only [ua, encM_nil, b54, e39, e40, e41, e42, e43, e44, e45, e46, nm, seval] <;> rfl) | rfl) ?_
       rintro tm ⟨e57, e58, _⟩
       try simp only [vz, mq, mqm, tyf, mqt, b54, e57, e58, nm, seval]
       obtain rfl := kF _ h
       exact opd_bool Tryz.results9 (by first | rfl | (simp only [upd_apply, seval] <;> rfl))
     simp only [d47, hs, reduceCtorEq] at h
     cases o60 : (g_ref02_Board x0_s x1_a1) with
     | none =>
      simp only [o60, hs, reduceCtorEq] at h
      exact absurd h kN
     | some r59 =>
      simp only [o60, hs, reduceCtorEq] at h
      simp only [vz, mq, mqm, tyf, mqt, d20, e39, e40, e41, e42, e43, e44, e45, e46, d47, nm, seval]
      refine ktree (args0 := [.agg (cGSightStreet x0_s), .lit (.int .i64 x1_a1)]) (by first | (simp only [nrm, tynrm] <;> rfl) | rfl) (by simp only [tre, tytre, Bool.and_self]) (g_ref02_Board_ok _ _ _ o60) ?_
      refine fin_cut (fun tm => tm 1 = .lit (.int .i64 x1_a1) ∧ tm 2 = .ptr 0 0 ∧ tm 5 = .lit (.int .i64 r24.1) ∧ tm 6 = .lit (.int .i64 r24.2.1) ∧ tm 7 = .lit (.int .i64 r24.2.2) ∧ tm 8 = .ptr 21 0 ∧ tm 9 = .lit (.int .i64 r29.2) ∧ tm 32 = .lit (.bool false) ∧ tm 35 = .lit (.bool r59) ∧ True) (by refine ⟨e39, e40, e41, e42, e43, e44, e45, ?_, ?_, trivial⟩ <;> first | (simp only [ua, encM_nil, d20, e39, e40, e41, e42, e43, e44, e45, e46, d47, nm, seval] <;> rfl) | rfl) ?_
      rintro tm ⟨e61, e62, e63, e64, e65, e66, e67, e68, e69, _⟩
      cases d70 : (r59)
      ·simp only [d70, hs, reduceCtorEq] at h
       cases d71 : (r24.2.2 == 2)
       ·simp only [d71, hs, reduceCtorEq] at h
        try simp only [vz, mq, mqm, tyf, mqt, d20, d47, e61, e62, e63, e64, e65, e66, e67, e68, e69, d70, d71, nm, seval]
        obtain rfl := kF _ h
        exact opd_bool Tryz.results9 (by first | rfl | (simp only [upd_apply, seval] <;> rfl))
       simp only [d71, hs, reduceCtorEq] at h
       cases d72 : (r24.1 == 0)
       ·simp only [d72, hs, reduceCtorEq] at h
        try simp only [vz, mq, mqm, tyf, mqt, d20, d47, e61, e62, e63, e64, e65, e66, e67, e68, e69, d70, d71, d72, nm, seval]
        obtain rfl := kF _ h
        exact opd_bool Tryz.results9 (by first | rfl | (simp only [upd_apply, seval] <;> rfl))
       simp only [d72, hs, reduceCtorEq] at h
       cases d73 : (r24.2.1 == 0)
       ·simp only [d73, hs, reduceCtorEq] at h
        try simp only [vz, mq, mqm, tyf, mqt, d20, d47, e61, e62, e63, e64, e65, e66, e67, e68, e69, d70, d71, d72, d73, nm, seval]
        obtain rfl := kF _ h
        exact opd_bool Tryz.results9 (by first | rfl | (simp only [upd_apply, seval] <;> rfl))
       simp only [d73, hs, reduceCtorEq] at h
       cases d74 : (r29.2 == 2)
       ·simp only [d74, hs, reduceCtorEq] at h
        have b75 := And.intro d20 (And.intro d47 (And.intro d70 (And.intro d71 (And.intro d72 (And.intro d73 d74)))))
        try simp only [vz, mq, mqm, tyf, mqt, b75, e61, e62, e63, e64, e65, e66, e67, e68, e69, nm, seval]
        obtain rfl := kF _ h
        exact opd_bool Tryz.results9 (by first | rfl | (simp only [upd_apply, seval] <;> rfl))
       simp only [d74, hs, reduceCtorEq] at h
       have b76 := And.intro d20 (And.intro d47 (And.intro d70 (And.intro d71 (And.intro d72 (And.intro d73 d74)))))
       cases d77 : (r29.1.Along == 0 && (r29.1.Across == 0))
       ·simp only [d77, hs, reduceCtorEq] at h
        try simp only [vz, mq, mqm, tyf, mqt, b76, e61, e62, e63, e64, e65, e66, e67, e68, e69, d77, nm, seval]
        obtain rfl := kF _ h
        exact opd_bool Tryz.results9 (by first | rfl | (simp only [upd_apply, seval] <;> rfl))
       simp only [d77, hs, reduceCtorEq] at h
       cases o79 : (g_law02_known ) with
       | none =>
        simp only [o79, hs, reduceCtorEq] at h
        exact absurd h kN
       | some r78 =>
        simp only [o79, hs, reduceCtorEq] at h
        simp only [vz, mq, mqm, tyf, mqt, b76, e61, e62, e63, e64, e65, e66, e67, e68, e69, d77, nm, seval]
        refine ktree (args0 := []) (by first | (simp only [nrm, tynrm] <;> rfl) | rfl) (by simp only [tre, tytre, Bool.and_self]) (g_law02_known_ok  _ o79) ?_
        refine fin_cut (fun tm => tm 57 = .lit (.bool true) ∧ tm 58 = .lit (.bool r78) ∧ True) (by refine ⟨?_, ?_, trivial⟩ <;> first | (simp only [ua, encM_nil, b76, e61, e62, e63, e64, e65, e66, e67, e68, e69, d77, nm, seval] <;> rfl) | rfl) ?_
        rintro tm ⟨e80, e81, _⟩
        try simp only [vz, mq, mqm, tyf, mqt, b76, d77, e80, e81, nm, seval]
        obtain rfl := kF _ h
        exact opd_bool Tryz.results9 (by first | rfl | (simp only [upd_apply, seval] <;> rfl))
      simp only [d70, hs, reduceCtorEq] at h
      cases o83 : (getI x0_s.Boards x1_a1) with
      | none =>
       simp only [o83, hs, reduceCtorEq] at h
       exact absurd h kN
      | some x82 =>
       simp only [o83, hs, reduceCtorEq] at h
       cases o85 : (g_ref02_From x0_s x82) with
       | none =>
        simp only [o85, hs, reduceCtorEq] at h
        exact absurd h kN
       | some r84 =>
        simp only [o85, hs, reduceCtorEq] at h
        simp only [vz, mq, mqm, tyf, mqt, d20, d47, e61, e62, e63, e64, e65, e66, e67, e68, e69, d70, (ix24 o83), nm, seval]
        refine ktree (args0 := [.agg (cGSightStreet x0_s), .agg (cGSightBoard x82)]) (by first | (simp only [nrm, tynrm] <;> rfl) | rfl) (by simp only [tre, tytre, Bool.and_self]) (g_ref02_From_ok _ _ _ o85) ?_
        refine fin_cut (fun tm => tm 2 = .ptr 0 0 ∧ tm 5 = .lit (.int .i64 r24.1) ∧ tm 6 = .lit (.int .i64 r24.2.1) ∧ tm 7 = .lit (.int .i64 r24.2.2) ∧ tm 8 = .ptr 21 0 ∧ tm 9 = .lit (.int .i64 r29.2) ∧ tm 10 = .ptr 38 0 ∧ tm 67 = .sl (cellsL cGSightPlace r84) (List.length r84) false ∧ True) (by refine ⟨e62, e63, e64, e65, e66, e67, ?_, ?_, trivial⟩ <;> first | (simp only [ua, encM_nil, d20, d47, e61, e62, e63, e64, e65, e66, e67, e68, e69, d70, nm, seval] <;> rfl) | rfl) ?_
        rintro tm ⟨e86, e87, e88, e89, e90, e91, e92, e93, _⟩
        cases d94 : (r24.2.2 != 0)
        ·simp only [d94, hs, reduceCtorEq] at h
         cases d95 : (r24.1 != (List.length r84 : Int))
         ·simp only [d95, hs, reduceCtorEq] at h
          cases o97 : (g_ref02_Maybe x0_s x82) with
          | none =>
           simp only [o97, hs, reduceCtorEq] at h
           exact absurd h kN
          | some r96 =>
           simp only [o97, hs, reduceCtorEq] at h
           simp only [vz, mq, mqm, tyf, mqt, d20, d47, d70, (ix24 o83), e86, e87, e88, e89, e90, e91, e92, e93, d94, d95, nm, seval]
           refine ktree (args0 := [.agg (cGSightStreet x0_s), .agg (cGSightBoard x82)]) (by first | (simp only [nrm, tynrm] <;> rfl) | rfl) (by simp only [tre, tytre, Bool.and_self]) (g_ref02_Maybe_ok _ _ _ o97) ?_
           refine fin_cut (fun tm => tm 8 = .ptr 21 0 ∧ tm 9 = .lit (.int .i64 r29.2) ∧ tm 10 = .ptr 38 0 ∧ tm 11 = .sl (cellsL cGSightPlace r84) (List.length r84) false ∧ tm 76 = .lit (.bool false) ∧ tm 77 = .lit (.int .i64 r24.2.1) ∧ tm 80 = .lit (.int .i64 r96) ∧ True) (by refine ⟨e90, e91, e92, ?_, ?_, ?_, ?_, trivial⟩ <;> first | (simp only [ua, encM_nil, d20, d47, d70, e86, e87, e88, e89, e90, e91, e92, e93, d94, d95, nm, seval] <;> rfl) | rfl) ?_
           rintro tm ⟨e98, e99, e100, e101, e102, e103, e104, _⟩
           cases d105 : (r24.2.1 != r96)
           ·simp only [d105, hs, reduceCtorEq] at h
            cases d106 : ((List.length r84 : Int) == 0)
            ·simp only [d106, hs, reduceCtorEq] at h
             have b107 := And.intro d20 (And.intro d47 (And.intro d70 (And.intro d94 (And.intro d95 (And.intro d105 d106)))))
             simp only [vz, mq, mqm, tyf, mqt, b107, (ix24 o83), e98, e99, e100, e101, e102, e103, e104, nm, seval]
             refine cwp_drwQF (fun tm => tm 8 = .ptr 21 0 ∧ tm 9 = .lit (.int .i64 r29.2) ∧ tm 10 = .ptr 38 0 ∧ tm 11 = .sl (cellsL cGSightPlace r84) (List.length r84) false ∧ True) (by refine ⟨e98, e99, e100, e101, trivial⟩ <;> first | (simp only [ua, encM_nil, b107, e98, e99, e100, e101, e102, e103, e104, nm, seval] <;> rfl) | rfl) ?_
             rintro tm ⟨e108, e109, e110, e111, _⟩
             cases d112 : (r29.2 == 0)
             ·simp only [d112, hs, reduceCtorEq] at h
              try simp only [vz, mq, mqm, tyf, mqt, b107, (ix24 o83), e108, e109, e110, e111, d112, nm, seval]
              obtain rfl := kF _ h
              exact opd_bool Tryz.results9 (by first | rfl | (simp only [upd_apply, seval] <;> rfl))
             simp only [d112, hs, reduceCtorEq] at h
             cases o114 : (g_ref02_Farthest x82 r84) with
             | none =>
              simp only [o114, hs, reduceCtorEq] at h
              exact absurd h kN
             | some r113 =>
              simp only [o114, hs, reduceCtorEq] at h
              simp only [vz, mq, mqm, tyf, mqt, b107, (ix24 o83), e108, e109, e110, e111, d112, nm, seval]
              refine dktree (args0 := [.agg (cGSightBoard x82), .sl (cellsL cGSightPlace r84) (List.length r84) false]) (by first | (simp only [nrm, tynrm] <;> rfl) | rfl) (by simp only [tre, tytre, Bool.and_self]) (g_ref02_Farthest_ok _ _ _ o114) ?_
              refine fin_cut (fun tm => tm 98 = .lit (.bool true) ∧ tm 99 = .agg (cGSightPlace r29.1) ∧ tm 102 = .agg (cGSightPlace r113) ∧ True) (by refine ⟨?_, ?_, ?_, trivial⟩ <;> first | (simp only [ua, encM_nil, b107, e108, e109, e110, e111, d112, nm, seval] <;> rfl) | rfl) ?_
              rintro tm ⟨e115, e116, e117, _⟩
              cases d118 : (r29.1.Along == r113.Along && (r29.1.Across == r113.Across))
              ·simp only [d118, hs, reduceCtorEq] at h
               try simp only [vz, mq, mqm, tyf, mqt, b107, (ix24 o83), d112, e115, e116, e117, d118, nm, seval]
               obtain rfl := kF _ h
               exact opd_bool Tryz.results9 (by first | rfl | (simp only [upd_apply, seval] <;> rfl))
              simp only [d118, hs, reduceCtorEq] at h
              cases o120 : (g_law02_known ) with
              | none =>
               simp only [o120, hs, reduceCtorEq] at h
               exact absurd h kN
              | some r119 =>
               simp only [o120, hs, reduceCtorEq] at h
               simp only [vz, mq, mqm, tyf, mqt, b107, (ix24 o83), d112, e115, e116, e117, d118, nm, seval]
               refine dktree (args0 := []) (by first | (simp only [nrm, tynrm] <;> rfl) | rfl) (by simp only [tre, tytre, Bool.and_self]) (g_law02_known_ok  _ o120) ?_
               refine fin_cut (fun tm => tm 105 = .lit (.bool true) ∧ tm 106 = .lit (.bool r119) ∧ True) (by refine ⟨?_, ?_, trivial⟩ <;> first | (simp only [ua, encM_nil, b107, d112, e115, e116, e117, d118, nm, seval] <;> rfl) | rfl) ?_
               rintro tm ⟨e121, e122, _⟩
               try simp only [vz, mq, mqm, tyf, mqt, b107, (ix24 o83), d112, d118, e121, e122, nm, seval]
               obtain rfl := kF _ h
               exact opd_bool Tryz.results9 (by first | rfl | (simp only [upd_apply, seval] <;> rfl))
            simp only [d106, hs, reduceCtorEq] at h
            have b123 := And.intro d20 (And.intro d47 (And.intro d70 (And.intro d94 (And.intro d95 (And.intro d105 d106)))))
            cases d124 : (r29.2 == 5)
            ·simp only [d124, hs, reduceCtorEq] at h
             try simp only [vz, mq, mqm, tyf, mqt, b123, (ix24 o83), e98, e99, e100, e101, e102, e103, e104, d124, nm, seval]
             obtain rfl := kF _ h
             exact opd_bool Tryz.results9 (by first | rfl | (simp only [upd_apply, seval] <;> rfl))
            simp only [d124, hs, reduceCtorEq] at h
            cases d125 : (r29.1.Along == 0 && (r29.1.Across == 0))
            ·simp only [d125, hs, reduceCtorEq] at h
             try simp only [vz, mq, mqm, tyf, mqt, b123, (ix24 o83), e98, e99, e100, e101, e102, e103, e104, d124, d125, nm, seval]
             obtain rfl := kF _ h
             exact opd_bool Tryz.results9 (by first | rfl | (simp only [upd_apply, seval] <;> rfl))
            simp only [d125, hs, reduceCtorEq] at h
            cases o127 : (g_law02_known ) with
            | none =>
             simp only [o127, hs, reduceCtorEq] at h
             exact absurd h kN
            | some r126 =>
             simp only [o127, hs, reduceCtorEq] at h
             simp only [vz, mq, mqm, tyf, mqt, b123, (ix24 o83), e98, e99, e100, e101, e102, e103, e104, d124, d125, nm, seval]
             refine ktree (args0 := []) (by first | (simp only [nrm, tynrm] <;> rfl) | rfl) (by simp only [tre, tytre, Bool.and_self]) (g_law02_known_ok  _ o127) ?_
             refine fin_cut (fun tm => tm 93 = .lit (.bool true) ∧ tm 94 = .lit (.bool r126) ∧ True) (by refine ⟨?_, ?_, trivial⟩ <;> first | (simp only [ua, encM_nil, b123, e98, e99, e100, e101, e102, e103, e104, d124, d125, nm, seval] <;> rfl) | rfl) ?_
             rintro tm ⟨e128, e129, _⟩
             try simp only [vz, mq, mqm, tyf, mqt, b123, (ix24 o83), d124, d125, e128, e129, nm, seval]
             obtain rfl := kF _ h
             exact opd_bool Tryz.results9 (by first | rfl | (simp only [upd_apply, seval] <;> rfl))
           simp only [d105, hs, reduceCtorEq] at h
           try simp only [vz, mq, mqm, tyf, mqt, d20, d47, d70, (ix24 o83), d94, d95, e98, e99, e100, e101, e102, e103, e104, d105, nm, seval]
           obtain rfl := kF _ h
           exact opd_bool Tryz.results9 (by first | rfl | (simp only [upd_apply, seval] <;> rfl))
         simp only [d95, hs, reduceCtorEq] at h
         try simp only [vz, mq, mqm, tyf, mqt, d20, d47, d70, (ix24 o83), e86, e87, e88, e89, e90, e91, e92, e93, d94, d95, nm, seval]
         obtain rfl := kF _ h
         exact opd_bool Tryz.results9 (by first | rfl | (simp only [upd_apply, seval] <;> rfl))
        simp only [d94, hs, reduceCtorEq] at h
        try simp only [vz, mq, mqm, tyf, mqt, d20, d47, d70, (ix24 o83), e86, e87, e88, e89, e90, e91, e92, e93, d94, nm, seval]
        obtain rfl := kF _ h
        exact opd_bool Tryz.results9 (by first | rfl | (simp only [upd_apply, seval] <;> rfl))
end Go.V
end
section
namespace Go.V
open Go
theorem SightManys_true (s : GSightStreet) (n : Int) (h : FineS s) : g_law02_SightManys s n = some true := by
 obtain ⟨bs, hb⟩ := short_some s h
 cases h1 : streetB s with
 | false =>
  simp only [g_law02_SightManys, hb, Option.bind_some, refStreet_eq s h, refBoard_eq, g_law02_known, g_sight_Many, g_sight_Farthest, isStreet_eq s h, h1, cond_false]
  cases bs <;> rfl
 | true =>
  cases h2 : numB s n with
  | false =>
   have h2' := h2
   simp only [numB] at h2'
   simp only [g_law02_SightManys, hb, Option.bind_some, refStreet_eq s h, refBoard_eq, g_law02_known, g_sight_Many, g_sight_Farthest, isStreet_eq s h, isBoard_eq, h1, h2', cond_false, cond_true]
   cases bs <;> rfl
  | true =>
   have h2' := h2
   simp only [numB] at h2'
   obtain ⟨b, b1, hl, hw, hg⟩ := all_good h1 h2
   obtain ⟨e1, e2⟩ := From_eq hl hw hg
   have hn : (allP s).length ≤ 500 := by have := gridP_len (show s.Width.toNat ≤ 12 by omega) (s.Length + 1).toNat 0; unfold allP; omega
   have hf := List.length_filter_le (sureB s b) (allP s)
   simp only [g_law02_SightManys, hb, Option.bind_some, refStreet_eq s h, refBoard_eq, g_law02_known, h1, h2', cond_true, b1, e1, e2, Many_eq h h1 h2 b1 hl hw hg, Farthest_eq h h1 h2 b1 hl hw hg, seen3, seen2]
   cases bs with
   | false => rfl
   | true =>
    cases hL : (allP s).filter (sureB s b) with
    | nil => simp
    | cons x t =>
     rw [hL] at hf
     have hx : ∀ p ∈ x :: t, PG b.At p := fun p hp => (fair_good (hg p (List.mem_filter.1 (hL ▸ hp)).1)).1
     simp only [refFar_eq (show (x :: t).length ≤ 1000 by omega) hx, Option.bind_some]
     have hne : ((x :: t).length : Int) ≠ 0 := by simp only [List.length_cons]; omega
     have hne' : (((x :: t).length : Int) == 0) = false := by simpa using hne
     simp only [hne', cond_false, bne_self_eq_false, beq_self_eq_true, Bool.and_self, cond_true]
end Go.V
end
