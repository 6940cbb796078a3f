/- Part of a proof: a logic of values by content, lifted functions, what follows. -/
import Derived.Test.YtgdgkkloccpbnaaGreatDoorZbf
import Derived.Test.YtgdgkkloccpbnaaGreatDoorZbi
import Derived.Test.YtgdgkkloccpbnaaGreatDoorZbn
import Derived.Test.YtgdgkkloccpbnaaGreatDoorZbp
import Derived.Test.YtgdgkkloccpbnaaGreatDoorZbm
import Derived.Test.YtgdgkkloccpbnaaGreatDoorZbo
import Derived.Test.YtgdgkkloccpbnaaGreatDoorZbh
set_option linter.all false
set_option maxRecDepth 4000
set_option maxHeartbeats 40000000
section
namespace Go.V
open Go Go.Proofs
def g_law03_CoatMore (x0_s : GCoatSheet) (x1_a1 : List Int) (x2_a2 : Int) (x3_a3 : GSpan) (x4_a4 : Int) (x5_a5 : Int) (x6_a6 : Int) : Option (Bool) := Option.bind (g_law03_right x0_s x1_a1) (fun r1 => cond (r1) (Option.bind (g_ref03_Day x0_s x2_a2) (fun r2 => cond (r2) (Option.bind (getI x0_s.Dry x2_a2) (fun x3 => cond (decide (x3_a3.Low < x3.Low)) (some true) (cond (decide (x3_a3.High > x3.High)) (some true) (cond (decide (x3_a3.Low > x3_a3.High)) (some true) (Option.bind (g_ref03_Day x0_s x4_a4) (fun r4 => cond (r4) (Option.bind (g_ref03_Coat x0_s x5_a5) (fun r5 => cond (r5) (cond (decide (x6_a6 < 0)) (some true) (cond (decide (x6_a6 > 288)) (some true) (cond (neB x0_s.Dry) (cond (roomOk 16 (List.length ([] ++ x0_s.Dry))) (Option.bind (getI ([] ++ x0_s.Dry) x2_a2) (fun x6 => Option.bind (g_law03_with x0_s.Work x4_a4) (fun r7 => cond (neB x0_s.Coats) (cond (roomOk 16 (List.length ([] ++ x0_s.Coats))) (Option.bind (getI x0_s.Coats x5_a5) (fun x8 => Option.bind (getI ([] ++ x0_s.Coats) x5_a5) (fun x9 => Option.bind (g_law03_surely x0_s x1_a1) (fun r10 => Option.bind (g_law03_surely (GCoatSheet.mk (List.set ([] ++ x0_s.Dry) (Int.toNat x2_a2) x3_a3) r7 (List.set ([] ++ x0_s.Coats) (Int.toNat x5_a5) (GCoatCoat.mk (if 1 < (IntKind.i64.wrap (x8.Need - x6_a6)) then (IntKind.i64.wrap (x8.Need - x6_a6)) else 1) (if (IntKind.i64.wrap (x8.Peel + x6_a6)) < 400 then (IntKind.i64.wrap (x8.Peel + x6_a6)) else 400)))) x1_a1) (fun r11 => Option.bind (g_coat_Count x0_s) (fun r12 => Option.bind (g_coat_Count (GCoatSheet.mk (List.set ([] ++ x0_s.Dry) (Int.toNat x2_a2) x3_a3) r7 (List.set ([] ++ x0_s.Coats) (Int.toNat x5_a5) (GCoatCoat.mk (if 1 < (IntKind.i64.wrap (x8.Need - x6_a6)) then (IntKind.i64.wrap (x8.Need - x6_a6)) else 1) (if (IntKind.i64.wrap (x8.Peel + x6_a6)) < 400 then (IntKind.i64.wrap (x8.Peel + x6_a6)) else 400))))) (fun r13 => Option.bind (g_coat_Quick x0_s) (fun r14 => Option.bind (g_coat_Quick (GCoatSheet.mk (List.set ([] ++ x0_s.Dry) (Int.toNat x2_a2) x3_a3) r7 (List.set ([] ++ x0_s.Coats) (Int.toNat x5_a5) (GCoatCoat.mk (if 1 < (IntKind.i64.wrap (x8.Need - x6_a6)) then (IntKind.i64.wrap (x8.Need - x6_a6)) else 1) (if (IntKind.i64.wrap (x8.Peel + x6_a6)) < 400 then (IntKind.i64.wrap (x8.Peel + x6_a6)) else 400))))) (fun r15 => cond (r10.2) (cond (r11.2) (cond (r10.1) (cond (r11.1) (cond (r12.2 != 0) (some false) (cond (r13.2 != 0) (some false) (cond (decide (r13.1 < r12.1)) (some false) (cond (r14.2 != 0) (cond (r14.2 != 5) (some false) (cond (r15.2 != 0) (cond (r15.2 != 5) (some false) (some true)) (some true))) (cond (r15.2 != 0) (cond (r15.2 != 5) (some false) (cond (r15.2 == 0) (cond (decide (r15.1 ≤ r14.1)) (some true) (some false)) (some false))) (cond (r15.2 == 0) (cond (decide (r15.1 ≤ r14.1)) (some true) (some false)) (some false))))))) (some false)) (cond (r12.2 != 0) (some false) (cond (r13.2 != 0) (some false) (cond (decide (r13.1 < r12.1)) (some false) (cond (r14.2 != 0) (cond (r14.2 != 5) (some false) (cond (r15.2 != 0) (cond (r15.2 != 5) (some false) (some true)) (some true))) (cond (r15.2 != 0) (cond (r15.2 != 5) (some false) (cond (r15.2 == 0) (cond (decide (r15.1 ≤ r14.1)) (some true) (some false)) (some false))) (cond (r15.2 == 0) (cond (decide (r15.1 ≤ r14.1)) (some true) (some false)) (some false)))))))) (some false)) (some false)))))))))) none) none))) none) none))) (some true))) (some true))))))) (some true))) (some true))
theorem g_law03_CoatMore_ok (x0_s : GCoatSheet) (x1_a1 : List Int) (x2_a2 : Int) (x3_a3 : GSpan) (x4_a4 : Int) (x5_a5 : Int) (x6_a6 : Int) (R : Bool) (h : g_law03_CoatMore x0_s x1_a1 x2_a2 x3_a3 x4_a4 x5_a5 x6_a6 = some R) : VPure Tryz.prog G0 13 [.agg (cGCoatSheet x0_s), .sl (cellsL eI x1_a1) (List.length x1_a1) false, .lit (.int .i64 x2_a2), .agg (cGSpan x3_a3), .lit (.int .i64 x4_a4), .lit (.int .i64 x5_a5), .lit (.int .i64 x6_a6)] (.tree (.lit (.bool R))) := by
 refine VPure.runRQ mixed Tryz.call13 Tryz.func13 rfl (by simp [Tryz.ntmps13]; kernel_rfl) ?_
 obtain ⟨KF, h, kF, kN⟩ := fun_intro h
 simp only [g_law03_CoatMore] at h
 simp only [vz, tyf, nm, seval]
 refine cwp_drwQF (fun tm => tm 1 = .sl (cellsL eI x1_a1) (List.length x1_a1) false ∧ tm 2 = .lit (.int .i64 x2_a2) ∧ tm 4 = .lit (.int .i64 x4_a4) ∧ tm 5 = .lit (.int .i64 x5_a5) ∧ tm 6 = .lit (.int .i64 x6_a6) ∧ tm 7 = .ptr 0 0 ∧ tm 10 = .ptr 1 0 ∧ True) (by refine ⟨?_, ?_, ?_, ?_, ?_, ?_, ?_, trivial⟩ <;> first | (simp only [ua, nm, seval] <;> rfl) | rfl) ?_
 rintro tm ⟨e16, e17, e18, e19, e20, e21, e22, _⟩
 rcases o24 : (g_law03_right x0_s x1_a1) with _ | r23
 ·simp only [o24, hs] at h
  exact absurd h kN
 simp only [o24, hs] at h
 simp only [vz, tyf, e16, e17, e18, e19, e20, e21, e22, nm, seval]
 refine dktree (args0 := [.agg (cGCoatSheet x0_s), .sl (cellsL eI x1_a1) (List.length x1_a1) false]) (by first | (simp only [nrm, tynrm] <;> rfl) | rfl) (by simp only [tre, tytre, Bool.and_self]) (g_law03_right_ok _ _ _ o24) ?_
 refine fin_cut (fun tm => tm 1 = .sl (cellsL eI x1_a1) (List.length x1_a1) false ∧ tm 2 = .lit (.int .i64 x2_a2) ∧ tm 4 = .lit (.int .i64 x4_a4) ∧ tm 5 = .lit (.int .i64 x5_a5) ∧ tm 6 = .lit (.int .i64 x6_a6) ∧ tm 7 = .ptr 0 0 ∧ tm 10 = .ptr 1 0 ∧ tm 30 = .lit (.bool r23) ∧ True) (by refine ⟨e16, e17, e18, e19, e20, e21, e22, ?_, trivial⟩ <;> first | (simp only [ua, e16, e17, e18, e19, e20, e21, e22, nm, seval] <;> rfl) | rfl) ?_
 rintro tm ⟨e25, e26, e27, e28, e29, e30, e31, e32, _⟩
 cases d33 : (r23)
 ·simp only [d33, hs] at h
  simp only [vz, tyf, e25, e26, e27, e28, e29, e30, e31, e32, d33, nm, seval]
  refine ktree0 g_law03_known_ok ?_
  try simp only [vz, tyf, e25, e26, e27, e28, e29, e30, e31, e32, d33, nm, seval]
  obtain rfl := kF _ h
  exact opd_bool Tryz.results13 rfl
 simp only [d33, hs] at h
 rcases o35 : (g_ref03_Day x0_s x2_a2) with _ | r34
 ·simp only [o35, hs] at h
  exact absurd h kN
 simp only [o35, hs] at h
 simp only [vz, tyf, e25, e26, e27, e28, e29, e30, e31, e32, d33, nm, seval]
 refine dktree (args0 := [.agg (cGCoatSheet x0_s), .lit (.int .i64 x2_a2)]) (by first | (simp only [nrm, tynrm] <;> rfl) | rfl) (by simp only [tre, tytre, Bool.and_self]) (g_ref03_Day_ok _ _ _ o35) ?_
 refine fin_cut (fun tm => tm 1 = .sl (cellsL eI x1_a1) (List.length x1_a1) false ∧ tm 2 = .lit (.int .i64 x2_a2) ∧ tm 4 = .lit (.int .i64 x4_a4) ∧ tm 5 = .lit (.int .i64 x5_a5) ∧ tm 6 = .lit (.int .i64 x6_a6) ∧ tm 7 = .ptr 0 0 ∧ tm 10 = .ptr 1 0 ∧ tm 32 = .lit (.bool false) ∧ tm 35 = .lit (.bool r34) ∧ True) (by refine ⟨e25, e26, e27, e28, e29, e30, e31, ?_, ?_, trivial⟩ <;> first | (simp only [ua, e25, e26, e27, e28, e29, e30, e31, e32, d33, nm, seval] <;> rfl) | rfl) ?_
 rintro tm ⟨e36, e37, e38, e39, e40, e41, e42, e43, e44, _⟩
 cases d45 : (r34)
 ·simp only [d45, hs] at h
  simp only [vz, tyf, d33, e36, e37, e38, e39, e40, e41, e42, e43, e44, d45, nm, seval]
  refine ktree0 g_law03_known_ok ?_
  try simp only [vz, tyf, d33, e36, e37, e38, e39, e40, e41, e42, e43, e44, d45, nm, seval]
  obtain rfl := kF _ h
  exact opd_bool Tryz.results13 rfl
 simp only [d45, hs] at h
 rcases o47 : (getI x0_s.Dry x2_a2) with _ | x46
 ·simp only [o47, hs] at h
  exact absurd h kN
 simp only [o47, hs] at h
 cases d48 : (decide (x3_a3.Low < x46.Low))
 ·simp only [d48, hs] at h
  cases d49 : (decide (x3_a3.High > x46.High))
  ·simp only [d49, hs] at h
   cases d50 : (decide (x3_a3.Low > x3_a3.High))
   ·simp only [d50, hs] at h
    rcases o52 : (g_ref03_Day x0_s x4_a4) with _ | r51
    ·simp only [o52, hs] at h
     exact absurd h kN
    simp only [o52, hs] at h
    simp only [vz, tyf, d33, e36, e37, e38, e39, e40, e41, e42, e43, e44, d45, (ix22 o47), d48, d49, d50, nm, seval]
    refine dktree (args0 := [.agg (cGCoatSheet x0_s), .lit (.int .i64 x4_a4)]) (by first | (simp only [nrm, tynrm] <;> rfl) | rfl) (by simp only [tre, tytre, Bool.and_self]) (g_ref03_Day_ok _ _ _ o52) ?_
    refine fin_cut (fun tm => tm 1 = .sl (cellsL eI x1_a1) (List.length x1_a1) false ∧ tm 2 = .lit (.int .i64 x2_a2) ∧ tm 4 = .lit (.int .i64 x4_a4) ∧ tm 5 = .lit (.int .i64 x5_a5) ∧ tm 6 = .lit (.int .i64 x6_a6) ∧ tm 7 = .ptr 0 0 ∧ tm 10 = .ptr 1 0 ∧ tm 67 = .lit (.bool false) ∧ tm 70 = .lit (.bool r51) ∧ True) (by refine ⟨e36, e37, e38, e39, e40, e41, e42, ?_, ?_, trivial⟩ <;> first | (simp only [ua, d33, e36, e37, e38, e39, e40, e41, e42, e43, e44, d45, d48, d49, d50, nm, seval] <;> rfl) | rfl) ?_
    rintro tm ⟨e53, e54, e55, e56, e57, e58, e59, e60, e61, _⟩
    cases d62 : (r51)
    ·simp only [d62, hs] at h
     simp only [vz, tyf, d33, d45, (ix22 o47), d48, d49, d50, e53, e54, e55, e56, e57, e58, e59, e60, e61, d62, nm, seval]
     refine ktree0 g_law03_known_ok ?_
     try simp only [vz, tyf, d33, d45, (ix22 o47), d48, d49, d50, e53, e54, e55, e56, e57, e58, e59, e60, e61, d62, nm, seval]
     obtain rfl := kF _ h
     exact opd_bool Tryz.results13 rfl
    simp only [d62, hs] at h
    rcases o64 : (g_ref03_Coat x0_s x5_a5) with _ | r63
    ·simp only [o64, hs] at h
     exact absurd h kN
    simp only [o64, hs] at h
    simp only [vz, tyf, d33, d45, (ix22 o47), d48, d49, d50, e53, e54, e55, e56, e57, e58, e59, e60, e61, d62, nm, seval]
    refine dktree (args0 := [.agg (cGCoatSheet x0_s), .lit (.int .i64 x5_a5)]) (by first | (simp only [nrm, tynrm] <;> rfl) | rfl) (by simp only [tre, tytre, Bool.and_self]) (g_ref03_Coat_ok _ _ _ o64) ?_
    refine fin_cut (fun tm => tm 1 = .sl (cellsL eI x1_a1) (List.length x1_a1) false ∧ tm 2 = .lit (.int .i64 x2_a2) ∧ tm 4 = .lit (.int .i64 x4_a4) ∧ tm 5 = .lit (.int .i64 x5_a5) ∧ tm 6 = .lit (.int .i64 x6_a6) ∧ tm 7 = .ptr 0 0 ∧ tm 10 = .ptr 1 0 ∧ tm 73 = .lit (.bool false) ∧ tm 76 = .lit (.bool r63) ∧ True) (by refine ⟨e53, e54, e55, e56, e57, e58, e59, ?_, ?_, trivial⟩ <;> first | (simp only [ua, d33, d45, d48, d49, d50, e53, e54, e55, e56, e57, e58, e59, e60, e61, d62, nm, seval] <;> rfl) | rfl) ?_
    rintro tm ⟨e65, e66, e67, e68, e69, e70, e71, e72, e73, _⟩
    cases d74 : (r63)
    ·simp only [d74, hs] at h
     have b75 := And.intro d33 (And.intro d45 (And.intro d48 (And.intro d49 (And.intro d50 (And.intro d62 d74)))))
     simp only [vz, tyf, b75, (ix22 o47), e65, e66, e67, e68, e69, e70, e71, e72, e73, nm, seval]
     refine ktree0 g_law03_known_ok ?_
     try simp only [vz, tyf, b75, (ix22 o47), e65, e66, e67, e68, e69, e70, e71, e72, e73, nm, seval]
     obtain rfl := kF _ h
     exact opd_bool Tryz.results13 rfl
    simp only [d74, hs] at h
    have b76 := And.intro d33 (And.intro d45 (And.intro d48 (And.intro d49 (And.intro d50 (And.intro d62 d74)))))
    cases d77 : (decide (x6_a6 < 0))
    ·simp only [d77, hs] at h
     cases d78 : (decide (x6_a6 > 288))
     ·simp only [d78, hs] at h
      cases g79 : (neB x0_s.Dry)
      ·simp only [g79, hs] at h
       exact absurd h kN
      simp only [g79, hs] at h
      cases g80 : (roomOk 16 (List.length ([] ++ x0_s.Dry)))
      ·simp only [g80, hs] at h
       exact absurd h kN
      simp only [g80, hs] at h
      simp only [vz, tyf, b76, (ix22 o47), e65, e66, e67, e68, e69, e70, e71, e72, e73, d77, d78, g79, g80, nm, seval]
      refine k_appNS (w := 2) (enc := cGSpan) (ys := x0_s.Dry) (fun _ => rfl) lf22 ao22 Tryz.underlying22 g79 g80 ?_
      rcases o82 : (getI ([] ++ x0_s.Dry) x2_a2) with _ | x81
      ·simp only [o82, hs] at h
       exact absurd h kN
      simp only [o82, hs] at h
      have w83 := setA (w := 2) (enc := cGSpan) (fun _ => rfl) o82
      have w84 := setB (w := 2) (enc := cGSpan) x3_a3 (fun _ => rfl) o82
      simp only [vz, tyf, nm, seval] at w84
      have w85 := setC (w := 2) (enc := cGSpan) ([] ++ x0_s.Dry) (Int.toNat x2_a2) x3_a3 (fun _ => rfl)
      rcases o87 : (g_law03_with x0_s.Work x4_a4) with _ | r86
      ·simp only [o87, hs] at h
       exact absurd h kN
      simp only [o87, hs] at h
      simp only [vz, tyf, b76, (ix22 o47), e65, e66, e67, e68, e69, e70, e71, e72, e73, d77, d78, g79, g80, (ixo22 o82), w83, w84, w85, nm, seval]
      refine ktree (args0 := [.sl (cellsL eI x0_s.Work) (List.length x0_s.Work) false, .lit (.int .i64 x4_a4)]) (by first | (simp only [nrm, tynrm] <;> rfl) | rfl) (by simp only [tre, tytre, Bool.and_self]) (g_law03_with_ok _ _ _ o87) ?_
      refine fin_cut (fun tm => tm 1 = .sl (cellsL eI x1_a1) (List.length x1_a1) false ∧ tm 5 = .lit (.int .i64 x5_a5) ∧ tm 6 = .lit (.int .i64 x6_a6) ∧ tm 7 = .ptr 0 0 ∧ tm 15 = .ptr 63 0 ∧ tm 101 = .sl (cellsL eI r86) (List.length r86) false ∧ True) (by refine ⟨e65, e68, e69, e70, ?_, ?_, trivial⟩ <;> first | (simp only [ua, b76, e65, e66, e67, e68, e69, e70, e71, e72, e73, d77, d78, w83, w84, w85, nm, seval] <;> rfl) | rfl) ?_
      rintro tm ⟨e88, e89, e90, e91, e92, e93, _⟩
      have b94 := And.intro b76 (And.intro d77 (And.intro d78 (And.intro g79 (And.intro g80 (And.intro w83 (And.intro w84 w85))))))
      cases g95 : (neB x0_s.Coats)
      ·simp only [g95, hs] at h
       exact absurd h kN
      simp only [g95, hs] at h
      cases g96 : (roomOk 16 (List.length ([] ++ x0_s.Coats)))
      ·simp only [g96, hs] at h
       exact absurd h kN
      simp only [g96, hs] at h
      simp only [vz, tyf, b94, (ix22 o47), (ixo22 o82), e88, e89, e90, e91, e92, e93, g95, g96, nm, seval]
      refine k_appNS (w := 2) (enc := cGCoatCoat) (ys := x0_s.Coats) (fun _ => rfl) lf24 ao24 Tryz.underlying24 g95 g96 ?_
      simp only [vz, tyf, b94, (ix22 o47), (ixo22 o82), e88, e89, e90, e91, e92, e93, g95, g96, nm, seval]
      refine cwp_drawTF (fun tm => tm 1 = .sl (cellsL eI x1_a1) (List.length x1_a1) false ∧ tm 5 = .lit (.int .i64 x5_a5) ∧ tm 6 = .lit (.int .i64 x6_a6) ∧ tm 7 = .ptr 0 0 ∧ tm 15 = .ptr 63 0 ∧ True) (by refine ⟨e88, e89, e90, e91, e92, trivial⟩ <;> first | (simp only [ua, b94, e88, e89, e90, e91, e92, e93, nm, seval] <;> rfl) | rfl) ?_
      rintro tm ⟨e97, e98, e99, e100, e101, _⟩
      rcases o103 : (getI x0_s.Coats x5_a5) with _ | x102
      ·simp only [o103, hs] at h
       exact absurd h kN
      simp only [o103, hs] at h
      rcases o105 : (getI ([] ++ x0_s.Coats) x5_a5) with _ | x104
      ·simp only [o105, hs] at h
       exact absurd h kN
      simp only [o105, hs] at h
      have w106 := setA (w := 2) (enc := cGCoatCoat) (fun _ => rfl) o105
      have w107 := setB (w := 2) (enc := cGCoatCoat) (GCoatCoat.mk (if 1 < (IntKind.i64.wrap (x102.Need - x6_a6)) then (IntKind.i64.wrap (x102.Need - x6_a6)) else 1) (if (IntKind.i64.wrap (x102.Peel + x6_a6)) < 400 then (IntKind.i64.wrap (x102.Peel + x6_a6)) else 400)) (fun _ => rfl) o105
      simp only [vz, tyf, nm, seval] at w107
      have w108 := setC (w := 2) (enc := cGCoatCoat) ([] ++ x0_s.Coats) (Int.toNat x5_a5) (GCoatCoat.mk (if 1 < (IntKind.i64.wrap (x102.Need - x6_a6)) then (IntKind.i64.wrap (x102.Need - x6_a6)) else 1) (if (IntKind.i64.wrap (x102.Peel + x6_a6)) < 400 then (IntKind.i64.wrap (x102.Peel + x6_a6)) else 400)) (fun _ => rfl)
      simp only [vz, tyf, b94, (ix22 o47), (ixo22 o82), g95, g96, e97, e98, e99, e100, e101, (ix24 o103), (ixo24 o105), w106, w107, w108, nm, seval]
      refine drawK_nil ⟨?_, ?_⟩
      ·simp only [traceR_cons, traceR_nil, hitK_quiet, hitK_nil, and_true, true_and]
       repeat' (first | exact trivial | refine And.intro ?_ ?_ | rw [hitK_quiet] | rw [hitK_cons] | exact Or.inl (by decide +kernel) | exact Or.inl (by dsimp only; decide +kernel) | (refine Or.inr ⟨?_, ?_⟩ <;> simp; done) | (refine Or.inr ⟨?_, ?_⟩ <;> simp <;> omega) | (refine Or.inr ⟨?_, ?_⟩ <;> simp [VEff.wr] <;> omega))
      rcases o110 : (g_law03_surely x0_s x1_a1) with _ | r109
      ·simp only [o110, hs] at h
       exact absurd h kN
      simp only [o110, hs] at h
      simp only [vz, tyf, b94, (ix22 o47), (ixo22 o82), g95, g96, e97, e98, e99, e100, e101, (ix24 o103), (ixo24 o105), w106, w107, w108, nm, seval]
      refine ktree (args0 := [.agg (cGCoatSheet x0_s), .sl (cellsL eI x1_a1) (List.length x1_a1) false]) (by first | (simp only [nrm, tynrm] <;> rfl) | rfl) (by simp only [tre, tytre, Bool.and_self]) (g_law03_surely_ok _ _ _ o110) ?_
      refine fin_cut (fun tm => tm 1 = .sl (cellsL eI x1_a1) (List.length x1_a1) false ∧ tm 7 = .ptr 0 0 ∧ tm 15 = .ptr 63 0 ∧ tm 133 = .tup [.lit (.bool r109.1), .lit (.bool r109.2)] ∧ True) (by refine ⟨e97, e100, e101, ?_, trivial⟩ <;> first | (simp only [ua, b94, e97, e98, e99, e100, e101, w106, w107, w108, nm, seval] <;> rfl) | rfl) ?_
      rintro tm ⟨e111, e112, e113, e114, _⟩
      rcases o116 : (g_law03_surely (GCoatSheet.mk (List.set ([] ++ x0_s.Dry) (Int.toNat x2_a2) x3_a3) r86 (List.set ([] ++ x0_s.Coats) (Int.toNat x5_a5) (GCoatCoat.mk (if 1 < (IntKind.i64.wrap (x102.Need - x6_a6)) then (IntKind.i64.wrap (x102.Need - x6_a6)) else 1) (if (IntKind.i64.wrap (x102.Peel + x6_a6)) < 400 then (IntKind.i64.wrap (x102.Peel + x6_a6)) else 400)))) x1_a1) with _ | r115
      ·simp only [o116, hs] at h
       exact absurd h kN
      simp only [o116, hs] at h
      simp only [vz, tyf, b94, (ix22 o47), (ixo22 o82), g95, g96, (ix24 o103), (ixo24 o105), w106, w107, w108, e111, e112, e113, e114, nm, seval]
      refine kseen (args0 := [.agg (cGCoatSheet (GCoatSheet.mk (List.set ([] ++ x0_s.Dry) (Int.toNat x2_a2) x3_a3) r86 (List.set ([] ++ x0_s.Coats) (Int.toNat x5_a5) (GCoatCoat.mk (if 1 < (IntKind.i64.wrap (x102.Need - x6_a6)) then (IntKind.i64.wrap (x102.Need - x6_a6)) else 1) (if (IntKind.i64.wrap (x102.Peel + x6_a6)) < 400 then (IntKind.i64.wrap (x102.Peel + x6_a6)) else 400))))), .sl (cellsL eI x1_a1) (List.length x1_a1) false]) (by simp only [List.map_cons, List.map_nil, showV_ref, updH_apply, without_apply, cr, tyf, nrm, tynrm, b94, (ix22 o47), (ixo22 o82), g95, g96, (ix24 o103), (ixo24 o105), w106, w107, w108, e111, e112, e113, e114, nm, seval] <;> rfl) (by simp only [List.map_cons, List.map_nil, showV_ref, updH_apply, without_apply, cr, tyf, nrm, tynrm, b94, (ix22 o47), (ixo22 o82), g95, g96, (ix24 o103), (ixo24 o105), w106, w107, w108, e111, e112, e113, e114, nm, seval]; simp only [tre, tytre, Bool.and_self]) (g_law03_surely_ok _ _ _ o116) (by first | rfl | simp only [VV.flat, flatL, Bool.and_self]) ?_
      refine fin_cut (fun tm => tm 7 = .ptr 0 0 ∧ tm 15 = .ptr 63 0 ∧ tm 16 = .lit (.bool r109.1) ∧ tm 17 = .lit (.bool r109.2) ∧ tm 139 = .tup [.lit (.bool r115.1), .lit (.bool r115.2)] ∧ True) (by refine ⟨e112, e113, ?_, ?_, ?_, trivial⟩ <;> first | (simp only [ua, b94, w106, w107, w108, e111, e112, e113, e114, nm, seval] <;> rfl) | rfl) ?_
      rintro tm ⟨e117, e118, e119, e120, e121, _⟩
      rcases o123 : (g_coat_Count x0_s) with _ | r122
      ·simp only [o123, hs] at h
       exact absurd h kN
      simp only [o123, hs] at h
      simp only [vz, tyf, b94, (ix22 o47), (ixo22 o82), g95, g96, (ix24 o103), (ixo24 o105), w106, w107, w108, e117, e118, e119, e120, e121, nm, seval]
      refine ktree (args0 := [.agg (cGCoatSheet x0_s)]) (by first | (simp only [nrm, tynrm] <;> rfl) | rfl) (by simp only [tre, tytre, Bool.and_self]) (g_coat_Count_ok _ _ o123) ?_
      refine fin_cut (fun tm => tm 7 = .ptr 0 0 ∧ tm 15 = .ptr 63 0 ∧ tm 16 = .lit (.bool r109.1) ∧ tm 17 = .lit (.bool r109.2) ∧ tm 18 = .lit (.bool r115.1) ∧ tm 19 = .lit (.bool r115.2) ∧ tm 144 = .tup [.lit (.int .i64 r122.1), .lit (.int .i64 r122.2)] ∧ True) (by refine ⟨e117, e118, e119, e120, ?_, ?_, ?_, trivial⟩ <;> first | (simp only [ua, b94, w106, w107, w108, e117, e118, e119, e120, e121, nm, seval] <;> rfl) | rfl) ?_
      rintro tm ⟨e124, e125, e126, e127, e128, e129, e130, _⟩
      rcases o132 : (g_coat_Count (GCoatSheet.mk (List.set ([] ++ x0_s.Dry) (Int.toNat x2_a2) x3_a3) r86 (List.set ([] ++ x0_s.Coats) (Int.toNat x5_a5) (GCoatCoat.mk (if 1 < (IntKind.i64.wrap (x102.Need - x6_a6)) then (IntKind.i64.wrap (x102.Need - x6_a6)) else 1) (if (IntKind.i64.wrap (x102.Peel + x6_a6)) < 400 then (IntKind.i64.wrap (x102.Peel + x6_a6)) else 400))))) with _ | r131
      ·simp only [o132, hs] at h
       exact absurd h kN
      simp only [o132, hs] at h
      simp only [vz, tyf, b94, (ix22 o47), (ixo22 o82), g95, g96, (ix24 o103), (ixo24 o105), w106, w107, w108, e124, e125, e126, e127, e128, e129, e130, nm, seval]
      refine kseen (args0 := [.agg (cGCoatSheet (GCoatSheet.mk (List.set ([] ++ x0_s.Dry) (Int.toNat x2_a2) x3_a3) r86 (List.set ([] ++ x0_s.Coats) (Int.toNat x5_a5) (GCoatCoat.mk (if 1 < (IntKind.i64.wrap (x102.Need - x6_a6)) then (IntKind.i64.wrap (x102.Need - x6_a6)) else 1) (if (IntKind.i64.wrap (x102.Peel + x6_a6)) < 400 then (IntKind.i64.wrap (x102.Peel + x6_a6)) else 400)))))]) (by simp only [List.map_cons, List.map_nil, showV_ref, updH_apply, without_apply, cr, tyf, nrm, tynrm, b94, (ix22 o47), (ixo22 o82), g95, g96, (ix24 o103), (ixo24 o105), w106, w107, w108, e124, e125, e126, e127, e128, e129, e130, nm, seval] <;> rfl) (by simp only [List.map_cons, List.map_nil, showV_ref, updH_apply, without_apply, cr, tyf, nrm, tynrm, b94, (ix22 o47), (ixo22 o82), g95, g96, (ix24 o103), (ixo24 o105), w106, w107, w108, e124, e125, e126, e127, e128, e129, e130, nm, seval]; simp only [tre, tytre, Bool.and_self]) (g_coat_Count_ok _ _ o132) (by first | rfl | simp only [VV.flat, flatL, Bool.and_self]) ?_
      refine fin_cut (fun tm => tm 7 = .ptr 0 0 ∧ tm 15 = .ptr 63 0 ∧ tm 16 = .lit (.bool r109.1) ∧ tm 17 = .lit (.bool r109.2) ∧ tm 18 = .lit (.bool r115.1) ∧ tm 19 = .lit (.bool r115.2) ∧ tm 20 = .lit (.int .i64 r122.1) ∧ tm 21 = .lit (.int .i64 r122.2) ∧ tm 149 = .tup [.lit (.int .i64 r131.1), .lit (.int .i64 r131.2)] ∧ True) (by refine ⟨e124, e125, e126, e127, e128, e129, ?_, ?_, ?_, trivial⟩ <;> first | (simp only [ua, b94, w106, w107, w108, e124, e125, e126, e127, e128, e129, e130, nm, seval] <;> rfl) | rfl) ?_
      rintro tm ⟨e133, e134, e135, e136, e137, e138, e139, e140, e141, _⟩
      rcases o143 : (g_coat_Quick x0_s) with _ | r142
      ·simp only [o143, hs] at h
       exact absurd h kN
      simp only [o143, hs] at h
      simp only [vz, tyf, b94, (ix22 o47), (ixo22 o82), g95, g96, (ix24 o103), (ixo24 o105), w106, w107, w108, e133, e134, e135, e136, e137, e138, e139, e140, e141, nm, seval]
      refine ktree (args0 := [.agg (cGCoatSheet x0_s)]) (by first | (simp only [nrm, tynrm] <;> rfl) | rfl) (by simp only [tre, tytre, Bool.and_self]) (g_coat_Quick_ok _ _ o143) ?_
      refine fin_cut (fun tm => tm 15 = .ptr 63 0 ∧ tm 16 = .lit (.bool r109.1) ∧ tm 17 = .lit (.bool r109.2) ∧ tm 18 = .lit (.bool r115.1) ∧ tm 19 = .lit (.bool r115.2) ∧ tm 20 = .lit (.int .i64 r122.1) ∧ tm 21 = .lit (.int .i64 r122.2) ∧ tm 22 = .lit (.int .i64 r131.1) ∧ tm 23 = .lit (.int .i64 r131.2) ∧ tm 154 = .tup [.lit (.int .i64 r142.1), .lit (.int .i64 r142.2)] ∧ True) (by refine ⟨e134, e135, e136, e137, e138, e139, e140, ?_, ?_, ?_, trivial⟩ <;> first | (simp only [ua, b94, w106, w107, w108, e133, e134, e135, e136, e137, e138, e139, e140, e141, nm, seval] <;> rfl) | rfl) ?_
      rintro tm ⟨e144, e145, e146, e147, e148, e149, e150, e151, e152, e153, _⟩
      rcases o155 : (g_coat_Quick (GCoatSheet.mk (List.set ([] ++ x0_s.Dry) (Int.toNat x2_a2) x3_a3) r86 (List.set ([] ++ x0_s.Coats) (Int.toNat x5_a5) (GCoatCoat.mk (if 1 < (IntKind.i64.wrap (x102.Need - x6_a6)) then (IntKind.i64.wrap (x102.Need - x6_a6)) else 1) (if (IntKind.i64.wrap (x102.Peel + x6_a6)) < 400 then (IntKind.i64.wrap (x102.Peel + x6_a6)) else 400))))) with _ | r154
      ·simp only [o155, hs] at h
       exact absurd h kN
      simp only [o155, hs] at h
      simp only [vz, tyf, b94, (ix22 o47), (ixo22 o82), g95, g96, (ix24 o103), (ixo24 o105), w106, w107, w108, e144, e145, e146, e147, e148, e149, e150, e151, e152, e153, nm, seval]
      refine kseen (args0 := [.agg (cGCoatSheet (GCoatSheet.mk (List.set ([] ++ x0_s.Dry) (Int.toNat x2_a2) x3_a3) r86 (List.set ([] ++ x0_s.Coats) (Int.toNat x5_a5) (GCoatCoat.mk (if 1 < (IntKind.i64.wrap (x102.Need - x6_a6)) then (IntKind.i64.wrap (x102.Need - x6_a6)) else 1) (if (IntKind.i64.wrap (x102.Peel + x6_a6)) < 400 then (IntKind.i64.wrap (x102.Peel + x6_a6)) else 400)))))]) (by simp only [List.map_cons, List.map_nil, showV_ref, updH_apply, without_apply, cr, tyf, nrm, tynrm, b94, (ix22 o47), (ixo22 o82), g95, g96, (ix24 o103), (ixo24 o105), w106, w107, w108, e144, e145, e146, e147, e148, e149, e150, e151, e152, e153, nm, seval] <;> rfl) (by simp only [List.map_cons, List.map_nil, showV_ref, updH_apply, without_apply, cr, tyf, nrm, tynrm, b94, (ix22 o47), (ixo22 o82), g95, g96, (ix24 o103), (ixo24 o105), w106, w107, w108, e144, e145, e146, e147, e148, e149, e150, e151, e152, e153, nm, seval]; simp only [tre, tytre, Bool.and_self]) (g_coat_Quick_ok _ _ o155) (by first | rfl | simp only [VV.flat, flatL, Bool.and_self]) ?_
      refine fin_cut (fun tm => tm 16 = .lit (.bool r109.1) ∧ tm 17 = .lit (.bool r109.2) ∧ tm 18 = .lit (.bool r115.1) ∧ tm 19 = .lit (.bool r115.2) ∧ tm 20 = .lit (.int .i64 r122.1) ∧ tm 21 = .lit (.int .i64 r122.2) ∧ tm 22 = .lit (.int .i64 r131.1) ∧ tm 23 = .lit (.int .i64 r131.2) ∧ tm 24 = .lit (.int .i64 r142.1) ∧ tm 25 = .lit (.int .i64 r142.2) ∧ tm 159 = .tup [.lit (.int .i64 r154.1), .lit (.int .i64 r154.2)] ∧ True) (by refine ⟨e145, e146, e147, e148, e149, e150, e151, e152, ?_, ?_, ?_, trivial⟩ <;> first | (simp only [ua, b94, w106, w107, w108, e144, e145, e146, e147, e148, e149, e150, e151, e152, e153, nm, seval] <;> rfl) | rfl) ?_
      rintro tm ⟨e156, e157, e158, e159, e160, e161, e162, e163, e164, e165, e166, _⟩
      cases d167 : (r109.2)
      ·simp only [d167, hs] at h
       have b168 := And.intro b94 (And.intro g95 (And.intro g96 (And.intro w106 (And.intro w107 (And.intro w108 d167)))))
       try simp only [vz, tyf, b168, (ix22 o47), (ixo22 o82), (ix24 o103), (ixo24 o105), e156, e157, e158, e159, e160, e161, e162, e163, e164, e165, e166, nm, seval]
       obtain rfl := kF _ h
       exact opd_bool Tryz.results13 rfl
      simp only [d167, hs] at h
      have b169 := And.intro b94 (And.intro g95 (And.intro g96 (And.intro w106 (And.intro w107 (And.intro w108 d167)))))
      cases d170 : (r115.2)
      ·simp only [d170, hs] at h
       try simp only [vz, tyf, b169, (ix22 o47), (ixo22 o82), (ix24 o103), (ixo24 o105), e156, e157, e158, e159, e160, e161, e162, e163, e164, e165, e166, d170, nm, seval]
       obtain rfl := kF _ h
       exact opd_bool Tryz.results13 rfl
      simp only [d170, hs] at h
      cases d171 : (r109.1)
      ·simp only [d171, hs] at h
       cases d172 : (r122.2 != 0)
       ·simp only [d172, hs] at h
        cases d173 : (r131.2 != 0)
        ·simp only [d173, hs] at h
         cases d174 : (decide (r131.1 < r122.1))
         ·simp only [d174, hs] at h
          cases d175 : (r142.2 != 0)
          ·simp only [d175, hs] at h
           have b176 := And.intro b169 (And.intro d170 (And.intro d171 (And.intro d172 (And.intro d173 (And.intro d174 d175)))))
           cases d177 : (r154.2 != 0)
           ·simp only [d177, hs] at h
            cases d178 : (r154.2 == 0)
            ·simp only [d178, hs] at h
             try simp only [vz, tyf, b176, (ix22 o47), (ixo22 o82), (ix24 o103), (ixo24 o105), e156, e157, e158, e159, e160, e161, e162, e163, e164, e165, e166, d177, d178, nm, seval]
             obtain rfl := kF _ h
             exact opd_bool Tryz.results13 rfl
            simp only [d178, hs] at h
            cases d179 : (decide (r154.1 ≤ r142.1))
            ·simp only [d179, hs] at h
             try simp only [vz, tyf, b176, (ix22 o47), (ixo22 o82), (ix24 o103), (ixo24 o105), e156, e157, e158, e159, e160, e161, e162, e163, e164, e165, e166, d177, d178, d179, nm, seval]
             obtain rfl := kF _ h
             exact opd_bool Tryz.results13 rfl
            simp only [d179, hs] at h
            simp only [vz, tyf, b176, (ix22 o47), (ixo22 o82), (ix24 o103), (ixo24 o105), e156, e157, e158, e159, e160, e161, e162, e163, e164, e165, e166, d177, d178, d179, nm, seval]
            refine ktree0 g_law03_known_ok ?_
            try simp only [vz, tyf, b176, (ix22 o47), (ixo22 o82), (ix24 o103), (ixo24 o105), e156, e157, e158, e159, e160, e161, e162, e163, e164, e165, e166, d177, d178, d179, nm, seval]
            obtain rfl := kF _ h
            exact opd_bool Tryz.results13 rfl
           simp only [d177, hs] at h
           cases d180 : (r154.2 != 5)
           ·simp only [d180, hs] at h
            cases d181 : (r154.2 == 0)
            ·simp only [d181, hs] at h
             try simp only [vz, tyf, b176, (ix22 o47), (ixo22 o82), (ix24 o103), (ixo24 o105), e156, e157, e158, e159, e160, e161, e162, e163, e164, e165, e166, d177, d180, d181, nm, seval]
             obtain rfl := kF _ h
             exact opd_bool Tryz.results13 rfl
            simp only [d181, hs] at h
            cases d182 : (decide (r154.1 ≤ r142.1))
            ·simp only [d182, hs] at h
             try simp only [vz, tyf, b176, (ix22 o47), (ixo22 o82), (ix24 o103), (ixo24 o105), e156, e157, e158, e159, e160, e161, e162, e163, e164, e165, e166, d177, d180, d181, d182, nm, seval]
             obtain rfl := kF _ h
             exact opd_bool Tryz.results13 rfl
            simp only [d182, hs] at h
            simp only [vz, tyf, b176, (ix22 o47), (ixo22 o82), (ix24 o103), (ixo24 o105), e156, e157, e158, e159, e160, e161, e162, e163, e164, e165, e166, d177, d180, d181, d182, nm, seval]
            refine ktree0 g_law03_known_ok ?_
            try simp only [vz, tyf, b176, (ix22 o47), (ixo22 o82), (ix24 o103), (ixo24 o105), e156, e157, e158, e159, e160, e161, e162, e163, e164, e165, e166, d177, d180, d181, d182, nm, seval]
            obtain rfl := kF _ h
            exact opd_bool Tryz.results13 rfl
           simp only [d180, hs] at h
           try simp only [vz, tyf, b176, (ix22 o47), (ixo22 o82), (ix24 o103), (ixo24 o105), e156, e157, e158, e159, e160, e161, e162, e163, e164, e165, e166, d177, d180, nm, seval]
           obtain rfl := kF _ h
           exact opd_bool Tryz.results13 rfl
          simp only [d175, hs] at h
          have b183 := And.intro b169 (And.intro d170 (And.intro d171 (And.intro d172 (And.intro d173 (And.intro d174 d175)))))
          cases d184 : (r142.2 != 5)
          ·simp only [d184, hs] at h
           cases d185 : (r154.2 != 0)
           ·simp only [d185, hs] at h
            simp only [vz, tyf, b183, (ix22 o47), (ixo22 o82), (ix24 o103), (ixo24 o105), e156, e157, e158, e159, e160, e161, e162, e163, e164, e165, e166, d184, d185, nm, seval]
            refine ktree0 g_law03_known_ok ?_
            try simp only [vz, tyf, b183, (ix22 o47), (ixo22 o82), (ix24 o103), (ixo24 o105), e156, e157, e158, e159, e160, e161, e162, e163, e164, e165, e166, d184, d185, nm, seval]
            obtain rfl := kF _ h
            exact opd_bool Tryz.results13 rfl
           simp only [d185, hs] at h
           cases d186 : (r154.2 != 5)
           ·simp only [d186, hs] at h
            simp only [vz, tyf, b183, (ix22 o47), (ixo22 o82), (ix24 o103), (ixo24 o105), e156, e157, e158, e159, e160, e161, e162, e163, e164, e165, e166, d184, d185, d186, nm, seval]
            refine ktree0 g_law03_known_ok ?_
            try simp only [vz, tyf, b183, (ix22 o47), (ixo22 o82), (ix24 o103), (ixo24 o105), e156, e157, e158, e159, e160, e161, e162, e163, e164, e165, e166, d184, d185, d186, nm, seval]
            obtain rfl := kF _ h
            exact opd_bool Tryz.results13 rfl
           simp only [d186, hs] at h
           try simp only [vz, tyf, b183, (ix22 o47), (ixo22 o82), (ix24 o103), (ixo24 o105), e156, e157, e158, e159, e160, e161, e162, e163, e164, e165, e166, d184, d185, d186, nm, seval]
           obtain rfl := kF _ h
           exact opd_bool Tryz.results13 rfl
          simp only [d184, hs] at h
          try simp only [vz, tyf, b183, (ix22 o47), (ixo22 o82), (ix24 o103), (ixo24 o105), e156, e157, e158, e159, e160, e161, e162, e163, e164, e165, e166, d184, nm, seval]
          obtain rfl := kF _ h
          exact opd_bool Tryz.results13 rfl
         simp only [d174, hs] at h
         try simp only [vz, tyf, b169, (ix22 o47), (ixo22 o82), (ix24 o103), (ixo24 o105), e156, e157, e158, e159, e160, e161, e162, e163, e164, e165, e166, d170, d171, d172, d173, d174, nm, seval]
         obtain rfl := kF _ h
         exact opd_bool Tryz.results13 rfl
        simp only [d173, hs] at h
        try simp only [vz, tyf, b169, (ix22 o47), (ixo22 o82), (ix24 o103), (ixo24 o105), e156, e157, e158, e159, e160, e161, e162, e163, e164, e165, e166, d170, d171, d172, d173, nm, seval]
        obtain rfl := kF _ h
        exact opd_bool Tryz.results13 rfl
       simp only [d172, hs] at h
       try simp only [vz, tyf, b169, (ix22 o47), (ixo22 o82), (ix24 o103), (ixo24 o105), e156, e157, e158, e159, e160, e161, e162, e163, e164, e165, e166, d170, d171, d172, nm, seval]
       obtain rfl := kF _ h
       exact opd_bool Tryz.results13 rfl
      simp only [d171, hs] at h
      cases d187 : (r115.1)
      ·simp only [d187, hs] at h
       try simp only [vz, tyf, b169, (ix22 o47), (ixo22 o82), (ix24 o103), (ixo24 o105), e156, e157, e158, e159, e160, e161, e162, e163, e164, e165, e166, d170, d171, d187, nm, seval]
       obtain rfl := kF _ h
       exact opd_bool Tryz.results13 rfl
      simp only [d187, hs] at h
      cases d188 : (r122.2 != 0)
      ·simp only [d188, hs] at h
       cases d189 : (r131.2 != 0)
       ·simp only [d189, hs] at h
        cases d190 : (decide (r131.1 < r122.1))
        ·simp only [d190, hs] at h
         have b191 := And.intro b169 (And.intro d170 (And.intro d171 (And.intro d187 (And.intro d188 (And.intro d189 d190)))))
         cases d192 : (r142.2 != 0)
         ·simp only [d192, hs] at h
          cases d193 : (r154.2 != 0)
          ·simp only [d193, hs] at h
           cases d194 : (r154.2 == 0)
           ·simp only [d194, hs] at h
            try simp only [vz, tyf, b191, (ix22 o47), (ixo22 o82), (ix24 o103), (ixo24 o105), e156, e157, e158, e159, e160, e161, e162, e163, e164, e165, e166, d192, d193, d194, nm, seval]
            obtain rfl := kF _ h
            exact opd_bool Tryz.results13 rfl
           simp only [d194, hs] at h
           cases d195 : (decide (r154.1 ≤ r142.1))
           ·simp only [d195, hs] at h
            try simp only [vz, tyf, b191, (ix22 o47), (ixo22 o82), (ix24 o103), (ixo24 o105), e156, e157, e158, e159, e160, e161, e162, e163, e164, e165, e166, d192, d193, d194, d195, nm, seval]
            obtain rfl := kF _ h
            exact opd_bool Tryz.results13 rfl
           simp only [d195, hs] at h
           simp only [vz, tyf, b191, (ix22 o47), (ixo22 o82), (ix24 o103), (ixo24 o105), e156, e157, e158, e159, e160, e161, e162, e163, e164, e165, e166, d192, d193, d194, d195, nm, seval]
           refine ktree0 g_law03_known_ok ?_
           try simp only [vz, tyf, b191, (ix22 o47), (ixo22 o82), (ix24 o103), (ixo24 o105), e156, e157, e158, e159, e160, e161, e162, e163, e164, e165, e166, d192, d193, d194, d195, nm, seval]
           obtain rfl := kF _ h
           exact opd_bool Tryz.results13 rfl
          simp only [d193, hs] at h
          cases d196 : (r154.2 != 5)
          ·simp only [d196, hs] at h
           cases d197 : (r154.2 == 0)
           ·simp only [d197, hs] at h
            try simp only [vz, tyf, b191, (ix22 o47), (ixo22 o82), (ix24 o103), (ixo24 o105), e156, e157, e158, e159, e160, e161, e162, e163, e164, e165, e166, d192, d193, d196, d197, nm, seval]
            obtain rfl := kF _ h
            exact opd_bool Tryz.results13 rfl
           simp only [d197, hs] at h
           cases d198 : (decide (r154.1 ≤ r142.1))
           ·simp only [d198, hs] at h
            try simp only [vz, tyf, b191, (ix22 o47), (ixo22 o82), (ix24 o103), (ixo24 o105), e156, e157, e158, e159, e160, e161, e162, e163, e164, e165, e166, d192, d193, d196, d197, d198, nm, seval]
            obtain rfl := kF _ h
            exact opd_bool Tryz.results13 rfl
           simp only [d198, hs] at h
           simp only [vz, tyf, b191, (ix22 o47), (ixo22 o82), (ix24 o103), (ixo24 o105), e156, e157, e158, e159, e160, e161, e162, e163, e164, e165, e166, d192, d193, d196, d197, d198, nm, seval]
           refine ktree0 g_law03_known_ok ?_
           try simp only [vz, tyf, b191, (ix22 o47), (ixo22 o82), (ix24 o103), (ixo24 o105), e156, e157, e158, e159, e160, e161, e162, e163, e164, e165, e166, d192, d193, d196, d197, d198, nm, seval]
           obtain rfl := kF _ h
           exact opd_bool Tryz.results13 rfl
          simp only [d196, hs] at h
          try simp only [vz, tyf, b191, (ix22 o47), (ixo22 o82), (ix24 o103), (ixo24 o105), e156, e157, e158, e159, e160, e161, e162, e163, e164, e165, e166, d192, d193, d196, nm, seval]
          obtain rfl := kF _ h
          exact opd_bool Tryz.results13 rfl
         simp only [d192, hs] at h
         cases d199 : (r142.2 != 5)
         ·simp only [d199, hs] at h
          cases d200 : (r154.2 != 0)
          ·simp only [d200, hs] at h
           simp only [vz, tyf, b191, (ix22 o47), (ixo22 o82), (ix24 o103), (ixo24 o105), e156, e157, e158, e159, e160, e161, e162, e163, e164, e165, e166, d192, d199, d200, nm, seval]
           refine ktree0 g_law03_known_ok ?_
           try simp only [vz, tyf, b191, (ix22 o47), (ixo22 o82), (ix24 o103), (ixo24 o105), e156, e157, e158, e159, e160, e161, e162, e163, e164, e165, e166, d192, d199, d200, nm, seval]
           obtain rfl := kF _ h
           exact opd_bool Tryz.results13 rfl
          simp only [d200, hs] at h
          cases d201 : (r154.2 != 5)
          ·simp only [d201, hs] at h
           simp only [vz, tyf, b191, (ix22 o47), (ixo22 o82), (ix24 o103), (ixo24 o105), e156, e157, e158, e159, e160, e161, e162, e163, e164, e165, e166, d192, d199, d200, d201, nm, seval]
           refine ktree0 g_law03_known_ok ?_
           try simp only [vz, tyf, b191, (ix22 o47), (ixo22 o82), (ix24 o103), (ixo24 o105), e156, e157, e158, e159, e160, e161, e162, e163, e164, e165, e166, d192, d199, d200, d201, nm, seval]
           obtain rfl := kF _ h
           exact opd_bool Tryz.results13 rfl
          simp only [d201, hs] at h
          try simp only [vz, tyf, b191, (ix22 o47), (ixo22 o82), (ix24 o103), (ixo24 o105), e156, e157, e158, e159, e160, e161, e162, e163, e164, e165, e166, d192, d199, d200, d201, nm, seval]
          obtain rfl := kF _ h
          exact opd_bool Tryz.results13 rfl
         simp only [d199, hs] at h
         try simp only [vz, tyf, b191, (ix22 o47), (ixo22 o82), (ix24 o103), (ixo24 o105), e156, e157, e158, e159, e160, e161, e162, e163, e164, e165, e166, d192, d199, nm, seval]
         obtain rfl := kF _ h
         exact opd_bool Tryz.results13 rfl
        simp only [d190, hs] at h
        have b202 := And.intro b169 (And.intro d170 (And.intro d171 (And.intro d187 (And.intro d188 (And.intro d189 d190)))))
        try simp only [vz, tyf, b202, (ix22 o47), (ixo22 o82), (ix24 o103), (ixo24 o105), e156, e157, e158, e159, e160, e161, e162, e163, e164, e165, e166, nm, seval]
        obtain rfl := kF _ h
        exact opd_bool Tryz.results13 rfl
       simp only [d189, hs] at h
       try simp only [vz, tyf, b169, (ix22 o47), (ixo22 o82), (ix24 o103), (ixo24 o105), e156, e157, e158, e159, e160, e161, e162, e163, e164, e165, e166, d170, d171, d187, d188, d189, nm, seval]
       obtain rfl := kF _ h
       exact opd_bool Tryz.results13 rfl
      simp only [d188, hs] at h
      try simp only [vz, tyf, b169, (ix22 o47), (ixo22 o82), (ix24 o103), (ixo24 o105), e156, e157, e158, e159, e160, e161, e162, e163, e164, e165, e166, d170, d171, d187, d188, nm, seval]
      obtain rfl := kF _ h
      exact opd_bool Tryz.results13 rfl
     simp only [d78, hs] at h
     simp only [vz, tyf, b76, (ix22 o47), e65, e66, e67, e68, e69, e70, e71, e72, e73, d77, d78, nm, seval]
     refine ktree0 g_law03_known_ok ?_
     try simp only [vz, tyf, b76, (ix22 o47), e65, e66, e67, e68, e69, e70, e71, e72, e73, d77, d78, nm, seval]
     obtain rfl := kF _ h
     exact opd_bool Tryz.results13 rfl
    simp only [d77, hs] at h
    simp only [vz, tyf, b76, (ix22 o47), e65, e66, e67, e68, e69, e70, e71, e72, e73, d77, nm, seval]
    refine ktree0 g_law03_known_ok ?_
    try simp only [vz, tyf, b76, (ix22 o47), e65, e66, e67, e68, e69, e70, e71, e72, e73, d77, nm, seval]
    obtain rfl := kF _ h
    exact opd_bool Tryz.results13 rfl
   simp only [d50, hs] at h
   simp only [vz, tyf, d33, e36, e37, e38, e39, e40, e41, e42, e43, e44, d45, (ix22 o47), d48, d49, d50, nm, seval]
   refine ktree0 g_law03_known_ok ?_
   try simp only [vz, tyf, d33, e36, e37, e38, e39, e40, e41, e42, e43, e44, d45, (ix22 o47), d48, d49, d50, nm, seval]
   obtain rfl := kF _ h
   exact opd_bool Tryz.results13 rfl
  simp only [d49, hs] at h
  simp only [vz, tyf, d33, e36, e37, e38, e39, e40, e41, e42, e43, e44, d45, (ix22 o47), d48, d49, nm, seval]
  refine ktree0 g_law03_known_ok ?_
  try simp only [vz, tyf, d33, e36, e37, e38, e39, e40, e41, e42, e43, e44, d45, (ix22 o47), d48, d49, nm, seval]
  obtain rfl := kF _ h
  exact opd_bool Tryz.results13 rfl
 simp only [d48, hs] at h
 simp only [vz, tyf, d33, e36, e37, e38, e39, e40, e41, e42, e43, e44, d45, (ix22 o47), d48, nm, seval]
 refine ktree0 g_law03_known_ok ?_
 try simp only [vz, tyf, d33, e36, e37, e38, e39, e40, e41, e42, e43, e44, d45, (ix22 o47), d48, nm, seval]
 obtain rfl := kF _ h
 exact opd_bool Tryz.results13 rfl
end Go.V
end
section
namespace Go.V
open Go
theorem rCoat_eqM {s : GCoatSheet} (hs : OkS s) (n : Int) : g_ref03_Coat s n = some (inB 0 ((s.Coats.length : Int) - 1) n) := by
 have := lenOk_lt hs.c
 unfold g_ref03_Coat
 rw [wrap_eq (by omega) (by omega), rin_eq]
 rfl
def moreK (k : GCoatCoat) (b : Int) : GCoatCoat := GCoatCoat.mk (if 1 < k.Need - b then k.Need - b else 1) (if k.Peel + b < 400 then k.Peel + b else 400)
theorem CoatMore_true (s : GCoatSheet) (p : List Int) (d : Int) (sp : GSpan) (w n b : Int) (h : lenOk s.Dry = true ∧ lenOk s.Work = true ∧ lenOk s.Coats = true) (hp : lenOk p = true) : g_law03_CoatMore s p d sp w n b = some true := by
 have hs : OkS s := ⟨h.1, h.2.1, h.2.2⟩
 unfold g_law03_CoatMore
 obtain ⟨r, hr, hrt⟩ := right_eq' hs hp
 rw [hr, day_eq s hs.d, day_eq s hs.d, rCoat_eqM hs]
 simp only [Option.bind_some]
 cases r with
 | false => rfl
 | true =>
 simp only [cond_true]
 obtain ⟨h1, h2⟩ := hrt rfl
 cases hd : dayB s.Dry.length d with
 | false => rfl
 | true =>
 have hS := ShOk.of h1
 have hc := hS.c
 have hdl := hS.dk.l
 have hd' := hd
 unfold dayB at hd'
 rw [inB_iff] at hd'
 obtain ⟨e, he, hem⟩ := getI_some (xs := s.Dry) hd'.1 (by omega)
 rw [he]
 simp only [cond_true, Option.bind_some]
 cases c1 : decide (sp.Low < e.Low) with
 | true => rfl
 | false =>
 cases c2 : decide (sp.High > e.High) with
 | true => rfl
 | false =>
 cases c3 : decide (sp.Low > sp.High) with
 | true => rfl
 | false =>
 have c1' := of_decide_eq_false c1
 have c2' := of_decide_eq_false c2
 have c3' := of_decide_eq_false c3
 cases hw : dayB s.Dry.length w with
 | false => rfl
 | true =>
 cases hn : inB 0 ((s.Coats.length : Int) - 1) n with
 | false => rfl
 | true =>
 have hn' := inB_iff.1 hn
 have hw' := hw
 unfold dayB at hw'
 rw [inB_iff] at hw'
 cases c4 : decide (b < 0) with
 | true => rfl
 | false =>
 cases c5 : decide (b > 288) with
 | true => rfl
 | false =>
 have c4' := of_decide_eq_false c4
 have c5' := of_decide_eq_false c5
 obtain ⟨k, hk, hkm⟩ := getI_some (xs := s.Coats) hn'.1 (by omega)
 have hkB : coatB k = true := by
  unfold sheetB at h1
  simp only [Bool.and_eq_true, List.all_eq_true] at h1
  exact h1.2.2.2 k hkm
 have hkB' := hkB
 unfold coatB at hkB'
 simp only [Bool.and_eq_true, inB_iff] at hkB'
 have hwk := work_len hS
 have heS := hS.dk.s e hem
 rw [span_iff] at heS
 rw [show neB s.Dry = true from neB_of (by omega), show roomOk 16 (List.length ([] ++ s.Dry)) = true by simp [roomOk]; omega, with_eq (by omega), show neB s.Coats = true from neB_of (by omega), show roomOk 16 (List.length ([] ++ s.Coats)) = true by simp [roomOk]; omega]
 simp only [cond_true, cond_false, List.nil_append, he, hk, Option.bind_some]
 rw [wrap_eq (n := k.Need - b) (by omega) (by omega), wrap_eq (n := k.Peel + b) (by omega) (by omega)]
 have hge : s.Dry[d.toNat]? = some e := by unfold getI at he; rwa [if_pos hd'.1] at he
 have hgk : s.Coats[n.toNat]? = some k := by unfold getI at hk; rwa [if_pos hn'.1] at hk
 rw [show (GCoatCoat.mk (if 1 < k.Need - b then k.Need - b else 1) (if k.Peel + b < 400 then k.Peel + b else 400)) = moreK k b from rfl]
 have mk1 : (moreK k b).Need ≤ k.Need ∧ k.Peel ≤ (moreK k b).Peel ∧ coatB (moreK k b) = true := by
  unfold moreK coatB
  simp only [Bool.and_eq_true, inB_iff]
  refine ⟨?_, ?_, ?_, ?_⟩ <;> (split <;> (try split) <;> omega)
 generalize hX : (GCoatSheet.mk (s.Dry.set d.toNat sp) (withL s.Work w) (s.Coats.set n.toNat (moreK k b))) = x
 have hE : Eas s x := by
  subst hX
  refine ⟨by simp, by simp, inD_set _ _ _ (fun c hc => ?_), fun y hy => withL_mem.2 (.inl hy), leC_set _ _ _ (fun c hc => ?_)⟩
  ·rw [hge] at hc
   injection hc with hc
   subst hc
   omega
  ·rw [hgk] at hc
   injection hc with hc
   subst hc
   exact ⟨mk1.1, mk1.2.1⟩
 have hx1 : sheetB x = true := by
  subst hX
  unfold sheetB incB at h1 ⊢
  simp only [Bool.and_eq_true, List.all_eq_true, List.length_set] at h1 ⊢
  refine ⟨⟨h1.1.1, fun y hy => ?_⟩, ⟨withL_up h1.2.1.1, fun y hy => ?_⟩, h1.2.2.1, fun y hy => ?_⟩
  ·rcases List.mem_or_eq_of_mem_set hy with hy | rfl
   ·exact h1.1.2 y hy
   ·rw [span_iff]; omega
  ·rcases withL_mem.1 hy with hy | rfl
   ·exact h1.2.1.2 y hy
   ·exact hw
  ·rcases List.mem_or_eq_of_mem_set hy with hy | rfl
   ·exact h1.2.2.2 y hy
   ·exact mk1.2.2
 have hxs : OkS x := by
  have hx := ShOk.of hx1
  exact ⟨lenOk_of (by have := hx.dk.l; omega), hx.wl, lenOk_of (by have := hx.c; omega)⟩
 obtain ⟨L, hL, _⟩ := first_eq hs h1
 obtain ⟨M, hM, _⟩ := first_eq hxs hx1
 obtain ⟨hcn, hsub⟩ := hE.count hS hL hM
 rw [surelyL_eq hs hp h1 h2, surelyL_eq hxs hp hx1 (hE.plan h2), count_eq hs h1 hL, count_eq hxs hx1 hM]
 have hsure : sureB s.Dry s.Coats p = true → sureB x.Dry x.Coats p = true := hE.sure hS h2
 have hcd : decide ((M.length : Int) < (L.length : Int)) = false := decide_eq_false (by omega)
 rcases quick_eq hs h1 hL with ⟨q1, q2⟩ | ⟨q, q2, q3, q4⟩
 ·rcases quick_eq hxs hx1 hM with ⟨_, y2⟩ | ⟨y, y2, y3, y4⟩
  ·rw [q2, y2]
   simp only [Option.bind_some, cond_true, hcd]
   cases h8 : sureB s.Dry s.Coats p with
   | true => rw [hsure h8]; rfl
   | false => cases sureB x.Dry x.Coats p <;> rfl
  ·rw [q2, y2]
   simp only [Option.bind_some, cond_true, hcd]
   cases h8 : sureB s.Dry s.Coats p with
   | true => rw [hsure h8]; rfl
   | false => cases sureB x.Dry x.Coats p <;> rfl
 ·rcases quick_eq hxs hx1 hM with ⟨y1, y2⟩ | ⟨y, y2, y3, y4⟩
  ·have := hsub q q3
   rw [y1] at this
   cases this
  ·have hle : decide (quiQ y ≤ quiQ q) = true := decide_eq_true (y4 q (hsub q q3))
   rw [q2, y2]
   simp only [Option.bind_some, cond_true, hcd, hle]
   cases h8 : sureB s.Dry s.Coats p with
   | true => rw [hsure h8]; rfl
   | false => cases sureB x.Dry x.Coats p <;> rfl
end Go.V
end
