/- Part of a proof: a logic of values by content, lifted functions, what follows. -/
import Derived.Test.YtnelojhchenkhaaGreatDoorQbc
import Derived.Test.YtnelojhchenkhaaGreatDoorQbe
import Derived.Test.YtnelojhchenkhaaGreatDoorQbl
import Derived.Test.YtnelojhchenkhaaGreatDoorQbk
import Derived.Test.YtnelojhchenkhaaGreatDoorQbf
import Derived.Test.YtnelojhchenkhaaGreatDoorQbj
set_option linter.all false
set_option maxRecDepth 4000
set_option maxHeartbeats 4000000
section
set_option maxRecDepth 100000
namespace Go.V
open Go Go.Proofs
def Ok_GCoatSheet (x : GCoatSheet) : Prop := lenOk x.Dry = true ∧ lenOk x.Work = true ∧ lenOk x.Coats = true
section
variable {P : Program} (hu3 : P.underlying 3 = some (.int .i64)) {f89 : Array Field} (hu89 : P.underlying 89 = some (.struct f89)) (ht89 : f89.toList.map Field.type = [3, 3]) (hu22 : P.underlying 22 = some (.slice 89)) (hu23 : P.underlying 23 = some (.slice 3)) {f53 : Array Field} (hu53 : P.underlying 53 = some (.struct f53)) (ht53 : f53.toList.map Field.type = [3, 3]) (hu24 : P.underlying 24 = some (.slice 53)) {f26 : Array Field} (hu26 : P.underlying 26 = some (.struct f26)) (ht26 : f26.toList.map Field.type = [22, 23, 24])
include hu3 hu89 ht89 hu22 hu23 hu53 ht53 hu24 hu26 ht26
theorem gd_3 {n : Nat} : Dec P (n + 1) 3 eI (fun _ => True) := dec_int hu3
theorem gd_89 {n : Nat} : Dec P (n + 2) 89 cGSpan (fun _ => True) := by
 intro xs h
 obtain ⟨yss, hf, rfl⟩ := dec_struct (n := n + 1) (ts := [3, 3]) hu89 ht89 h
 match yss, hf with
 | [y0, y1], ⟨h0, h1, _⟩ =>
  obtain ⟨x0, r0, e0⟩ := gd_3 hu3 hu89 ht89 hu22 hu23 hu53 ht53 hu24 hu26 ht26 (n := n + 0) _ h0
  obtain ⟨x1, r1, e1⟩ := gd_3 hu3 hu89 ht89 hu22 hu23 hu53 ht53 hu24 hu26 ht26 (n := n + 0) _ h1
  exact ⟨⟨x0, x1⟩, trivial, by simp only [List.flatten_cons, List.flatten_nil, List.append_nil, normL_append, e0, e1, eI, eU8, eB, eS, eSl, cGSpan_eq, List.cons_append, List.nil_append]⟩
theorem gd_22 {n : Nat} : Dec P (n + 3) 22 (eSl cGSpan) (fun l => lenOk l = true ∧ ∀ x ∈ l, True) := dec_slice hu22 (gd_89 hu3 hu89 ht89 hu22 hu23 hu53 ht53 hu24 hu26 ht26 (n := n))
theorem gd_23 {n : Nat} : Dec P (n + 2) 23 (eSl eI) (fun l => lenOk l = true ∧ ∀ x ∈ l, True) := dec_slice hu23 (gd_3 hu3 hu89 ht89 hu22 hu23 hu53 ht53 hu24 hu26 ht26 (n := n))
theorem gd_53 {n : Nat} : Dec P (n + 2) 53 cGCoatCoat (fun _ => True) := by
 intro xs h
 obtain ⟨yss, hf, rfl⟩ := dec_struct (n := n + 1) (ts := [3, 3]) hu53 ht53 h
 match yss, hf with
 | [y0, y1], ⟨h0, h1, _⟩ =>
  obtain ⟨x0, r0, e0⟩ := gd_3 hu3 hu89 ht89 hu22 hu23 hu53 ht53 hu24 hu26 ht26 (n := n + 0) _ h0
  obtain ⟨x1, r1, e1⟩ := gd_3 hu3 hu89 ht89 hu22 hu23 hu53 ht53 hu24 hu26 ht26 (n := n + 0) _ h1
  exact ⟨⟨x0, x1⟩, trivial, by simp only [List.flatten_cons, List.flatten_nil, List.append_nil, normL_append, e0, e1, eI, eU8, eB, eS, eSl, cGCoatCoat_eq, List.cons_append, List.nil_append]⟩
theorem gd_24 {n : Nat} : Dec P (n + 3) 24 (eSl cGCoatCoat) (fun l => lenOk l = true ∧ ∀ x ∈ l, True) := dec_slice hu24 (gd_53 hu3 hu89 ht89 hu22 hu23 hu53 ht53 hu24 hu26 ht26 (n := n))
theorem gd_26 {n : Nat} : Dec P (n + 4) 26 cGCoatSheet (Ok_GCoatSheet) := by
 intro xs h
 obtain ⟨yss, hf, rfl⟩ := dec_struct (n := n + 3) (ts := [22, 23, 24]) hu26 ht26 h
 match yss, hf with
 | [y0, y1, y2], ⟨h0, h1, h2, _⟩ =>
  obtain ⟨x0, r0, e0⟩ := gd_22 hu3 hu89 ht89 hu22 hu23 hu53 ht53 hu24 hu26 ht26 (n := n + 0) _ h0
  obtain ⟨x1, r1, e1⟩ := gd_23 hu3 hu89 ht89 hu22 hu23 hu53 ht53 hu24 hu26 ht26 (n := n + 1) _ h1
  obtain ⟨x2, r2, e2⟩ := gd_24 hu3 hu89 ht89 hu22 hu23 hu53 ht53 hu24 hu26 ht26 (n := n + 0) _ h2
  exact ⟨⟨x0, x1, x2⟩, ⟨r0.1, r1.1, r2.1⟩, by simp only [List.flatten_cons, List.flatten_nil, List.append_nil, normL_append, e0, e1, e2, eI, eU8, eB, eS, eSl, cGCoatSheet_eq, List.cons_append, List.nil_append]⟩
end
theorem dec_3 {n : Nat} : Dec Tryz.prog (n + 1) 3 eI (fun _ => True) := gd_3 Tryz.underlying3 Tryz.underlying89 (by kernel_rfl) Tryz.underlying22 Tryz.underlying23 Tryz.underlying53 (by kernel_rfl) Tryz.underlying24 Tryz.underlying26 (by kernel_rfl)
theorem dec_23 {n : Nat} : Dec Tryz.prog (n + 2) 23 (eSl eI) (fun l => lenOk l = true ∧ ∀ x ∈ l, True) := gd_23 Tryz.underlying3 Tryz.underlying89 (by kernel_rfl) Tryz.underlying22 Tryz.underlying23 Tryz.underlying53 (by kernel_rfl) Tryz.underlying24 Tryz.underlying26 (by kernel_rfl)
theorem dec_26 {n : Nat} : Dec Tryz.prog (n + 4) 26 cGCoatSheet (Ok_GCoatSheet) := gd_26 Tryz.underlying3 Tryz.underlying89 (by kernel_rfl) Tryz.underlying22 Tryz.underlying23 Tryz.underlying53 (by kernel_rfl) Tryz.underlying24 Tryz.underlying26 (by kernel_rfl)
end Go.V
end
section
namespace Go.V
open Go Go.Proofs
def g_law03_CoatHolds (x0_s : GCoatSheet) (x1_a1 : List Int) (x2_a2 : List Int) : Option (Bool) := Option.bind (g_law03_short x0_s) (fun r1 => cond (r1) (cond (decide ((List.length x1_a1 : Int) > 7)) (some true) (cond (decide ((List.length x2_a2 : Int) > 14)) (some true) (Option.bind (g_coat_Holds x0_s x1_a1 x2_a2) (fun r2 => Option.bind (g_ref03_Sheet x0_s) (fun r3 => cond (r3) (Option.bind (g_ref03_Plan x0_s x1_a1) (fun r4 => cond (r4) (Option.bind (g_ref03_Weather x0_s x2_a2) (fun r5 => cond (r5) (cond (r2.2 == 0) (Option.bind (g_ref03_Holds x0_s x1_a1 x2_a2) (fun r6 => cond (r2.1 == r6) (some true) (some false))) (some false)) (cond (r2.2 == 2) (cond (r2.1) (some false) (some true)) (some false)))) (cond (r2.2 == 2) (cond (r2.1) (some false) (some true)) (some false)))) (cond (r2.2 == 2) (cond (r2.1) (some false) (some true)) (some false))))))) (some true))
theorem g_law03_CoatHolds_ok (x0_s : GCoatSheet) (x1_a1 : List Int) (x2_a2 : List Int) (R : Bool) (h : g_law03_CoatHolds x0_s x1_a1 x2_a2 = some R) : VPure Tryz.prog G0 4 [.agg (cGCoatSheet x0_s), .sl (cellsL eI x1_a1) (List.length x1_a1) false, .sl (cellsL eI x2_a2) (List.length x2_a2) false] (.tree (.lit (.bool R))) := by
 refine VPure.runR mixed Tryz.call4 Tryz.func4 rfl (by simp [Tryz.ntmps4]; kernel_rfl) ?_
 obtain ⟨KF, h, kF, kN⟩ := fun_intro h
 simp only [g_law03_CoatHolds] at h
 rcases o8 : (g_law03_short x0_s) with _ | r7
 ·simp only [o8, hs, reduceCtorEq] at h
  exact absurd h kN
 simp only [o8, hs, reduceCtorEq] at h
 simp only [vz, tyf, nm, seval]
 refine ktree (args0 := [.agg (cGCoatSheet x0_s)]) (by first | (simp only [nrm, tynrm] <;> rfl) | rfl) (by simp only [tre, tytre, Bool.and_self]) (g_law03_short_ok _ _ o8) ?_
 refine fin_cut (fun tm => tm 1 = .sl (cellsL eI x1_a1) (List.length x1_a1) false ∧ tm 2 = .sl (cellsL eI x2_a2) (List.length x2_a2) false ∧ tm 3 = .ptr 0 0 ∧ tm 10 = .lit (.bool r7) ∧ True) (by refine ⟨?_, ?_, ?_, ?_, trivial⟩ <;> first | (simp only [ua, nm, seval] <;> rfl) | rfl) ?_
 rintro tm ⟨e9, e10, e11, e12, _⟩
 cases d13 : (r7)
 ·simp only [d13, hs, reduceCtorEq] at h
  simp only [vz, tyf, e9, e10, e11, e12, d13, nm, seval]
  refine ktree (args0 := []) (by first | (simp only [nrm, tynrm] <;> rfl) | rfl) (by simp only [tre, tytre, Bool.and_self]) (g_law03_known_ok ) ?_
  try simp only [vz, tyf, e9, e10, e11, e12, d13, nm, seval]
  obtain rfl := kF _ h
  exact opd_bool Tryz.results4 (by first | rfl | (simp only [upd_apply, seval] <;> rfl))
 simp only [d13, hs, reduceCtorEq] at h
 cases d14 : (decide ((List.length x1_a1 : Int) > 7))
 ·simp only [d14, hs, reduceCtorEq] at h
  cases d15 : (decide ((List.length x2_a2 : Int) > 14))
  ·simp only [d15, hs, reduceCtorEq] at h
   rcases o17 : (g_coat_Holds x0_s x1_a1 x2_a2) with _ | r16
   ·simp only [o17, hs, reduceCtorEq] at h
    exact absurd h kN
   simp only [o17, hs, reduceCtorEq] at h
   simp only [vz, tyf, e9, e10, e11, e12, d13, d14, d15, nm, seval]
   refine ktree (args0 := [.agg (cGCoatSheet x0_s), .sl (cellsL eI x1_a1) (List.length x1_a1) false, .sl (cellsL eI x2_a2) (List.length x2_a2) false]) (by first | (simp only [nrm, tynrm] <;> rfl) | rfl) (by simp only [tre, tytre, Bool.and_self]) (g_coat_Holds_ok _ _ _ _ o17) ?_
   refine fin_cut (fun tm => tm 1 = .sl (cellsL eI x1_a1) (List.length x1_a1) false ∧ tm 2 = .sl (cellsL eI x2_a2) (List.length x2_a2) false ∧ tm 3 = .ptr 0 0 ∧ tm 27 = .tup [.lit (.bool r16.1), .lit (.int .i64 r16.2)] ∧ True) (by refine ⟨e9, e10, e11, ?_, trivial⟩ <;> first | (simp only [ua, e9, e10, e11, e12, d13, d14, d15, nm, seval] <;> rfl) | rfl) ?_
   rintro tm ⟨e18, e19, e20, e21, _⟩
   rcases o23 : (g_ref03_Sheet x0_s) with _ | r22
   ·simp only [o23, hs, reduceCtorEq] at h
    exact absurd h kN
   simp only [o23, hs, reduceCtorEq] at h
   simp only [vz, tyf, d13, d14, d15, e18, e19, e20, e21, nm, seval]
   refine ktree (args0 := [.agg (cGCoatSheet x0_s)]) (by first | (simp only [nrm, tynrm] <;> rfl) | rfl) (by simp only [tre, tytre, Bool.and_self]) (g_ref03_Sheet_ok _ _ o23) ?_
   refine fin_cut (fun tm => tm 1 = .sl (cellsL eI x1_a1) (List.length x1_a1) false ∧ tm 2 = .sl (cellsL eI x2_a2) (List.length x2_a2) false ∧ tm 3 = .ptr 0 0 ∧ tm 7 = .lit (.bool r16.1) ∧ tm 8 = .lit (.int .i64 r16.2) ∧ tm 31 = .lit (.bool r22) ∧ True) (by refine ⟨e18, e19, e20, ?_, ?_, ?_, trivial⟩ <;> first | (simp only [ua, d13, d14, d15, e18, e19, e20, e21, nm, seval] <;> rfl) | rfl) ?_
   rintro tm ⟨e24, e25, e26, e27, e28, e29, _⟩
   cases d30 : (r22)
   ·simp only [d30, hs, reduceCtorEq] at h
    cases d31 : (r16.2 == 2)
    ·simp only [d31, hs, reduceCtorEq] at h
     try simp only [vz, tyf, d13, d14, d15, e24, e25, e26, e27, e28, e29, d30, d31, nm, seval]
     obtain rfl := kF _ h
     exact opd_bool Tryz.results4 (by first | rfl | (simp only [upd_apply, seval] <;> rfl))
    simp only [d31, hs, reduceCtorEq] at h
    cases d32 : (r16.1)
    ·simp only [d32, hs, reduceCtorEq] at h
     simp only [vz, tyf, d13, d14, d15, e24, e25, e26, e27, e28, e29, d30, d31, d32, nm, seval]
     refine ktree (args0 := []) (by first | (simp only [nrm, tynrm] <;> rfl) | rfl) (by simp only [tre, tytre, Bool.and_self]) (g_law03_known_ok ) ?_
     try simp only [vz, tyf, d13, d14, d15, e24, e25, e26, e27, e28, e29, d30, d31, d32, nm, seval]
     obtain rfl := kF _ h
     exact opd_bool Tryz.results4 (by first | rfl | (simp only [upd_apply, seval] <;> rfl))
    simp only [d32, hs, reduceCtorEq] at h
    try simp only [vz, tyf, d13, d14, d15, e24, e25, e26, e27, e28, e29, d30, d31, d32, nm, seval]
    obtain rfl := kF _ h
    exact opd_bool Tryz.results4 (by first | rfl | (simp only [upd_apply, seval] <;> rfl))
   simp only [d30, hs, reduceCtorEq] at h
   rcases o34 : (g_ref03_Plan x0_s x1_a1) with _ | r33
   ·simp only [o34, hs, reduceCtorEq] at h
    exact absurd h kN
   simp only [o34, hs, reduceCtorEq] at h
   simp only [vz, tyf, d13, d14, d15, e24, e25, e26, e27, e28, e29, d30, nm, seval]
   refine ktree (args0 := [.agg (cGCoatSheet x0_s), .sl (cellsL eI x1_a1) (List.length x1_a1) false]) (by first | (simp only [nrm, tynrm] <;> rfl) | rfl) (by simp only [tre, tytre, Bool.and_self]) (g_ref03_Plan_ok _ _ _ o34) ?_
   refine fin_cut (fun tm => tm 1 = .sl (cellsL eI x1_a1) (List.length x1_a1) false ∧ tm 2 = .sl (cellsL eI x2_a2) (List.length x2_a2) false ∧ tm 3 = .ptr 0 0 ∧ tm 7 = .lit (.bool r16.1) ∧ tm 8 = .lit (.int .i64 r16.2) ∧ tm 33 = .lit (.bool false) ∧ tm 36 = .lit (.bool r33) ∧ True) (by refine ⟨e24, e25, e26, e27, e28, ?_, ?_, trivial⟩ <;> first | (simp only [ua, d13, d14, d15, e24, e25, e26, e27, e28, e29, d30, nm, seval] <;> rfl) | rfl) ?_
   rintro tm ⟨e35, e36, e37, e38, e39, e40, e41, _⟩
   cases d42 : (r33)
   ·simp only [d42, hs, reduceCtorEq] at h
    cases d43 : (r16.2 == 2)
    ·simp only [d43, hs, reduceCtorEq] at h
     try simp only [vz, tyf, d13, d14, d15, d30, e35, e36, e37, e38, e39, e40, e41, d42, d43, nm, seval]
     obtain rfl := kF _ h
     exact opd_bool Tryz.results4 (by first | rfl | (simp only [upd_apply, seval] <;> rfl))
    simp only [d43, hs, reduceCtorEq] at h
    cases d44 : (r16.1)
    ·simp only [d44, hs, reduceCtorEq] at h
     have b45 := And.intro d13 (And.intro d14 (And.intro d15 (And.intro d30 (And.intro d42 (And.intro d43 d44)))))
     simp only [vz, tyf, b45, e35, e36, e37, e38, e39, e40, e41, nm, seval]
     refine ktree (args0 := []) (by first | (simp only [nrm, tynrm] <;> rfl) | rfl) (by simp only [tre, tytre, Bool.and_self]) (g_law03_known_ok ) ?_
     try simp only [vz, tyf, b45, e35, e36, e37, e38, e39, e40, e41, nm, seval]
     obtain rfl := kF _ h
     exact opd_bool Tryz.results4 (by first | rfl | (simp only [upd_apply, seval] <;> rfl))
    simp only [d44, hs, reduceCtorEq] at h
    have b46 := And.intro d13 (And.intro d14 (And.intro d15 (And.intro d30 (And.intro d42 (And.intro d43 d44)))))
    try simp only [vz, tyf, b46, e35, e36, e37, e38, e39, e40, e41, nm, seval]
    obtain rfl := kF _ h
    exact opd_bool Tryz.results4 (by first | rfl | (simp only [upd_apply, seval] <;> rfl))
   simp only [d42, hs, reduceCtorEq] at h
   rcases o48 : (g_ref03_Weather x0_s x2_a2) with _ | r47
   ·simp only [o48, hs, reduceCtorEq] at h
    exact absurd h kN
   simp only [o48, hs, reduceCtorEq] at h
   simp only [vz, tyf, d13, d14, d15, d30, e35, e36, e37, e38, e39, e40, e41, d42, nm, seval]
   refine ktree (args0 := [.agg (cGCoatSheet x0_s), .sl (cellsL eI x2_a2) (List.length x2_a2) false]) (by first | (simp only [nrm, tynrm] <;> rfl) | rfl) (by simp only [tre, tytre, Bool.and_self]) (g_ref03_Weather_ok _ _ _ o48) ?_
   refine fin_cut (fun tm => tm 1 = .sl (cellsL eI x1_a1) (List.length x1_a1) false ∧ tm 2 = .sl (cellsL eI x2_a2) (List.length x2_a2) false ∧ tm 3 = .ptr 0 0 ∧ tm 7 = .lit (.bool r16.1) ∧ tm 8 = .lit (.int .i64 r16.2) ∧ tm 39 = .lit (.bool false) ∧ tm 42 = .lit (.bool r47) ∧ True) (by refine ⟨e35, e36, e37, e38, e39, ?_, ?_, trivial⟩ <;> first | (simp only [ua, d13, d14, d15, d30, e35, e36, e37, e38, e39, e40, e41, d42, nm, seval] <;> rfl) | rfl) ?_
   rintro tm ⟨e49, e50, e51, e52, e53, e54, e55, _⟩
   cases d56 : (r47)
   ·simp only [d56, hs, reduceCtorEq] at h
    cases d57 : (r16.2 == 2)
    ·simp only [d57, hs, reduceCtorEq] at h
     have b58 := And.intro d13 (And.intro d14 (And.intro d15 (And.intro d30 (And.intro d42 (And.intro d56 d57)))))
     try simp only [vz, tyf, b58, e49, e50, e51, e52, e53, e54, e55, nm, seval]
     obtain rfl := kF _ h
     exact opd_bool Tryz.results4 (by first | rfl | (simp only [upd_apply, seval] <;> rfl))
    simp only [d57, hs, reduceCtorEq] at h
    have b59 := And.intro d13 (And.intro d14 (And.intro d15 (And.intro d30 (And.intro d42 (And.intro d56 d57)))))
    cases d60 : (r16.1)
    ·simp only [d60, hs, reduceCtorEq] at h
     simp only [vz, tyf, b59, e49, e50, e51, e52, e53, e54, e55, d60, nm, seval]
     refine ktree (args0 := []) (by first | (simp only [nrm, tynrm] <;> rfl) | rfl) (by simp only [tre, tytre, Bool.and_self]) (g_law03_known_ok ) ?_
     try simp only [vz, tyf, b59, e49, e50, e51, e52, e53, e54, e55, d60, nm, seval]
     obtain rfl := kF _ h
     exact opd_bool Tryz.results4 (by first | rfl | (simp only [upd_apply, seval] <;> rfl))
    simp only [d60, hs, reduceCtorEq] at h
    try simp only [vz, tyf, b59, e49, e50, e51, e52, e53, e54, e55, d60, nm, seval]
    obtain rfl := kF _ h
    exact opd_bool Tryz.results4 (by first | rfl | (simp only [upd_apply, seval] <;> rfl))
   simp only [d56, hs, reduceCtorEq] at h
   cases d61 : (r16.2 == 0)
   ·simp only [d61, hs, reduceCtorEq] at h
    have b62 := And.intro d13 (And.intro d14 (And.intro d15 (And.intro d30 (And.intro d42 (And.intro d56 d61)))))
    try simp only [vz, tyf, b62, e49, e50, e51, e52, e53, e54, e55, nm, seval]
    obtain rfl := kF _ h
    exact opd_bool Tryz.results4 (by first | rfl | (simp only [upd_apply, seval] <;> rfl))
   simp only [d61, hs, reduceCtorEq] at h
   have b63 := And.intro d13 (And.intro d14 (And.intro d15 (And.intro d30 (And.intro d42 (And.intro d56 d61)))))
   rcases o65 : (g_ref03_Holds x0_s x1_a1 x2_a2) with _ | r64
   ·simp only [o65, hs, reduceCtorEq] at h
    exact absurd h kN
   simp only [o65, hs, reduceCtorEq] at h
   simp only [vz, tyf, b63, e49, e50, e51, e52, e53, e54, e55, nm, seval]
   refine ktree (args0 := [.agg (cGCoatSheet x0_s), .sl (cellsL eI x1_a1) (List.length x1_a1) false, .sl (cellsL eI x2_a2) (List.length x2_a2) false]) (by first | (simp only [nrm, tynrm] <;> rfl) | rfl) (by simp only [tre, tytre, Bool.and_self]) (g_ref03_Holds_ok _ _ _ _ o65) ?_
   refine fin_cut (fun tm => tm 56 = .lit (.bool true) ∧ tm 57 = .lit (.bool r16.1) ∧ tm 61 = .lit (.bool r64) ∧ True) (by refine ⟨?_, ?_, ?_, trivial⟩ <;> first | (simp only [ua, b63, e49, e50, e51, e52, e53, e54, e55, nm, seval] <;> rfl) | rfl) ?_
   rintro tm ⟨e66, e67, e68, _⟩
   cases d69 : (r16.1 == r64)
   ·simp only [d69, hs, reduceCtorEq] at h
    try simp only [vz, tyf, b63, e66, e67, e68, d69, nm, seval]
    obtain rfl := kF _ h
    exact opd_bool Tryz.results4 (by first | rfl | (simp only [upd_apply, seval] <;> rfl))
   simp only [d69, hs, reduceCtorEq] at h
   simp only [vz, tyf, b63, e66, e67, e68, d69, nm, seval]
   refine ktree (args0 := []) (by first | (simp only [nrm, tynrm] <;> rfl) | rfl) (by simp only [tre, tytre, Bool.and_self]) (g_law03_known_ok ) ?_
   try simp only [vz, tyf, b63, e66, e67, e68, d69, nm, seval]
   obtain rfl := kF _ h
   exact opd_bool Tryz.results4 (by first | rfl | (simp only [upd_apply, seval] <;> rfl))
  simp only [d15, hs, reduceCtorEq] at h
  simp only [vz, tyf, e9, e10, e11, e12, d13, d14, d15, nm, seval]
  refine ktree (args0 := []) (by first | (simp only [nrm, tynrm] <;> rfl) | rfl) (by simp only [tre, tytre, Bool.and_self]) (g_law03_known_ok ) ?_
  try simp only [vz, tyf, e9, e10, e11, e12, d13, d14, d15, nm, seval]
  obtain rfl := kF _ h
  exact opd_bool Tryz.results4 (by first | rfl | (simp only [upd_apply, seval] <;> rfl))
 simp only [d14, hs, reduceCtorEq] at h
 simp only [vz, tyf, e9, e10, e11, e12, d13, d14, nm, seval]
 refine ktree (args0 := []) (by first | (simp only [nrm, tynrm] <;> rfl) | rfl) (by simp only [tre, tytre, Bool.and_self]) (g_law03_known_ok ) ?_
 try simp only [vz, tyf, e9, e10, e11, e12, d13, d14, nm, seval]
 obtain rfl := kF _ h
 exact opd_bool Tryz.results4 (by first | rfl | (simp only [upd_apply, seval] <;> rfl))
end Go.V
end
section
namespace Go.V
open Go
theorem CoatHolds_true (s : GCoatSheet) (p w : List Int) (h : lenOk s.Dry = true ∧ lenOk s.Work = true ∧ lenOk s.Coats = true) (hp : lenOk p = true) (hw : lenOk w = true) : g_law03_CoatHolds s p w = some true := by
 have hs : OkS s := ⟨h.1, h.2.1, h.2.2⟩
 unfold g_law03_CoatHolds
 obtain ⟨b, hb⟩ := short_eq s
 rw [hb, holds_eq hs hp hw, rSheet_eq hs, rPlan_eq hs hp, rWeather_eq hw]
 simp only [Option.bind_some]
 cases b with
 | false => rfl
 | true =>
 cases decide ((p.length : Int) > 7) with
 | true => rfl
 | false =>
 cases decide ((w.length : Int) > 14) with
 | true => rfl
 | false =>
 simp only [cond_true, cond_false]
 cases h1 : sheetB s with
 | false => rfl
 | true =>
 cases h2 : planB s p with
 | false => rfl
 | true =>
 cases h3 : inW s.Dry w with
 | false => rfl
 | true =>
 have hv := VP.of h1 h2
 simp only [cond_true, Bool.and_self, rHolds_eq hv (inW_W hv.dk h3) (inW_len h3), Option.bind_some, beq_self_eq_true]
end Go.V
end
