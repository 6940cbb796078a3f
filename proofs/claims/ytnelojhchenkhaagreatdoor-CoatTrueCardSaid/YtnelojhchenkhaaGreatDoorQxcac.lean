/- Part of a proof: a logic of values by content, lifted functions, what follows. -/
import Derived.Test.YtnelojhchenkhaaGreatDoorQbc
import Derived.Test.YtnelojhchenkhaaGreatDoorQbe
import Derived.Test.YtnelojhchenkhaaGreatDoorQbl
import Derived.Test.YtnelojhchenkhaaGreatDoorQbk
import Derived.Test.YtnelojhchenkhaaGreatDoorQbm
import Derived.Test.YtnelojhchenkhaaGreatDoorQbf
import Derived.Test.YtnelojhchenkhaaGreatDoorQbn
set_option linter.all false
set_option maxRecDepth 4000
set_option maxHeartbeats 4000000
section
set_option maxRecDepth 100000
namespace Go.V
open Go Go.Proofs
def Ok_GCoatSheet (x : GCoatSheet) : Prop := lenOk x.Dry = true ∧ lenOk x.Work = true ∧ lenOk x.Coats = true
section
variable {P : Program} (hu3 : P.underlying 3 = some (.int .i64)) {f89 : Array Field} (hu89 : P.underlying 89 = some (.struct f89)) (ht89 : f89.toList.map Field.type = [3, 3]) (hu22 : P.underlying 22 = some (.slice 89)) (hu23 : P.underlying 23 = some (.slice 3)) {f53 : Array Field} (hu53 : P.underlying 53 = some (.struct f53)) (ht53 : f53.toList.map Field.type = [3, 3]) (hu24 : P.underlying 24 = some (.slice 53)) {f26 : Array Field} (hu26 : P.underlying 26 = some (.struct f26)) (ht26 : f26.toList.map Field.type = [22, 23, 24])
include hu3 hu89 ht89 hu22 hu23 hu53 ht53 hu24 hu26 ht26
theorem gd_3 {n : Nat} : Dec P (n + 1) 3 eI (fun _ => True) := dec_int hu3
theorem gd_89 {n : Nat} : Dec P (n + 2) 89 cGSpan (fun _ => True) := by
 intro xs h
 obtain ⟨yss, hf, rfl⟩ := dec_struct (n := n + 1) (ts := [3, 3]) hu89 ht89 h
 match yss, hf with
 | [y0, y1], ⟨h0, h1, _⟩ =>
  obtain ⟨x0, r0, e0⟩ := gd_3 hu3 hu89 ht89 hu22 hu23 hu53 ht53 hu24 hu26 ht26 (n := n + 0) _ h0
  obtain ⟨x1, r1, e1⟩ := gd_3 hu3 hu89 ht89 hu22 hu23 hu53 ht53 hu24 hu26 ht26 (n := n + 0) _ h1
  exact ⟨⟨x0, x1⟩, trivial, by simp only [List.flatten_cons, List.flatten_nil, List.append_nil, normL_append, e0, e1, eI, eU8, eB, eS, eSl, cGSpan_eq, List.cons_append, List.nil_append]⟩
theorem gd_22 {n : Nat} : Dec P (n + 3) 22 (eSl cGSpan) (fun l => lenOk l = true ∧ ∀ x ∈ l, True) := dec_slice hu22 (gd_89 hu3 hu89 ht89 hu22 hu23 hu53 ht53 hu24 hu26 ht26 (n := n))
theorem gd_23 {n : Nat} : Dec P (n + 2) 23 (eSl eI) (fun l => lenOk l = true ∧ ∀ x ∈ l, True) := dec_slice hu23 (gd_3 hu3 hu89 ht89 hu22 hu23 hu53 ht53 hu24 hu26 ht26 (n := n))
theorem gd_53 {n : Nat} : Dec P (n + 2) 53 cGCoatCoat (fun _ => True) := by
 intro xs h
 obtain ⟨yss, hf, rfl⟩ := dec_struct (n := n + 1) (ts := [3, 3]) hu53 ht53 h
 match yss, hf with
 | [y0, y1], ⟨h0, h1, _⟩ =>
  obtain ⟨x0, r0, e0⟩ := gd_3 hu3 hu89 ht89 hu22 hu23 hu53 ht53 hu24 hu26 ht26 (n := n + 0) _ h0
  obtain ⟨x1, r1, e1⟩ := gd_3 hu3 hu89 ht89 hu22 hu23 hu53 ht53 hu24 hu26 ht26 (n := n + 0) _ h1
  exact ⟨⟨x0, x1⟩, trivial, by simp only [List.flatten_cons, List.flatten_nil, List.append_nil, normL_append, e0, e1, eI, eU8, eB, eS, eSl, cGCoatCoat_eq, List.cons_append, List.nil_append]⟩
theorem gd_24 {n : Nat} : Dec P (n + 3) 24 (eSl cGCoatCoat) (fun l => lenOk l = true ∧ ∀ x ∈ l, True) := dec_slice hu24 (gd_53 hu3 hu89 ht89 hu22 hu23 hu53 ht53 hu24 hu26 ht26 (n := n))
theorem gd_26 {n : Nat} : Dec P (n + 4) 26 cGCoatSheet (Ok_GCoatSheet) := by
 intro xs h
 obtain ⟨yss, hf, rfl⟩ := dec_struct (n := n + 3) (ts := [22, 23, 24]) hu26 ht26 h
 match yss, hf with
 | [y0, y1, y2], ⟨h0, h1, h2, _⟩ =>
  obtain ⟨x0, r0, e0⟩ := gd_22 hu3 hu89 ht89 hu22 hu23 hu53 ht53 hu24 hu26 ht26 (n := n + 0) _ h0
  obtain ⟨x1, r1, e1⟩ := gd_23 hu3 hu89 ht89 hu22 hu23 hu53 ht53 hu24 hu26 ht26 (n := n + 1) _ h1
  obtain ⟨x2, r2, e2⟩ := gd_24 hu3 hu89 ht89 hu22 hu23 hu53 ht53 hu24 hu26 ht26 (n := n + 0) _ h2
  exact ⟨⟨x0, x1, x2⟩, ⟨r0.1, r1.1, r2.1⟩, by simp only [List.flatten_cons, List.flatten_nil, List.append_nil, normL_append, e0, e1, e2, eI, eU8, eB, eS, eSl, cGCoatSheet_eq, List.cons_append, List.nil_append]⟩
end
theorem dec_3 {n : Nat} : Dec Tryz.prog (n + 1) 3 eI (fun _ => True) := gd_3 Tryz.underlying3 Tryz.underlying89 (by kernel_rfl) Tryz.underlying22 Tryz.underlying23 Tryz.underlying53 (by kernel_rfl) Tryz.underlying24 Tryz.underlying26 (by kernel_rfl)
theorem dec_23 {n : Nat} : Dec Tryz.prog (n + 2) 23 (eSl eI) (fun l => lenOk l = true ∧ ∀ x ∈ l, True) := gd_23 Tryz.underlying3 Tryz.underlying89 (by kernel_rfl) Tryz.underlying22 Tryz.underlying23 Tryz.underlying53 (by kernel_rfl) Tryz.underlying24 Tryz.underlying26 (by kernel_rfl)
theorem dec_26 {n : Nat} : Dec Tryz.prog (n + 4) 26 cGCoatSheet (Ok_GCoatSheet) := gd_26 Tryz.underlying3 Tryz.underlying89 (by kernel_rfl) Tryz.underlying22 Tryz.underlying23 Tryz.underlying53 (by kernel_rfl) Tryz.underlying24 Tryz.underlying26 (by kernel_rfl)
end Go.V
end
section
namespace Go.V
open Go Go.Proofs
def g_law03_CoatTrue (x0_s : GCoatSheet) (x1_a1 : List Int) (x2_a2 : List Int) : Option (Bool) := Option.bind (g_law03_right x0_s x1_a1) (fun r1 => cond (r1) (cond (decide ((List.length x2_a2 : Int) > 14)) (some true) (Option.bind (g_ref03_Weather x0_s x2_a2) (fun r2 => cond (r2) (Option.bind (g_coat_Holds x0_s x1_a1 x2_a2) (fun r3 => Option.bind (g_coat_Word x0_s x1_a1) (fun r4 => Option.bind (g_coat_Proof x0_s x1_a1) (fun r5 => cond (r3.2 != 0) (some false) (cond (r4.2 != 0) (some false) (cond (decide (r4.1 < 1)) (some false) (cond (decide (r4.1 > 3)) (some false) (cond (r5.2 != 0) (cond (r5.2 != 5) (some false) (cond ((r4.1 == 3) != (r5.2 == 5)) (some false) (cond (r4.1 == 3) (cond (r3.1) (cond (r4.1 == 1) (some false) (some true)) (some false)) (cond (r4.1 == 1) (cond (r3.1) (some false) (some true)) (some true))))) (cond ((r4.1 == 3) != (r5.2 == 5)) (some false) (cond (r4.1 == 3) (cond (r3.1) (cond (r4.1 == 1) (some false) (Option.bind (g_ref03_Weather x0_s r5.1) (fun r6 => cond (r6) (Option.bind (g_coat_Holds x0_s x1_a1 r5.1) (fun r7 => cond (r7.2 == 0) (cond (r7.1) (some false) (some true)) (some false))) (some false)))) (some false)) (cond (r4.1 == 1) (cond (r3.1) (some false) (Option.bind (g_ref03_Weather x0_s r5.1) (fun r8 => cond (r8) (Option.bind (g_coat_Holds x0_s x1_a1 r5.1) (fun r9 => cond (r9.2 == 0) (cond (r9.1) (some false) (some true)) (some false))) (some false)))) (Option.bind (g_ref03_Weather x0_s r5.1) (fun r10 => cond (r10) (Option.bind (g_coat_Holds x0_s x1_a1 r5.1) (fun r11 => cond (r11.2 == 0) (cond (r11.1) (some false) (some true)) (some false))) (some false)))))))))))))) (some true)))) (some true))
theorem g_law03_CoatTrue_ok (x0_s : GCoatSheet) (x1_a1 : List Int) (x2_a2 : List Int) (R : Bool) (h : g_law03_CoatTrue x0_s x1_a1 x2_a2 = some R) : VPure Tryz.prog G0 5 [.agg (cGCoatSheet x0_s), .sl (cellsL eI x1_a1) (List.length x1_a1) false, .sl (cellsL eI x2_a2) (List.length x2_a2) false] (.tree (.lit (.bool R))) := by
 refine VPure.runR mixed Tryz.call5 Tryz.func5 rfl (by simp [Tryz.ntmps5]; kernel_rfl) ?_
 obtain ⟨KF, h, kF, kN⟩ := fun_intro h
 simp only [g_law03_CoatTrue] at h
 rcases o13 : (g_law03_right x0_s x1_a1) with _ | r12
 ·simp only [o13, hs, reduceCtorEq] at h
  exact absurd h kN
 simp only [o13, hs, reduceCtorEq] at h
 simp only [vz, tyf, nm, seval]
 refine ktree (args0 := [.agg (cGCoatSheet x0_s), .sl (cellsL eI x1_a1) (List.length x1_a1) false]) (by first | (simp only [nrm, tynrm] <;> rfl) | rfl) (by simp only [tre, tytre, Bool.and_self]) (g_law03_right_ok _ _ _ o13) ?_
 refine fin_cut (fun tm => tm 1 = .sl (cellsL eI x1_a1) (List.length x1_a1) false ∧ tm 2 = .sl (cellsL eI x2_a2) (List.length x2_a2) false ∧ tm 3 = .ptr 0 0 ∧ tm 17 = .lit (.bool r12) ∧ True) (by refine ⟨?_, ?_, ?_, ?_, trivial⟩ <;> first | (simp only [ua, nm, seval] <;> rfl) | rfl) ?_
 rintro tm ⟨e14, e15, e16, e17, _⟩
 cases d18 : (r12)
 ·simp only [d18, hs, reduceCtorEq] at h
  simp only [vz, tyf, e14, e15, e16, e17, d18, nm, seval]
  refine ktree (args0 := []) (by first | (simp only [nrm, tynrm] <;> rfl) | rfl) (by simp only [tre, tytre, Bool.and_self]) (g_law03_known_ok ) ?_
  try simp only [vz, tyf, e14, e15, e16, e17, d18, nm, seval]
  obtain rfl := kF _ h
  exact opd_bool Tryz.results5 (by first | rfl | (simp only [upd_apply, seval] <;> rfl))
 simp only [d18, hs, reduceCtorEq] at h
 cases d19 : (decide ((List.length x2_a2 : Int) > 14))
 ·simp only [d19, hs, reduceCtorEq] at h
  rcases o21 : (g_ref03_Weather x0_s x2_a2) with _ | r20
  ·simp only [o21, hs, reduceCtorEq] at h
   exact absurd h kN
  simp only [o21, hs, reduceCtorEq] at h
  simp only [vz, tyf, e14, e15, e16, e17, d18, d19, nm, seval]
  refine ktree (args0 := [.agg (cGCoatSheet x0_s), .sl (cellsL eI x2_a2) (List.length x2_a2) false]) (by first | (simp only [nrm, tynrm] <;> rfl) | rfl) (by simp only [tre, tytre, Bool.and_self]) (g_ref03_Weather_ok _ _ _ o21) ?_
  refine fin_cut (fun tm => tm 1 = .sl (cellsL eI x1_a1) (List.length x1_a1) false ∧ tm 2 = .sl (cellsL eI x2_a2) (List.length x2_a2) false ∧ tm 3 = .ptr 0 0 ∧ tm 24 = .lit (.bool false) ∧ tm 27 = .lit (.bool r20) ∧ True) (by refine ⟨e14, e15, e16, ?_, ?_, trivial⟩ <;> first | (simp only [ua, e14, e15, e16, e17, d18, d19, nm, seval] <;> rfl) | rfl) ?_
  rintro tm ⟨e22, e23, e24, e25, e26, _⟩
  cases d27 : (r20)
  ·simp only [d27, hs, reduceCtorEq] at h
   simp only [vz, tyf, d18, d19, e22, e23, e24, e25, e26, d27, nm, seval]
   refine ktree (args0 := []) (by first | (simp only [nrm, tynrm] <;> rfl) | rfl) (by simp only [tre, tytre, Bool.and_self]) (g_law03_known_ok ) ?_
   try simp only [vz, tyf, d18, d19, e22, e23, e24, e25, e26, d27, nm, seval]
   obtain rfl := kF _ h
   exact opd_bool Tryz.results5 (by first | rfl | (simp only [upd_apply, seval] <;> rfl))
  simp only [d27, hs, reduceCtorEq] at h
  rcases o29 : (g_coat_Holds x0_s x1_a1 x2_a2) with _ | r28
  ·simp only [o29, hs, reduceCtorEq] at h
   exact absurd h kN
  simp only [o29, hs, reduceCtorEq] at h
  simp only [vz, tyf, d18, d19, e22, e23, e24, e25, e26, d27, nm, seval]
  refine ktree (args0 := [.agg (cGCoatSheet x0_s), .sl (cellsL eI x1_a1) (List.length x1_a1) false, .sl (cellsL eI x2_a2) (List.length x2_a2) false]) (by first | (simp only [nrm, tynrm] <;> rfl) | rfl) (by simp only [tre, tytre, Bool.and_self]) (g_coat_Holds_ok _ _ _ _ o29) ?_
  refine fin_cut (fun tm => tm 1 = .sl (cellsL eI x1_a1) (List.length x1_a1) false ∧ tm 3 = .ptr 0 0 ∧ tm 35 = .tup [.lit (.bool r28.1), .lit (.int .i64 r28.2)] ∧ True) (by refine ⟨e22, e24, ?_, trivial⟩ <;> first | (simp only [ua, d18, d19, e22, e23, e24, e25, e26, d27, nm, seval] <;> rfl) | rfl) ?_
  rintro tm ⟨e30, e31, e32, _⟩
  rcases o34 : (g_coat_Word x0_s x1_a1) with _ | r33
  ·simp only [o34, hs, reduceCtorEq] at h
   exact absurd h kN
  simp only [o34, hs, reduceCtorEq] at h
  simp only [vz, tyf, d18, d19, d27, e30, e31, e32, nm, seval]
  refine ktree (args0 := [.agg (cGCoatSheet x0_s), .sl (cellsL eI x1_a1) (List.length x1_a1) false]) (by first | (simp only [nrm, tynrm] <;> rfl) | rfl) (by simp only [tre, tytre, Bool.and_self]) (g_coat_Word_ok _ _ _ o34) ?_
  refine fin_cut (fun tm => tm 1 = .sl (cellsL eI x1_a1) (List.length x1_a1) false ∧ tm 3 = .ptr 0 0 ∧ tm 7 = .lit (.bool r28.1) ∧ tm 8 = .lit (.int .i64 r28.2) ∧ tm 41 = .tup [.lit (.int .i64 r33.1), .lit (.int .i64 r33.2)] ∧ True) (by refine ⟨e30, e31, ?_, ?_, ?_, trivial⟩ <;> first | (simp only [ua, d18, d19, d27, e30, e31, e32, nm, seval] <;> rfl) | rfl) ?_
  rintro tm ⟨e35, e36, e37, e38, e39, _⟩
  rcases o41 : (g_coat_Proof x0_s x1_a1) with _ | r40
  ·simp only [o41, hs, reduceCtorEq] at h
   exact absurd h kN
  simp only [o41, hs, reduceCtorEq] at h
  simp only [vz, tyf, d18, d19, d27, e35, e36, e37, e38, e39, nm, seval]
  refine ktree (args0 := [.agg (cGCoatSheet x0_s), .sl (cellsL eI x1_a1) (List.length x1_a1) false]) (by first | (simp only [nrm, tynrm] <;> rfl) | rfl) (by simp only [tre, tytre, Bool.and_self]) (g_coat_Proof_ok _ _ _ o41) ?_
  refine fin_cut (fun tm => tm 1 = .sl (cellsL eI x1_a1) (List.length x1_a1) false ∧ tm 3 = .ptr 0 0 ∧ tm 7 = .lit (.bool r28.1) ∧ tm 8 = .lit (.int .i64 r28.2) ∧ tm 9 = .lit (.int .i64 r33.1) ∧ tm 10 = .lit (.int .i64 r33.2) ∧ tm 47 = .tup [.sl (cellsL eI r40.1) (List.length r40.1) false, .lit (.int .i64 r40.2)] ∧ True) (by refine ⟨e35, e36, e37, e38, ?_, ?_, ?_, trivial⟩ <;> first | (simp only [ua, d18, d19, d27, e35, e36, e37, e38, e39, nm, seval] <;> rfl) | rfl) ?_
  rintro tm ⟨e42, e43, e44, e45, e46, e47, e48, _⟩
  cases d49 : (r28.2 != 0)
  ·simp only [d49, hs, reduceCtorEq] at h
   cases d50 : (r33.2 != 0)
   ·simp only [d50, hs, reduceCtorEq] at h
    cases d51 : (decide (r33.1 < 1))
    ·simp only [d51, hs, reduceCtorEq] at h
     cases d52 : (decide (r33.1 > 3))
     ·simp only [d52, hs, reduceCtorEq] at h
      have b53 := And.intro d18 (And.intro d19 (And.intro d27 (And.intro d49 (And.intro d50 (And.intro d51 d52)))))
      cases d54 : (r40.2 != 0)
      ·simp only [d54, hs, reduceCtorEq] at h
       cases d55 : ((r33.1 == 3) != (r40.2 == 5))
       ·simp only [d55, hs, reduceCtorEq] at h
        cases d56 : (r33.1 == 3)
        ·simp only [d56, hs, reduceCtorEq] at h
         have d57 := d55
         simp only [d56] at d57
         cases d58 : (r33.1 == 1)
         ·simp only [d58, hs, reduceCtorEq] at h
          rcases o60 : (g_ref03_Weather x0_s r40.1) with _ | r59
          ·simp only [o60, hs, reduceCtorEq] at h
           exact absurd h kN
          simp only [o60, hs, reduceCtorEq] at h
          simp only [vz, tyf, b53, e42, e43, e44, e45, e46, e47, e48, d54, d55, d56, d57, d58, nm, seval]
          refine ktree (args0 := [.agg (cGCoatSheet x0_s), .sl (cellsL eI r40.1) (List.length r40.1) false]) (by first | (simp only [nrm, tynrm] <;> rfl) | rfl) (by simp only [tre, tytre, Bool.and_self]) (g_ref03_Weather_ok _ _ _ o60) ?_
          refine fin_cut (fun tm => tm 1 = .sl (cellsL eI x1_a1) (List.length x1_a1) false ∧ tm 3 = .ptr 0 0 ∧ tm 11 = .sl (cellsL eI r40.1) (List.length r40.1) false ∧ tm 97 = .lit (.bool r59) ∧ True) (by refine ⟨e42, e43, ?_, ?_, trivial⟩ <;> first | (simp only [ua, b53, e42, e43, e44, e45, e46, e47, e48, d54, d55, d56, d57, d58, nm, seval] <;> rfl) | rfl) ?_
          rintro tm ⟨e61, e62, e63, e64, _⟩
          cases d65 : (r59)
          ·simp only [d65, hs, reduceCtorEq] at h
           have b66 := And.intro b53 (And.intro d54 (And.intro d55 (And.intro d56 (And.intro d57 (And.intro d58 d65)))))
           try simp only [vz, tyf, b66, e61, e62, e63, e64, nm, seval]
           obtain rfl := kF _ h
           exact opd_bool Tryz.results5 (by first | rfl | (simp only [upd_apply, seval] <;> rfl))
          simp only [d65, hs, reduceCtorEq] at h
          have b67 := And.intro b53 (And.intro d54 (And.intro d55 (And.intro d56 (And.intro d57 (And.intro d58 d65)))))
          rcases o69 : (g_coat_Holds x0_s x1_a1 r40.1) with _ | r68
          ·simp only [o69, hs, reduceCtorEq] at h
           exact absurd h kN
          simp only [o69, hs, reduceCtorEq] at h
          simp only [vz, tyf, b67, e61, e62, e63, e64, nm, seval]
          refine ktree (args0 := [.agg (cGCoatSheet x0_s), .sl (cellsL eI x1_a1) (List.length x1_a1) false, .sl (cellsL eI r40.1) (List.length r40.1) false]) (by first | (simp only [nrm, tynrm] <;> rfl) | rfl) (by simp only [tre, tytre, Bool.and_self]) (g_coat_Holds_ok _ _ _ _ o69) ?_
          refine fin_cut (fun tm => tm 103 = .tup [.lit (.bool r68.1), .lit (.int .i64 r68.2)] ∧ True) (by refine ⟨?_, trivial⟩ <;> first | (simp only [ua, b67, e61, e62, e63, e64, nm, seval] <;> rfl) | rfl) ?_
          rintro tm ⟨e70, _⟩
          cases d71 : (r68.2 == 0)
          ·simp only [d71, hs, reduceCtorEq] at h
           try simp only [vz, tyf, b67, e70, d71, nm, seval]
           obtain rfl := kF _ h
           exact opd_bool Tryz.results5 (by first | rfl | (simp only [upd_apply, seval] <;> rfl))
          simp only [d71, hs, reduceCtorEq] at h
          cases d72 : (r68.1)
          ·simp only [d72, hs, reduceCtorEq] at h
           simp only [vz, tyf, b67, e70, d71, d72, nm, seval]
           refine ktree (args0 := []) (by first | (simp only [nrm, tynrm] <;> rfl) | rfl) (by simp only [tre, tytre, Bool.and_self]) (g_law03_known_ok ) ?_
           try simp only [vz, tyf, b67, e70, d71, d72, nm, seval]
           obtain rfl := kF _ h
           exact opd_bool Tryz.results5 (by first | rfl | (simp only [upd_apply, seval] <;> rfl))
          simp only [d72, hs, reduceCtorEq] at h
          try simp only [vz, tyf, b67, e70, d71, d72, nm, seval]
          obtain rfl := kF _ h
          exact opd_bool Tryz.results5 (by first | rfl | (simp only [upd_apply, seval] <;> rfl))
         simp only [d58, hs, reduceCtorEq] at h
         cases d73 : (r28.1)
         ·simp only [d73, hs, reduceCtorEq] at h
          have b74 := And.intro b53 (And.intro d54 (And.intro d55 (And.intro d56 (And.intro d57 (And.intro d58 d73)))))
          rcases o76 : (g_ref03_Weather x0_s r40.1) with _ | r75
          ·simp only [o76, hs, reduceCtorEq] at h
           exact absurd h kN
          simp only [o76, hs, reduceCtorEq] at h
          simp only [vz, tyf, b74, e42, e43, e44, e45, e46, e47, e48, nm, seval]
          refine ktree (args0 := [.agg (cGCoatSheet x0_s), .sl (cellsL eI r40.1) (List.length r40.1) false]) (by first | (simp only [nrm, tynrm] <;> rfl) | rfl) (by simp only [tre, tytre, Bool.and_self]) (g_ref03_Weather_ok _ _ _ o76) ?_
          refine fin_cut (fun tm => tm 1 = .sl (cellsL eI x1_a1) (List.length x1_a1) false ∧ tm 3 = .ptr 0 0 ∧ tm 11 = .sl (cellsL eI r40.1) (List.length r40.1) false ∧ tm 97 = .lit (.bool r75) ∧ True) (by refine ⟨e42, e43, ?_, ?_, trivial⟩ <;> first | (simp only [ua, b74, e42, e43, e44, e45, e46, e47, e48, nm, seval] <;> rfl) | rfl) ?_
          rintro tm ⟨e77, e78, e79, e80, _⟩
          cases d81 : (r75)
          ·simp only [d81, hs, reduceCtorEq] at h
           try simp only [vz, tyf, b74, e77, e78, e79, e80, d81, nm, seval]
           obtain rfl := kF _ h
           exact opd_bool Tryz.results5 (by first | rfl | (simp only [upd_apply, seval] <;> rfl))
          simp only [d81, hs, reduceCtorEq] at h
          rcases o83 : (g_coat_Holds x0_s x1_a1 r40.1) with _ | r82
          ·simp only [o83, hs, reduceCtorEq] at h
           exact absurd h kN
          simp only [o83, hs, reduceCtorEq] at h
          simp only [vz, tyf, b74, e77, e78, e79, e80, d81, nm, seval]
          refine ktree (args0 := [.agg (cGCoatSheet x0_s), .sl (cellsL eI x1_a1) (List.length x1_a1) false, .sl (cellsL eI r40.1) (List.length r40.1) false]) (by first | (simp only [nrm, tynrm] <;> rfl) | rfl) (by simp only [tre, tytre, Bool.and_self]) (g_coat_Holds_ok _ _ _ _ o83) ?_
          refine fin_cut (fun tm => tm 103 = .tup [.lit (.bool r82.1), .lit (.int .i64 r82.2)] ∧ True) (by refine ⟨?_, trivial⟩ <;> first | (simp only [ua, b74, e77, e78, e79, e80, d81, nm, seval] <;> rfl) | rfl) ?_
          rintro tm ⟨e84, _⟩
          cases d85 : (r82.2 == 0)
          ·simp only [d85, hs, reduceCtorEq] at h
           try simp only [vz, tyf, b74, d81, e84, d85, nm, seval]
           obtain rfl := kF _ h
           exact opd_bool Tryz.results5 (by first | rfl | (simp only [upd_apply, seval] <;> rfl))
          simp only [d85, hs, reduceCtorEq] at h
          cases d86 : (r82.1)
          ·simp only [d86, hs, reduceCtorEq] at h
           simp only [vz, tyf, b74, d81, e84, d85, d86, nm, seval]
           refine ktree (args0 := []) (by first | (simp only [nrm, tynrm] <;> rfl) | rfl) (by simp only [tre, tytre, Bool.and_self]) (g_law03_known_ok ) ?_
           try simp only [vz, tyf, b74, d81, e84, d85, d86, nm, seval]
           obtain rfl := kF _ h
           exact opd_bool Tryz.results5 (by first | rfl | (simp only [upd_apply, seval] <;> rfl))
          simp only [d86, hs, reduceCtorEq] at h
          try simp only [vz, tyf, b74, d81, e84, d85, d86, nm, seval]
          obtain rfl := kF _ h
          exact opd_bool Tryz.results5 (by first | rfl | (simp only [upd_apply, seval] <;> rfl))
         simp only [d73, hs, reduceCtorEq] at h
         have b87 := And.intro b53 (And.intro d54 (And.intro d55 (And.intro d56 (And.intro d57 (And.intro d58 d73)))))
         try simp only [vz, tyf, b87, e42, e43, e44, e45, e46, e47, e48, nm, seval]
         obtain rfl := kF _ h
         exact opd_bool Tryz.results5 (by first | rfl | (simp only [upd_apply, seval] <;> rfl))
        simp only [d56, hs, reduceCtorEq] at h
        have d88 := d55
        simp only [d56] at d88
        cases d89 : (r28.1)
        ·simp only [d89, hs, reduceCtorEq] at h
         try simp only [vz, tyf, b53, e42, e43, e44, e45, e46, e47, e48, d54, d55, d56, d88, d89, nm, seval]
         obtain rfl := kF _ h
         exact opd_bool Tryz.results5 (by first | rfl | (simp only [upd_apply, seval] <;> rfl))
        simp only [d89, hs, reduceCtorEq] at h
        cases d90 : (r33.1 == 1)
        ·simp only [d90, hs, reduceCtorEq] at h
         have b91 := And.intro b53 (And.intro d54 (And.intro d55 (And.intro d56 (And.intro d88 (And.intro d89 d90)))))
         rcases o93 : (g_ref03_Weather x0_s r40.1) with _ | r92
         ·simp only [o93, hs, reduceCtorEq] at h
          exact absurd h kN
         simp only [o93, hs, reduceCtorEq] at h
         simp only [vz, tyf, b91, e42, e43, e44, e45, e46, e47, e48, nm, seval]
         refine ktree (args0 := [.agg (cGCoatSheet x0_s), .sl (cellsL eI r40.1) (List.length r40.1) false]) (by first | (simp only [nrm, tynrm] <;> rfl) | rfl) (by simp only [tre, tytre, Bool.and_self]) (g_ref03_Weather_ok _ _ _ o93) ?_
         refine fin_cut (fun tm => tm 1 = .sl (cellsL eI x1_a1) (List.length x1_a1) false ∧ tm 3 = .ptr 0 0 ∧ tm 11 = .sl (cellsL eI r40.1) (List.length r40.1) false ∧ tm 97 = .lit (.bool r92) ∧ True) (by refine ⟨e42, e43, ?_, ?_, trivial⟩ <;> first | (simp only [ua, b91, e42, e43, e44, e45, e46, e47, e48, nm, seval] <;> rfl) | rfl) ?_
         rintro tm ⟨e94, e95, e96, e97, _⟩
         cases d98 : (r92)
         ·simp only [d98, hs, reduceCtorEq] at h
          try simp only [vz, tyf, b91, e94, e95, e96, e97, d98, nm, seval]
          obtain rfl := kF _ h
          exact opd_bool Tryz.results5 (by first | rfl | (simp only [upd_apply, seval] <;> rfl))
         simp only [d98, hs, reduceCtorEq] at h
         rcases o100 : (g_coat_Holds x0_s x1_a1 r40.1) with _ | r99
         ·simp only [o100, hs, reduceCtorEq] at h
          exact absurd h kN
         simp only [o100, hs, reduceCtorEq] at h
         simp only [vz, tyf, b91, e94, e95, e96, e97, d98, nm, seval]
         refine ktree (args0 := [.agg (cGCoatSheet x0_s), .sl (cellsL eI x1_a1) (List.length x1_a1) false, .sl (cellsL eI r40.1) (List.length r40.1) false]) (by first | (simp only [nrm, tynrm] <;> rfl) | rfl) (by simp only [tre, tytre, Bool.and_self]) (g_coat_Holds_ok _ _ _ _ o100) ?_
         refine fin_cut (fun tm => tm 103 = .tup [.lit (.bool r99.1), .lit (.int .i64 r99.2)] ∧ True) (by refine ⟨?_, trivial⟩ <;> first | (simp only [ua, b91, e94, e95, e96, e97, d98, nm, seval] <;> rfl) | rfl) ?_
         rintro tm ⟨e101, _⟩
         cases d102 : (r99.2 == 0)
         ·simp only [d102, hs, reduceCtorEq] at h
          try simp only [vz, tyf, b91, d98, e101, d102, nm, seval]
          obtain rfl := kF _ h
          exact opd_bool Tryz.results5 (by first | rfl | (simp only [upd_apply, seval] <;> rfl))
         simp only [d102, hs, reduceCtorEq] at h
         cases d103 : (r99.1)
         ·simp only [d103, hs, reduceCtorEq] at h
          simp only [vz, tyf, b91, d98, e101, d102, d103, nm, seval]
          refine ktree (args0 := []) (by first | (simp only [nrm, tynrm] <;> rfl) | rfl) (by simp only [tre, tytre, Bool.and_self]) (g_law03_known_ok ) ?_
          try simp only [vz, tyf, b91, d98, e101, d102, d103, nm, seval]
          obtain rfl := kF _ h
          exact opd_bool Tryz.results5 (by first | rfl | (simp only [upd_apply, seval] <;> rfl))
         simp only [d103, hs, reduceCtorEq] at h
         try simp only [vz, tyf, b91, d98, e101, d102, d103, nm, seval]
         obtain rfl := kF _ h
         exact opd_bool Tryz.results5 (by first | rfl | (simp only [upd_apply, seval] <;> rfl))
        simp only [d90, hs, reduceCtorEq] at h
        have b104 := And.intro b53 (And.intro d54 (And.intro d55 (And.intro d56 (And.intro d88 (And.intro d89 d90)))))
        try simp only [vz, tyf, b104, e42, e43, e44, e45, e46, e47, e48, nm, seval]
        obtain rfl := kF _ h
        exact opd_bool Tryz.results5 (by first | rfl | (simp only [upd_apply, seval] <;> rfl))
       simp only [d55, hs, reduceCtorEq] at h
       try simp only [vz, tyf, b53, e42, e43, e44, e45, e46, e47, e48, d54, d55, nm, seval]
       obtain rfl := kF _ h
       exact opd_bool Tryz.results5 (by first | rfl | (simp only [upd_apply, seval] <;> rfl))
      simp only [d54, hs, reduceCtorEq] at h
      cases d105 : (r40.2 != 5)
      ·simp only [d105, hs, reduceCtorEq] at h
       cases d106 : ((r33.1 == 3) != (r40.2 == 5))
       ·simp only [d106, hs, reduceCtorEq] at h
        cases d107 : (r33.1 == 3)
        ·simp only [d107, hs, reduceCtorEq] at h
         have d108 := d106
         simp only [d107] at d108
         cases d109 : (r33.1 == 1)
         ·simp only [d109, hs, reduceCtorEq] at h
          have b110 := And.intro b53 (And.intro d54 (And.intro d105 (And.intro d106 (And.intro d107 (And.intro d108 d109)))))
          simp only [vz, tyf, b110, e42, e43, e44, e45, e46, e47, e48, nm, seval]
          refine ktree (args0 := []) (by first | (simp only [nrm, tynrm] <;> rfl) | rfl) (by simp only [tre, tytre, Bool.and_self]) (g_law03_known_ok ) ?_
          try simp only [vz, tyf, b110, e42, e43, e44, e45, e46, e47, e48, nm, seval]
          obtain rfl := kF _ h
          exact opd_bool Tryz.results5 (by first | rfl | (simp only [upd_apply, seval] <;> rfl))
         simp only [d109, hs, reduceCtorEq] at h
         have b111 := And.intro b53 (And.intro d54 (And.intro d105 (And.intro d106 (And.intro d107 (And.intro d108 d109)))))
         cases d112 : (r28.1)
         ·simp only [d112, hs, reduceCtorEq] at h
          simp only [vz, tyf, b111, e42, e43, e44, e45, e46, e47, e48, d112, nm, seval]
          refine ktree (args0 := []) (by first | (simp only [nrm, tynrm] <;> rfl) | rfl) (by simp only [tre, tytre, Bool.and_self]) (g_law03_known_ok ) ?_
          try simp only [vz, tyf, b111, e42, e43, e44, e45, e46, e47, e48, d112, nm, seval]
          obtain rfl := kF _ h
          exact opd_bool Tryz.results5 (by first | rfl | (simp only [upd_apply, seval] <;> rfl))
         simp only [d112, hs, reduceCtorEq] at h
         try simp only [vz, tyf, b111, e42, e43, e44, e45, e46, e47, e48, d112, nm, seval]
         obtain rfl := kF _ h
         exact opd_bool Tryz.results5 (by first | rfl | (simp only [upd_apply, seval] <;> rfl))
        simp only [d107, hs, reduceCtorEq] at h
        have d113 := d106
        simp only [d107] at d113
        cases d114 : (r28.1)
        ·simp only [d114, hs, reduceCtorEq] at h
         have b115 := And.intro b53 (And.intro d54 (And.intro d105 (And.intro d106 (And.intro d107 (And.intro d113 d114)))))
         try simp only [vz, tyf, b115, e42, e43, e44, e45, e46, e47, e48, nm, seval]
         obtain rfl := kF _ h
         exact opd_bool Tryz.results5 (by first | rfl | (simp only [upd_apply, seval] <;> rfl))
        simp only [d114, hs, reduceCtorEq] at h
        have b116 := And.intro b53 (And.intro d54 (And.intro d105 (And.intro d106 (And.intro d107 (And.intro d113 d114)))))
        cases d117 : (r33.1 == 1)
        ·simp only [d117, hs, reduceCtorEq] at h
         simp only [vz, tyf, b116, e42, e43, e44, e45, e46, e47, e48, d117, nm, seval]
         refine ktree (args0 := []) (by first | (simp only [nrm, tynrm] <;> rfl) | rfl) (by simp only [tre, tytre, Bool.and_self]) (g_law03_known_ok ) ?_
         try simp only [vz, tyf, b116, e42, e43, e44, e45, e46, e47, e48, d117, nm, seval]
         obtain rfl := kF _ h
         exact opd_bool Tryz.results5 (by first | rfl | (simp only [upd_apply, seval] <;> rfl))
        simp only [d117, hs, reduceCtorEq] at h
        try simp only [vz, tyf, b116, e42, e43, e44, e45, e46, e47, e48, d117, nm, seval]
        obtain rfl := kF _ h
        exact opd_bool Tryz.results5 (by first | rfl | (simp only [upd_apply, seval] <;> rfl))
       simp only [d106, hs, reduceCtorEq] at h
       try simp only [vz, tyf, b53, e42, e43, e44, e45, e46, e47, e48, d54, d105, d106, nm, seval]
       obtain rfl := kF _ h
       exact opd_bool Tryz.results5 (by first | rfl | (simp only [upd_apply, seval] <;> rfl))
      simp only [d105, hs, reduceCtorEq] at h
      try simp only [vz, tyf, b53, e42, e43, e44, e45, e46, e47, e48, d54, d105, nm, seval]
      obtain rfl := kF _ h
      exact opd_bool Tryz.results5 (by first | rfl | (simp only [upd_apply, seval] <;> rfl))
     simp only [d52, hs, reduceCtorEq] at h
     have b118 := And.intro d18 (And.intro d19 (And.intro d27 (And.intro d49 (And.intro d50 (And.intro d51 d52)))))
     try simp only [vz, tyf, b118, e42, e43, e44, e45, e46, e47, e48, nm, seval]
     obtain rfl := kF _ h
     exact opd_bool Tryz.results5 (by first | rfl | (simp only [upd_apply, seval] <;> rfl))
    simp only [d51, hs, reduceCtorEq] at h
    try simp only [vz, tyf, d18, d19, d27, e42, e43, e44, e45, e46, e47, e48, d49, d50, d51, nm, seval]
    obtain rfl := kF _ h
    exact opd_bool Tryz.results5 (by first | rfl | (simp only [upd_apply, seval] <;> rfl))
   simp only [d50, hs, reduceCtorEq] at h
   try simp only [vz, tyf, d18, d19, d27, e42, e43, e44, e45, e46, e47, e48, d49, d50, nm, seval]
   obtain rfl := kF _ h
   exact opd_bool Tryz.results5 (by first | rfl | (simp only [upd_apply, seval] <;> rfl))
  simp only [d49, hs, reduceCtorEq] at h
  try simp only [vz, tyf, d18, d19, d27, e42, e43, e44, e45, e46, e47, e48, d49, nm, seval]
  obtain rfl := kF _ h
  exact opd_bool Tryz.results5 (by first | rfl | (simp only [upd_apply, seval] <;> rfl))
 simp only [d19, hs, reduceCtorEq] at h
 simp only [vz, tyf, e14, e15, e16, e17, d18, d19, nm, seval]
 refine ktree (args0 := []) (by first | (simp only [nrm, tynrm] <;> rfl) | rfl) (by simp only [tre, tytre, Bool.and_self]) (g_law03_known_ok ) ?_
 try simp only [vz, tyf, e14, e15, e16, e17, d18, d19, nm, seval]
 obtain rfl := kF _ h
 exact opd_bool Tryz.results5 (by first | rfl | (simp only [upd_apply, seval] <;> rfl))
end Go.V
end
section
namespace Go.V
open Go
theorem CoatTrue_true (s : GCoatSheet) (p w : List Int) (h : lenOk s.Dry = true ∧ lenOk s.Work = true ∧ lenOk s.Coats = true) (hp : lenOk p = true) (hw : lenOk w = true) : g_law03_CoatTrue s p w = some true := by
 have hs : OkS s := ⟨h.1, h.2.1, h.2.2⟩
 unfold g_law03_CoatTrue
 obtain ⟨b, hb, hbt⟩ := right_eq hs hp
 rw [hb, rWeather_eq hw]
 simp only [Option.bind_some]
 cases b with
 | false => rfl
 | true =>
 obtain ⟨h1, h2⟩ := hbt rfl
 have hv := VP.of h1 h2
 cases decide ((w.length : Int) > 14) with
 | true => rfl
 | false =>
 cases h3 : inW s.Dry w with
 | false => rfl
 | true =>
 rw [holds_eq hs hp hw, word_eq hs hp, h1, h2, h3]
 simp only [cond_true, cond_false, Option.bind_some, Bool.and_self]
 rcases proof_eq hs hp h1 h2 with ⟨e1, e2⟩ | ⟨e1, r, e2, e3, e4, _⟩
 ·rw [e2]
  have e5 := sure_holds hv h3 e1
  have e6 : wordW s.Dry s.Coats p = 3 := by unfold wordW; rw [e1]; rfl
  rw [e5, e6]
  rfl
 ·have hlr : lenOk r = true := lenOk_of (by have := inW_len e3; have := hv.dk.l; omega)
  rw [e2]
  simp only [Option.bind_some, rWeather_eq hlr, e3, holds_eq hs hp hlr, h1, h2, e4, Bool.and_self, cond_true]
  cases hb : (bestW s.Dry s.Coats p).isNone with
  | true =>
   have e6 : wordW s.Dry s.Coats p = 2 := by unfold wordW; rw [e1, hb]; rfl
   rw [e6]
   cases holdsW s.Dry s.Coats p w <;> rfl
  | false =>
   have e6 : wordW s.Dry s.Coats p = 1 := by unfold wordW; rw [e1, hb]; rfl
   have e7 : holdsW s.Dry s.Coats p w = false := by
    cases hh : holdsW s.Dry s.Coats p w with
    | false => rfl
    | true => rw [never_holds hv h3 hh] at hb; cases hb
   rw [e6, e7]
   rfl
end Go.V
end
