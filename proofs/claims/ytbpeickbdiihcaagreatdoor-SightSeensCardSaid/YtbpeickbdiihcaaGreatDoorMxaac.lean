/- Part of the proof of statements of YtbpeickbdiihcaaGreatDoor: a logic of values by content, the lifted functions, and what follows. -/
import Derived.Test.YtbpeickbdiihcaaGreatDoorMbd
import Derived.Test.YtbpeickbdiihcaaGreatDoorMbe
import Derived.Test.YtbpeickbdiihcaaGreatDoorMbf
import Derived.Test.YtbpeickbdiihcaaGreatDoorMbm
import Derived.Test.YtbpeickbdiihcaaGreatDoorMbh
import Derived.Test.YtbpeickbdiihcaaGreatDoorMbl
import Derived.Test.YtbpeickbdiihcaaGreatDoorMbi
set_option linter.unusedVariables false
set_option linter.unusedSimpArgs false
set_option linter.unusedSectionVars false
set_option linter.constructorNameAsVariable false
section
set_option linter.unusedSimpArgs false
set_option linter.unusedVariables false
set_option maxRecDepth 100000
namespace Go.V
open Go Go.Proofs
def Ok_GSightBoard (x : GSightBoard) : Prop := lenOk x.Letters = true
def Ok_GSightStreet (x : GSightStreet) : Prop := lenOk x.Boards = true ∧ (∀ y ∈ x.Boards, Ok_GSightBoard y) ∧ lenOk x.Blocks = true
section
variable {P : Program} (hu3 : P.underlying 3 = some (.int .i64)) {f23 : Array Field} (hu23 : P.underlying 23 = some (.struct f23)) (ht23 : f23.toList.map Field.type = [3, 3]) {f61 : Array Field} (hu61 : P.underlying 61 = some (.struct f61)) (ht61 : f61.toList.map Field.type = [3, 3, 3, 3]) (hu40 : P.underlying 40 = some (.slice 61)) {f42 : Array Field} (hu42 : P.underlying 42 = some (.struct f42)) (ht42 : f42.toList.map Field.type = [3, 40]) (hu24 : P.underlying 24 = some (.slice 42)) (hu4 : P.underlying 4 = some (.bool)) {f68 : Array Field} (hu68 : P.underlying 68 = some (.struct f68)) (ht68 : f68.toList.map Field.type = [23, 23, 4]) (hu25 : P.underlying 25 = some (.slice 68)) {f27 : Array Field} (hu27 : P.underlying 27 = some (.struct f27)) (ht27 : f27.toList.map Field.type = [3, 3, 23, 23, 24, 25]) {f29 : Array Field} (hu29 : P.underlying 29 = some (.struct f29)) (ht29 : f29.toList.map Field.type = [3, 3])
include hu3 hu23 ht23 hu61 ht61 hu40 hu42 ht42 hu24 hu4 hu68 ht68 hu25 hu27 ht27 hu29 ht29
theorem gd_3 {n : Nat} : Dec P (n + 1) 3 eI (fun _ => True) := dec_int hu3
theorem gd_23 {n : Nat} : Dec P (n + 2) 23 cGSpan (fun _ => True) := by
  intro xs h
  obtain ⟨yss, hf, rfl⟩ := dec_struct (n := n + 1) (ts := [3, 3]) hu23 ht23 h
  match yss, hf with
  | [y0, y1], ⟨h0, h1, _⟩ =>
    obtain ⟨x0, r0, e0⟩ := gd_3 hu3 hu23 ht23 hu61 ht61 hu40 hu42 ht42 hu24 hu4 hu68 ht68 hu25 hu27 ht27 hu29 ht29 (n := n + 0) _ h0
    obtain ⟨x1, r1, e1⟩ := gd_3 hu3 hu23 ht23 hu61 ht61 hu40 hu42 ht42 hu24 hu4 hu68 ht68 hu25 hu27 ht27 hu29 ht29 (n := n + 0) _ h1
    exact ⟨⟨x0, x1⟩, trivial, by simp only [List.flatten_cons, List.flatten_nil, List.append_nil, normL_append, e0, e1, eI, eU8, eB, eS, eSl, cGSpan_eq, List.cons_append, List.nil_append]⟩
theorem gd_61 {n : Nat} : Dec P (n + 2) 61 cGSightLetter (fun _ => True) := by
  intro xs h
  obtain ⟨yss, hf, rfl⟩ := dec_struct (n := n + 1) (ts := [3, 3, 3, 3]) hu61 ht61 h
  match yss, hf with
  | [y0, y1, y2, y3], ⟨h0, h1, h2, h3, _⟩ =>
    obtain ⟨x0, r0, e0⟩ := gd_3 hu3 hu23 ht23 hu61 ht61 hu40 hu42 ht42 hu24 hu4 hu68 ht68 hu25 hu27 ht27 hu29 ht29 (n := n + 0) _ h0
    obtain ⟨x1, r1, e1⟩ := gd_3 hu3 hu23 ht23 hu61 ht61 hu40 hu42 ht42 hu24 hu4 hu68 ht68 hu25 hu27 ht27 hu29 ht29 (n := n + 0) _ h1
    obtain ⟨x2, r2, e2⟩ := gd_3 hu3 hu23 ht23 hu61 ht61 hu40 hu42 ht42 hu24 hu4 hu68 ht68 hu25 hu27 ht27 hu29 ht29 (n := n + 0) _ h2
    obtain ⟨x3, r3, e3⟩ := gd_3 hu3 hu23 ht23 hu61 ht61 hu40 hu42 ht42 hu24 hu4 hu68 ht68 hu25 hu27 ht27 hu29 ht29 (n := n + 0) _ h3
    exact ⟨⟨x0, x1, x2, x3⟩, trivial, by simp only [List.flatten_cons, List.flatten_nil, List.append_nil, normL_append, e0, e1, e2, e3, eI, eU8, eB, eS, eSl, cGSightLetter_eq, List.cons_append, List.nil_append]⟩
theorem gd_40 {n : Nat} : Dec P (n + 3) 40 (eSl cGSightLetter) (fun l => lenOk l = true ∧ ∀ x ∈ l, True) := dec_slice hu40 (gd_61 hu3 hu23 ht23 hu61 ht61 hu40 hu42 ht42 hu24 hu4 hu68 ht68 hu25 hu27 ht27 hu29 ht29 (n := n))
theorem gd_42 {n : Nat} : Dec P (n + 4) 42 cGSightBoard (Ok_GSightBoard) := by
  intro xs h
  obtain ⟨yss, hf, rfl⟩ := dec_struct (n := n + 3) (ts := [3, 40]) hu42 ht42 h
  match yss, hf with
  | [y0, y1], ⟨h0, h1, _⟩ =>
    obtain ⟨x0, r0, e0⟩ := gd_3 hu3 hu23 ht23 hu61 ht61 hu40 hu42 ht42 hu24 hu4 hu68 ht68 hu25 hu27 ht27 hu29 ht29 (n := n + 2) _ h0
    obtain ⟨x1, r1, e1⟩ := gd_40 hu3 hu23 ht23 hu61 ht61 hu40 hu42 ht42 hu24 hu4 hu68 ht68 hu25 hu27 ht27 hu29 ht29 (n := n + 0) _ h1
    exact ⟨⟨x0, x1⟩, r1.1, by simp only [List.flatten_cons, List.flatten_nil, List.append_nil, normL_append, e0, e1, eI, eU8, eB, eS, eSl, cGSightBoard_eq, List.cons_append, List.nil_append]⟩
theorem gd_24 {n : Nat} : Dec P (n + 5) 24 (eSl cGSightBoard) (fun l => lenOk l = true ∧ ∀ x ∈ l, Ok_GSightBoard x) := dec_slice hu24 (gd_42 hu3 hu23 ht23 hu61 ht61 hu40 hu42 ht42 hu24 hu4 hu68 ht68 hu25 hu27 ht27 hu29 ht29 (n := n))
theorem gd_4 {n : Nat} : Dec P (n + 1) 4 eB (fun _ => True) := dec_bool hu4
theorem gd_68 {n : Nat} : Dec P (n + 3) 68 cGSightBlock (fun _ => True) := by
  intro xs h
  obtain ⟨yss, hf, rfl⟩ := dec_struct (n := n + 2) (ts := [23, 23, 4]) hu68 ht68 h
  match yss, hf with
  | [y0, y1, y2], ⟨h0, h1, h2, _⟩ =>
    obtain ⟨x0, r0, e0⟩ := gd_23 hu3 hu23 ht23 hu61 ht61 hu40 hu42 ht42 hu24 hu4 hu68 ht68 hu25 hu27 ht27 hu29 ht29 (n := n + 0) _ h0
    obtain ⟨x1, r1, e1⟩ := gd_23 hu3 hu23 ht23 hu61 ht61 hu40 hu42 ht42 hu24 hu4 hu68 ht68 hu25 hu27 ht27 hu29 ht29 (n := n + 0) _ h1
    obtain ⟨x2, r2, e2⟩ := gd_4 hu3 hu23 ht23 hu61 ht61 hu40 hu42 ht42 hu24 hu4 hu68 ht68 hu25 hu27 ht27 hu29 ht29 (n := n + 1) _ h2
    exact ⟨⟨x0, x1, x2⟩, trivial, by simp only [List.flatten_cons, List.flatten_nil, List.append_nil, normL_append, e0, e1, e2, eI, eU8, eB, eS, eSl, cGSightBlock_eq, cGSpan_eq, List.cons_append, List.nil_append]⟩
theorem gd_25 {n : Nat} : Dec P (n + 4) 25 (eSl cGSightBlock) (fun l => lenOk l = true ∧ ∀ x ∈ l, True) := dec_slice hu25 (gd_68 hu3 hu23 ht23 hu61 ht61 hu40 hu42 ht42 hu24 hu4 hu68 ht68 hu25 hu27 ht27 hu29 ht29 (n := n))
theorem gd_27 {n : Nat} : Dec P (n + 6) 27 cGSightStreet (Ok_GSightStreet) := by
  intro xs h
  obtain ⟨yss, hf, rfl⟩ := dec_struct (n := n + 5) (ts := [3, 3, 23, 23, 24, 25]) hu27 ht27 h
  match yss, hf with
  | [y0, y1, y2, y3, y4, y5], ⟨h0, h1, h2, h3, h4, h5, _⟩ =>
    obtain ⟨x0, r0, e0⟩ := gd_3 hu3 hu23 ht23 hu61 ht61 hu40 hu42 ht42 hu24 hu4 hu68 ht68 hu25 hu27 ht27 hu29 ht29 (n := n + 4) _ h0
    obtain ⟨x1, r1, e1⟩ := gd_3 hu3 hu23 ht23 hu61 ht61 hu40 hu42 ht42 hu24 hu4 hu68 ht68 hu25 hu27 ht27 hu29 ht29 (n := n + 4) _ h1
    obtain ⟨x2, r2, e2⟩ := gd_23 hu3 hu23 ht23 hu61 ht61 hu40 hu42 ht42 hu24 hu4 hu68 ht68 hu25 hu27 ht27 hu29 ht29 (n := n + 3) _ h2
    obtain ⟨x3, r3, e3⟩ := gd_23 hu3 hu23 ht23 hu61 ht61 hu40 hu42 ht42 hu24 hu4 hu68 ht68 hu25 hu27 ht27 hu29 ht29 (n := n + 3) _ h3
    obtain ⟨x4, r4, e4⟩ := gd_24 hu3 hu23 ht23 hu61 ht61 hu40 hu42 ht42 hu24 hu4 hu68 ht68 hu25 hu27 ht27 hu29 ht29 (n := n + 0) _ h4
    obtain ⟨x5, r5, e5⟩ := gd_25 hu3 hu23 ht23 hu61 ht61 hu40 hu42 ht42 hu24 hu4 hu68 ht68 hu25 hu27 ht27 hu29 ht29 (n := n + 1) _ h5
    exact ⟨⟨x0, x1, x2, x3, x4, x5⟩, ⟨r4.1, r4.2, r5.1⟩, by simp only [List.flatten_cons, List.flatten_nil, List.append_nil, normL_append, e0, e1, e2, e3, e4, e5, eI, eU8, eB, eS, eSl, cGSightStreet_eq, cGSpan_eq, List.cons_append, List.nil_append]⟩
theorem gd_29 {n : Nat} : Dec P (n + 2) 29 cGSightPlace (fun _ => True) := by
  intro xs h
  obtain ⟨yss, hf, rfl⟩ := dec_struct (n := n + 1) (ts := [3, 3]) hu29 ht29 h
  match yss, hf with
  | [y0, y1], ⟨h0, h1, _⟩ =>
    obtain ⟨x0, r0, e0⟩ := gd_3 hu3 hu23 ht23 hu61 ht61 hu40 hu42 ht42 hu24 hu4 hu68 ht68 hu25 hu27 ht27 hu29 ht29 (n := n + 0) _ h0
    obtain ⟨x1, r1, e1⟩ := gd_3 hu3 hu23 ht23 hu61 ht61 hu40 hu42 ht42 hu24 hu4 hu68 ht68 hu25 hu27 ht27 hu29 ht29 (n := n + 0) _ h1
    exact ⟨⟨x0, x1⟩, trivial, by simp only [List.flatten_cons, List.flatten_nil, List.append_nil, normL_append, e0, e1, eI, eU8, eB, eS, eSl, cGSightPlace_eq, List.cons_append, List.nil_append]⟩
end
theorem dec_3 {n : Nat} : Dec Tryz.prog (n + 1) 3 eI (fun _ => True) := gd_3 Tryz.underlying3 Tryz.underlying23 (by kernel_rfl) Tryz.underlying61 (by kernel_rfl) Tryz.underlying40 Tryz.underlying42 (by kernel_rfl) Tryz.underlying24 Tryz.underlying4 Tryz.underlying68 (by kernel_rfl) Tryz.underlying25 Tryz.underlying27 (by kernel_rfl) Tryz.underlying29 (by kernel_rfl)
theorem dec_27 {n : Nat} : Dec Tryz.prog (n + 6) 27 cGSightStreet (Ok_GSightStreet) := gd_27 Tryz.underlying3 Tryz.underlying23 (by kernel_rfl) Tryz.underlying61 (by kernel_rfl) Tryz.underlying40 Tryz.underlying42 (by kernel_rfl) Tryz.underlying24 Tryz.underlying4 Tryz.underlying68 (by kernel_rfl) Tryz.underlying25 Tryz.underlying27 (by kernel_rfl) Tryz.underlying29 (by kernel_rfl)
theorem dec_29 {n : Nat} : Dec Tryz.prog (n + 2) 29 cGSightPlace (fun _ => True) := gd_29 Tryz.underlying3 Tryz.underlying23 (by kernel_rfl) Tryz.underlying61 (by kernel_rfl) Tryz.underlying40 Tryz.underlying42 (by kernel_rfl) Tryz.underlying24 Tryz.underlying4 Tryz.underlying68 (by kernel_rfl) Tryz.underlying25 Tryz.underlying27 (by kernel_rfl) Tryz.underlying29 (by kernel_rfl)
end Go.V
end
section
namespace Go.V
open Go Go.Proofs
set_option linter.unusedSimpArgs false
set_option linter.unusedVariables false
set_option maxRecDepth 4000
set_option maxHeartbeats 4000000
def g_law02_SightSeens (x0_s : GSightStreet) (x1_a1 : Int) (x2_a2 : GSightPlace) : Option (Bool) := Option.bind (g_law02_short x0_s) (fun r1 => cond (r1) (Option.bind (g_sight_Check x0_s) (fun r2 => Option.bind (g_sight_Seen x0_s x1_a1 x2_a2) (fun r3 => Option.bind (g_ref02_Street x0_s) (fun r4 => cond (r4) (Option.bind (g_ref02_Board x0_s x1_a1) (fun r5 => cond (r5) (Option.bind (g_ref02_Place x0_s x2_a2) (fun r6 => cond (r6) (cond (r2 == 0) (cond (r3.2 == 0) (Option.bind (getI x0_s.Boards x1_a1) (fun x7 => Option.bind (g_ref02_Seen x0_s x7 x2_a2) (fun r8 => cond (r3.1 == r8) (Option.bind (g_law02_known ) (fun r9 => some r9)) (some false)))) (some false)) (some false)) (cond (r2 == 0) (cond (r3.2 == 2) (cond (r3.1 == 0) (Option.bind (g_law02_known ) (fun r10 => some r10)) (some false)) (some false)) (some false)))) (cond (r2 == 0) (cond (r3.2 == 2) (cond (r3.1 == 0) (Option.bind (g_law02_known ) (fun r11 => some r11)) (some false)) (some false)) (some false)))) (cond (r2 == 2) (cond (r3.2 == 2) (cond (r3.1 == 0) (Option.bind (g_law02_known ) (fun r12 => some r12)) (some false)) (some false)) (some false)))))) (Option.bind (g_law02_known ) (fun r13 => some r13)))
theorem g_law02_SightSeens_ok (x0_s : GSightStreet) (x1_a1 : Int) (x2_a2 : GSightPlace) (R : Bool) (h : g_law02_SightSeens x0_s x1_a1 x2_a2 = some R) : VPure Tryz.prog G0 3 [.agg (cGSightStreet x0_s), .lit (.int .i64 x1_a1), .agg (cGSightPlace x2_a2)] (.tree (.lit (.bool R))) := by
 refine VPure.runR mixed Tryz.call3 Tryz.func3 rfl (by simp [Tryz.ntmps3]; kernel_rfl) ?_
 obtain ⟨KF, h, kF, kN⟩ := fun_intro h
 simp only [g_law02_SightSeens] at h
 cases o15 : (g_law02_short x0_s) with
 | none =>
  simp only [o15, hs, reduceCtorEq] at h
  exact absurd h kN
 | some r14 =>
  simp only [o15, hs, reduceCtorEq] at h
  simp only [vz, tyf, nmB, implies_true, seval]
  refine ktree (args0 := [.agg (cGSightStreet x0_s)]) (by first | (simp only [nrm, tynrm] <;> rfl) | rfl) (by simp only [tre, tytre, Bool.and_self]) (g_law02_short_ok _ _ o15) ?_
  refine fin_cut (fun tm => tm 1 = .lit (.int .i64 x1_a1) ∧ tm 3 = .ptr 0 0 ∧ tm 5 = .ptr 1 0 ∧ tm 11 = .lit (.bool r14) ∧ True) (by refine ⟨?_, ?_, ?_, ?_, trivial⟩ <;> first | (simp only [upd_apply, updH_apply, without_apply, mV_app, mV_app0, nmB, implies_true, seval] <;> rfl) | rfl) ?_
  rintro tm ⟨e16, e17, e18, e19, _⟩
  cases d20 : (r14)
  ·simp only [d20, hs, reduceCtorEq] at h
   cases o22 : (g_law02_known ) with
   | none =>
    simp only [o22, hs, reduceCtorEq] at h
    exact absurd h kN
   | some r21 =>
    simp only [o22, hs, reduceCtorEq] at h
    simp only [vz, tyf, e16, e17, e18, e19, d20, nmB, implies_true, seval]
    refine ktree (args0 := []) (by first | (simp only [nrm, tynrm] <;> rfl) | rfl) (by simp only [tre, tytre, Bool.and_self]) (g_law02_known_ok  _ o22) ?_
    refine fin_cut (fun tm => tm 13 = .lit (.bool r21) ∧ True) (by refine ⟨?_, trivial⟩ <;> first | (simp only [upd_apply, updH_apply, without_apply, mV_app, mV_app0, e16, e17, e18, e19, d20, nmB, implies_true, seval] <;> rfl) | rfl) ?_
    rintro tm ⟨e23, _⟩
    simp only [vz, tyf, d20, e23, nmB, implies_true, seval]
    refine opd_ret (x := (.lit (.bool r21))) (by first | (simp only [Tryz.results3, resV, resL, resV1, tgt_ptr, tgt_tp, upd_apply, updH_apply, without_apply, cr, tyf, d20, e23, nmB, implies_true, seval] <;> rfl) | rfl) ?_
    obtain rfl := kF _ h
    refine rr_tree ?_ ?_
    ·simp only [tre, tytre, Bool.and_self]
    ·first | (simp only [outV, upd_apply, updH_apply, without_apply, showV_ref, cr, tyf, nrm, tynrm, d20, e23, nmB, implies_true, seval] <;> rfl) | rfl
  ·simp only [d20, hs, reduceCtorEq] at h
   cases o25 : (g_sight_Check x0_s) with
   | none =>
    simp only [o25, hs, reduceCtorEq] at h
    exact absurd h kN
   | some r24 =>
    simp only [o25, hs, reduceCtorEq] at h
    simp only [vz, tyf, e16, e17, e18, e19, d20, nmB, implies_true, seval]
    refine ktree (args0 := [.agg (cGSightStreet x0_s)]) (by first | (simp only [nrm, tynrm] <;> rfl) | rfl) (by simp only [tre, tytre, Bool.and_self]) (g_sight_Check_ok _ _ o25) ?_
    refine fin_cut (fun tm => tm 1 = .lit (.int .i64 x1_a1) ∧ tm 3 = .ptr 0 0 ∧ tm 5 = .ptr 1 0 ∧ tm 15 = .lit (.int .i64 r24) ∧ True) (by refine ⟨e16, e17, e18, ?_, trivial⟩ <;> first | (simp only [upd_apply, updH_apply, without_apply, mV_app, mV_app0, e16, e17, e18, e19, d20, nmB, implies_true, seval] <;> rfl) | rfl) ?_
    rintro tm ⟨e26, e27, e28, e29, _⟩
    cases o31 : (g_sight_Seen x0_s x1_a1 x2_a2) with
    | none =>
     simp only [o31, hs, reduceCtorEq] at h
     exact absurd h kN
    | some r30 =>
     simp only [o31, hs, reduceCtorEq] at h
     simp only [vz, tyf, d20, e26, e27, e28, e29, nmB, implies_true, seval]
     refine ktree (args0 := [.agg (cGSightStreet x0_s), .lit (.int .i64 x1_a1), .agg (cGSightPlace x2_a2)]) (by first | (simp only [nrm, tynrm] <;> rfl) | rfl) (by simp only [tre, tytre, Bool.and_self]) (g_sight_Seen_ok _ _ _ _ o31) ?_
     refine fin_cut (fun tm => tm 1 = .lit (.int .i64 x1_a1) ∧ tm 3 = .ptr 0 0 ∧ tm 5 = .ptr 1 0 ∧ tm 7 = .lit (.int .i64 r24) ∧ tm 20 = .tup [.lit (.int .i64 r30.1), .lit (.int .i64 r30.2)] ∧ True) (by refine ⟨e26, e27, e28, ?_, ?_, trivial⟩ <;> first | (simp only [upd_apply, updH_apply, without_apply, mV_app, mV_app0, d20, e26, e27, e28, e29, nmB, implies_true, seval] <;> rfl) | rfl) ?_
     rintro tm ⟨e32, e33, e34, e35, e36, _⟩
     cases o38 : (g_ref02_Street x0_s) with
     | none =>
      simp only [o38, hs, reduceCtorEq] at h
      exact absurd h kN
     | some r37 =>
      simp only [o38, hs, reduceCtorEq] at h
      simp only [vz, tyf, d20, e32, e33, e34, e35, e36, nmB, implies_true, seval]
      refine ktree (args0 := [.agg (cGSightStreet x0_s)]) (by first | (simp only [nrm, tynrm] <;> rfl) | rfl) (by simp only [tre, tytre, Bool.and_self]) (g_ref02_Street_ok _ _ o38) ?_
      refine fin_cut (fun tm => tm 1 = .lit (.int .i64 x1_a1) ∧ tm 3 = .ptr 0 0 ∧ tm 5 = .ptr 1 0 ∧ tm 7 = .lit (.int .i64 r24) ∧ tm 8 = .lit (.int .i64 r30.1) ∧ tm 9 = .lit (.int .i64 r30.2) ∧ tm 24 = .lit (.bool r37) ∧ True) (by refine ⟨e32, e33, e34, e35, ?_, ?_, ?_, trivial⟩ <;> first | (simp only [upd_apply, updH_apply, without_apply, mV_app, mV_app0, d20, e32, e33, e34, e35, e36, nmB, implies_true, seval] <;> rfl) | rfl) ?_
      rintro tm ⟨e39, e40, e41, e42, e43, e44, e45, _⟩
      cases d46 : (r37)
      ·simp only [d46, hs, reduceCtorEq] at h
       cases d47 : (r24 == 2)
       ·simp only [d47, hs, reduceCtorEq] at h
        simp only [vz, tyf, d20, e39, e40, e41, e42, e43, e44, e45, d46, d47, nmB, implies_true, seval]
        refine opd_ret (x := (.lit (.bool false))) (by first | (simp only [Tryz.results3, resV, resL, resV1, tgt_ptr, tgt_tp, upd_apply, updH_apply, without_apply, cr, tyf, d20, e39, e40, e41, e42, e43, e44, e45, d46, d47, nmB, implies_true, seval] <;> rfl) | rfl) ?_
        obtain rfl := kF _ h
        refine rr_tree ?_ ?_
        ·simp only [tre, tytre, Bool.and_self]
        ·first | (simp only [outV, upd_apply, updH_apply, without_apply, showV_ref, cr, tyf, nrm, tynrm, d20, e39, e40, e41, e42, e43, e44, e45, d46, d47, nmB, implies_true, seval] <;> rfl) | rfl
       ·simp only [d47, hs, reduceCtorEq] at h
        cases d48 : (r30.2 == 2)
        ·simp only [d48, hs, reduceCtorEq] at h
         simp only [vz, tyf, d20, e39, e40, e41, e42, e43, e44, e45, d46, d47, d48, nmB, implies_true, seval]
         refine opd_ret (x := (.lit (.bool false))) (by first | (simp only [Tryz.results3, resV, resL, resV1, tgt_ptr, tgt_tp, upd_apply, updH_apply, without_apply, cr, tyf, d20, e39, e40, e41, e42, e43, e44, e45, d46, d47, d48, nmB, implies_true, seval] <;> rfl) | rfl) ?_
         obtain rfl := kF _ h
         refine rr_tree ?_ ?_
         ·simp only [tre, tytre, Bool.and_self]
         ·first | (simp only [outV, upd_apply, updH_apply, without_apply, showV_ref, cr, tyf, nrm, tynrm, d20, e39, e40, e41, e42, e43, e44, e45, d46, d47, d48, nmB, implies_true, seval] <;> rfl) | rfl
        ·simp only [d48, hs, reduceCtorEq] at h
         cases d49 : (r30.1 == 0)
         ·simp only [d49, hs, reduceCtorEq] at h
          simp only [vz, tyf, d20, e39, e40, e41, e42, e43, e44, e45, d46, d47, d48, d49, nmB, implies_true, seval]
          refine opd_ret (x := (.lit (.bool false))) (by first | (simp only [Tryz.results3, resV, resL, resV1, tgt_ptr, tgt_tp, upd_apply, updH_apply, without_apply, cr, tyf, d20, e39, e40, e41, e42, e43, e44, e45, d46, d47, d48, d49, nmB, implies_true, seval] <;> rfl) | rfl) ?_
          obtain rfl := kF _ h
          refine rr_tree ?_ ?_
          ·simp only [tre, tytre, Bool.and_self]
          ·first | (simp only [outV, upd_apply, updH_apply, without_apply, showV_ref, cr, tyf, nrm, tynrm, d20, e39, e40, e41, e42, e43, e44, e45, d46, d47, d48, d49, nmB, implies_true, seval] <;> rfl) | rfl
         ·simp only [d49, hs, reduceCtorEq] at h
          cases o51 : (g_law02_known ) with
          | none =>
           simp only [o51, hs, reduceCtorEq] at h
           exact absurd h kN
          | some r50 =>
           simp only [o51, hs, reduceCtorEq] at h
           simp only [vz, tyf, d20, e39, e40, e41, e42, e43, e44, e45, d46, d47, d48, d49, nmB, implies_true, seval]
           refine ktree (args0 := []) (by first | (simp only [nrm, tynrm] <;> rfl) | rfl) (by simp only [tre, tytre, Bool.and_self]) (g_law02_known_ok  _ o51) ?_
           refine fin_cut (fun tm => tm 36 = .lit (.bool true) ∧ tm 37 = .lit (.bool r50) ∧ True) (by refine ⟨?_, ?_, trivial⟩ <;> first | (simp only [upd_apply, updH_apply, without_apply, mV_app, mV_app0, d20, e39, e40, e41, e42, e43, e44, e45, d46, d47, d48, d49, nmB, implies_true, seval] <;> rfl) | rfl) ?_
           rintro tm ⟨e52, e53, _⟩
           simp only [vz, tyf, d20, d46, d47, d48, d49, e52, e53, nmB, implies_true, seval]
           refine opd_ret (x := (.lit (.bool r50))) (by first | (simp only [Tryz.results3, resV, resL, resV1, tgt_ptr, tgt_tp, upd_apply, updH_apply, without_apply, cr, tyf, d20, d46, d47, d48, d49, e52, e53, nmB, implies_true, seval] <;> rfl) | rfl) ?_
           obtain rfl := kF _ h
           refine rr_tree ?_ ?_
           ·simp only [tre, tytre, Bool.and_self]
           ·first | (simp only [outV, upd_apply, updH_apply, without_apply, showV_ref, cr, tyf, nrm, tynrm, d20, d46, d47, d48, d49, e52, e53, nmB, implies_true, seval] <;> rfl) | rfl
      ·simp only [d46, hs, reduceCtorEq] at h
       cases o55 : (g_ref02_Board x0_s x1_a1) with
       | none =>
        simp only [o55, hs, reduceCtorEq] at h
        exact absurd h kN
       | some r54 =>
        simp only [o55, hs, reduceCtorEq] at h
        simp only [vz, tyf, d20, e39, e40, e41, e42, e43, e44, e45, d46, nmB, implies_true, seval]
        refine ktree (args0 := [.agg (cGSightStreet x0_s), .lit (.int .i64 x1_a1)]) (by first | (simp only [nrm, tynrm] <;> rfl) | rfl) (by simp only [tre, tytre, Bool.and_self]) (g_ref02_Board_ok _ _ _ o55) ?_
        refine fin_cut (fun tm => tm 1 = .lit (.int .i64 x1_a1) ∧ tm 3 = .ptr 0 0 ∧ tm 5 = .ptr 1 0 ∧ tm 7 = .lit (.int .i64 r24) ∧ tm 8 = .lit (.int .i64 r30.1) ∧ tm 9 = .lit (.int .i64 r30.2) ∧ tm 41 = .lit (.bool r54) ∧ True) (by refine ⟨e39, e40, e41, e42, e43, e44, ?_, trivial⟩ <;> first | (simp only [upd_apply, updH_apply, without_apply, mV_app, mV_app0, d20, e39, e40, e41, e42, e43, e44, e45, d46, nmB, implies_true, seval] <;> rfl) | rfl) ?_
        rintro tm ⟨e56, e57, e58, e59, e60, e61, e62, _⟩
        cases d63 : (r54)
        ·simp only [d63, hs, reduceCtorEq] at h
         cases d64 : (r24 == 0)
         ·simp only [d64, hs, reduceCtorEq] at h
          simp only [vz, tyf, d20, d46, e56, e57, e58, e59, e60, e61, e62, d63, d64, nmB, implies_true, seval]
          refine opd_ret (x := (.lit (.bool false))) (by first | (simp only [Tryz.results3, resV, resL, resV1, tgt_ptr, tgt_tp, upd_apply, updH_apply, without_apply, cr, tyf, d20, d46, e56, e57, e58, e59, e60, e61, e62, d63, d64, nmB, implies_true, seval] <;> rfl) | rfl) ?_
          obtain rfl := kF _ h
          refine rr_tree ?_ ?_
          ·simp only [tre, tytre, Bool.and_self]
          ·first | (simp only [outV, upd_apply, updH_apply, without_apply, showV_ref, cr, tyf, nrm, tynrm, d20, d46, e56, e57, e58, e59, e60, e61, e62, d63, d64, nmB, implies_true, seval] <;> rfl) | rfl
         ·simp only [d64, hs, reduceCtorEq] at h
          cases d65 : (r30.2 == 2)
          ·simp only [d65, hs, reduceCtorEq] at h
           simp only [vz, tyf, d20, d46, e56, e57, e58, e59, e60, e61, e62, d63, d64, d65, nmB, implies_true, seval]
           refine opd_ret (x := (.lit (.bool false))) (by first | (simp only [Tryz.results3, resV, resL, resV1, tgt_ptr, tgt_tp, upd_apply, updH_apply, without_apply, cr, tyf, d20, d46, e56, e57, e58, e59, e60, e61, e62, d63, d64, d65, nmB, implies_true, seval] <;> rfl) | rfl) ?_
           obtain rfl := kF _ h
           refine rr_tree ?_ ?_
           ·simp only [tre, tytre, Bool.and_self]
           ·first | (simp only [outV, upd_apply, updH_apply, without_apply, showV_ref, cr, tyf, nrm, tynrm, d20, d46, e56, e57, e58, e59, e60, e61, e62, d63, d64, d65, nmB, implies_true, seval] <;> rfl) | rfl
          ·simp only [d65, hs, reduceCtorEq] at h
           cases d66 : (r30.1 == 0)
           ·simp only [d66, hs, reduceCtorEq] at h
            simp only [vz, tyf, d20, d46, e56, e57, e58, e59, e60, e61, e62, d63, d64, d65, d66, nmB, implies_true, seval]
            refine opd_ret (x := (.lit (.bool false))) (by first | (simp only [Tryz.results3, resV, resL, resV1, tgt_ptr, tgt_tp, upd_apply, updH_apply, without_apply, cr, tyf, d20, d46, e56, e57, e58, e59, e60, e61, e62, d63, d64, d65, d66, nmB, implies_true, seval] <;> rfl) | rfl) ?_
            obtain rfl := kF _ h
            refine rr_tree ?_ ?_
            ·simp only [tre, tytre, Bool.and_self]
            ·first | (simp only [outV, upd_apply, updH_apply, without_apply, showV_ref, cr, tyf, nrm, tynrm, d20, d46, e56, e57, e58, e59, e60, e61, e62, d63, d64, d65, d66, nmB, implies_true, seval] <;> rfl) | rfl
           ·simp only [d66, hs, reduceCtorEq] at h
            cases o68 : (g_law02_known ) with
            | none =>
             simp only [o68, hs, reduceCtorEq] at h
             exact absurd h kN
            | some r67 =>
             simp only [o68, hs, reduceCtorEq] at h
             simp only [vz, tyf, d20, d46, e56, e57, e58, e59, e60, e61, e62, d63, d64, d65, d66, nmB, implies_true, seval]
             refine ktree (args0 := []) (by first | (simp only [nrm, tynrm] <;> rfl) | rfl) (by simp only [tre, tytre, Bool.and_self]) (g_law02_known_ok  _ o68) ?_
             refine fin_cut (fun tm => tm 59 = .lit (.bool true) ∧ tm 60 = .lit (.bool r67) ∧ True) (by refine ⟨?_, ?_, trivial⟩ <;> first | (simp only [upd_apply, updH_apply, without_apply, mV_app, mV_app0, d20, d46, e56, e57, e58, e59, e60, e61, e62, d63, d64, d65, d66, nmB, implies_true, seval] <;> rfl) | rfl) ?_
             rintro tm ⟨e69, e70, _⟩
             simp only [vz, tyf, d20, d46, d63, d64, d65, d66, e69, e70, nmB, implies_true, seval]
             refine opd_ret (x := (.lit (.bool r67))) (by first | (simp only [Tryz.results3, resV, resL, resV1, tgt_ptr, tgt_tp, upd_apply, updH_apply, without_apply, cr, tyf, d20, d46, d63, d64, d65, d66, e69, e70, nmB, implies_true, seval] <;> rfl) | rfl) ?_
             obtain rfl := kF _ h
             refine rr_tree ?_ ?_
             ·simp only [tre, tytre, Bool.and_self]
             ·first | (simp only [outV, upd_apply, updH_apply, without_apply, showV_ref, cr, tyf, nrm, tynrm, d20, d46, d63, d64, d65, d66, e69, e70, nmB, implies_true, seval] <;> rfl) | rfl
        ·simp only [d63, hs, reduceCtorEq] at h
         cases o72 : (g_ref02_Place x0_s x2_a2) with
         | none =>
          simp only [o72, hs, reduceCtorEq] at h
          exact absurd h kN
         | some r71 =>
          simp only [o72, hs, reduceCtorEq] at h
          simp only [vz, tyf, d20, d46, e56, e57, e58, e59, e60, e61, e62, d63, nmB, implies_true, seval]
          refine ktree (args0 := [.agg (cGSightStreet x0_s), .agg (cGSightPlace x2_a2)]) (by first | (simp only [nrm, tynrm] <;> rfl) | rfl) (by simp only [tre, tytre, Bool.and_self]) (g_ref02_Place_ok _ _ _ o72) ?_
          refine fin_cut (fun tm => tm 1 = .lit (.int .i64 x1_a1) ∧ tm 3 = .ptr 0 0 ∧ tm 5 = .ptr 1 0 ∧ tm 7 = .lit (.int .i64 r24) ∧ tm 8 = .lit (.int .i64 r30.1) ∧ tm 9 = .lit (.int .i64 r30.2) ∧ tm 43 = .lit (.bool false) ∧ tm 46 = .lit (.bool r71) ∧ True) (by refine ⟨e56, e57, e58, e59, e60, e61, ?_, ?_, trivial⟩ <;> first | (simp only [upd_apply, updH_apply, without_apply, mV_app, mV_app0, d20, d46, e56, e57, e58, e59, e60, e61, e62, d63, nmB, implies_true, seval] <;> rfl) | rfl) ?_
          rintro tm ⟨e73, e74, e75, e76, e77, e78, e79, e80, _⟩
          cases d81 : (r71)
          ·simp only [d81, hs, reduceCtorEq] at h
           cases d82 : (r24 == 0)
           ·simp only [d82, hs, reduceCtorEq] at h
            simp only [vz, tyf, d20, d46, d63, e73, e74, e75, e76, e77, e78, e79, e80, d81, d82, nmB, implies_true, seval]
            refine opd_ret (x := (.lit (.bool false))) (by first | (simp only [Tryz.results3, resV, resL, resV1, tgt_ptr, tgt_tp, upd_apply, updH_apply, without_apply, cr, tyf, d20, d46, d63, e73, e74, e75, e76, e77, e78, e79, e80, d81, d82, nmB, implies_true, seval] <;> rfl) | rfl) ?_
            obtain rfl := kF _ h
            refine rr_tree ?_ ?_
            ·simp only [tre, tytre, Bool.and_self]
            ·first | (simp only [outV, upd_apply, updH_apply, without_apply, showV_ref, cr, tyf, nrm, tynrm, d20, d46, d63, e73, e74, e75, e76, e77, e78, e79, e80, d81, d82, nmB, implies_true, seval] <;> rfl) | rfl
           ·simp only [d82, hs, reduceCtorEq] at h
            cases d83 : (r30.2 == 2)
            ·simp only [d83, hs, reduceCtorEq] at h
             simp only [vz, tyf, d20, d46, d63, e73, e74, e75, e76, e77, e78, e79, e80, d81, d82, d83, nmB, implies_true, seval]
             refine opd_ret (x := (.lit (.bool false))) (by first | (simp only [Tryz.results3, resV, resL, resV1, tgt_ptr, tgt_tp, upd_apply, updH_apply, without_apply, cr, tyf, d20, d46, d63, e73, e74, e75, e76, e77, e78, e79, e80, d81, d82, d83, nmB, implies_true, seval] <;> rfl) | rfl) ?_
             obtain rfl := kF _ h
             refine rr_tree ?_ ?_
             ·simp only [tre, tytre, Bool.and_self]
             ·first | (simp only [outV, upd_apply, updH_apply, without_apply, showV_ref, cr, tyf, nrm, tynrm, d20, d46, d63, e73, e74, e75, e76, e77, e78, e79, e80, d81, d82, d83, nmB, implies_true, seval] <;> rfl) | rfl
            ·simp only [d83, hs, reduceCtorEq] at h
             cases d84 : (r30.1 == 0)
             ·simp only [d84, hs, reduceCtorEq] at h
              simp only [vz, tyf, d20, d46, d63, e73, e74, e75, e76, e77, e78, e79, e80, d81, d82, d83, d84, nmB, implies_true, seval]
              refine opd_ret (x := (.lit (.bool false))) (by first | (simp only [Tryz.results3, resV, resL, resV1, tgt_ptr, tgt_tp, upd_apply, updH_apply, without_apply, cr, tyf, d20, d46, d63, e73, e74, e75, e76, e77, e78, e79, e80, d81, d82, d83, d84, nmB, implies_true, seval] <;> rfl) | rfl) ?_
              obtain rfl := kF _ h
              refine rr_tree ?_ ?_
              ·simp only [tre, tytre, Bool.and_self]
              ·first | (simp only [outV, upd_apply, updH_apply, without_apply, showV_ref, cr, tyf, nrm, tynrm, d20, d46, d63, e73, e74, e75, e76, e77, e78, e79, e80, d81, d82, d83, d84, nmB, implies_true, seval] <;> rfl) | rfl
             ·simp only [d84, hs, reduceCtorEq] at h
              cases o86 : (g_law02_known ) with
              | none =>
               simp only [o86, hs, reduceCtorEq] at h
               exact absurd h kN
              | some r85 =>
               simp only [o86, hs, reduceCtorEq] at h
               simp only [vz, tyf, d20, d46, d63, e73, e74, e75, e76, e77, e78, e79, e80, d81, d82, d83, d84, nmB, implies_true, seval]
               refine ktree (args0 := []) (by first | (simp only [nrm, tynrm] <;> rfl) | rfl) (by simp only [tre, tytre, Bool.and_self]) (g_law02_known_ok  _ o86) ?_
               refine fin_cut (fun tm => tm 59 = .lit (.bool true) ∧ tm 60 = .lit (.bool r85) ∧ True) (by refine ⟨?_, ?_, trivial⟩ <;> first | (simp only [upd_apply, updH_apply, without_apply, mV_app, mV_app0, d20, d46, d63, e73, e74, e75, e76, e77, e78, e79, e80, d81, d82, d83, d84, nmB, implies_true, seval] <;> rfl) | rfl) ?_
               rintro tm ⟨e87, e88, _⟩
               simp only [vz, tyf, d20, d46, d63, d81, d82, d83, d84, e87, e88, nmB, implies_true, seval]
               refine opd_ret (x := (.lit (.bool r85))) (by first | (simp only [Tryz.results3, resV, resL, resV1, tgt_ptr, tgt_tp, upd_apply, updH_apply, without_apply, cr, tyf, d20, d46, d63, d81, d82, d83, d84, e87, e88, nmB, implies_true, seval] <;> rfl) | rfl) ?_
               obtain rfl := kF _ h
               refine rr_tree ?_ ?_
               ·simp only [tre, tytre, Bool.and_self]
               ·first | (simp only [outV, upd_apply, updH_apply, without_apply, showV_ref, cr, tyf, nrm, tynrm, d20, d46, d63, d81, d82, d83, d84, e87, e88, nmB, implies_true, seval] <;> rfl) | rfl
          ·simp only [d81, hs, reduceCtorEq] at h
           simp only [vz, tyf, d20, d46, d63, e73, e74, e75, e76, e77, e78, e79, e80, d81, nmB, implies_true, seval]
           refine cwp_drwQF (fun tm => tm 1 = .lit (.int .i64 x1_a1) ∧ tm 3 = .ptr 0 0 ∧ tm 5 = .ptr 1 0 ∧ tm 7 = .lit (.int .i64 r24) ∧ tm 8 = .lit (.int .i64 r30.1) ∧ tm 9 = .lit (.int .i64 r30.2) ∧ True) (by refine ⟨e73, e74, e75, e76, e77, e78, trivial⟩ <;> first | (simp only [upd_apply, updH_apply, without_apply, mV_app, mV_app0, d20, d46, d63, e73, e74, e75, e76, e77, e78, e79, e80, d81, nmB, implies_true, seval] <;> rfl) | rfl) ?_
           rintro tm ⟨e89, e90, e91, e92, e93, e94, _⟩
           cases d95 : (r24 == 0)
           ·simp only [d95, hs, reduceCtorEq] at h
            simp only [vz, tyf, d20, d46, d63, d81, e89, e90, e91, e92, e93, e94, d95, nmB, implies_true, seval]
            refine opd_ret (x := (.lit (.bool false))) (by first | (simp only [Tryz.results3, resV, resL, resV1, tgt_ptr, tgt_tp, upd_apply, updH_apply, without_apply, cr, tyf, d20, d46, d63, d81, e89, e90, e91, e92, e93, e94, d95, nmB, implies_true, seval] <;> rfl) | rfl) ?_
            obtain rfl := kF _ h
            refine rr_tree ?_ ?_
            ·simp only [tre, tytre, Bool.and_self]
            ·first | (simp only [outV, upd_apply, updH_apply, without_apply, showV_ref, cr, tyf, nrm, tynrm, d20, d46, d63, d81, e89, e90, e91, e92, e93, e94, d95, nmB, implies_true, seval] <;> rfl) | rfl
           ·simp only [d95, hs, reduceCtorEq] at h
            cases d96 : (r30.2 == 0)
            ·simp only [d96, hs, reduceCtorEq] at h
             simp only [vz, tyf, d20, d46, d63, d81, e89, e90, e91, e92, e93, e94, d95, d96, nmB, implies_true, seval]
             refine opd_ret (x := (.lit (.bool false))) (by first | (simp only [Tryz.results3, resV, resL, resV1, tgt_ptr, tgt_tp, upd_apply, updH_apply, without_apply, cr, tyf, d20, d46, d63, d81, e89, e90, e91, e92, e93, e94, d95, d96, nmB, implies_true, seval] <;> rfl) | rfl) ?_
             obtain rfl := kF _ h
             refine rr_tree ?_ ?_
             ·simp only [tre, tytre, Bool.and_self]
             ·first | (simp only [outV, upd_apply, updH_apply, without_apply, showV_ref, cr, tyf, nrm, tynrm, d20, d46, d63, d81, e89, e90, e91, e92, e93, e94, d95, d96, nmB, implies_true, seval] <;> rfl) | rfl
            ·simp only [d96, hs, reduceCtorEq] at h
             cases o98 : (getI x0_s.Boards x1_a1) with
             | none =>
              simp only [o98, hs, reduceCtorEq] at h
              exact absurd h kN
             | some x97 =>
              simp only [o98, hs, reduceCtorEq] at h
              cases o100 : (g_ref02_Seen x0_s x97 x2_a2) with
              | none =>
               simp only [o100, hs, reduceCtorEq] at h
               exact absurd h kN
              | some r99 =>
               simp only [o100, hs, reduceCtorEq] at h
               simp only [vz, tyf, d20, d46, d63, d81, e89, e90, e91, e92, e93, e94, d95, d96, (ix24 o98), nmB, implies_true, seval]
               refine dktree (args0 := [.agg (cGSightStreet x0_s), .agg (cGSightBoard x97), .agg (cGSightPlace x2_a2)]) (by first | (simp only [nrm, tynrm] <;> rfl) | rfl) (by simp only [tre, tytre, Bool.and_self]) (g_ref02_Seen_ok _ _ _ _ o100) ?_
               refine fin_cut (fun tm => tm 68 = .lit (.bool true) ∧ tm 69 = .lit (.int .i64 r30.1) ∧ tm 77 = .lit (.int .i64 r99) ∧ True) (by refine ⟨?_, ?_, ?_, trivial⟩ <;> first | (simp only [upd_apply, updH_apply, without_apply, mV_app, mV_app0, d20, d46, d63, d81, e89, e90, e91, e92, e93, e94, d95, d96, nmB, implies_true, seval] <;> rfl) | rfl) ?_
               rintro tm ⟨e101, e102, e103, _⟩
               cases d104 : (r30.1 == r99)
               ·simp only [d104, hs, reduceCtorEq] at h
                simp only [vz, tyf, d20, d46, d63, d81, d95, d96, (ix24 o98), e101, e102, e103, d104, nmB, implies_true, seval]
                refine opd_ret (x := (.lit (.bool false))) (by first | (simp only [Tryz.results3, resV, resL, resV1, tgt_ptr, tgt_tp, upd_apply, updH_apply, without_apply, cr, tyf, d20, d46, d63, d81, d95, d96, (ix24 o98), e101, e102, e103, d104, nmB, implies_true, seval] <;> rfl) | rfl) ?_
                obtain rfl := kF _ h
                refine rr_tree ?_ ?_
                ·simp only [tre, tytre, Bool.and_self]
                ·first | (simp only [outV, upd_apply, updH_apply, without_apply, showV_ref, cr, tyf, nrm, tynrm, d20, d46, d63, d81, d95, d96, (ix24 o98), e101, e102, e103, d104, nmB, implies_true, seval] <;> rfl) | rfl
               ·simp only [d104, hs, reduceCtorEq] at h
                cases o106 : (g_law02_known ) with
                | none =>
                 simp only [o106, hs, reduceCtorEq] at h
                 exact absurd h kN
                | some r105 =>
                 simp only [o106, hs, reduceCtorEq] at h
                 simp only [vz, tyf, d20, d46, d63, d81, d95, d96, (ix24 o98), e101, e102, e103, d104, nmB, implies_true, seval]
                 refine dktree (args0 := []) (by first | (simp only [nrm, tynrm] <;> rfl) | rfl) (by simp only [tre, tytre, Bool.and_self]) (g_law02_known_ok  _ o106) ?_
                 refine fin_cut (fun tm => tm 80 = .lit (.bool true) ∧ tm 81 = .lit (.bool r105) ∧ True) (by refine ⟨?_, ?_, trivial⟩ <;> first | (simp only [upd_apply, updH_apply, without_apply, mV_app, mV_app0, d20, d46, d63, d81, d95, d96, e101, e102, e103, d104, nmB, implies_true, seval] <;> rfl) | rfl) ?_
                 rintro tm ⟨e107, e108, _⟩
                 simp only [vz, tyf, d20, d46, d63, d81, d95, d96, (ix24 o98), d104, e107, e108, nmB, implies_true, seval]
                 refine opd_ret (x := (.lit (.bool r105))) (by first | (simp only [Tryz.results3, resV, resL, resV1, tgt_ptr, tgt_tp, upd_apply, updH_apply, without_apply, cr, tyf, d20, d46, d63, d81, d95, d96, (ix24 o98), d104, e107, e108, nmB, implies_true, seval] <;> rfl) | rfl) ?_
                 obtain rfl := kF _ h
                 refine rr_tree ?_ ?_
                 ·simp only [tre, tytre, Bool.and_self]
                 ·first | (simp only [outV, upd_apply, updH_apply, without_apply, showV_ref, cr, tyf, nrm, tynrm, d20, d46, d63, d81, d95, d96, (ix24 o98), d104, e107, e108, nmB, implies_true, seval] <;> rfl) | rfl
end Go.V
end
section
namespace Go.V
open Go
set_option linter.unusedVariables false
set_option linter.unusedSimpArgs false
theorem SightSeens_true (s : GSightStreet) (n : Int) (p : GSightPlace) (h : FineS s) : g_law02_SightSeens s n p = some true := by
  obtain ⟨bs, hb⟩ := short_some s h
  simp only [g_law02_SightSeens, hb, Option.bind_some, check_eq s h, refStreet_eq s h, refBoard_eq, refPlace_eq, g_law02_known]
  change cond bs _ _ = _
  cases bs
  · rfl
  simp only [cond_true]
  rcases Seen_eq s n p h with ⟨b, b1, b2, b3, h1, h2, h3, e⟩ | ⟨h1, e⟩
  · rw [e]
    simp only [numB] at h2
    simp only [Option.bind_some, h1, h2, h3, cond_true, b1, refSeen_eq s b p b3, beq_self_eq_true]
  · rw [e]
    simp only [Option.bind_some]
    cases g1 : streetB s with
    | false => rfl
    | true =>
      simp only [cond_true]
      cases g2 : numB s n with
      | false => simp only [numB] at g2; simp only [g2]; rfl
      | true =>
        cases g3 : placeB s p with
        | false => simp only [numB] at g2; simp only [g2]; rfl
        | true => rw [g1, g2, g3] at h1; cases h1
end Go.V
end
