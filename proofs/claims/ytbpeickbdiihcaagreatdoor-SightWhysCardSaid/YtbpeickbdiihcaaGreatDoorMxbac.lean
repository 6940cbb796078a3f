/- Part of the proof of statements of YtbpeickbdiihcaaGreatDoor: a logic of values by content, the lifted functions, and what follows. -/
import Derived.Test.YtbpeickbdiihcaaGreatDoorMbd
import Derived.Test.YtbpeickbdiihcaaGreatDoorMbe
import Derived.Test.YtbpeickbdiihcaaGreatDoorMbf
import Derived.Test.YtbpeickbdiihcaaGreatDoorMbg
import Derived.Test.YtbpeickbdiihcaaGreatDoorMbk
import Derived.Test.YtbpeickbdiihcaaGreatDoorMbl
import Derived.Test.YtbpeickbdiihcaaGreatDoorMbj
import Derived.Test.YtbpeickbdiihcaaGreatDoorMbm
set_option linter.unusedVariables false
set_option linter.unusedSimpArgs false
set_option linter.unusedSectionVars false
set_option linter.constructorNameAsVariable false
section
set_option linter.unusedSimpArgs false
set_option linter.unusedVariables false
set_option maxRecDepth 100000
namespace Go.V
open Go Go.Proofs
def Ok_GSightBoard (x : GSightBoard) : Prop := lenOk x.Letters = true
def Ok_GSightStreet (x : GSightStreet) : Prop := lenOk x.Boards = true ∧ (∀ y ∈ x.Boards, Ok_GSightBoard y) ∧ lenOk x.Blocks = true
section
variable {P : Program} (hu3 : P.underlying 3 = some (.int .i64)) {f23 : Array Field} (hu23 : P.underlying 23 = some (.struct f23)) (ht23 : f23.toList.map Field.type = [3, 3]) {f61 : Array Field} (hu61 : P.underlying 61 = some (.struct f61)) (ht61 : f61.toList.map Field.type = [3, 3, 3, 3]) (hu40 : P.underlying 40 = some (.slice 61)) {f42 : Array Field} (hu42 : P.underlying 42 = some (.struct f42)) (ht42 : f42.toList.map Field.type = [3, 40]) (hu24 : P.underlying 24 = some (.slice 42)) (hu4 : P.underlying 4 = some (.bool)) {f68 : Array Field} (hu68 : P.underlying 68 = some (.struct f68)) (ht68 : f68.toList.map Field.type = [23, 23, 4]) (hu25 : P.underlying 25 = some (.slice 68)) {f27 : Array Field} (hu27 : P.underlying 27 = some (.struct f27)) (ht27 : f27.toList.map Field.type = [3, 3, 23, 23, 24, 25]) {f29 : Array Field} (hu29 : P.underlying 29 = some (.struct f29)) (ht29 : f29.toList.map Field.type = [3, 3])
include hu3 hu23 ht23 hu61 ht61 hu40 hu42 ht42 hu24 hu4 hu68 ht68 hu25 hu27 ht27 hu29 ht29
theorem gd_3 {n : Nat} : Dec P (n + 1) 3 eI (fun _ => True) := dec_int hu3
theorem gd_23 {n : Nat} : Dec P (n + 2) 23 cGSpan (fun _ => True) := by
  intro xs h
  obtain ⟨yss, hf, rfl⟩ := dec_struct (n := n + 1) (ts := [3, 3]) hu23 ht23 h
  match yss, hf with
  | [y0, y1], ⟨h0, h1, _⟩ =>
    obtain ⟨x0, r0, e0⟩ := gd_3 hu3 hu23 ht23 hu61 ht61 hu40 hu42 ht42 hu24 hu4 hu68 ht68 hu25 hu27 ht27 hu29 ht29 (n := n + 0) _ h0
    obtain ⟨x1, r1, e1⟩ := gd_3 hu3 hu23 ht23 hu61 ht61 hu40 hu42 ht42 hu24 hu4 hu68 ht68 hu25 hu27 ht27 hu29 ht29 (n := n + 0) _ h1
    exact ⟨⟨x0, x1⟩, trivial, by simp only [List.flatten_cons, List.flatten_nil, List.append_nil, normL_append, e0, e1, eI, eU8, eB, eS, eSl, cGSpan_eq, List.cons_append, List.nil_append]⟩
theorem gd_61 {n : Nat} : Dec P (n + 2) 61 cGSightLetter (fun _ => True) := by
  intro xs h
  obtain ⟨yss, hf, rfl⟩ := dec_struct (n := n + 1) (ts := [3, 3, 3, 3]) hu61 ht61 h
  match yss, hf with
  | [y0, y1, y2, y3], ⟨h0, h1, h2, h3, _⟩ =>
    obtain ⟨x0, r0, e0⟩ := gd_3 hu3 hu23 ht23 hu61 ht61 hu40 hu42 ht42 hu24 hu4 hu68 ht68 hu25 hu27 ht27 hu29 ht29 (n := n + 0) _ h0
    obtain ⟨x1, r1, e1⟩ := gd_3 hu3 hu23 ht23 hu61 ht61 hu40 hu42 ht42 hu24 hu4 hu68 ht68 hu25 hu27 ht27 hu29 ht29 (n := n + 0) _ h1
    obtain ⟨x2, r2, e2⟩ := gd_3 hu3 hu23 ht23 hu61 ht61 hu40 hu42 ht42 hu24 hu4 hu68 ht68 hu25 hu27 ht27 hu29 ht29 (n := n + 0) _ h2
    obtain ⟨x3, r3, e3⟩ := gd_3 hu3 hu23 ht23 hu61 ht61 hu40 hu42 ht42 hu24 hu4 hu68 ht68 hu25 hu27 ht27 hu29 ht29 (n := n + 0) _ h3
    exact ⟨⟨x0, x1, x2, x3⟩, trivial, by simp only [List.flatten_cons, List.flatten_nil, List.append_nil, normL_append, e0, e1, e2, e3, eI, eU8, eB, eS, eSl, cGSightLetter_eq, List.cons_append, List.nil_append]⟩
theorem gd_40 {n : Nat} : Dec P (n + 3) 40 (eSl cGSightLetter) (fun l => lenOk l = true ∧ ∀ x ∈ l, True) := dec_slice hu40 (gd_61 hu3 hu23 ht23 hu61 ht61 hu40 hu42 ht42 hu24 hu4 hu68 ht68 hu25 hu27 ht27 hu29 ht29 (n := n))
theorem gd_42 {n : Nat} : Dec P (n + 4) 42 cGSightBoard (Ok_GSightBoard) := by
  intro xs h
  obtain ⟨yss, hf, rfl⟩ := dec_struct (n := n + 3) (ts := [3, 40]) hu42 ht42 h
  match yss, hf with
  | [y0, y1], ⟨h0, h1, _⟩ =>
    obtain ⟨x0, r0, e0⟩ := gd_3 hu3 hu23 ht23 hu61 ht61 hu40 hu42 ht42 hu24 hu4 hu68 ht68 hu25 hu27 ht27 hu29 ht29 (n := n + 2) _ h0
    obtain ⟨x1, r1, e1⟩ := gd_40 hu3 hu23 ht23 hu61 ht61 hu40 hu42 ht42 hu24 hu4 hu68 ht68 hu25 hu27 ht27 hu29 ht29 (n := n + 0) _ h1
    exact ⟨⟨x0, x1⟩, r1.1, by simp only [List.flatten_cons, List.flatten_nil, List.append_nil, normL_append, e0, e1, eI, eU8, eB, eS, eSl, cGSightBoard_eq, List.cons_append, List.nil_append]⟩
theorem gd_24 {n : Nat} : Dec P (n + 5) 24 (eSl cGSightBoard) (fun l => lenOk l = true ∧ ∀ x ∈ l, Ok_GSightBoard x) := dec_slice hu24 (gd_42 hu3 hu23 ht23 hu61 ht61 hu40 hu42 ht42 hu24 hu4 hu68 ht68 hu25 hu27 ht27 hu29 ht29 (n := n))
theorem gd_4 {n : Nat} : Dec P (n + 1) 4 eB (fun _ => True) := dec_bool hu4
theorem gd_68 {n : Nat} : Dec P (n + 3) 68 cGSightBlock (fun _ => True) := by
  intro xs h
  obtain ⟨yss, hf, rfl⟩ := dec_struct (n := n + 2) (ts := [23, 23, 4]) hu68 ht68 h
  match yss, hf with
  | [y0, y1, y2], ⟨h0, h1, h2, _⟩ =>
    obtain ⟨x0, r0, e0⟩ := gd_23 hu3 hu23 ht23 hu61 ht61 hu40 hu42 ht42 hu24 hu4 hu68 ht68 hu25 hu27 ht27 hu29 ht29 (n := n + 0) _ h0
    obtain ⟨x1, r1, e1⟩ := gd_23 hu3 hu23 ht23 hu61 ht61 hu40 hu42 ht42 hu24 hu4 hu68 ht68 hu25 hu27 ht27 hu29 ht29 (n := n + 0) _ h1
    obtain ⟨x2, r2, e2⟩ := gd_4 hu3 hu23 ht23 hu61 ht61 hu40 hu42 ht42 hu24 hu4 hu68 ht68 hu25 hu27 ht27 hu29 ht29 (n := n + 1) _ h2
    exact ⟨⟨x0, x1, x2⟩, trivial, by simp only [List.flatten_cons, List.flatten_nil, List.append_nil, normL_append, e0, e1, e2, eI, eU8, eB, eS, eSl, cGSightBlock_eq, cGSpan_eq, List.cons_append, List.nil_append]⟩
theorem gd_25 {n : Nat} : Dec P (n + 4) 25 (eSl cGSightBlock) (fun l => lenOk l = true ∧ ∀ x ∈ l, True) := dec_slice hu25 (gd_68 hu3 hu23 ht23 hu61 ht61 hu40 hu42 ht42 hu24 hu4 hu68 ht68 hu25 hu27 ht27 hu29 ht29 (n := n))
theorem gd_27 {n : Nat} : Dec P (n + 6) 27 cGSightStreet (Ok_GSightStreet) := by
  intro xs h
  obtain ⟨yss, hf, rfl⟩ := dec_struct (n := n + 5) (ts := [3, 3, 23, 23, 24, 25]) hu27 ht27 h
  match yss, hf with
  | [y0, y1, y2, y3, y4, y5], ⟨h0, h1, h2, h3, h4, h5, _⟩ =>
    obtain ⟨x0, r0, e0⟩ := gd_3 hu3 hu23 ht23 hu61 ht61 hu40 hu42 ht42 hu24 hu4 hu68 ht68 hu25 hu27 ht27 hu29 ht29 (n := n + 4) _ h0
    obtain ⟨x1, r1, e1⟩ := gd_3 hu3 hu23 ht23 hu61 ht61 hu40 hu42 ht42 hu24 hu4 hu68 ht68 hu25 hu27 ht27 hu29 ht29 (n := n + 4) _ h1
    obtain ⟨x2, r2, e2⟩ := gd_23 hu3 hu23 ht23 hu61 ht61 hu40 hu42 ht42 hu24 hu4 hu68 ht68 hu25 hu27 ht27 hu29 ht29 (n := n + 3) _ h2
    obtain ⟨x3, r3, e3⟩ := gd_23 hu3 hu23 ht23 hu61 ht61 hu40 hu42 ht42 hu24 hu4 hu68 ht68 hu25 hu27 ht27 hu29 ht29 (n := n + 3) _ h3
    obtain ⟨x4, r4, e4⟩ := gd_24 hu3 hu23 ht23 hu61 ht61 hu40 hu42 ht42 hu24 hu4 hu68 ht68 hu25 hu27 ht27 hu29 ht29 (n := n + 0) _ h4
    obtain ⟨x5, r5, e5⟩ := gd_25 hu3 hu23 ht23 hu61 ht61 hu40 hu42 ht42 hu24 hu4 hu68 ht68 hu25 hu27 ht27 hu29 ht29 (n := n + 1) _ h5
    exact ⟨⟨x0, x1, x2, x3, x4, x5⟩, ⟨r4.1, r4.2, r5.1⟩, by simp only [List.flatten_cons, List.flatten_nil, List.append_nil, normL_append, e0, e1, e2, e3, e4, e5, eI, eU8, eB, eS, eSl, cGSightStreet_eq, cGSpan_eq, List.cons_append, List.nil_append]⟩
theorem gd_29 {n : Nat} : Dec P (n + 2) 29 cGSightPlace (fun _ => True) := by
  intro xs h
  obtain ⟨yss, hf, rfl⟩ := dec_struct (n := n + 1) (ts := [3, 3]) hu29 ht29 h
  match yss, hf with
  | [y0, y1], ⟨h0, h1, _⟩ =>
    obtain ⟨x0, r0, e0⟩ := gd_3 hu3 hu23 ht23 hu61 ht61 hu40 hu42 ht42 hu24 hu4 hu68 ht68 hu25 hu27 ht27 hu29 ht29 (n := n + 0) _ h0
    obtain ⟨x1, r1, e1⟩ := gd_3 hu3 hu23 ht23 hu61 ht61 hu40 hu42 ht42 hu24 hu4 hu68 ht68 hu25 hu27 ht27 hu29 ht29 (n := n + 0) _ h1
    exact ⟨⟨x0, x1⟩, trivial, by simp only [List.flatten_cons, List.flatten_nil, List.append_nil, normL_append, e0, e1, eI, eU8, eB, eS, eSl, cGSightPlace_eq, List.cons_append, List.nil_append]⟩
end
theorem dec_3 {n : Nat} : Dec Tryz.prog (n + 1) 3 eI (fun _ => True) := gd_3 Tryz.underlying3 Tryz.underlying23 (by kernel_rfl) Tryz.underlying61 (by kernel_rfl) Tryz.underlying40 Tryz.underlying42 (by kernel_rfl) Tryz.underlying24 Tryz.underlying4 Tryz.underlying68 (by kernel_rfl) Tryz.underlying25 Tryz.underlying27 (by kernel_rfl) Tryz.underlying29 (by kernel_rfl)
theorem dec_27 {n : Nat} : Dec Tryz.prog (n + 6) 27 cGSightStreet (Ok_GSightStreet) := gd_27 Tryz.underlying3 Tryz.underlying23 (by kernel_rfl) Tryz.underlying61 (by kernel_rfl) Tryz.underlying40 Tryz.underlying42 (by kernel_rfl) Tryz.underlying24 Tryz.underlying4 Tryz.underlying68 (by kernel_rfl) Tryz.underlying25 Tryz.underlying27 (by kernel_rfl) Tryz.underlying29 (by kernel_rfl)
theorem dec_29 {n : Nat} : Dec Tryz.prog (n + 2) 29 cGSightPlace (fun _ => True) := gd_29 Tryz.underlying3 Tryz.underlying23 (by kernel_rfl) Tryz.underlying61 (by kernel_rfl) Tryz.underlying40 Tryz.underlying42 (by kernel_rfl) Tryz.underlying24 Tryz.underlying4 Tryz.underlying68 (by kernel_rfl) Tryz.underlying25 Tryz.underlying27 (by kernel_rfl) Tryz.underlying29 (by kernel_rfl)
end Go.V
end
section
namespace Go.V
open Go Go.Proofs
set_option linter.unusedSimpArgs false
set_option linter.unusedVariables false
set_option maxRecDepth 4000
set_option maxHeartbeats 4000000
def g_sight_Why (x0_s : GSightStreet) (x1_board : Int) (x2_from : GSightPlace) : Option (GSightFault × Int) := Option.bind (g_sight_isView x0_s x1_board x2_from) (fun r1 => cond (r1) (Option.bind (getI x0_s.Boards x1_board) (fun x2 => Option.bind (g_sight_atWorst x0_s x2 x2_from) (fun r3 => Option.bind (g_sight_view_firstFault r3) (fun r4 => cond (r4.2) (some (r4.1, 0)) (some ((GSightFault.mk 0 0), 5)))))) (some ((GSightFault.mk 0 0), 2)))
theorem g_sight_Why_ok (x0_s : GSightStreet) (x1_board : Int) (x2_from : GSightPlace) (R : GSightFault × Int) (h : g_sight_Why x0_s x1_board x2_from = some R) : VPure Tryz.prog G0 26 [.agg (cGSightStreet x0_s), .lit (.int .i64 x1_board), .agg (cGSightPlace x2_from)] (.tree (.tup [.agg (cGSightFault R.1), .lit (.int .i64 R.2)])) := by
 refine VPure.runR mixed Tryz.call26 Tryz.func26 rfl (by simp [Tryz.ntmps26]; kernel_rfl) ?_
 obtain ⟨KF, h, kF, kN⟩ := fun_intro h
 simp only [g_sight_Why] at h
 cases o6 : (g_sight_isView x0_s x1_board x2_from) with
 | none =>
  simp only [o6, hs, reduceCtorEq] at h
  exact absurd h kN
 | some r5 =>
  simp only [o6, hs, reduceCtorEq] at h
  simp only [vz, tyf, nmB, implies_true, seval]
  refine ktree (args0 := [.agg (cGSightStreet x0_s), .lit (.int .i64 x1_board), .agg (cGSightPlace x2_from)]) (by first | (simp only [nrm, tynrm] <;> rfl) | rfl) (by simp only [tre, tytre, Bool.and_self]) (g_sight_isView_ok _ _ _ _ o6) ?_
  refine fin_cut (fun tm => tm 1 = .lit (.int .i64 x1_board) ∧ tm 3 = .ptr 0 0 ∧ tm 5 = .ptr 1 0 ∧ tm 6 = .ptr 2 0 ∧ tm 13 = .lit (.bool r5) ∧ True) (by refine ⟨?_, ?_, ?_, ?_, ?_, trivial⟩ <;> first | (simp only [upd_apply, updH_apply, without_apply, mV_app, mV_app0, nmB, implies_true, seval] <;> rfl) | rfl) ?_
  rintro tm ⟨e7, e8, e9, e10, e11, _⟩
  cases d12 : (r5)
  ·simp only [d12, hs, reduceCtorEq] at h
   simp only [vz, tyf, e7, e8, e9, e10, e11, d12, nmB, implies_true, seval]
   refine opd_ret (x := (.tup [.agg ([.lit (.int .i64 0)] ++ [.lit (.int .i64 0)]), .lit (.int .i64 2)])) (by first | (simp only [Tryz.results26, resV, resL, resV1, tgt_ptr, tgt_tp, upd_apply, updH_apply, without_apply, cr, tyf, e7, e8, e9, e10, e11, d12, nmB, implies_true, seval] <;> rfl) | rfl) ?_
   obtain rfl := kF _ h
   refine rr_tree ?_ ?_
   ·simp only [tre, tytre, Bool.and_self]
   ·first | (simp only [outV, upd_apply, updH_apply, without_apply, showV_ref, cr, tyf, nrm, tynrm, e7, e8, e9, e10, e11, d12, nmB, implies_true, seval] <;> rfl) | rfl
  ·simp only [d12, hs, reduceCtorEq] at h
   simp only [vz, tyf, e7, e8, e9, e10, e11, d12, nmB, implies_true, seval]
   refine cwp_drawTF (fun tm => tm 1 = .lit (.int .i64 x1_board) ∧ tm 3 = .ptr 0 0 ∧ tm 5 = .ptr 1 0 ∧ tm 6 = .ptr 2 0 ∧ True) (by refine ⟨e7, e8, e9, e10, trivial⟩ <;> first | (simp only [upd_apply, updH_apply, without_apply, mV_app, mV_app0, e7, e8, e9, e10, e11, d12, nmB, implies_true, seval] <;> rfl) | rfl) ?_
   rintro tm ⟨e13, e14, e15, e16, _⟩
   cases o18 : (getI x0_s.Boards x1_board) with
   | none =>
    simp only [o18, hs, reduceCtorEq] at h
    exact absurd h kN
   | some x17 =>
    simp only [o18, hs, reduceCtorEq] at h
    cases o20 : (g_sight_atWorst x0_s x17 x2_from) with
    | none =>
     simp only [o20, hs, reduceCtorEq] at h
     exact absurd h kN
    | some r19 =>
     simp only [o20, hs, reduceCtorEq] at h
     simp only [vz, tyf, d12, e13, e14, e15, e16, (ix24 o18), nmB, implies_true, seval]
     refine dktree (args0 := [.agg (cGSightStreet x0_s), .agg (cGSightBoard x17), .agg (cGSightPlace x2_from)]) (by first | (simp only [nrm, tynrm] <;> rfl) | rfl) (by simp only [tre, tytre, Bool.and_self]) (g_sight_atWorst_ok _ _ _ _ o20) ?_
     refine fin_cut (fun tm => tm 6 = .ptr 2 0 ∧ tm 24 = .agg (cGsightview r19) ∧ True) (by refine ⟨e16, ?_, trivial⟩ <;> first | (simp only [upd_apply, updH_apply, without_apply, mV_app, mV_app0, d12, e13, e14, e15, e16, nmB, implies_true, seval] <;> rfl) | rfl) ?_
     rintro tm ⟨e21, e22, _⟩
     cases o24 : (g_sight_view_firstFault r19) with
     | none =>
      simp only [o24, hs, reduceCtorEq] at h
      exact absurd h kN
     | some r23 =>
      simp only [o24, hs, reduceCtorEq] at h
      simp only [vz, tyf, d12, (ix24 o18), e21, e22, nmB, implies_true, seval]
      refine dktree (args0 := [.agg (cGsightview r19)]) (by first | (simp only [nrm, tynrm] <;> rfl) | rfl) (by simp only [tre, tytre, Bool.and_self]) (g_sight_view_firstFault_ok _ _ o24) ?_
      refine fin_cut (fun tm => tm 6 = .ptr 2 0 ∧ tm 25 = .tup [.agg (cGSightFault r23.1), .lit (.bool r23.2)] ∧ True) (by refine ⟨e21, ?_, trivial⟩ <;> first | (simp only [upd_apply, updH_apply, without_apply, mV_app, mV_app0, d12, e21, e22, nmB, implies_true, seval] <;> rfl) | rfl) ?_
      rintro tm ⟨e25, e26, _⟩
      simp only [vz, tyf, d12, (ix24 o18), e25, e26, nmB, implies_true, seval]
      refine drawK_nil ⟨?_, ?_⟩
      ·simp only [traceR_cons, traceR_nil, hitK_quiet, hitK_nil, and_true, true_and]
       repeat' (first | exact trivial | refine And.intro ?_ ?_ | rw [hitK_quiet] | rw [hitK_cons] | exact Or.inl (by decide +kernel) | exact Or.inl (by dsimp only; decide +kernel) | (refine Or.inr ⟨?_, ?_⟩ <;> simp; done) | (refine Or.inr ⟨?_, ?_⟩ <;> simp <;> omega))
      cases d27 : (r23.2)
      ·simp only [d27, hs, reduceCtorEq] at h
       simp only [vz, tyf, d12, (ix24 o18), e25, e26, d27, nmB, implies_true, seval]
       refine opd_ret (x := (.tup [.agg ([.lit (.int .i64 0)] ++ [.lit (.int .i64 0)]), .lit (.int .i64 5)])) (by first | (simp only [Tryz.results26, resV, resL, resV1, tgt_ptr, tgt_tp, upd_apply, updH_apply, without_apply, cr, tyf, d12, (ix24 o18), e25, e26, d27, nmB, implies_true, seval] <;> rfl) | rfl) ?_
       obtain rfl := kF _ h
       refine rr_tree ?_ ?_
       ·simp only [tre, tytre, Bool.and_self]
       ·first | (simp only [outV, upd_apply, updH_apply, without_apply, showV_ref, cr, tyf, nrm, tynrm, d12, (ix24 o18), e25, e26, d27, nmB, implies_true, seval] <;> rfl) | rfl
      ·simp only [d27, hs, reduceCtorEq] at h
       simp only [vz, tyf, d12, (ix24 o18), e25, e26, d27, nmB, implies_true, seval]
       refine opd_ret (x := (.tup [.agg (cGSightFault r23.1), .lit (.int .i64 0)])) (by first | (simp only [Tryz.results26, resV, resL, resV1, tgt_ptr, tgt_tp, upd_apply, updH_apply, without_apply, cr, tyf, d12, (ix24 o18), e25, e26, d27, nmB, implies_true, seval] <;> rfl) | rfl) ?_
       obtain rfl := kF _ h
       refine rr_tree ?_ ?_
       ·simp only [tre, tytre, Bool.and_self]
       ·first | (simp only [outV, upd_apply, updH_apply, without_apply, showV_ref, cr, tyf, nrm, tynrm, d12, (ix24 o18), e25, e26, d27, nmB, implies_true, seval] <;> rfl) | rfl
end Go.V
end
section
namespace Go.V
open Go Go.Proofs
set_option linter.unusedSimpArgs false
set_option linter.unusedVariables false
set_option maxRecDepth 4000
set_option maxHeartbeats 4000000
def g_ref02_Why_l2 (x0_s : GSightStreet) (x1_a1 : GSightBoard) (x2_a2 : GSightPlace) : Nat → Int → Option (LOut (GSightFault × Bool) (Int))
 | 0, _ => none
 | k2 + 1, c2_12 => cond (decide ((IntKind.i64.wrap (c2_12 + 1)) < (List.length x1_a1.Letters : Int))) (Option.bind (getI x1_a1.Letters c2_12) (fun x8 => Option.bind (g_ref02_Melts x8 x1_a1.At x2_a2 (IntKind.i64.wrap (x0_s.Eye.Low * x0_s.Light.Low))) (fun r9 => cond (r9) (some (.ret ((GSightFault.mk 5 c2_12), true))) (g_ref02_Why_l2 x0_s x1_a1 x2_a2 k2 (IntKind.i64.wrap (c2_12 + 1)))))) (some (.go c2_12))
def g_ref02_Why_l1 (x0_s : GSightStreet) (x1_a1 : GSightBoard) (x2_a2 : GSightPlace) (c0_10 : Int) : List GSightLetter → Int → Option (LOut (GSightFault × Bool) (Unit))
 | [], c1_11 => some (.go ())
 | e1 :: p1, c1_11 => Option.bind (g_ref02_kinds e1 x1_a1.At x2_a2 (IntKind.i64.wrap (x0_s.Eye.Low * x0_s.Light.Low))) (fun r3 => Option.bind (getI r3 c0_10) (fun x4 => cond (x4) (some (.ret ((GSightFault.mk (IntKind.i64.wrap (2 + c0_10)) c1_11), true))) (g_ref02_Why_l1 x0_s x1_a1 x2_a2 c0_10 p1 (c1_11 + 1))))
def g_ref02_Why_l0 (x0_s : GSightStreet) (x1_a1 : GSightBoard) (x2_a2 : GSightPlace) : Nat → Int → Option (LOut (GSightFault × Bool) (Unit))
 | 0, c0_10 => some (.go ())
 | k0 + 1, c0_10 => cond (lenOk x1_a1.Letters) (lbind (g_ref02_Why_l1 x0_s x1_a1 x2_a2 c0_10 x1_a1.Letters 0) (fun r6 => some (.ret r6)) (fun c5 => g_ref02_Why_l0 x0_s x1_a1 x2_a2 k0 (c0_10 + 1)) (fun _ _ => none)) none
def g_ref02_Why (x0_s : GSightStreet) (x1_a1 : GSightBoard) (x2_a2 : GSightPlace) : Option (GSightFault × Bool) := Option.bind (g_ref02_Hidden x0_s x1_a1 x2_a2) (fun r1 => cond (decide ((List.length r1 : Int) > 0)) (Option.bind (getI r1 0) (fun x2 => some ((GSightFault.mk 1 x2), true))) (cond (boundOk 3) (lbind (g_ref02_Why_l0 x0_s x1_a1 x2_a2 (Int.toNat (3 - 0)) 0) (fun r12 => some r12) (fun c7 => lbind (g_ref02_Why_l2 x0_s x1_a1 x2_a2 1000000 0) (fun r11 => some r11) (fun c10 => some ((GSightFault.mk 0 0), false)) (fun _ _ => none)) (fun _ _ => none)) none))
theorem g_ref02_Why_ok (x0_s : GSightStreet) (x1_a1 : GSightBoard) (x2_a2 : GSightPlace) (R : GSightFault × Bool) (h : g_ref02_Why x0_s x1_a1 x2_a2 = some R) : VPure Tryz.prog G0 27 [.agg (cGSightStreet x0_s), .agg (cGSightBoard x1_a1), .agg (cGSightPlace x2_a2)] (.tree (.tup [.agg (cGSightFault R.1), .lit (.bool R.2)])) := by
 refine VPure.runR mixed Tryz.call27 Tryz.func27 rfl (by simp [Tryz.ntmps27]; kernel_rfl) ?_
 obtain ⟨KF, h, kF, kN⟩ := fun_intro h
 simp only [g_ref02_Why] at h
 cases o14 : (g_ref02_Hidden x0_s x1_a1 x2_a2) with
 | none =>
  simp only [o14, hs, reduceCtorEq] at h
  exact absurd h kN
 | some r13 =>
  simp only [o14, hs, reduceCtorEq] at h
  simp only [vz, tyf, nmB, implies_true, seval]
  refine ktree (args0 := [.agg (cGSightStreet x0_s), .agg (cGSightBoard x1_a1), .agg (cGSightPlace x2_a2)]) (by first | (simp only [nrm, tynrm] <;> rfl) | rfl) (by simp only [tre, tytre, Bool.and_self]) (g_ref02_Hidden_ok _ _ _ _ o14) ?_
  refine fin_cut (fun tm => tm 3 = .ptr 0 0 ∧ tm 4 = .ptr 1 0 ∧ tm 5 = .ptr 2 0 ∧ tm 6 = .ptr 3 0 ∧ tm 16 = .sl (cellsL eI r13) (List.length r13) false ∧ True) (by refine ⟨?_, ?_, ?_, ?_, ?_, trivial⟩ <;> first | (simp only [upd_apply, updH_apply, without_apply, mV_app, mV_app0, nmB, implies_true, seval] <;> rfl) | rfl) ?_
  rintro tm ⟨e15, e16, e17, e18, e19, _⟩
  cases d20 : (decide ((List.length r13 : Int) > 0))
  ·simp only [d20, hs, reduceCtorEq] at h
   cases g22 : (boundOk 3)
   ·simp only [g22, hs, reduceCtorEq] at h
    exact absurd h kN
   simp only [g22, hs, reduceCtorEq] at h
   simp only [vz, tyf, e15, e16, e17, e18, e19, d20, g22, nmB, implies_true, seval]
   obtain ⟨K21, h, kR21, kG21, kB21, kN21⟩ := lbind_intro h kN
   obtain ⟨f21, hf21, h⟩ := call2 h
   obtain ⟨I21, hI21⟩ : ∃ I : Nat → St → Prop, I = (fun m st => ∃ (p21 : Nat) (c21_10 : Int), p21 = m ∧ loOk c21_10 = true ∧ Int.toNat (3 - c21_10) = p21 ∧ st.df = [] ∧ 22 ≤ st.nx ∧ st.H 1 = some (.cells (some 42) (cGSightBoard x1_a1)) ∧ st.H 2 = some (.cells (some 29) (cGSightPlace x2_a2)) ∧ st.H 3 = some (.cells (some 49) ([.lit (.int .i64 0)] ++ [.lit (.int .i64 0)])) ∧ st.tm 4 = .ptr 1 0 ∧ st.tm 5 = .ptr 2 0 ∧ st.tm 6 = .ptr 3 0 ∧ st.tm 9 = .lit (.int .i64 (IntKind.i64.wrap (x0_s.Eye.Low * x0_s.Light.Low))) ∧ st.tm 10 = .lit (.int .i64 c21_10) ∧ K21 (f21 p21 c21_10)) := ⟨_, rfl⟩
   refine loopK mixed (by kernel_rfl) I21 (Int.toNat (3 - 0)) (by rw [hI21]; refine ⟨Int.toNat (3 - 0), 0, rfl, (by rfl), rfl, rfl, (show 22 ≤ 22 by omega), ?_, ?_, ?_, e16, e17, e18, ?_, ?_, h⟩ <;> first | (simp only [upd_apply, updH_apply, without_apply, mV_app, mV_app0, e15, e16, e17, e18, e19, d20, nmB, implies_true, seval] <;> rfl) | rfl) ?_
   rintro m ⟨tm, H, nx21, df⟩ hinv
   rw [hI21] at hinv
   obtain ⟨p21, c21_10, rfl, hi21, hp21, hdf, hn21, H23, H24, H25, e26, e27, e28, e29, e30, h⟩ := hinv
   simp only at hdf hn21 H23 H24 H25 e26 e27 e28 e29 e30
   have n31 := base_ne0 (m := 22) (b := nx21) (by omega)
   subst hdf hf21
   cases p21 with
   | zero =>
    have d32 : (decide (c21_10 < 3)) = false := cnt_not_lt hp21
    simp only [g_ref02_Why_l0, hs, reduceCtorEq] at h
    replace h := kG21 _ h
    try dsimp only at h
    try simp only [hs] at h
    simp only [vz, tyf, d20, g22, n31, e26, e27, e28, e29, e30, H23, H24, H25, d32, nmB, implies_true, seval]
    obtain ⟨K33, h, kR33, kG33, kB33, kN33⟩ := lbind_intro h kN
    obtain ⟨f33, hf33, h⟩ := call2 h
    obtain ⟨I33, hI33⟩ : ∃ I : Nat → St → Prop, I = (fun m st => ∃ (p33 : Nat) (c33_12 : Int), p33 = m ∧ st.df = [] ∧ nx21 + 3 ≤ st.nx ∧ st.H 1 = some (.cells (some 42) (cGSightBoard x1_a1)) ∧ st.H 2 = some (.cells (some 29) (cGSightPlace x2_a2)) ∧ st.H 3 = some (.cells (some 49) ([.lit (.int .i64 0)] ++ [.lit (.int .i64 0)])) ∧ st.tm 4 = .ptr 1 0 ∧ st.tm 5 = .ptr 2 0 ∧ st.tm 6 = .ptr 3 0 ∧ st.tm 9 = .lit (.int .i64 (IntKind.i64.wrap (x0_s.Eye.Low * x0_s.Light.Low))) ∧ st.tm 12 = .lit (.int .i64 c33_12) ∧ K33 (f33 p33 c33_12)) := ⟨_, rfl⟩
    refine loopK mixed (by kernel_rfl) I33 1000000 (by rw [hI33]; refine ⟨1000000, 0, rfl, rfl, (show nx21 + 3 ≤ nx21 + 3 by omega), ?_, ?_, ?_, e26, e27, e28, e29, ?_, h⟩ <;> first | (simp only [upd_apply, updH_apply, without_apply, mV_app, mV_app0, d20, n31, e26, e27, e28, e29, e30, H23, H24, H25, d32, nmB, implies_true, seval] <;> rfl) | rfl) ?_
    rintro m ⟨tm, H, nx33, df⟩ hinv
    rw [hI33] at hinv
    obtain ⟨p33, c33_12, rfl, hdf, hn33, H34, H35, H36, e37, e38, e39, e40, e41, h⟩ := hinv
    simp only at hdf hn33 H34 H35 H36 e37 e38 e39 e40 e41
    have n42 := base_ne0 (m := 22) (b := nx33) (by omega)
    have n43 := base_ne (a := nx21) (m := 3) (b := nx33) (by omega)
    subst hdf hf33
    cases p33 with
    | zero =>
     simp only [g_ref02_Why_l2, hs, reduceCtorEq] at h
     exact absurd h kN33
    | succ p33 =>
     simp only [g_ref02_Why_l2, hs, reduceCtorEq] at h
     cases d44 : (decide ((IntKind.i64.wrap (c33_12 + 1)) < (List.length x1_a1.Letters : Int)))
     ·simp only [d44, hs, reduceCtorEq] at h
      replace h := kG33 _ h
      try dsimp only at h
      try simp only [hs] at h
      simp only [vz, tyf, d20, g22, n31, d32, n42, n43, e37, e38, e39, e40, e41, H34, H35, H36, d44, nmB, implies_true, seval]
      refine opd_ret (x := (.tup [.agg ([.lit (.int .i64 0)] ++ [.lit (.int .i64 0)]), .lit (.bool false)])) (by first | (simp only [Tryz.results27, resV, resL, resV1, tgt_ptr, tgt_tp, upd_apply, updH_apply, without_apply, cr, tyf, d20, g22, n31, d32, n42, n43, e37, e38, e39, e40, e41, H34, H35, H36, d44, nmB, implies_true, seval] <;> rfl) | rfl) ?_
      obtain rfl := kF _ h
      refine rr_tree ?_ ?_
      ·simp only [tre, tytre, Bool.and_self]
      ·first | (simp only [outV, upd_apply, updH_apply, without_apply, showV_ref, cr, tyf, nrm, tynrm, d20, g22, n31, d32, n42, n43, e37, e38, e39, e40, e41, H34, H35, H36, d44, nmB, implies_true, seval] <;> rfl) | rfl
     ·simp only [d44, hs, reduceCtorEq] at h
      simp only [vz, tyf, d20, g22, n31, d32, n42, n43, e37, e38, e39, e40, e41, H34, H35, H36, d44, nmB, implies_true, seval]
      refine cwp_drwQF (fun tm => tm 4 = .ptr 1 0 ∧ tm 5 = .ptr 2 0 ∧ tm 6 = .ptr 3 0 ∧ tm 9 = .lit (.int .i64 (IntKind.i64.wrap (x0_s.Eye.Low * x0_s.Light.Low))) ∧ tm 12 = .lit (.int .i64 c33_12) ∧ True) (by refine ⟨e37, e38, e39, e40, e41, trivial⟩ <;> first | (simp only [upd_apply, updH_apply, without_apply, mV_app, mV_app0, d20, n31, d32, n42, n43, e37, e38, e39, e40, e41, H34, H35, H36, d44, nmB, implies_true, seval] <;> rfl) | rfl) ?_
      rintro tm ⟨e45, e46, e47, e48, e49, _⟩
      cases o51 : (getI x1_a1.Letters c33_12) with
      | none =>
       simp only [o51, hs, reduceCtorEq] at h
       exact absurd h kN33
      | some x50 =>
       simp only [o51, hs, reduceCtorEq] at h
       cases o53 : (g_ref02_Melts x50 x1_a1.At x2_a2 (IntKind.i64.wrap (x0_s.Eye.Low * x0_s.Light.Low))) with
       | none =>
        simp only [o53, hs, reduceCtorEq] at h
        exact absurd h kN33
       | some r52 =>
        simp only [o53, hs, reduceCtorEq] at h
        simp only [vz, tyf, d20, g22, n31, d32, n42, n43, H34, H35, H36, d44, e45, e46, e47, e48, e49, (ix40 o51), nmB, implies_true, seval]
        refine dktree (args0 := [.agg (cGSightLetter x50), .lit (.int .i64 x1_a1.At), .agg (cGSightPlace x2_a2), .lit (.int .i64 (IntKind.i64.wrap (x0_s.Eye.Low * x0_s.Light.Low)))]) (by first | (simp only [nrm, tynrm] <;> rfl) | rfl) (by simp only [tre, tytre, Bool.and_self]) (g_ref02_Melts_ok _ _ _ _ _ o53) ?_
        refine fin_cut (fun tm => tm 4 = .ptr 1 0 ∧ tm 5 = .ptr 2 0 ∧ tm 6 = .ptr 3 0 ∧ tm 9 = .lit (.int .i64 (IntKind.i64.wrap (x0_s.Eye.Low * x0_s.Light.Low))) ∧ tm 12 = .lit (.int .i64 c33_12) ∧ tm 76 = .lit (.bool r52) ∧ True) (by refine ⟨e45, e46, e47, e48, e49, ?_, trivial⟩ <;> first | (simp only [upd_apply, updH_apply, without_apply, mV_app, mV_app0, d20, n31, d32, n42, n43, H34, H35, H36, d44, e45, e46, e47, e48, e49, nmB, implies_true, seval] <;> rfl) | rfl) ?_
        rintro tm ⟨e54, e55, e56, e57, e58, e59, _⟩
        cases d60 : (r52)
        ·simp only [d60, hs, reduceCtorEq] at h
         simp only [vz, tyf, d20, g22, n31, d32, n42, n43, H34, H35, H36, d44, (ix40 o51), e54, e55, e56, e57, e58, e59, d60, nmB, implies_true, seval]
         exact ⟨p33, Nat.lt_succ_self _, by rw [hI33]; refine ⟨p33, IntKind.i64.wrap (c33_12 + 1), rfl, rfl, (show nx21 + 3 ≤ nx33 + 19 by omega), ?_, ?_, ?_, e54, e55, e56, e57, ?_, h⟩ <;> first | (simp only [upd_apply, updH_apply, without_apply, mV_app, mV_app0, d20, n31, d32, n42, n43, H34, H35, H36, d44, e54, e55, e56, e57, e58, e59, d60, nmB, implies_true, seval] <;> rfl) | rfl⟩
        ·simp only [d60, hs, reduceCtorEq] at h
         simp only [vz, tyf, d20, g22, n31, d32, n42, n43, H34, H35, H36, d44, (ix40 o51), e54, e55, e56, e57, e58, e59, d60, nmB, implies_true, seval]
         refine opd_ret (x := (.tup [.agg ([.lit (.int .i64 5)] ++ [.lit (.int .i64 c33_12)]), .lit (.bool true)])) (by first | (simp only [Tryz.results27, resV, resL, resV1, tgt_ptr, tgt_tp, upd_apply, updH_apply, without_apply, cr, tyf, d20, g22, n31, d32, n42, n43, H34, H35, H36, d44, (ix40 o51), e54, e55, e56, e57, e58, e59, d60, nmB, implies_true, seval] <;> rfl) | rfl) ?_
         replace h := kR33 _ h
         try dsimp only at h
         obtain rfl := kF _ h
         refine rr_tree ?_ ?_
         ·simp only [tre, tytre, Bool.and_self]
         ·first | (simp only [outV, upd_apply, updH_apply, without_apply, showV_ref, cr, tyf, nrm, tynrm, d20, g22, n31, d32, n42, n43, H34, H35, H36, d44, (ix40 o51), e54, e55, e56, e57, e58, e59, d60, nmB, implies_true, seval] <;> rfl) | rfl
   | succ p21 =>
    have d61 : (decide (c21_10 < 3)) = true := cnt_lt hp21
    have w62 := cnt_wrap hi21 hp21 g22
    simp only [g_ref02_Why_l0, hs, reduceCtorEq] at h
    cases g64 : (lenOk x1_a1.Letters)
    ·simp only [g64, hs, reduceCtorEq] at h
     exact absurd h kN21
    simp only [g64, hs, reduceCtorEq] at h
    simp only [vz, tyf, d20, g22, n31, e26, e27, e28, e29, e30, H23, H24, H25, d61, w62, g64, nmB, implies_true, seval]
    obtain ⟨K63, h, kR63, kG63, kB63, kN63⟩ := lbind_intro h kN21
    obtain ⟨f63, hf63, h⟩ := call2 h
    obtain ⟨I63, hI63⟩ : ∃ I : Nat → St → Prop, I = (fun m st => ∃ (p63 : List GSightLetter) (c63_11 : Int), m = List.length p63 ∧ 0 ≤ c63_11 ∧ List.drop (Int.toNat c63_11) x1_a1.Letters = p63 ∧ st.df = [] ∧ nx21 + 3 ≤ st.nx ∧ st.H 1 = some (.cells (some 42) (cGSightBoard x1_a1)) ∧ st.H 2 = some (.cells (some 29) (cGSightPlace x2_a2)) ∧ st.H 3 = some (.cells (some 49) ([.lit (.int .i64 0)] ++ [.lit (.int .i64 0)])) ∧ st.tm 4 = .ptr 1 0 ∧ st.tm 5 = .ptr 2 0 ∧ st.tm 6 = .ptr 3 0 ∧ st.tm 9 = .lit (.int .i64 (IntKind.i64.wrap (x0_s.Eye.Low * x0_s.Light.Low))) ∧ st.tm 10 = .lit (.int .i64 c21_10) ∧ st.tm 11 = .lit (.int .i64 c63_11) ∧ K63 (f63 p63 c63_11)) := ⟨_, rfl⟩
    refine loopK mixed (by kernel_rfl) I63 (List.length x1_a1.Letters) (by rw [hI63]; refine ⟨x1_a1.Letters, 0, rfl, Int.le_refl _, rfl, rfl, (show nx21 + 3 ≤ nx21 + 3 by omega), ?_, ?_, ?_, e26, e27, e28, e29, e30, ?_, h⟩ <;> first | (simp only [upd_apply, updH_apply, without_apply, mV_app, mV_app0, d20, n31, e26, e27, e28, e29, e30, H23, H24, H25, d61, w62, nmB, implies_true, seval] <;> rfl) | rfl) ?_
    rintro m ⟨tm, H, nx63, df⟩ hinv
    rw [hI63] at hinv
    obtain ⟨p63, c63_11, rfl, hi63, hp63, hdf, hn63, H65, H66, H67, e68, e69, e70, e71, e72, e73, h⟩ := hinv
    simp only at hdf hn63 H65 H66 H67 e68 e69 e70 e71 e72 e73
    have n74 := base_ne0 (m := 22) (b := nx63) (by omega)
    have n75 := base_ne (a := nx21) (m := 3) (b := nx63) (by omega)
    subst hdf hf63
    cases p63 with
    | nil =>
     have d76 : (decide (c63_11 < (List.length x1_a1.Letters : Int))) = false := not_lt_of_drop hi63 hp63
     simp only [g_ref02_Why_l1, hs, reduceCtorEq] at h
     replace h := kG63 _ h
     try dsimp only at h
     try simp only [hs] at h
     simp only [vz, tyf, d20, g22, n31, d61, w62, g64, n74, n75, e68, e69, e70, e71, e72, e73, H65, H66, H67, d76, nmB, implies_true, seval]
     exact ⟨p21, Nat.lt_succ_self _, by rw [hI21]; refine ⟨p21, c21_10 + 1, rfl, cnt_lo hi21, cnt_next hp21, rfl, (show 22 ≤ nx63 + 8 by omega), ?_, ?_, ?_, e68, e69, e70, e71, ?_, h⟩ <;> first | (simp only [upd_apply, updH_apply, without_apply, mV_app, mV_app0, d20, n31, d61, w62, n74, n75, e68, e69, e70, e71, e72, e73, H65, H66, H67, d76, nmB, implies_true, seval] <;> rfl) | rfl⟩
    | cons e63 p63 =>
     have d77 : (decide (c63_11 < (List.length x1_a1.Letters : Int))) = true := lt_of_drop hi63 hp63
     have o79 := getI_of_drop hi63 hp63
     have w78 := wrap_next hi63 hp63 g64
     simp only [g_ref02_Why_l1, hs, reduceCtorEq] at h
     simp only [vz, tyf, d20, g22, n31, d61, w62, g64, n74, n75, e68, e69, e70, e71, e72, e73, H65, H66, H67, d77, (ix40 o79), w78, nmB, implies_true, seval]
     refine cwp_drwQF (fun tm => tm 4 = .ptr 1 0 ∧ tm 5 = .ptr 2 0 ∧ tm 6 = .ptr 3 0 ∧ tm 9 = .lit (.int .i64 (IntKind.i64.wrap (x0_s.Eye.Low * x0_s.Light.Low))) ∧ tm 10 = .lit (.int .i64 c21_10) ∧ tm 11 = .lit (.int .i64 c63_11) ∧ True) (by refine ⟨e68, e69, e70, e71, e72, e73, trivial⟩ <;> first | (simp only [upd_apply, updH_apply, without_apply, mV_app, mV_app0, d20, n31, d61, w62, n74, n75, e68, e69, e70, e71, e72, e73, H65, H66, H67, d77, w78, nmB, implies_true, seval] <;> rfl) | rfl) ?_
     rintro tm ⟨e80, e81, e82, e83, e84, e85, _⟩
     cases o87 : (g_ref02_kinds e63 x1_a1.At x2_a2 (IntKind.i64.wrap (x0_s.Eye.Low * x0_s.Light.Low))) with
     | none =>
      simp only [o87, hs, reduceCtorEq] at h
      exact absurd h kN63
     | some r86 =>
      simp only [o87, hs, reduceCtorEq] at h
      simp only [vz, tyf, d20, g22, n31, d61, w62, g64, n74, n75, H65, H66, H67, d77, (ix40 o79), w78, e80, e81, e82, e83, e84, e85, nmB, implies_true, seval]
      refine dktree (args0 := [.agg (cGSightLetter e63), .lit (.int .i64 x1_a1.At), .agg (cGSightPlace x2_a2), .lit (.int .i64 (IntKind.i64.wrap (x0_s.Eye.Low * x0_s.Light.Low)))]) (by first | (simp only [nrm, tynrm] <;> rfl) | rfl) (by simp only [tre, tytre, Bool.and_self]) (g_ref02_kinds_ok _ _ _ _ _ o87) ?_
      refine fin_cut (fun tm => tm 4 = .ptr 1 0 ∧ tm 5 = .ptr 2 0 ∧ tm 6 = .ptr 3 0 ∧ tm 9 = .lit (.int .i64 (IntKind.i64.wrap (x0_s.Eye.Low * x0_s.Light.Low))) ∧ tm 10 = .lit (.int .i64 c21_10) ∧ tm 11 = .lit (.int .i64 c63_11) ∧ tm 51 = .sl (cellsL eB r86) (List.length r86) false ∧ True) (by refine ⟨e80, e81, e82, e83, e84, e85, ?_, trivial⟩ <;> first | (simp only [upd_apply, updH_apply, without_apply, mV_app, mV_app0, d20, n31, d61, w62, n74, n75, H65, H66, H67, d77, w78, e80, e81, e82, e83, e84, e85, nmB, implies_true, seval] <;> rfl) | rfl) ?_
      rintro tm ⟨e88, e89, e90, e91, e92, e93, e94, _⟩
      cases o96 : (getI r86 c21_10) with
      | none =>
       simp only [o96, hs, reduceCtorEq] at h
       exact absurd h kN63
      | some x95 =>
       simp only [o96, hs, reduceCtorEq] at h
       cases d97 : (x95)
       ·simp only [d97, hs, reduceCtorEq] at h
        simp only [vz, tyf, d20, g22, n31, d61, w62, g64, n74, n75, H65, H66, H67, d77, (ix40 o79), w78, e88, e89, e90, e91, e92, e93, e94, (ix100 o96), d97, nmB, implies_true, seval]
        exact ⟨List.length p63, Nat.lt_succ_self _, by rw [hI63]; refine ⟨p63, c63_11 + 1, rfl, Int.le_trans hi63 (Int.le_add_one (Int.le_refl _)), drop_next hi63 hp63, rfl, (show nx21 + 3 ≤ nx63 + 21 by omega), ?_, ?_, ?_, e88, e89, e90, e91, e92, ?_, h⟩ <;> first | (simp only [upd_apply, updH_apply, without_apply, mV_app, mV_app0, d20, n31, d61, w62, n74, n75, H65, H66, H67, d77, w78, e88, e89, e90, e91, e92, e93, e94, d97, nmB, implies_true, seval] <;> rfl) | rfl⟩
       ·simp only [d97, hs, reduceCtorEq] at h
        simp only [vz, tyf, d20, g22, n31, d61, w62, g64, n74, n75, H65, H66, H67, d77, (ix40 o79), w78, e88, e89, e90, e91, e92, e93, e94, (ix100 o96), d97, nmB, implies_true, seval]
        refine opd_ret (x := (.tup [.agg ([.lit (.int .i64 (IntKind.i64.wrap (2 + c21_10)))] ++ [.lit (.int .i64 c63_11)]), .lit (.bool true)])) (by first | (simp only [Tryz.results27, resV, resL, resV1, tgt_ptr, tgt_tp, upd_apply, updH_apply, without_apply, cr, tyf, d20, g22, n31, d61, w62, g64, n74, n75, H65, H66, H67, d77, (ix40 o79), w78, e88, e89, e90, e91, e92, e93, e94, (ix100 o96), d97, nmB, implies_true, seval] <;> rfl) | rfl) ?_
        replace h := kR63 _ h
        try dsimp only at h
        replace h := kR21 _ h
        try dsimp only at h
        obtain rfl := kF _ h
        refine rr_tree ?_ ?_
        ·simp only [tre, tytre, Bool.and_self]
        ·first | (simp only [outV, upd_apply, updH_apply, without_apply, showV_ref, cr, tyf, nrm, tynrm, d20, g22, n31, d61, w62, g64, n74, n75, H65, H66, H67, d77, (ix40 o79), w78, e88, e89, e90, e91, e92, e93, e94, (ix100 o96), d97, nmB, implies_true, seval] <;> rfl) | rfl
  ·simp only [d20, hs, reduceCtorEq] at h
   cases o99 : (getI r13 0) with
   | none =>
    simp only [o99, hs, reduceCtorEq] at h
    exact absurd h kN
   | some x98 =>
    simp only [o99, hs, reduceCtorEq] at h
    simp only [vz, tyf, e15, e16, e17, e18, e19, d20, (ix57 o99), nmB, implies_true, seval]
    refine opd_ret (x := (.tup [.agg ([.lit (.int .i64 1)] ++ [.lit (.int .i64 x98)]), .lit (.bool true)])) (by first | (simp only [Tryz.results27, resV, resL, resV1, tgt_ptr, tgt_tp, upd_apply, updH_apply, without_apply, cr, tyf, e15, e16, e17, e18, e19, d20, (ix57 o99), nmB, implies_true, seval] <;> rfl) | rfl) ?_
    obtain rfl := kF _ h
    refine rr_tree ?_ ?_
    ·simp only [tre, tytre, Bool.and_self]
    ·first | (simp only [outV, upd_apply, updH_apply, without_apply, showV_ref, cr, tyf, nrm, tynrm, e15, e16, e17, e18, e19, d20, (ix57 o99), nmB, implies_true, seval] <;> rfl) | rfl
end Go.V
end
section
namespace Go.V
open Go
set_option linter.unusedVariables false
set_option linter.unusedSimpArgs false
theorem refWhy_l1_eq (s : GSightStreet) (b : GSightBoard) (p : GSightPlace) (hp : PG b.At p) (hw : PW (s.Eye.Low * s.Light.Low)) (kk : Int) (f : GSightLetter → Bool) (hf : ∀ l, getI [!tallB (s.Eye.Low * s.Light.Low) b.At p l, !broadB (s.Eye.Low * s.Light.Low) b.At p l, !thickB (s.Eye.Low * s.Light.Low) b.At p l] kk = some (f l)) :
    ∀ (ls : List GSightLetter) (c : Int), (∀ l ∈ ls, BL l) → g_ref02_Why_l1 s b p kk ls c = faultO (IntKind.i64.wrap (2 + kk)) (fnd f ls c)
  | [], _, _ => rfl
  | e :: ls, c, h => by
    simp only [g_ref02_Why_l1, pw_wrap hw, refKinds_eq e b.At p _ hp hw (h e (List.mem_cons_self ..)), Option.bind_some, hf, fnd]
    cases f e with
    | true => rfl
    | false => exact refWhy_l1_eq s b p hp hw kk f hf ls (c + 1) (fun l hl => h l (List.mem_cons_of_mem _ hl))
theorem refWhy_l2_eq (s : GSightStreet) (b : GSightBoard) (p : GSightPlace) (hp : PG b.At p) (hw : PW (s.Eye.Low * s.Light.Low)) (h5 : b.Letters.length ≤ 5) : ∀ (ls : List GSightLetter) (c : Int) (fuel : Nat), 0 ≤ c → c ≤ b.Letters.length → b.Letters.drop c.toNat = ls → (∀ l ∈ ls, BL l) → ls.length < fuel →
    ∃ c', g_ref02_Why_l2 s b p fuel c = match fnd (fun l => !apartB (s.Eye.Low * s.Light.Low) b.At p l) (ls.take (ls.length - 1)) c with | some i => some (.ret (⟨5, i⟩, true)) | none => some (.go c')
  | [], c, fuel + 1, h0, hc, hd, h, hf => by
    have hx : b.Letters.length ≤ c.toNat := List.drop_eq_nil_iff.1 hd
    have w1 : IntKind.i64.wrap (c + 1) = c + 1 := wrap_eq (by omega) (by omega)
    have : decide (c + 1 < (b.Letters.length : Int)) = false := decide_eq_false (by omega)
    exact ⟨c, by simp only [g_ref02_Why_l2, w1, this, cond_false]; rfl⟩
  | [e], c, fuel + 1, h0, hc, hd, h, hf => by
    have hx := drop_next h0 hd
    have w1 : IntKind.i64.wrap (c + 1) = c + 1 := wrap_eq (by omega) (by omega)
    have : decide (c + 1 < (b.Letters.length : Int)) = false := not_lt_of_drop (by omega) hx
    exact ⟨c, by simp only [g_ref02_Why_l2, w1, this, cond_false]; rfl⟩
  | e :: e' :: ls, c, fuel + 1, h0, hc, hd, h, hf => by
    have hx := drop_next h0 hd
    have w1 : IntKind.i64.wrap (c + 1) = c + 1 := wrap_eq (by omega) (by omega)
    have : decide (c + 1 < (b.Letters.length : Int)) = true := lt_of_drop (by omega) hx
    have hlt : c + 1 < (b.Letters.length : Int) := of_decide_eq_true this
    obtain ⟨c', ih⟩ := refWhy_l2_eq s b p hp hw h5 (e' :: ls) (c + 1) fuel (by omega) (by omega) hx (fun l hl => h l (List.mem_cons_of_mem _ hl)) (by simp only [List.length_cons] at hf ⊢; omega)
    refine ⟨c', ?_⟩
    have ht : (e :: e' :: ls).take ((e :: e' :: ls).length - 1) = e :: (e' :: ls).take ((e' :: ls).length - 1) := by simp
    rw [ht]
    unfold g_ref02_Why_l2 fnd
    simp only [w1, this, cond_true, getI_of_drop h0 hd, Option.bind_some, pw_wrap hw, refMelts_eq e b.At p _ hp hw (h e (List.mem_cons_self ..)), ih]
    cases apartB (s.Eye.Low * s.Light.Low) b.At p e with
    | true => rfl
    | false => rfl
theorem refWhy_eq (s : GSightStreet) (b : GSightBoard) (p : GSightPlace) (h : Good s b p) : g_ref02_Why s b p = some (whyP (whyF (s.Eye.Low * s.Light.Low) b.At p s.Blocks b.Letters)) := by
  obtain ⟨hp, hl, hk, w1, w2⟩ := goods h
  have hb := h.nb
  have hn5 := h.n5
  have hn1 := h.n1
  have hh := refHidden_eq s b p hp hk hb
  have l2 : lenOk b.Letters = true := lenOk_of (by omega)
  have t0 := refWhy_l1_eq s b p hp w1 0 (fun l => !tallB (s.Eye.Low * s.Light.Low) b.At p l) (fun l => rfl) b.Letters 0 hl
  have t1 := refWhy_l1_eq s b p hp w1 1 (fun l => !broadB (s.Eye.Low * s.Light.Low) b.At p l) (fun l => rfl) b.Letters 0 hl
  have t2 := refWhy_l1_eq s b p hp w1 2 (fun l => !thickB (s.Eye.Low * s.Light.Low) b.At p l) (fun l => rfl) b.Letters 0 hl
  obtain ⟨c', t3⟩ := refWhy_l2_eq s b p hp w1 hn5 b.Letters 0 1000000 (by omega) (by omega) rfl hl (by omega)
  have e0 : IntKind.i64.wrap (2 + 0) = 2 := rfl
  have e1 : IntKind.i64.wrap (2 + 1) = 3 := rfl
  have e2 : IntKind.i64.wrap (2 + 2) = 4 := rfl
  have e3 : (Int.toNat (3 - 0)) = 3 := rfl
  have e4 : boundOk 3 = true := rfl
  have e5 : (0 : Int) + 1 = 1 := rfl
  have e6 : (1 : Int) + 1 = 2 := rfl
  simp only [g_ref02_Why, hh, Option.bind_some, whyF]
  have hf := hids_fnd (f := behB b.At p) s.Blocks 0
  cases h0 : fnd (behB b.At p) s.Blocks 0 with
  | some i =>
    rw [h0] at hf
    have hpos : decide (((hids (behB b.At p) s.Blocks 0).length : Int) > 0) = true := by
      cases hx : hids (behB b.At p) s.Blocks 0 with
      | nil => rw [hx] at hf; cases hf
      | cons a l => simp only [List.length_cons]; exact decide_eq_true (by omega)
    have hg : getI (hids (behB b.At p) s.Blocks 0) 0 = some i := by unfold getI; rw [if_pos (by omega)]; exact hf
    simp only [hpos, cond_true, hg, Option.bind_some, whyP]
  | none =>
    have hx : hids (behB b.At p) s.Blocks 0 = [] := by
      rw [h0] at hf
      cases hx : hids (behB b.At p) s.Blocks 0 with
      | nil => rfl
      | cons a l => rw [hx] at hf; cases hf
    have hpos : decide (((hids (behB b.At p) s.Blocks 0).length : Int) > 0) = false := by rw [hx]; rfl
    simp only [hpos, cond_false, e4, cond_true, e3, g_ref02_Why_l0, l2, t0, e0, e5, e6, t1, e1, t2, e2]
    cases fnd (fun l => !tallB (s.Eye.Low * s.Light.Low) b.At p l) b.Letters 0 with
    | some i => rfl
    | none =>
      simp only [faultO, lbind_go]
      cases fnd (fun l => !broadB (s.Eye.Low * s.Light.Low) b.At p l) b.Letters 0 with
      | some i => rfl
      | none =>
        simp only [lbind_go]
        cases fnd (fun l => !thickB (s.Eye.Low * s.Light.Low) b.At p l) b.Letters 0 with
        | some i => rfl
        | none =>
          simp only [lbind_go, t3]
          cases fnd (fun l => !apartB (s.Eye.Low * s.Light.Low) b.At p l) (b.Letters.take (b.Letters.length - 1)) 0 with
          | some i => rfl
          | none => rfl
theorem Why_eq (s : GSightStreet) (n : Int) (p : GSightPlace) (h : FineS s) : (∃ b, getI s.Boards n = some b ∧ b ∈ s.Boards ∧ Good s b p ∧ streetB s = true ∧ numB s n = true ∧ placeB s p = true ∧ g_sight_Why s n p = some (match whyF (s.Eye.Low * s.Light.Low) b.At p s.Blocks b.Letters with | some f => (f, 0) | none => (⟨0, 0⟩, 5))) ∨ ((streetB s && (numB s n && placeB s p)) = false ∧ g_sight_Why s n p = some (⟨0, 0⟩, 2)) := by
  simp only [g_sight_Why, isView_eq s n p h, Option.bind_some]
  cases h1 : streetB s with
  | false => exact .inr ⟨rfl, rfl⟩
  | true =>
    cases h2 : numB s n with
    | false => exact .inr ⟨rfl, rfl⟩
    | true =>
      cases h3 : placeB s p with
      | false => exact .inr ⟨rfl, rfl⟩
      | true =>
        obtain ⟨b, b1, b2, b3⟩ := good_of h1 h2 h3
        refine .inl ⟨b, b1, b2, b3, rfl, rfl, rfl, ?_⟩
        obtain ⟨hp, hl, hk, w1, w2⟩ := goods b3
        have hfe := firstFault_eq ⟨s, p, b, s.Eye.Low * s.Light.Low⟩ hp w1 hl b3.n1 b3.n5 hk b3.nb
        simp only [Bool.and_self, cond_true, b1, Option.bind_some, g_sight_atWorst, pw_wrap w1, hfe]
        cases whyF (s.Eye.Low * s.Light.Low) b.At p s.Blocks b.Letters <;> rfl
end Go.V
end
