/- Part of the proof of statements of YtbpeickbdiihcaaGreatDoor: a logic of values by content, the lifted functions, and what follows. -/
import Derived.Test.YtbpeickbdiihcaaGreatDoorNbc
import Derived.Test.YtbpeickbdiihcaaGreatDoorNbd
import Derived.Test.YtbpeickbdiihcaaGreatDoorNbe
import Derived.Test.YtbpeickbdiihcaaGreatDoorNbg
import Derived.Test.YtbpeickbdiihcaaGreatDoorNbf
import Derived.Test.YtbpeickbdiihcaaGreatDoorNbj
set_option linter.unusedVariables false
set_option linter.unusedSimpArgs false
set_option linter.unusedSectionVars false
set_option linter.constructorNameAsVariable false
set_option linter.defProp false
set_option maxRecDepth 4000
set_option maxHeartbeats 4000000
section
set_option maxRecDepth 100000
namespace Go.V
open Go Go.Proofs
def Ok_GSightBoard (x : GSightBoard) : Prop := lenOk x.Letters = true
def Ok_GSightStreet (x : GSightStreet) : Prop := lenOk x.Boards = true ∧ (∀ y ∈ x.Boards, Ok_GSightBoard y) ∧ lenOk x.Blocks = true
section
variable {P : Program} (hu3 : P.underlying 3 = some (.int .i64)) {f23 : Array Field} (hu23 : P.underlying 23 = some (.struct f23)) (ht23 : f23.toList.map Field.type = [3, 3]) {f61 : Array Field} (hu61 : P.underlying 61 = some (.struct f61)) (ht61 : f61.toList.map Field.type = [3, 3, 3, 3]) (hu40 : P.underlying 40 = some (.slice 61)) {f42 : Array Field} (hu42 : P.underlying 42 = some (.struct f42)) (ht42 : f42.toList.map Field.type = [3, 40]) (hu24 : P.underlying 24 = some (.slice 42)) (hu4 : P.underlying 4 = some (.bool)) {f68 : Array Field} (hu68 : P.underlying 68 = some (.struct f68)) (ht68 : f68.toList.map Field.type = [23, 23, 4]) (hu25 : P.underlying 25 = some (.slice 68)) {f27 : Array Field} (hu27 : P.underlying 27 = some (.struct f27)) (ht27 : f27.toList.map Field.type = [3, 3, 23, 23, 24, 25]) {f29 : Array Field} (hu29 : P.underlying 29 = some (.struct f29)) (ht29 : f29.toList.map Field.type = [3, 3])
include hu3 hu23 ht23 hu61 ht61 hu40 hu42 ht42 hu24 hu4 hu68 ht68 hu25 hu27 ht27 hu29 ht29
theorem gd_3 {n : Nat} : Dec P (n + 1) 3 eI (fun _ => True) := dec_int hu3
theorem gd_23 {n : Nat} : Dec P (n + 2) 23 cGSpan (fun _ => True) := by
 intro xs h
 obtain ⟨yss, hf, rfl⟩ := dec_struct (n := n + 1) (ts := [3, 3]) hu23 ht23 h
 match yss, hf with
 | [y0, y1], ⟨h0, h1, _⟩ =>
  obtain ⟨x0, r0, e0⟩ := gd_3 hu3 hu23 ht23 hu61 ht61 hu40 hu42 ht42 hu24 hu4 hu68 ht68 hu25 hu27 ht27 hu29 ht29 (n := n + 0) _ h0
  obtain ⟨x1, r1, e1⟩ := gd_3 hu3 hu23 ht23 hu61 ht61 hu40 hu42 ht42 hu24 hu4 hu68 ht68 hu25 hu27 ht27 hu29 ht29 (n := n + 0) _ h1
  exact ⟨⟨x0, x1⟩, trivial, by simp only [List.flatten_cons, List.flatten_nil, List.append_nil, normL_append, e0, e1, eI, eU8, eB, eS, eSl, cGSpan_eq, List.cons_append, List.nil_append]⟩
theorem gd_61 {n : Nat} : Dec P (n + 2) 61 cGSightLetter (fun _ => True) := by
 intro xs h
 obtain ⟨yss, hf, rfl⟩ := dec_struct (n := n + 1) (ts := [3, 3, 3, 3]) hu61 ht61 h
 match yss, hf with
 | [y0, y1, y2, y3], ⟨h0, h1, h2, h3, _⟩ =>
  obtain ⟨x0, r0, e0⟩ := gd_3 hu3 hu23 ht23 hu61 ht61 hu40 hu42 ht42 hu24 hu4 hu68 ht68 hu25 hu27 ht27 hu29 ht29 (n := n + 0) _ h0
  obtain ⟨x1, r1, e1⟩ := gd_3 hu3 hu23 ht23 hu61 ht61 hu40 hu42 ht42 hu24 hu4 hu68 ht68 hu25 hu27 ht27 hu29 ht29 (n := n + 0) _ h1
  obtain ⟨x2, r2, e2⟩ := gd_3 hu3 hu23 ht23 hu61 ht61 hu40 hu42 ht42 hu24 hu4 hu68 ht68 hu25 hu27 ht27 hu29 ht29 (n := n + 0) _ h2
  obtain ⟨x3, r3, e3⟩ := gd_3 hu3 hu23 ht23 hu61 ht61 hu40 hu42 ht42 hu24 hu4 hu68 ht68 hu25 hu27 ht27 hu29 ht29 (n := n + 0) _ h3
  exact ⟨⟨x0, x1, x2, x3⟩, trivial, by simp only [List.flatten_cons, List.flatten_nil, List.append_nil, normL_append, e0, e1, e2, e3, eI, eU8, eB, eS, eSl, cGSightLetter_eq, List.cons_append, List.nil_append]⟩
theorem gd_40 {n : Nat} : Dec P (n + 3) 40 (eSl cGSightLetter) (fun l => lenOk l = true ∧ ∀ x ∈ l, True) := dec_slice hu40 (gd_61 hu3 hu23 ht23 hu61 ht61 hu40 hu42 ht42 hu24 hu4 hu68 ht68 hu25 hu27 ht27 hu29 ht29 (n := n))
theorem gd_42 {n : Nat} : Dec P (n + 4) 42 cGSightBoard (Ok_GSightBoard) := by
 intro xs h
 obtain ⟨yss, hf, rfl⟩ := dec_struct (n := n + 3) (ts := [3, 40]) hu42 ht42 h
 match yss, hf with
 | [y0, y1], ⟨h0, h1, _⟩ =>
  obtain ⟨x0, r0, e0⟩ := gd_3 hu3 hu23 ht23 hu61 ht61 hu40 hu42 ht42 hu24 hu4 hu68 ht68 hu25 hu27 ht27 hu29 ht29 (n := n + 2) _ h0
  obtain ⟨x1, r1, e1⟩ := gd_40 hu3 hu23 ht23 hu61 ht61 hu40 hu42 ht42 hu24 hu4 hu68 ht68 hu25 hu27 ht27 hu29 ht29 (n := n + 0) _ h1
  exact ⟨⟨x0, x1⟩, r1.1, by simp only [List.flatten_cons, List.flatten_nil, List.append_nil, normL_append, e0, e1, eI, eU8, eB, eS, eSl, cGSightBoard_eq, List.cons_append, List.nil_append]⟩
theorem gd_24 {n : Nat} : Dec P (n + 5) 24 (eSl cGSightBoard) (fun l => lenOk l = true ∧ ∀ x ∈ l, Ok_GSightBoard x) := dec_slice hu24 (gd_42 hu3 hu23 ht23 hu61 ht61 hu40 hu42 ht42 hu24 hu4 hu68 ht68 hu25 hu27 ht27 hu29 ht29 (n := n))
theorem gd_4 {n : Nat} : Dec P (n + 1) 4 eB (fun _ => True) := dec_bool hu4
theorem gd_68 {n : Nat} : Dec P (n + 3) 68 cGSightBlock (fun _ => True) := by
 intro xs h
 obtain ⟨yss, hf, rfl⟩ := dec_struct (n := n + 2) (ts := [23, 23, 4]) hu68 ht68 h
 match yss, hf with
 | [y0, y1, y2], ⟨h0, h1, h2, _⟩ =>
  obtain ⟨x0, r0, e0⟩ := gd_23 hu3 hu23 ht23 hu61 ht61 hu40 hu42 ht42 hu24 hu4 hu68 ht68 hu25 hu27 ht27 hu29 ht29 (n := n + 0) _ h0
  obtain ⟨x1, r1, e1⟩ := gd_23 hu3 hu23 ht23 hu61 ht61 hu40 hu42 ht42 hu24 hu4 hu68 ht68 hu25 hu27 ht27 hu29 ht29 (n := n + 0) _ h1
  obtain ⟨x2, r2, e2⟩ := gd_4 hu3 hu23 ht23 hu61 ht61 hu40 hu42 ht42 hu24 hu4 hu68 ht68 hu25 hu27 ht27 hu29 ht29 (n := n + 1) _ h2
  exact ⟨⟨x0, x1, x2⟩, trivial, by simp only [List.flatten_cons, List.flatten_nil, List.append_nil, normL_append, e0, e1, e2, eI, eU8, eB, eS, eSl, cGSightBlock_eq, cGSpan_eq, List.cons_append, List.nil_append]⟩
theorem gd_25 {n : Nat} : Dec P (n + 4) 25 (eSl cGSightBlock) (fun l => lenOk l = true ∧ ∀ x ∈ l, True) := dec_slice hu25 (gd_68 hu3 hu23 ht23 hu61 ht61 hu40 hu42 ht42 hu24 hu4 hu68 ht68 hu25 hu27 ht27 hu29 ht29 (n := n))
theorem gd_27 {n : Nat} : Dec P (n + 6) 27 cGSightStreet (Ok_GSightStreet) := by
 intro xs h
 obtain ⟨yss, hf, rfl⟩ := dec_struct (n := n + 5) (ts := [3, 3, 23, 23, 24, 25]) hu27 ht27 h
 match yss, hf with
 | [y0, y1, y2, y3, y4, y5], ⟨h0, h1, h2, h3, h4, h5, _⟩ =>
  obtain ⟨x0, r0, e0⟩ := gd_3 hu3 hu23 ht23 hu61 ht61 hu40 hu42 ht42 hu24 hu4 hu68 ht68 hu25 hu27 ht27 hu29 ht29 (n := n + 4) _ h0
  obtain ⟨x1, r1, e1⟩ := gd_3 hu3 hu23 ht23 hu61 ht61 hu40 hu42 ht42 hu24 hu4 hu68 ht68 hu25 hu27 ht27 hu29 ht29 (n := n + 4) _ h1
  obtain ⟨x2, r2, e2⟩ := gd_23 hu3 hu23 ht23 hu61 ht61 hu40 hu42 ht42 hu24 hu4 hu68 ht68 hu25 hu27 ht27 hu29 ht29 (n := n + 3) _ h2
  obtain ⟨x3, r3, e3⟩ := gd_23 hu3 hu23 ht23 hu61 ht61 hu40 hu42 ht42 hu24 hu4 hu68 ht68 hu25 hu27 ht27 hu29 ht29 (n := n + 3) _ h3
  obtain ⟨x4, r4, e4⟩ := gd_24 hu3 hu23 ht23 hu61 ht61 hu40 hu42 ht42 hu24 hu4 hu68 ht68 hu25 hu27 ht27 hu29 ht29 (n := n + 0) _ h4
  obtain ⟨x5, r5, e5⟩ := gd_25 hu3 hu23 ht23 hu61 ht61 hu40 hu42 ht42 hu24 hu4 hu68 ht68 hu25 hu27 ht27 hu29 ht29 (n := n + 1) _ h5
  exact ⟨⟨x0, x1, x2, x3, x4, x5⟩, ⟨r4.1, r4.2, r5.1⟩, by simp only [List.flatten_cons, List.flatten_nil, List.append_nil, normL_append, e0, e1, e2, e3, e4, e5, eI, eU8, eB, eS, eSl, cGSightStreet_eq, cGSpan_eq, List.cons_append, List.nil_append]⟩
theorem gd_29 {n : Nat} : Dec P (n + 2) 29 cGSightPlace (fun _ => True) := by
 intro xs h
 obtain ⟨yss, hf, rfl⟩ := dec_struct (n := n + 1) (ts := [3, 3]) hu29 ht29 h
 match yss, hf with
 | [y0, y1], ⟨h0, h1, _⟩ =>
  obtain ⟨x0, r0, e0⟩ := gd_3 hu3 hu23 ht23 hu61 ht61 hu40 hu42 ht42 hu24 hu4 hu68 ht68 hu25 hu27 ht27 hu29 ht29 (n := n + 0) _ h0
  obtain ⟨x1, r1, e1⟩ := gd_3 hu3 hu23 ht23 hu61 ht61 hu40 hu42 ht42 hu24 hu4 hu68 ht68 hu25 hu27 ht27 hu29 ht29 (n := n + 0) _ h1
  exact ⟨⟨x0, x1⟩, trivial, by simp only [List.flatten_cons, List.flatten_nil, List.append_nil, normL_append, e0, e1, eI, eU8, eB, eS, eSl, cGSightPlace_eq, List.cons_append, List.nil_append]⟩
end
theorem dec_3 {n : Nat} : Dec Tryz.prog (n + 1) 3 eI (fun _ => True) := gd_3 Tryz.underlying3 Tryz.underlying23 (by kernel_rfl) Tryz.underlying61 (by kernel_rfl) Tryz.underlying40 Tryz.underlying42 (by kernel_rfl) Tryz.underlying24 Tryz.underlying4 Tryz.underlying68 (by kernel_rfl) Tryz.underlying25 Tryz.underlying27 (by kernel_rfl) Tryz.underlying29 (by kernel_rfl)
theorem dec_27 {n : Nat} : Dec Tryz.prog (n + 6) 27 cGSightStreet (Ok_GSightStreet) := gd_27 Tryz.underlying3 Tryz.underlying23 (by kernel_rfl) Tryz.underlying61 (by kernel_rfl) Tryz.underlying40 Tryz.underlying42 (by kernel_rfl) Tryz.underlying24 Tryz.underlying4 Tryz.underlying68 (by kernel_rfl) Tryz.underlying25 Tryz.underlying27 (by kernel_rfl) Tryz.underlying29 (by kernel_rfl)
theorem dec_29 {n : Nat} : Dec Tryz.prog (n + 2) 29 cGSightPlace (fun _ => True) := gd_29 Tryz.underlying3 Tryz.underlying23 (by kernel_rfl) Tryz.underlying61 (by kernel_rfl) Tryz.underlying40 Tryz.underlying42 (by kernel_rfl) Tryz.underlying24 Tryz.underlying4 Tryz.underlying68 (by kernel_rfl) Tryz.underlying25 Tryz.underlying27 (by kernel_rfl) Tryz.underlying29 (by kernel_rfl)
end Go.V
end
section
namespace Go.V
open Go Go.Proofs
def g_law02_right (x0_s : GSightStreet) (x1_board : Int) (x2_p : GSightPlace) : Option (Bool) := Option.bind (g_law02_short x0_s) (fun r1 => cond (r1) (Option.bind (g_ref02_Street x0_s) (fun r2 => cond (r2) (Option.bind (g_ref02_Board x0_s x1_board) (fun r3 => cond (r3) (Option.bind (g_ref02_Place x0_s x2_p) (fun r4 => some r4)) (some false))) (some false))) (some false))
theorem g_law02_right_ok (x0_s : GSightStreet) (x1_board : Int) (x2_p : GSightPlace) (R : Bool) (h : g_law02_right x0_s x1_board x2_p = some R) : VPure Tryz.prog G0 23 [.agg (cGSightStreet x0_s), .lit (.int .i64 x1_board), .agg (cGSightPlace x2_p)] (.tree (.lit (.bool R))) := by
 refine VPure.runR mixed Tryz.call23 Tryz.func23 rfl (by simp [Tryz.ntmps23]; kernel_rfl) ?_
 obtain ⟨KF, h, kF, kN⟩ := fun_intro h
 simp only [g_law02_right] at h
 cases o6 : (g_law02_short x0_s) with
 | none =>
  simp only [o6, hs, reduceCtorEq] at h
  exact absurd h kN
 | some r5 =>
  simp only [o6, hs, reduceCtorEq] at h
  simp only [vz, tyf, nm, seval]
  refine ktree (args0 := [.agg (cGSightStreet x0_s)]) (by first | (simp only [nrm, tynrm] <;> rfl) | rfl) (by simp only [tre, tytre, Bool.and_self]) (g_law02_short_ok _ _ o6) ?_
  refine fin_cut (fun tm => tm 1 = .lit (.int .i64 x1_board) ∧ tm 3 = .ptr 0 0 ∧ tm 5 = .ptr 1 0 ∧ tm 8 = .lit (.bool r5) ∧ True) (by refine ⟨?_, ?_, ?_, ?_, trivial⟩ <;> first | (simp only [ua, nm, seval] <;> rfl) | rfl) ?_
  rintro tm ⟨e7, e8, e9, e10, _⟩
  cases d11 : (r5)
  ·simp only [d11, hs, reduceCtorEq] at h
   simp only [vz, tyf, e7, e8, e9, e10, d11, nm, seval]
   obtain rfl := kF _ h
   exact opd_bool Tryz.results23 (by first | rfl | (simp only [upd_apply, e7, e8, e9, e10, seval] <;> rfl))
  simp only [d11, hs, reduceCtorEq] at h
  cases o13 : (g_ref02_Street x0_s) with
  | none =>
   simp only [o13, hs, reduceCtorEq] at h
   exact absurd h kN
  | some r12 =>
   simp only [o13, hs, reduceCtorEq] at h
   simp only [vz, tyf, e7, e8, e9, e10, d11, nm, seval]
   refine ktree (args0 := [.agg (cGSightStreet x0_s)]) (by first | (simp only [nrm, tynrm] <;> rfl) | rfl) (by simp only [tre, tytre, Bool.and_self]) (g_ref02_Street_ok _ _ o13) ?_
   refine fin_cut (fun tm => tm 1 = .lit (.int .i64 x1_board) ∧ tm 3 = .ptr 0 0 ∧ tm 5 = .ptr 1 0 ∧ tm 9 = .lit (.bool true) ∧ tm 11 = .lit (.bool r12) ∧ True) (by refine ⟨e7, e8, e9, ?_, ?_, trivial⟩ <;> first | (simp only [ua, e7, e8, e9, e10, d11, nm, seval] <;> rfl) | rfl) ?_
   rintro tm ⟨e14, e15, e16, e17, e18, _⟩
   cases d19 : (r12)
   ·simp only [d19, hs, reduceCtorEq] at h
    simp only [vz, tyf, d11, e14, e15, e16, e17, e18, d19, nm, seval]
    obtain rfl := kF _ h
    exact opd_bool Tryz.results23 (by first | rfl | (simp only [upd_apply, e14, e15, e16, e17, e18, seval] <;> rfl))
   simp only [d19, hs, reduceCtorEq] at h
   cases o21 : (g_ref02_Board x0_s x1_board) with
   | none =>
    simp only [o21, hs, reduceCtorEq] at h
    exact absurd h kN
   | some r20 =>
    simp only [o21, hs, reduceCtorEq] at h
    simp only [vz, tyf, d11, e14, e15, e16, e17, e18, d19, nm, seval]
    refine ktree (args0 := [.agg (cGSightStreet x0_s), .lit (.int .i64 x1_board)]) (by first | (simp only [nrm, tynrm] <;> rfl) | rfl) (by simp only [tre, tytre, Bool.and_self]) (g_ref02_Board_ok _ _ _ o21) ?_
    refine fin_cut (fun tm => tm 3 = .ptr 0 0 ∧ tm 5 = .ptr 1 0 ∧ tm 13 = .lit (.bool true) ∧ tm 16 = .lit (.bool r20) ∧ True) (by refine ⟨e15, e16, ?_, ?_, trivial⟩ <;> first | (simp only [ua, d11, e14, e15, e16, e17, e18, d19, nm, seval] <;> rfl) | rfl) ?_
    rintro tm ⟨e22, e23, e24, e25, _⟩
    cases d26 : (r20)
    ·simp only [d26, hs, reduceCtorEq] at h
     simp only [vz, tyf, d11, d19, e22, e23, e24, e25, d26, nm, seval]
     obtain rfl := kF _ h
     exact opd_bool Tryz.results23 (by first | rfl | (simp only [upd_apply, e22, e23, e24, e25, seval] <;> rfl))
    simp only [d26, hs, reduceCtorEq] at h
    cases o28 : (g_ref02_Place x0_s x2_p) with
    | none =>
     simp only [o28, hs, reduceCtorEq] at h
     exact absurd h kN
    | some r27 =>
     simp only [o28, hs, reduceCtorEq] at h
     simp only [vz, tyf, d11, d19, e22, e23, e24, e25, d26, nm, seval]
     refine ktree (args0 := [.agg (cGSightStreet x0_s), .agg (cGSightPlace x2_p)]) (by first | (simp only [nrm, tynrm] <;> rfl) | rfl) (by simp only [tre, tytre, Bool.and_self]) (g_ref02_Place_ok _ _ _ o28) ?_
     refine fin_cut (fun tm => tm 18 = .lit (.bool true) ∧ tm 21 = .lit (.bool r27) ∧ True) (by refine ⟨?_, ?_, trivial⟩ <;> first | (simp only [ua, d11, d19, e22, e23, e24, e25, d26, nm, seval] <;> rfl) | rfl) ?_
     rintro tm ⟨e29, e30, _⟩
     simp only [vz, tyf, d11, d19, d26, e29, e30, nm, seval]
     obtain rfl := kF _ h
     exact opd_bool Tryz.results23 (by first | rfl | (simp only [upd_apply, e29, e30, seval] <;> rfl))
end Go.V
end
section
namespace Go.V
open Go Go.Proofs
def g_sight_Light_l0 (x0_s : GSightStreet) (x1_board : Int) (x2_from : GSightPlace) : Nat → Int → Int → Int → Option (LOut (Int × Int) (Int × Int))
 | 0, c0_14, c0_o0, c0_o1 => some (.go (c0_o0, c0_o1))
 | k0 + 1, c0_14, c0_o0, c0_o1 => Option.bind (getI x0_s.Boards x1_board) (fun x4 => Option.bind (g_sight_isSurelyRead (GSightStreet.mk x0_s.Length x0_s.Width x0_s.Eye (GSpan.mk (c0_14 + 1) (c0_14 + 1)) x0_s.Boards x0_s.Blocks) x4 x2_from) (fun r5 => cond (r5) (some (.ret (c0_14 + 1, 0))) (g_sight_Light_l0 x0_s x1_board x2_from k0 (c0_14 + 1) (c0_14 + 1) (c0_14 + 1))))
def g_sight_Light (x0_s : GSightStreet) (x1_board : Int) (x2_from : GSightPlace) : Option (Int × Int) := Option.bind (g_sight_isView x0_s x1_board x2_from) (fun r1 => cond (r1) (cond (boundOk 100) (lbind (g_sight_Light_l0 x0_s x1_board x2_from (Int.toNat (100 - 0)) 0 x0_s.Light.Low x0_s.Light.High) (fun r7 => some r7) (fun c6 => some (0, 5)) (fun _ _ => none)) none) (some (0, 2)))
theorem g_sight_Light_ok (x0_s : GSightStreet) (x1_board : Int) (x2_from : GSightPlace) (R : Int × Int) (h : g_sight_Light x0_s x1_board x2_from = some R) : VPure Tryz.prog G0 42 [.agg (cGSightStreet x0_s), .lit (.int .i64 x1_board), .agg (cGSightPlace x2_from)] (.tree (.tup [.lit (.int .i64 R.1), .lit (.int .i64 R.2)])) := by
 refine VPure.runR mixed Tryz.call42 Tryz.func42 rfl (by simp [Tryz.ntmps42]; kernel_rfl) ?_
 obtain ⟨KF, h, kF, kN⟩ := fun_intro h
 simp only [g_sight_Light] at h
 cases o9 : (g_sight_isView x0_s x1_board x2_from) with
 | none =>
  simp only [o9, hs, reduceCtorEq] at h
  exact absurd h kN
 | some r8 =>
  simp only [o9, hs, reduceCtorEq] at h
  simp only [vz, tyf, nm, seval]
  refine ktree (args0 := [.agg (cGSightStreet x0_s), .lit (.int .i64 x1_board), .agg (cGSightPlace x2_from)]) (by first | (simp only [nrm, tynrm] <;> rfl) | rfl) (by simp only [tre, tytre, Bool.and_self]) (g_sight_isView_ok _ _ _ _ o9) ?_
  refine fin_cut (fun tm => tm 1 = .lit (.int .i64 x1_board) ∧ tm 3 = .ptr 0 0 ∧ tm 5 = .ptr 1 0 ∧ tm 12 = .lit (.bool r8) ∧ True) (by refine ⟨?_, ?_, ?_, ?_, trivial⟩ <;> first | (simp only [ua, nm, seval] <;> rfl) | rfl) ?_
  rintro tm ⟨e10, e11, e12, e13, _⟩
  cases d14 : (r8)
  ·simp only [d14, hs, reduceCtorEq] at h
   simp only [vz, tyf, e10, e11, e12, e13, d14, nm, seval]
   refine opd_ret (x := (.tup [.lit (.int .i64 0), .lit (.int .i64 2)])) (by first | (simp only [Tryz.results42, resV, resL, resV1, tgt_ptr, tgt_tp, uw, cr, tyf, e10, e11, e12, e13, d14, nm, seval] <;> rfl) | rfl) ?_
   obtain rfl := kF _ h
   refine rr_tree ?_ ?_
   ·simp only [tre, tytre, Bool.and_self]
   ·first | (simp only [outV, uw, showV_ref, cr, tyf, nrm, tynrm, e10, e11, e12, e13, d14, nm, seval] <;> rfl) | rfl
  simp only [d14, hs, reduceCtorEq] at h
  cases g16 : (boundOk 100)
  ·simp only [g16, hs, reduceCtorEq] at h
   exact absurd h kN
  simp only [g16, hs, reduceCtorEq] at h
  simp only [vz, tyf, e10, e11, e12, e13, d14, g16, nm, seval]
  obtain ⟨K15, h, kR15, kG15, kB15, kN15⟩ := lbind_intro h kN
  obtain ⟨f15, hf15, h⟩ := call4 h
  obtain ⟨I15, hI15⟩ : ∃ I : Nat → St → Prop, I = (fun m st => ∃ (p15 : Nat) (c15_14 : Int) (c15_o0 : Int) (c15_o1 : Int), p15 = m ∧ loOk c15_14 = true ∧ Int.toNat (100 - c15_14) = p15 ∧ st.df = [] ∧ 10 ≤ st.nx ∧ st.H 0 = some (.cells (some 27) ([.lit (.int .i64 x0_s.Length)] ++ [.lit (.int .i64 x0_s.Width)] ++ (cGSpan x0_s.Eye) ++ [.lit (.int .i64 c15_o0)] ++ [.lit (.int .i64 c15_o1)] ++ [.sl (cellsL cGSightBoard x0_s.Boards) (List.length x0_s.Boards) false] ++ [.sl (cellsL cGSightBlock x0_s.Blocks) (List.length x0_s.Blocks) false])) ∧ st.H 1 = some (.cells (some 29) (cGSightPlace x2_from)) ∧ st.tm 1 = .lit (.int .i64 x1_board) ∧ st.tm 3 = .ptr 0 0 ∧ st.tm 5 = .ptr 1 0 ∧ st.tm 14 = .lit (.int .i64 c15_14) ∧ K15 (f15 p15 c15_14 c15_o0 c15_o1)) := ⟨_, rfl⟩
  refine loopK mixed (by kernel_rfl) I15 (Int.toNat (100 - 0)) (by rw [hI15]; refine ⟨Int.toNat (100 - 0), 0, x0_s.Light.Low, x0_s.Light.High, rfl, (by rfl), rfl, rfl, (show 10 ≤ 10 by omega), ?_, ?_, e10, e11, e12, ?_, h⟩ <;> first | (simp only [ua, e10, e11, e12, e13, d14, nm, seval] <;> rfl) | rfl) ?_
  rintro m ⟨tm, H, nx15, df⟩ hinv
  rw [hI15] at hinv
  obtain ⟨p15, c15_14, c15_o0, c15_o1, rfl, hi15, hp15, hdf, hn15, H17, H18, e19, e20, e21, e22, h⟩ := hinv
  simp only at hdf hn15 H17 H18 e19 e20 e21 e22
  have n23 := base_ne0 (m := 10) (b := nx15) (by omega)
  subst hdf hf15
  cases p15 with
  | zero =>
   have d24 : (decide (c15_14 < 100)) = false := cnt_not_lt hp15
   simp only [g_sight_Light_l0, hs, reduceCtorEq] at h
   replace h := kG15 _ h
   try dsimp only at h
   try simp only [hs] at h
   simp only [vz, tyf, d14, g16, n23, e19, e20, e21, e22, H17, H18, d24, nm, seval]
   refine opd_ret (x := (.tup [.lit (.int .i64 0), .lit (.int .i64 5)])) (by first | (simp only [Tryz.results42, resV, resL, resV1, tgt_ptr, tgt_tp, uw, cr, tyf, d14, g16, n23, e19, e20, e21, e22, H17, H18, d24, nm, seval] <;> rfl) | rfl) ?_
   obtain rfl := kF _ h
   refine rr_tree ?_ ?_
   ·simp only [tre, tytre, Bool.and_self]
   ·first | (simp only [outV, uw, showV_ref, cr, tyf, nrm, tynrm, d14, g16, n23, e19, e20, e21, e22, H17, H18, d24, nm, seval] <;> rfl) | rfl
  | succ p15 =>
   have d25 : (decide (c15_14 < 100)) = true := cnt_lt hp15
   have w26 := cnt_wrap hi15 hp15 g16
   simp only [g_sight_Light_l0, hs, reduceCtorEq] at h
   simp only [vz, tyf, d14, g16, n23, e19, e20, e21, e22, H17, H18, d25, w26, nm, seval]
   refine cwp_drwQF (fun tm => tm 1 = .lit (.int .i64 x1_board) ∧ tm 3 = .ptr 0 0 ∧ tm 5 = .ptr 1 0 ∧ tm 8 = .lit (.int .i64 c15_14) ∧ tm 14 = .lit (.int .i64 c15_14) ∧ True) (by refine ⟨e19, e20, e21, ?_, e22, trivial⟩ <;> first | (simp only [ua, d14, n23, e19, e20, e21, e22, H17, H18, d25, w26, nm, seval] <;> rfl) | rfl) ?_
   rintro tm ⟨e27, e28, e29, e30, e31, _⟩
   cases o33 : (getI x0_s.Boards x1_board) with
   | none =>
    simp only [o33, hs, reduceCtorEq] at h
    exact absurd h kN15
   | some x32 =>
    simp only [o33, hs, reduceCtorEq] at h
    cases o35 : (g_sight_isSurelyRead (GSightStreet.mk x0_s.Length x0_s.Width x0_s.Eye (GSpan.mk (c15_14 + 1) (c15_14 + 1)) x0_s.Boards x0_s.Blocks) x32 x2_from) with
    | none =>
     simp only [o35, hs, reduceCtorEq] at h
     exact absurd h kN15
    | some r34 =>
     simp only [o35, hs, reduceCtorEq] at h
     simp only [vz, tyf, d14, g16, n23, H17, H18, d25, w26, e27, e28, e29, e30, e31, (ix24 o33), nm, seval]
     refine dktree (args0 := [.agg (cGSightStreet (GSightStreet.mk x0_s.Length x0_s.Width x0_s.Eye (GSpan.mk (c15_14 + 1) (c15_14 + 1)) x0_s.Boards x0_s.Blocks)), .agg (cGSightBoard x32), .agg (cGSightPlace x2_from)]) (by first | (simp only [nrm, tynrm] <;> rfl) | rfl) (by simp only [tre, tytre, Bool.and_self]) (g_sight_isSurelyRead_ok _ _ _ _ o35) ?_
     refine fin_cut (fun tm => tm 1 = .lit (.int .i64 x1_board) ∧ tm 3 = .ptr 0 0 ∧ tm 5 = .ptr 1 0 ∧ tm 8 = .lit (.int .i64 c15_14) ∧ tm 14 = .lit (.int .i64 c15_14) ∧ tm 30 = .lit (.bool r34) ∧ True) (by refine ⟨e27, e28, e29, e30, e31, ?_, trivial⟩ <;> first | (simp only [ua, d14, n23, H17, H18, d25, w26, e27, e28, e29, e30, e31, nm, seval] <;> rfl) | rfl) ?_
     rintro tm ⟨e36, e37, e38, e39, e40, e41, _⟩
     cases d42 : (r34)
     ·simp only [d42, hs, reduceCtorEq] at h
      simp only [vz, tyf, d14, g16, n23, H17, H18, d25, w26, (ix24 o33), e36, e37, e38, e39, e40, e41, d42, nm, seval]
      exact ⟨p15, Nat.lt_succ_self _, by rw [hI15]; refine ⟨p15, c15_14 + 1, c15_14 + 1, c15_14 + 1, rfl, cnt_lo hi15, cnt_next hp15, rfl, (show 10 ≤ nx15 + 20 by omega), ?_, ?_, e36, e37, e38, ?_, h⟩ <;> first | (simp only [ua, d14, n23, H17, H18, d25, w26, e36, e37, e38, e39, e40, e41, d42, nm, seval] <;> rfl) | rfl⟩
     simp only [d42, hs, reduceCtorEq] at h
     simp only [vz, tyf, d14, g16, n23, H17, H18, d25, w26, (ix24 o33), e36, e37, e38, e39, e40, e41, d42, nm, seval]
     refine opd_ret (x := (.tup [.lit (.int .i64 (c15_14 + 1)), .lit (.int .i64 0)])) (by first | (simp only [Tryz.results42, resV, resL, resV1, tgt_ptr, tgt_tp, uw, cr, tyf, d14, g16, n23, H17, H18, d25, w26, (ix24 o33), e36, e37, e38, e39, e40, e41, d42, nm, seval] <;> rfl) | rfl) ?_
     replace h := kR15 _ h
     try dsimp only at h
     obtain rfl := kF _ h
     refine rr_tree ?_ ?_
     ·simp only [tre, tytre, Bool.and_self]
     ·first | (simp only [outV, uw, showV_ref, cr, tyf, nrm, tynrm, d14, g16, n23, H17, H18, d25, w26, (ix24 o33), e36, e37, e38, e39, e40, e41, d42, nm, seval] <;> rfl) | rfl
end Go.V
end
section
namespace Go.V
open Go Go.Proofs
def g_ref02_Lit (x0_s : GSightStreet) (x1_light : Int) : Option (GSightStreet) := some (GSightStreet.mk x0_s.Length x0_s.Width x0_s.Eye (GSpan.mk x1_light x1_light) x0_s.Boards x0_s.Blocks)
theorem g_ref02_Lit_ok (x0_s : GSightStreet) (x1_light : Int) (R : GSightStreet) (h : g_ref02_Lit x0_s x1_light = some R) : VPure Tryz.prog G0 46 [.agg (cGSightStreet x0_s), .lit (.int .i64 x1_light)] (.tree (.agg (cGSightStreet R))) := by
 refine VPure.runR mixed Tryz.call46 Tryz.func46 rfl (by simp [Tryz.ntmps46]; kernel_rfl) ?_
 obtain ⟨KF, h, kF, kN⟩ := fun_intro h
 simp only [g_ref02_Lit] at h
 simp only [vz, tyf, nm, seval]
 refine opd_ret (x := (.agg ([.lit (.int .i64 x0_s.Length)] ++ [.lit (.int .i64 x0_s.Width)] ++ (cGSpan x0_s.Eye) ++ [.lit (.int .i64 x1_light)] ++ [.lit (.int .i64 x1_light)] ++ [.sl (cellsL cGSightBoard x0_s.Boards) (List.length x0_s.Boards) false] ++ [.sl (cellsL cGSightBlock x0_s.Blocks) (List.length x0_s.Blocks) false]))) (by first | (simp only [Tryz.results46, resV, resL, resV1, tgt_ptr, tgt_tp, uw, cr, tyf, nm, seval] <;> rfl) | rfl) ?_
 obtain rfl := kF _ h
 refine rr_tree ?_ ?_
 ·simp only [tre, tytre, Bool.and_self]
 ·first | (simp only [outV, uw, showV_ref, cr, tyf, nrm, tynrm, nm, seval] <;> rfl) | rfl
end Go.V
end
section
namespace Go.V
open Go Go.Proofs
def g_law02_SightLit (x0_s : GSightStreet) (x1_a1 : Int) (x2_a2 : GSightPlace) (x3_a3 : Int) : Option (Bool) := Option.bind (g_law02_right x0_s x1_a1 x2_a2) (fun r1 => cond (r1) (cond (decide (x3_a3 < 1)) (Option.bind (g_law02_known ) (fun r2 => some r2)) (cond (decide (x3_a3 > 100)) (Option.bind (g_law02_known ) (fun r3 => some r3)) (Option.bind (g_sight_Light x0_s x1_a1 x2_a2) (fun r4 => Option.bind (g_ref02_Lit x0_s x3_a3) (fun r5 => Option.bind (g_sight_Seen r5 x1_a1 x2_a2) (fun r6 => cond (r6.2 != 0) (some false) (cond (r4.2 != 0) (cond (r4.2 != 5) (some false) (cond (r4.2 == 0) (cond (decide (r4.1 < 1)) (some false) (cond (decide (r4.1 > 100)) (some false) (cond ((r6.1 == 3) == (decide (x3_a3 ≥ r4.1))) (Option.bind (g_law02_known ) (fun r7 => some r7)) (some false)))) (cond ((r6.1 == 3) == false) (Option.bind (g_law02_known ) (fun r8 => some r8)) (some false)))) (cond (r4.2 == 0) (cond (decide (r4.1 < 1)) (some false) (cond (decide (r4.1 > 100)) (some false) (cond ((r6.1 == 3) == (decide (x3_a3 ≥ r4.1))) (Option.bind (g_law02_known ) (fun r9 => some r9)) (some false)))) (cond ((r6.1 == 3) == false) (Option.bind (g_law02_known ) (fun r10 => some r10)) (some false)))))))))) (Option.bind (g_law02_known ) (fun r11 => some r11)))
theorem g_law02_SightLit_ok (x0_s : GSightStreet) (x1_a1 : Int) (x2_a2 : GSightPlace) (x3_a3 : Int) (R : Bool) (h : g_law02_SightLit x0_s x1_a1 x2_a2 x3_a3 = some R) : VPure Tryz.prog G0 12 [.agg (cGSightStreet x0_s), .lit (.int .i64 x1_a1), .agg (cGSightPlace x2_a2), .lit (.int .i64 x3_a3)] (.tree (.lit (.bool R))) := by
 refine VPure.runR mixed Tryz.call12 Tryz.func12 rfl (by simp [Tryz.ntmps12]; kernel_rfl) ?_
 obtain ⟨KF, h, kF, kN⟩ := fun_intro h
 simp only [g_law02_SightLit] at h
 cases o13 : (g_law02_right x0_s x1_a1 x2_a2) with
 | none =>
  simp only [o13, hs, reduceCtorEq] at h
  exact absurd h kN
 | some r12 =>
  simp only [o13, hs, reduceCtorEq] at h
  simp only [vz, tyf, nm, seval]
  refine ktree (args0 := [.agg (cGSightStreet x0_s), .lit (.int .i64 x1_a1), .agg (cGSightPlace x2_a2)]) (by first | (simp only [nrm, tynrm] <;> rfl) | rfl) (by simp only [tre, tytre, Bool.and_self]) (g_law02_right_ok _ _ _ _ o13) ?_
  refine fin_cut (fun tm => tm 1 = .lit (.int .i64 x1_a1) ∧ tm 3 = .lit (.int .i64 x3_a3) ∧ tm 4 = .ptr 0 0 ∧ tm 6 = .ptr 1 0 ∧ tm 16 = .lit (.bool r12) ∧ True) (by refine ⟨?_, ?_, ?_, ?_, ?_, trivial⟩ <;> first | (simp only [ua, nm, seval] <;> rfl) | rfl) ?_
  rintro tm ⟨e14, e15, e16, e17, e18, _⟩
  cases d19 : (r12)
  ·simp only [d19, hs, reduceCtorEq] at h
   cases o21 : (g_law02_known ) with
   | none =>
    simp only [o21, hs, reduceCtorEq] at h
    exact absurd h kN
   | some r20 =>
    simp only [o21, hs, reduceCtorEq] at h
    simp only [vz, tyf, e14, e15, e16, e17, e18, d19, nm, seval]
    refine ktree (args0 := []) (by first | (simp only [nrm, tynrm] <;> rfl) | rfl) (by simp only [tre, tytre, Bool.and_self]) (g_law02_known_ok  _ o21) ?_
    refine fin_cut (fun tm => tm 26 = .lit (.bool r20) ∧ True) (by refine ⟨?_, trivial⟩ <;> first | (simp only [ua, e14, e15, e16, e17, e18, d19, nm, seval] <;> rfl) | rfl) ?_
    rintro tm ⟨e22, _⟩
    simp only [vz, tyf, d19, e22, nm, seval]
    obtain rfl := kF _ h
    exact opd_bool Tryz.results12 (by first | rfl | (simp only [upd_apply, e22, seval] <;> rfl))
  simp only [d19, hs, reduceCtorEq] at h
  cases d23 : (decide (x3_a3 < 1))
  ·simp only [d23, hs, reduceCtorEq] at h
   cases d24 : (decide (x3_a3 > 100))
   ·simp only [d24, hs, reduceCtorEq] at h
    cases o26 : (g_sight_Light x0_s x1_a1 x2_a2) with
    | none =>
     simp only [o26, hs, reduceCtorEq] at h
     exact absurd h kN
    | some r25 =>
     simp only [o26, hs, reduceCtorEq] at h
     simp only [vz, tyf, e14, e15, e16, e17, e18, d19, d23, d24, nm, seval]
     refine ktree (args0 := [.agg (cGSightStreet x0_s), .lit (.int .i64 x1_a1), .agg (cGSightPlace x2_a2)]) (by first | (simp only [nrm, tynrm] <;> rfl) | rfl) (by simp only [tre, tytre, Bool.and_self]) (g_sight_Light_ok _ _ _ _ o26) ?_
     refine fin_cut (fun tm => tm 1 = .lit (.int .i64 x1_a1) ∧ tm 3 = .lit (.int .i64 x3_a3) ∧ tm 4 = .ptr 0 0 ∧ tm 6 = .ptr 1 0 ∧ tm 31 = .tup [.lit (.int .i64 r25.1), .lit (.int .i64 r25.2)] ∧ True) (by refine ⟨e14, e15, e16, e17, ?_, trivial⟩ <;> first | (simp only [ua, e14, e15, e16, e17, e18, d19, d23, d24, nm, seval] <;> rfl) | rfl) ?_
     rintro tm ⟨e27, e28, e29, e30, e31, _⟩
     simp only [vz, tyf, d19, d23, d24, e27, e28, e29, e30, e31, nm, seval]
     refine cwp_drwQF (fun tm => tm 1 = .lit (.int .i64 x1_a1) ∧ tm 3 = .lit (.int .i64 x3_a3) ∧ tm 4 = .ptr 0 0 ∧ tm 6 = .ptr 1 0 ∧ tm 9 = .lit (.int .i64 r25.1) ∧ tm 10 = .lit (.int .i64 r25.2) ∧ True) (by refine ⟨e27, e28, e29, e30, ?_, ?_, trivial⟩ <;> first | (simp only [ua, d19, d23, d24, e27, e28, e29, e30, e31, nm, seval] <;> rfl) | rfl) ?_
     rintro tm ⟨e32, e33, e34, e35, e36, e37, _⟩
     cases o39 : (g_ref02_Lit x0_s x3_a3) with
     | none =>
      simp only [o39, hs, reduceCtorEq] at h
      exact absurd h kN
     | some r38 =>
      simp only [o39, hs, reduceCtorEq] at h
      simp only [vz, tyf, d19, d23, d24, e32, e33, e34, e35, e36, e37, nm, seval]
      refine dktree (args0 := [.agg (cGSightStreet x0_s), .lit (.int .i64 x3_a3)]) (by first | (simp only [nrm, tynrm] <;> rfl) | rfl) (by simp only [tre, tytre, Bool.and_self]) (g_ref02_Lit_ok _ _ _ o39) ?_
      refine fin_cut (fun tm => tm 1 = .lit (.int .i64 x1_a1) ∧ tm 3 = .lit (.int .i64 x3_a3) ∧ tm 6 = .ptr 1 0 ∧ tm 9 = .lit (.int .i64 r25.1) ∧ tm 10 = .lit (.int .i64 r25.2) ∧ tm 37 = .agg (cGSightStreet r38) ∧ True) (by refine ⟨e32, e33, e35, e36, e37, ?_, trivial⟩ <;> first | (simp only [ua, d19, d23, d24, e32, e33, e34, e35, e36, e37, nm, seval] <;> rfl) | rfl) ?_
      rintro tm ⟨e40, e41, e42, e43, e44, e45, _⟩
      cases o47 : (g_sight_Seen r38 x1_a1 x2_a2) with
      | none =>
       simp only [o47, hs, reduceCtorEq] at h
       exact absurd h kN
      | some r46 =>
       simp only [o47, hs, reduceCtorEq] at h
       simp only [vz, tyf, d19, d23, d24, e40, e41, e42, e43, e44, e45, nm, seval]
       refine dktree (args0 := [.agg (cGSightStreet r38), .lit (.int .i64 x1_a1), .agg (cGSightPlace x2_a2)]) (by first | (simp only [nrm, tynrm] <;> rfl) | rfl) (by simp only [tre, tytre, Bool.and_self]) (g_sight_Seen_ok _ _ _ _ o47) ?_
       refine fin_cut (fun tm => tm 3 = .lit (.int .i64 x3_a3) ∧ tm 9 = .lit (.int .i64 r25.1) ∧ tm 10 = .lit (.int .i64 r25.2) ∧ tm 40 = .tup [.lit (.int .i64 r46.1), .lit (.int .i64 r46.2)] ∧ True) (by refine ⟨e41, e43, e44, ?_, trivial⟩ <;> first | (simp only [ua, d19, d23, d24, e40, e41, e42, e43, e44, e45, nm, seval] <;> rfl) | rfl) ?_
       rintro tm ⟨e48, e49, e50, e51, _⟩
       cases d52 : (r46.2 != 0)
       ·simp only [d52, hs, reduceCtorEq] at h
        cases d53 : (r25.2 != 0)
        ·simp only [d53, hs, reduceCtorEq] at h
         cases d54 : (r25.2 == 0)
         ·simp only [d54, hs, reduceCtorEq] at h
          cases d55 : ((r46.1 == 3) == false)
          ·simp only [d55, hs, reduceCtorEq] at h
           simp only [vz, tyf, d19, d23, d24, e48, e49, e50, e51, d52, d53, d54, d55, nm, seval]
           obtain rfl := kF _ h
           exact opd_bool Tryz.results12 (by first | rfl | (simp only [upd_apply, e48, e49, e50, e51, seval] <;> rfl))
          simp only [d55, hs, reduceCtorEq] at h
          cases o57 : (g_law02_known ) with
          | none =>
           simp only [o57, hs, reduceCtorEq] at h
           exact absurd h kN
          | some r56 =>
           simp only [o57, hs, reduceCtorEq] at h
           simp only [vz, tyf, d19, d23, d24, e48, e49, e50, e51, d52, d53, d54, d55, nm, seval]
           refine ktree (args0 := []) (by first | (simp only [nrm, tynrm] <;> rfl) | rfl) (by simp only [tre, tytre, Bool.and_self]) (g_law02_known_ok  _ o57) ?_
           refine fin_cut (fun tm => tm 75 = .lit (.bool true) ∧ tm 76 = .lit (.bool r56) ∧ True) (by refine ⟨?_, ?_, trivial⟩ <;> first | (simp only [ua, d19, d23, d24, e48, e49, e50, e51, d52, d53, d54, d55, nm, seval] <;> rfl) | rfl) ?_
           rintro tm ⟨e58, e59, _⟩
           simp only [vz, tyf, d19, d23, d24, d52, d53, d54, d55, e58, e59, nm, seval]
           obtain rfl := kF _ h
           exact opd_bool Tryz.results12 (by first | rfl | (simp only [upd_apply, e58, e59, seval] <;> rfl))
         simp only [d54, hs, reduceCtorEq] at h
         cases d60 : (decide (r25.1 < 1))
         ·simp only [d60, hs, reduceCtorEq] at h
          cases d61 : (decide (r25.1 > 100))
          ·simp only [d61, hs, reduceCtorEq] at h
           cases d62 : ((r46.1 == 3) == (decide (x3_a3 ≥ r25.1)))
           ·simp only [d62, hs, reduceCtorEq] at h
            simp only [vz, tyf, d19, d23, d24, e48, e49, e50, e51, d52, d53, d54, d60, d61, d62, nm, seval]
            obtain rfl := kF _ h
            exact opd_bool Tryz.results12 (by first | rfl | (simp only [upd_apply, e48, e49, e50, e51, seval] <;> rfl))
           simp only [d62, hs, reduceCtorEq] at h
           cases o64 : (g_law02_known ) with
           | none =>
            simp only [o64, hs, reduceCtorEq] at h
            exact absurd h kN
           | some r63 =>
            simp only [o64, hs, reduceCtorEq] at h
            simp only [vz, tyf, d19, d23, d24, e48, e49, e50, e51, d52, d53, d54, d60, d61, d62, nm, seval]
            refine ktree (args0 := []) (by first | (simp only [nrm, tynrm] <;> rfl) | rfl) (by simp only [tre, tytre, Bool.and_self]) (g_law02_known_ok  _ o64) ?_
            refine fin_cut (fun tm => tm 75 = .lit (.bool true) ∧ tm 76 = .lit (.bool r63) ∧ True) (by refine ⟨?_, ?_, trivial⟩ <;> first | (simp only [ua, d19, d23, d24, e48, e49, e50, e51, d52, d53, d54, d60, d61, d62, nm, seval] <;> rfl) | rfl) ?_
            rintro tm ⟨e65, e66, _⟩
            simp only [vz, tyf, d19, d23, d24, d52, d53, d54, d60, d61, d62, e65, e66, nm, seval]
            obtain rfl := kF _ h
            exact opd_bool Tryz.results12 (by first | rfl | (simp only [upd_apply, e65, e66, seval] <;> rfl))
          simp only [d61, hs, reduceCtorEq] at h
          simp only [vz, tyf, d19, d23, d24, e48, e49, e50, e51, d52, d53, d54, d60, d61, nm, seval]
          obtain rfl := kF _ h
          exact opd_bool Tryz.results12 (by first | rfl | (simp only [upd_apply, e48, e49, e50, e51, seval] <;> rfl))
         simp only [d60, hs, reduceCtorEq] at h
         simp only [vz, tyf, d19, d23, d24, e48, e49, e50, e51, d52, d53, d54, d60, nm, seval]
         obtain rfl := kF _ h
         exact opd_bool Tryz.results12 (by first | rfl | (simp only [upd_apply, e48, e49, e50, e51, seval] <;> rfl))
        simp only [d53, hs, reduceCtorEq] at h
        cases d67 : (r25.2 != 5)
        ·simp only [d67, hs, reduceCtorEq] at h
         cases d68 : (r25.2 == 0)
         ·simp only [d68, hs, reduceCtorEq] at h
          cases d69 : ((r46.1 == 3) == false)
          ·simp only [d69, hs, reduceCtorEq] at h
           simp only [vz, tyf, d19, d23, d24, e48, e49, e50, e51, d52, d53, d67, d68, d69, nm, seval]
           obtain rfl := kF _ h
           exact opd_bool Tryz.results12 (by first | rfl | (simp only [upd_apply, e48, e49, e50, e51, seval] <;> rfl))
          simp only [d69, hs, reduceCtorEq] at h
          cases o71 : (g_law02_known ) with
          | none =>
           simp only [o71, hs, reduceCtorEq] at h
           exact absurd h kN
          | some r70 =>
           simp only [o71, hs, reduceCtorEq] at h
           simp only [vz, tyf, d19, d23, d24, e48, e49, e50, e51, d52, d53, d67, d68, d69, nm, seval]
           refine ktree (args0 := []) (by first | (simp only [nrm, tynrm] <;> rfl) | rfl) (by simp only [tre, tytre, Bool.and_self]) (g_law02_known_ok  _ o71) ?_
           refine fin_cut (fun tm => tm 75 = .lit (.bool true) ∧ tm 76 = .lit (.bool r70) ∧ True) (by refine ⟨?_, ?_, trivial⟩ <;> first | (simp only [ua, d19, d23, d24, e48, e49, e50, e51, d52, d53, d67, d68, d69, nm, seval] <;> rfl) | rfl) ?_
           rintro tm ⟨e72, e73, _⟩
           simp only [vz, tyf, d19, d23, d24, d52, d53, d67, d68, d69, e72, e73, nm, seval]
           obtain rfl := kF _ h
           exact opd_bool Tryz.results12 (by first | rfl | (simp only [upd_apply, e72, e73, seval] <;> rfl))
         simp only [d68, hs, reduceCtorEq] at h
         cases d74 : (decide (r25.1 < 1))
         ·simp only [d74, hs, reduceCtorEq] at h
          cases d75 : (decide (r25.1 > 100))
          ·simp only [d75, hs, reduceCtorEq] at h
           cases d76 : ((r46.1 == 3) == (decide (x3_a3 ≥ r25.1)))
           ·simp only [d76, hs, reduceCtorEq] at h
            simp only [vz, tyf, d19, d23, d24, e48, e49, e50, e51, d52, d53, d67, d68, d74, d75, d76, nm, seval]
            obtain rfl := kF _ h
            exact opd_bool Tryz.results12 (by first | rfl | (simp only [upd_apply, e48, e49, e50, e51, seval] <;> rfl))
           simp only [d76, hs, reduceCtorEq] at h
           cases o78 : (g_law02_known ) with
           | none =>
            simp only [o78, hs, reduceCtorEq] at h
            exact absurd h kN
           | some r77 =>
            simp only [o78, hs, reduceCtorEq] at h
            simp only [vz, tyf, d19, d23, d24, e48, e49, e50, e51, d52, d53, d67, d68, d74, d75, d76, nm, seval]
            refine ktree (args0 := []) (by first | (simp only [nrm, tynrm] <;> rfl) | rfl) (by simp only [tre, tytre, Bool.and_self]) (g_law02_known_ok  _ o78) ?_
            refine fin_cut (fun tm => tm 75 = .lit (.bool true) ∧ tm 76 = .lit (.bool r77) ∧ True) (by refine ⟨?_, ?_, trivial⟩ <;> first | (simp only [ua, d19, d23, d24, e48, e49, e50, e51, d52, d53, d67, d68, d74, d75, d76, nm, seval] <;> rfl) | rfl) ?_
            rintro tm ⟨e79, e80, _⟩
            simp only [vz, tyf, d19, d23, d24, d52, d53, d67, d68, d74, d75, d76, e79, e80, nm, seval]
            obtain rfl := kF _ h
            exact opd_bool Tryz.results12 (by first | rfl | (simp only [upd_apply, e79, e80, seval] <;> rfl))
          simp only [d75, hs, reduceCtorEq] at h
          simp only [vz, tyf, d19, d23, d24, e48, e49, e50, e51, d52, d53, d67, d68, d74, d75, nm, seval]
          obtain rfl := kF _ h
          exact opd_bool Tryz.results12 (by first | rfl | (simp only [upd_apply, e48, e49, e50, e51, seval] <;> rfl))
         simp only [d74, hs, reduceCtorEq] at h
         simp only [vz, tyf, d19, d23, d24, e48, e49, e50, e51, d52, d53, d67, d68, d74, nm, seval]
         obtain rfl := kF _ h
         exact opd_bool Tryz.results12 (by first | rfl | (simp only [upd_apply, e48, e49, e50, e51, seval] <;> rfl))
        simp only [d67, hs, reduceCtorEq] at h
        simp only [vz, tyf, d19, d23, d24, e48, e49, e50, e51, d52, d53, d67, nm, seval]
        obtain rfl := kF _ h
        exact opd_bool Tryz.results12 (by first | rfl | (simp only [upd_apply, e48, e49, e50, e51, seval] <;> rfl))
       simp only [d52, hs, reduceCtorEq] at h
       simp only [vz, tyf, d19, d23, d24, e48, e49, e50, e51, d52, nm, seval]
       obtain rfl := kF _ h
       exact opd_bool Tryz.results12 (by first | rfl | (simp only [upd_apply, e48, e49, e50, e51, seval] <;> rfl))
   simp only [d24, hs, reduceCtorEq] at h
   cases o82 : (g_law02_known ) with
   | none =>
    simp only [o82, hs, reduceCtorEq] at h
    exact absurd h kN
   | some r81 =>
    simp only [o82, hs, reduceCtorEq] at h
    simp only [vz, tyf, e14, e15, e16, e17, e18, d19, d23, d24, nm, seval]
    refine ktree (args0 := []) (by first | (simp only [nrm, tynrm] <;> rfl) | rfl) (by simp only [tre, tytre, Bool.and_self]) (g_law02_known_ok  _ o82) ?_
    refine fin_cut (fun tm => tm 26 = .lit (.bool r81) ∧ True) (by refine ⟨?_, trivial⟩ <;> first | (simp only [ua, e14, e15, e16, e17, e18, d19, d23, d24, nm, seval] <;> rfl) | rfl) ?_
    rintro tm ⟨e83, _⟩
    simp only [vz, tyf, d19, d23, d24, e83, nm, seval]
    obtain rfl := kF _ h
    exact opd_bool Tryz.results12 (by first | rfl | (simp only [upd_apply, e83, seval] <;> rfl))
  simp only [d23, hs, reduceCtorEq] at h
  cases o85 : (g_law02_known ) with
  | none =>
   simp only [o85, hs, reduceCtorEq] at h
   exact absurd h kN
  | some r84 =>
   simp only [o85, hs, reduceCtorEq] at h
   simp only [vz, tyf, e14, e15, e16, e17, e18, d19, d23, nm, seval]
   refine ktree (args0 := []) (by first | (simp only [nrm, tynrm] <;> rfl) | rfl) (by simp only [tre, tytre, Bool.and_self]) (g_law02_known_ok  _ o85) ?_
   refine fin_cut (fun tm => tm 26 = .lit (.bool r84) ∧ True) (by refine ⟨?_, trivial⟩ <;> first | (simp only [ua, e14, e15, e16, e17, e18, d19, d23, nm, seval] <;> rfl) | rfl) ?_
   rintro tm ⟨e86, _⟩
   simp only [vz, tyf, d19, d23, e86, nm, seval]
   obtain rfl := kF _ h
   exact opd_bool Tryz.results12 (by first | rfl | (simp only [upd_apply, e86, seval] <;> rfl))
end Go.V
end
section
namespace Go.V
open Go
theorem right_eq (s : GSightStreet) (n : Int) (p : GSightPlace) (h : FineS s) (bs : Bool) (hb : g_law02_short s = some bs) : g_law02_right s n p = some (bs && (streetB s && (numB s n && placeB s p))) := by
 simp only [g_law02_right, hb, Option.bind_some, refStreet_eq s h, refBoard_eq, refPlace_eq, csome, numB]
def litS (s : GSightStreet) (l : Int) : GSightStreet := ⟨s.Length, s.Width, s.Eye, ⟨l, l⟩, s.Boards, s.Blocks⟩
theorem lit_good {s : GSightStreet} {b : GSightBoard} {p : GSightPlace} {l : Int} (h : Good s b p) (h1 : 1 ≤ l) (h2 : l ≤ 100) : Good (litS s l) b p :=
 ⟨h.el, h.em, h.eh, h1, Int.le_refl _, h2, h.a0, h.a1, h.n1, h.n5, h.lets, h.last, h.p0, h.p1, h.q0, h.q1, h.nb, h.blks⟩
theorem surely_eq {s : GSightStreet} {b : GSightBoard} {p : GSightPlace} (h : Good s b p) : g_sight_isSurelyRead s b p = some (sureB s b p) := by
 obtain ⟨hp, hl, hk, w1, w2⟩ := goods h
 have r1 := isRead_eq ⟨s, p, b, s.Eye.Low * s.Light.Low⟩ hp w1 hl h.n1 h.n5 hk h.nb
 simp only [g_sight_isSurelyRead, g_sight_atWorst, pw_wrap w1, Option.bind_some, r1, readB, sureB]
theorem lit_mono {s : GSightStreet} {b : GSightBoard} {p : GSightPlace} {l m : Int} (h : Good s b p) (h1 : 1 ≤ l) (h2 : l ≤ m) (h3 : m ≤ 100) (hs : sureB (litS s l) b p = true) : sureB (litS s m) b p = true := by
 obtain ⟨hp, hl, hk, w1, w2⟩ := goods (lit_good h h1 (by omega))
 have he := h.el
 unfold sureB at hs ⊢
 rw [Bool.and_eq_true] at hs ⊢
 exact ⟨clear_mono hl hp w1.1 (Int.mul_le_mul_of_nonneg_left h2 (by have := h.el; show 0 ≤ s.Eye.Low; omega)) hs.1, hs.2⟩
theorem light_l0 {s : GSightStreet} {b : GSightBoard} {p : GSightPlace} {n : Int} (h : Good s b p) (hb : getI s.Boards n = some b) : ∀ (k : Nat) (c x y : Int), 0 ≤ c → c + k ≤ 100 →
  (∃ v, c + 1 ≤ v ∧ v ≤ c + k ∧ sureB (litS s v) b p = true ∧ (∀ u, c + 1 ≤ u → u < v → sureB (litS s u) b p = false) ∧ g_sight_Light_l0 s n p k c x y = some (.ret (v, 0))) ∨
  ((∀ u, c + 1 ≤ u → u ≤ c + k → sureB (litS s u) b p = false) ∧ ∃ z, g_sight_Light_l0 s n p k c x y = some (.go z))
 | 0, c, x, y, _, _ => .inr ⟨fun u h1 h2 => by omega, ⟨_, rfl⟩⟩
 | k + 1, c, x, y, h0, hk => by
  have hs := surely_eq (lit_good (l := c + 1) h (by omega) (by omega))
  unfold litS at hs
  unfold g_sight_Light_l0
  simp only [hb, Option.bind_some, hs]
  cases hf : sureB (litS s (c + 1)) b p with
  | true =>
   unfold litS at hf
   rw [hf]
   exact .inl ⟨c + 1, by omega, by omega, hf, fun u h1 h2 => by omega, rfl⟩
  | false =>
   have hf' := hf
   unfold litS at hf'
   rw [hf']
   rcases light_l0 h hb k (c + 1) (c + 1) (c + 1) (by omega) (by omega) with ⟨v, h1, h2, h3, h4, h5⟩ | ⟨h1, h2⟩
   ·refine .inl ⟨v, by omega, by omega, h3, ?_, h5⟩
    intro u u1 u2
    by_cases hu : u = c + 1
    ·rw [hu]; exact hf
    ·exact h4 u (by omega) u2
   ·refine .inr ⟨?_, h2⟩
    intro u u1 u2
    by_cases hu : u = c + 1
    ·rw [hu]; exact hf
    ·exact h1 u (by omega) (by omega)
theorem seen3 (s : GSightStreet) (b : GSightBoard) (p : GSightPlace) : (seenI s b p == 3) = sureB s b p := by
 unfold seenI
 cases sureB s b p <;> cases mayB s b p <;> rfl
theorem SightLit_true (s : GSightStreet) (n : Int) (p : GSightPlace) (l : Int) (h : FineS s) : g_law02_SightLit s n p l = some true := by
 obtain ⟨bs, hb⟩ := short_some s h
 simp only [g_law02_SightLit, right_eq s n p h bs hb, Option.bind_some, g_law02_known]
 cases hr : (bs && (streetB s && (numB s n && placeB s p))) with
 | false => rfl
 | true =>
  simp only [Bool.and_eq_true] at hr
  obtain ⟨_, h1, h2, h3⟩ := hr
  simp only [cond_true]
  by_cases c1 : l < 1
  ·simp only [c1, decide_true, cond_true]
  by_cases c2 : l > 100
  ·simp only [c1, c2, decide_true, decide_false, cond_true, cond_false]
  simp only [c1, c2, decide_false, cond_false]
  obtain ⟨b, b1, b2, b3⟩ := good_of h1 h2 h3
  have h1' : streetB (litS s l) = true := by
   simp only [streetB, Bool.and_eq_true, spanB_iff, litS] at h1 ⊢
   refine ⟨h1.1, h1.2.1, h1.2.2.1, ⟨?_, ?_, ?_⟩, h1.2.2.2.2⟩ <;> omega
  have x1 : g_sight_Seen (litS s l) n p = some (seenI (litS s l) b p, 0) := by
   rcases Seen_eq (litS s l) n p h with ⟨b', b1', _, _, _, _, _, ee⟩ | ⟨g1, ee⟩
   ·have b1'' : getI s.Boards n = some b' := b1'
    rw [b1] at b1''; cases b1''
    exact ee
   ·have h2' : numB (litS s l) n = true := h2
    have h3' : placeB (litS s l) p = true := h3
    rw [h1', h2', h3'] at g1
    cases g1
  have e1 : boundOk 100 = true := rfl
  have e2 : Int.toNat (100 - 0) = 100 := rfl
  have x2 : g_ref02_Lit s l = some (litS s l) := rfl
  have x3 := isView_eq s n p h
  rw [h1, h2, h3] at x3
  simp only [g_sight_Light, x3, Option.bind_some, Bool.and_self, cond_true, e1, e2, x2, x1, bne_self_eq_false, cond_false, seen3]
  rcases light_l0 b3 b1 100 0 s.Light.Low s.Light.High (by omega) (by omega) with ⟨v, v1, v2, v3, v4, ee⟩ | ⟨v1, z, ee⟩
  ·rw [ee]
   have d1 : decide (v < 1) = false := decide_eq_false (by omega)
   have d2 : decide (v > 100) = false := decide_eq_false (by omega)
   have d3 : sureB (litS s l) b p = decide (l ≥ v) := by
    by_cases hlv : l ≥ v
    ·rw [decide_eq_true hlv]
     exact lit_mono b3 (by omega) hlv (by omega) v3
    ·rw [decide_eq_false hlv]
     exact v4 l (by omega) (by omega)
   simp only [lbind_ret, Option.bind_some, bne_self_eq_false, cond_false, beq_self_eq_true, cond_true, d1, d2, d3]
  ·rw [ee]
   have d3 := v1 l (by omega) (by omega)
   simp only [lbind_go, Option.bind_some, d3]
   rfl
end Go.V
end
