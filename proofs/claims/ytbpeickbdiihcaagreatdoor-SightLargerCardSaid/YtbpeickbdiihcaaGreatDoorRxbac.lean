/- Part of a proof: a logic of values by content, lifted functions, what follows. -/
import Derived.Test.YtbpeickbdiihcaaGreatDoorRbc
import Derived.Test.YtbpeickbdiihcaaGreatDoorRbd
import Derived.Test.YtbpeickbdiihcaaGreatDoorRbf
import Derived.Test.YtbpeickbdiihcaaGreatDoorRbg
import Derived.Test.YtbpeickbdiihcaaGreatDoorRbj
import Derived.Test.YtbpeickbdiihcaaGreatDoorRbl
import Derived.Test.YtbpeickbdiihcaaGreatDoorRbk
set_option linter.all false
set_option maxRecDepth 4000
set_option maxHeartbeats 4000000
section
set_option maxRecDepth 100000
namespace Go.V
open Go Go.Proofs
def Ok_GSightBoard (x : GSightBoard) : Prop := lenOk x.Letters = true
def Ok_GSightStreet (x : GSightStreet) : Prop := lenOk x.Boards = true ∧ (∀ y ∈ x.Boards, Ok_GSightBoard y) ∧ lenOk x.Blocks = true
section
variable {P : Program} (hu3 : P.underlying 3 = some (.int .i64)) {f23 : Array Field} (hu23 : P.underlying 23 = some (.struct f23)) (ht23 : f23.toList.map Field.type = [3, 3]) {f61 : Array Field} (hu61 : P.underlying 61 = some (.struct f61)) (ht61 : f61.toList.map Field.type = [3, 3, 3, 3]) (hu40 : P.underlying 40 = some (.slice 61)) {f42 : Array Field} (hu42 : P.underlying 42 = some (.struct f42)) (ht42 : f42.toList.map Field.type = [3, 40]) (hu24 : P.underlying 24 = some (.slice 42)) (hu4 : P.underlying 4 = some (.bool)) {f68 : Array Field} (hu68 : P.underlying 68 = some (.struct f68)) (ht68 : f68.toList.map Field.type = [23, 23, 4]) (hu25 : P.underlying 25 = some (.slice 68)) {f27 : Array Field} (hu27 : P.underlying 27 = some (.struct f27)) (ht27 : f27.toList.map Field.type = [3, 3, 23, 23, 24, 25]) {f29 : Array Field} (hu29 : P.underlying 29 = some (.struct f29)) (ht29 : f29.toList.map Field.type = [3, 3])
include hu3 hu23 ht23 hu61 ht61 hu40 hu42 ht42 hu24 hu4 hu68 ht68 hu25 hu27 ht27 hu29 ht29
theorem gd_3 {n : Nat} : Dec P (n + 1) 3 eI (fun _ => True) := dec_int hu3
theorem gd_23 {n : Nat} : Dec P (n + 2) 23 cGSpan (fun _ => True) := by
 intro xs h
 obtain ⟨yss, hf, rfl⟩ := dec_struct (n := n + 1) (ts := [3, 3]) hu23 ht23 h
 match yss, hf with
 | [y0, y1], ⟨h0, h1, _⟩ =>
  obtain ⟨x0, r0, e0⟩ := gd_3 hu3 hu23 ht23 hu61 ht61 hu40 hu42 ht42 hu24 hu4 hu68 ht68 hu25 hu27 ht27 hu29 ht29 (n := n + 0) _ h0
  obtain ⟨x1, r1, e1⟩ := gd_3 hu3 hu23 ht23 hu61 ht61 hu40 hu42 ht42 hu24 hu4 hu68 ht68 hu25 hu27 ht27 hu29 ht29 (n := n + 0) _ h1
  exact ⟨⟨x0, x1⟩, trivial, by simp only [List.flatten_cons, List.flatten_nil, List.append_nil, normL_append, e0, e1, eI, eU8, eB, eS, eSl, cGSpan_eq, List.cons_append, List.nil_append]⟩
theorem gd_61 {n : Nat} : Dec P (n + 2) 61 cGSightLetter (fun _ => True) := by
 intro xs h
 obtain ⟨yss, hf, rfl⟩ := dec_struct (n := n + 1) (ts := [3, 3, 3, 3]) hu61 ht61 h
 match yss, hf with
 | [y0, y1, y2, y3], ⟨h0, h1, h2, h3, _⟩ =>
  obtain ⟨x0, r0, e0⟩ := gd_3 hu3 hu23 ht23 hu61 ht61 hu40 hu42 ht42 hu24 hu4 hu68 ht68 hu25 hu27 ht27 hu29 ht29 (n := n + 0) _ h0
  obtain ⟨x1, r1, e1⟩ := gd_3 hu3 hu23 ht23 hu61 ht61 hu40 hu42 ht42 hu24 hu4 hu68 ht68 hu25 hu27 ht27 hu29 ht29 (n := n + 0) _ h1
  obtain ⟨x2, r2, e2⟩ := gd_3 hu3 hu23 ht23 hu61 ht61 hu40 hu42 ht42 hu24 hu4 hu68 ht68 hu25 hu27 ht27 hu29 ht29 (n := n + 0) _ h2
  obtain ⟨x3, r3, e3⟩ := gd_3 hu3 hu23 ht23 hu61 ht61 hu40 hu42 ht42 hu24 hu4 hu68 ht68 hu25 hu27 ht27 hu29 ht29 (n := n + 0) _ h3
  exact ⟨⟨x0, x1, x2, x3⟩, trivial, by simp only [List.flatten_cons, List.flatten_nil, List.append_nil, normL_append, e0, e1, e2, e3, eI, eU8, eB, eS, eSl, cGSightLetter_eq, List.cons_append, List.nil_append]⟩
theorem gd_40 {n : Nat} : Dec P (n + 3) 40 (eSl cGSightLetter) (fun l => lenOk l = true ∧ ∀ x ∈ l, True) := dec_slice hu40 (gd_61 hu3 hu23 ht23 hu61 ht61 hu40 hu42 ht42 hu24 hu4 hu68 ht68 hu25 hu27 ht27 hu29 ht29 (n := n))
theorem gd_42 {n : Nat} : Dec P (n + 4) 42 cGSightBoard (Ok_GSightBoard) := by
 intro xs h
 obtain ⟨yss, hf, rfl⟩ := dec_struct (n := n + 3) (ts := [3, 40]) hu42 ht42 h
 match yss, hf with
 | [y0, y1], ⟨h0, h1, _⟩ =>
  obtain ⟨x0, r0, e0⟩ := gd_3 hu3 hu23 ht23 hu61 ht61 hu40 hu42 ht42 hu24 hu4 hu68 ht68 hu25 hu27 ht27 hu29 ht29 (n := n + 2) _ h0
  obtain ⟨x1, r1, e1⟩ := gd_40 hu3 hu23 ht23 hu61 ht61 hu40 hu42 ht42 hu24 hu4 hu68 ht68 hu25 hu27 ht27 hu29 ht29 (n := n + 0) _ h1
  exact ⟨⟨x0, x1⟩, r1.1, by simp only [List.flatten_cons, List.flatten_nil, List.append_nil, normL_append, e0, e1, eI, eU8, eB, eS, eSl, cGSightBoard_eq, List.cons_append, List.nil_append]⟩
theorem gd_24 {n : Nat} : Dec P (n + 5) 24 (eSl cGSightBoard) (fun l => lenOk l = true ∧ ∀ x ∈ l, Ok_GSightBoard x) := dec_slice hu24 (gd_42 hu3 hu23 ht23 hu61 ht61 hu40 hu42 ht42 hu24 hu4 hu68 ht68 hu25 hu27 ht27 hu29 ht29 (n := n))
theorem gd_4 {n : Nat} : Dec P (n + 1) 4 eB (fun _ => True) := dec_bool hu4
theorem gd_68 {n : Nat} : Dec P (n + 3) 68 cGSightBlock (fun _ => True) := by
 intro xs h
 obtain ⟨yss, hf, rfl⟩ := dec_struct (n := n + 2) (ts := [23, 23, 4]) hu68 ht68 h
 match yss, hf with
 | [y0, y1, y2], ⟨h0, h1, h2, _⟩ =>
  obtain ⟨x0, r0, e0⟩ := gd_23 hu3 hu23 ht23 hu61 ht61 hu40 hu42 ht42 hu24 hu4 hu68 ht68 hu25 hu27 ht27 hu29 ht29 (n := n + 0) _ h0
  obtain ⟨x1, r1, e1⟩ := gd_23 hu3 hu23 ht23 hu61 ht61 hu40 hu42 ht42 hu24 hu4 hu68 ht68 hu25 hu27 ht27 hu29 ht29 (n := n + 0) _ h1
  obtain ⟨x2, r2, e2⟩ := gd_4 hu3 hu23 ht23 hu61 ht61 hu40 hu42 ht42 hu24 hu4 hu68 ht68 hu25 hu27 ht27 hu29 ht29 (n := n + 1) _ h2
  exact ⟨⟨x0, x1, x2⟩, trivial, by simp only [List.flatten_cons, List.flatten_nil, List.append_nil, normL_append, e0, e1, e2, eI, eU8, eB, eS, eSl, cGSightBlock_eq, cGSpan_eq, List.cons_append, List.nil_append]⟩
theorem gd_25 {n : Nat} : Dec P (n + 4) 25 (eSl cGSightBlock) (fun l => lenOk l = true ∧ ∀ x ∈ l, True) := dec_slice hu25 (gd_68 hu3 hu23 ht23 hu61 ht61 hu40 hu42 ht42 hu24 hu4 hu68 ht68 hu25 hu27 ht27 hu29 ht29 (n := n))
theorem gd_27 {n : Nat} : Dec P (n + 6) 27 cGSightStreet (Ok_GSightStreet) := by
 intro xs h
 obtain ⟨yss, hf, rfl⟩ := dec_struct (n := n + 5) (ts := [3, 3, 23, 23, 24, 25]) hu27 ht27 h
 match yss, hf with
 | [y0, y1, y2, y3, y4, y5], ⟨h0, h1, h2, h3, h4, h5, _⟩ =>
  obtain ⟨x0, r0, e0⟩ := gd_3 hu3 hu23 ht23 hu61 ht61 hu40 hu42 ht42 hu24 hu4 hu68 ht68 hu25 hu27 ht27 hu29 ht29 (n := n + 4) _ h0
  obtain ⟨x1, r1, e1⟩ := gd_3 hu3 hu23 ht23 hu61 ht61 hu40 hu42 ht42 hu24 hu4 hu68 ht68 hu25 hu27 ht27 hu29 ht29 (n := n + 4) _ h1
  obtain ⟨x2, r2, e2⟩ := gd_23 hu3 hu23 ht23 hu61 ht61 hu40 hu42 ht42 hu24 hu4 hu68 ht68 hu25 hu27 ht27 hu29 ht29 (n := n + 3) _ h2
  obtain ⟨x3, r3, e3⟩ := gd_23 hu3 hu23 ht23 hu61 ht61 hu40 hu42 ht42 hu24 hu4 hu68 ht68 hu25 hu27 ht27 hu29 ht29 (n := n + 3) _ h3
  obtain ⟨x4, r4, e4⟩ := gd_24 hu3 hu23 ht23 hu61 ht61 hu40 hu42 ht42 hu24 hu4 hu68 ht68 hu25 hu27 ht27 hu29 ht29 (n := n + 0) _ h4
  obtain ⟨x5, r5, e5⟩ := gd_25 hu3 hu23 ht23 hu61 ht61 hu40 hu42 ht42 hu24 hu4 hu68 ht68 hu25 hu27 ht27 hu29 ht29 (n := n + 1) _ h5
  exact ⟨⟨x0, x1, x2, x3, x4, x5⟩, ⟨r4.1, r4.2, r5.1⟩, by simp only [List.flatten_cons, List.flatten_nil, List.append_nil, normL_append, e0, e1, e2, e3, e4, e5, eI, eU8, eB, eS, eSl, cGSightStreet_eq, cGSpan_eq, List.cons_append, List.nil_append]⟩
theorem gd_29 {n : Nat} : Dec P (n + 2) 29 cGSightPlace (fun _ => True) := by
 intro xs h
 obtain ⟨yss, hf, rfl⟩ := dec_struct (n := n + 1) (ts := [3, 3]) hu29 ht29 h
 match yss, hf with
 | [y0, y1], ⟨h0, h1, _⟩ =>
  obtain ⟨x0, r0, e0⟩ := gd_3 hu3 hu23 ht23 hu61 ht61 hu40 hu42 ht42 hu24 hu4 hu68 ht68 hu25 hu27 ht27 hu29 ht29 (n := n + 0) _ h0
  obtain ⟨x1, r1, e1⟩ := gd_3 hu3 hu23 ht23 hu61 ht61 hu40 hu42 ht42 hu24 hu4 hu68 ht68 hu25 hu27 ht27 hu29 ht29 (n := n + 0) _ h1
  exact ⟨⟨x0, x1⟩, trivial, by simp only [List.flatten_cons, List.flatten_nil, List.append_nil, normL_append, e0, e1, eI, eU8, eB, eS, eSl, cGSightPlace_eq, List.cons_append, List.nil_append]⟩
end
theorem dec_3 {n : Nat} : Dec Tryz.prog (n + 1) 3 eI (fun _ => True) := gd_3 Tryz.underlying3 Tryz.underlying23 (by kernel_rfl) Tryz.underlying61 (by kernel_rfl) Tryz.underlying40 Tryz.underlying42 (by kernel_rfl) Tryz.underlying24 Tryz.underlying4 Tryz.underlying68 (by kernel_rfl) Tryz.underlying25 Tryz.underlying27 (by kernel_rfl) Tryz.underlying29 (by kernel_rfl)
theorem dec_27 {n : Nat} : Dec Tryz.prog (n + 6) 27 cGSightStreet (Ok_GSightStreet) := gd_27 Tryz.underlying3 Tryz.underlying23 (by kernel_rfl) Tryz.underlying61 (by kernel_rfl) Tryz.underlying40 Tryz.underlying42 (by kernel_rfl) Tryz.underlying24 Tryz.underlying4 Tryz.underlying68 (by kernel_rfl) Tryz.underlying25 Tryz.underlying27 (by kernel_rfl) Tryz.underlying29 (by kernel_rfl)
theorem dec_29 {n : Nat} : Dec Tryz.prog (n + 2) 29 cGSightPlace (fun _ => True) := gd_29 Tryz.underlying3 Tryz.underlying23 (by kernel_rfl) Tryz.underlying61 (by kernel_rfl) Tryz.underlying40 Tryz.underlying42 (by kernel_rfl) Tryz.underlying24 Tryz.underlying4 Tryz.underlying68 (by kernel_rfl) Tryz.underlying25 Tryz.underlying27 (by kernel_rfl) Tryz.underlying29 (by kernel_rfl)
end Go.V
end
section
namespace Go.V
open Go Go.Proofs
def g_law02_right (x0_s : GSightStreet) (x1_board : Int) (x2_p : GSightPlace) : Option (Bool) := Option.bind (g_law02_short x0_s) (fun r1 => cond (r1) (Option.bind (g_ref02_Street x0_s) (fun r2 => cond (r2) (Option.bind (g_ref02_Board x0_s x1_board) (fun r3 => cond (r3) (Option.bind (g_ref02_Place x0_s x2_p) (fun r4 => some r4)) (some false))) (some false))) (some false))
theorem g_law02_right_ok (x0_s : GSightStreet) (x1_board : Int) (x2_p : GSightPlace) (R : Bool) (h : g_law02_right x0_s x1_board x2_p = some R) : VPure Tryz.prog G0 23 [.agg (cGSightStreet x0_s), .lit (.int .i64 x1_board), .agg (cGSightPlace x2_p)] (.tree (.lit (.bool R))) := by
 refine VPure.runR mixed Tryz.call23 Tryz.func23 rfl (by simp [Tryz.ntmps23]; kernel_rfl) ?_
 obtain ⟨KF, h, kF, kN⟩ := fun_intro h
 simp only [g_law02_right] at h
 cases o6 : (g_law02_short x0_s) with
 | none =>
  simp only [o6, hs, reduceCtorEq] at h
  exact absurd h kN
 | some r5 =>
  simp only [o6, hs, reduceCtorEq] at h
  simp only [vz, tyf, nm, seval]
  refine ktree (args0 := [.agg (cGSightStreet x0_s)]) (by first | (simp only [nrm, tynrm] <;> rfl) | rfl) (by simp only [tre, tytre, Bool.and_self]) (g_law02_short_ok _ _ o6) ?_
  refine fin_cut (fun tm => tm 1 = .lit (.int .i64 x1_board) ∧ tm 3 = .ptr 0 0 ∧ tm 5 = .ptr 1 0 ∧ tm 8 = .lit (.bool r5) ∧ True) (by refine ⟨?_, ?_, ?_, ?_, trivial⟩ <;> first | (simp only [ua, nm, seval] <;> rfl) | rfl) ?_
  rintro tm ⟨e7, e8, e9, e10, _⟩
  cases d11 : (r5)
  ·simp only [d11, hs, reduceCtorEq] at h
   simp only [vz, tyf, e7, e8, e9, e10, d11, nm, seval]
   obtain rfl := kF _ h
   exact opd_bool Tryz.results23 (by first | rfl | (simp only [upd_apply, seval] <;> rfl))
  simp only [d11, hs, reduceCtorEq] at h
  cases o13 : (g_ref02_Street x0_s) with
  | none =>
   simp only [o13, hs, reduceCtorEq] at h
   exact absurd h kN
  | some r12 =>
   simp only [o13, hs, reduceCtorEq] at h
   simp only [vz, tyf, e7, e8, e9, e10, d11, nm, seval]
   refine ktree (args0 := [.agg (cGSightStreet x0_s)]) (by first | (simp only [nrm, tynrm] <;> rfl) | rfl) (by simp only [tre, tytre, Bool.and_self]) (g_ref02_Street_ok _ _ o13) ?_
   refine fin_cut (fun tm => tm 1 = .lit (.int .i64 x1_board) ∧ tm 3 = .ptr 0 0 ∧ tm 5 = .ptr 1 0 ∧ tm 9 = .lit (.bool true) ∧ tm 11 = .lit (.bool r12) ∧ True) (by refine ⟨e7, e8, e9, ?_, ?_, trivial⟩ <;> first | (simp only [ua, e7, e8, e9, e10, d11, nm, seval] <;> rfl) | rfl) ?_
   rintro tm ⟨e14, e15, e16, e17, e18, _⟩
   cases d19 : (r12)
   ·simp only [d19, hs, reduceCtorEq] at h
    simp only [vz, tyf, d11, e14, e15, e16, e17, e18, d19, nm, seval]
    obtain rfl := kF _ h
    exact opd_bool Tryz.results23 (by first | rfl | (simp only [upd_apply, seval] <;> rfl))
   simp only [d19, hs, reduceCtorEq] at h
   cases o21 : (g_ref02_Board x0_s x1_board) with
   | none =>
    simp only [o21, hs, reduceCtorEq] at h
    exact absurd h kN
   | some r20 =>
    simp only [o21, hs, reduceCtorEq] at h
    simp only [vz, tyf, d11, e14, e15, e16, e17, e18, d19, nm, seval]
    refine ktree (args0 := [.agg (cGSightStreet x0_s), .lit (.int .i64 x1_board)]) (by first | (simp only [nrm, tynrm] <;> rfl) | rfl) (by simp only [tre, tytre, Bool.and_self]) (g_ref02_Board_ok _ _ _ o21) ?_
    refine fin_cut (fun tm => tm 3 = .ptr 0 0 ∧ tm 5 = .ptr 1 0 ∧ tm 13 = .lit (.bool true) ∧ tm 16 = .lit (.bool r20) ∧ True) (by refine ⟨e15, e16, ?_, ?_, trivial⟩ <;> first | (simp only [ua, d11, e14, e15, e16, e17, e18, d19, nm, seval] <;> rfl) | rfl) ?_
    rintro tm ⟨e22, e23, e24, e25, _⟩
    cases d26 : (r20)
    ·simp only [d26, hs, reduceCtorEq] at h
     simp only [vz, tyf, d11, d19, e22, e23, e24, e25, d26, nm, seval]
     obtain rfl := kF _ h
     exact opd_bool Tryz.results23 (by first | rfl | (simp only [upd_apply, seval] <;> rfl))
    simp only [d26, hs, reduceCtorEq] at h
    cases o28 : (g_ref02_Place x0_s x2_p) with
    | none =>
     simp only [o28, hs, reduceCtorEq] at h
     exact absurd h kN
    | some r27 =>
     simp only [o28, hs, reduceCtorEq] at h
     simp only [vz, tyf, d11, d19, e22, e23, e24, e25, d26, nm, seval]
     refine ktree (args0 := [.agg (cGSightStreet x0_s), .agg (cGSightPlace x2_p)]) (by first | (simp only [nrm, tynrm] <;> rfl) | rfl) (by simp only [tre, tytre, Bool.and_self]) (g_ref02_Place_ok _ _ _ o28) ?_
     refine fin_cut (fun tm => tm 18 = .lit (.bool true) ∧ tm 21 = .lit (.bool r27) ∧ True) (by refine ⟨?_, ?_, trivial⟩ <;> first | (simp only [ua, d11, d19, e22, e23, e24, e25, d26, nm, seval] <;> rfl) | rfl) ?_
     rintro tm ⟨e29, e30, _⟩
     simp only [vz, tyf, d11, d19, d26, e29, e30, nm, seval]
     obtain rfl := kF _ h
     exact opd_bool Tryz.results23 (by first | rfl | (simp only [upd_apply, seval] <;> rfl))
end Go.V
end
section
namespace Go.V
open Go Go.Proofs
def g_law02_SightLarger (x0_s : GSightStreet) (x1_a1 : Int) (x2_a2 : GSightPlace) (x3_a3 : Int) : Option (Bool) := Option.bind (g_law02_right x0_s x1_a1 x2_a2) (fun r1 => cond (r1) (cond (decide (x3_a3 < 1)) (Option.bind (g_law02_known ) (fun r2 => some r2)) (cond (decide (x3_a3 > 9)) (Option.bind (g_law02_known ) (fun r3 => some r3)) (cond (neB x0_s.Boards) (cond (roomOk 32 (List.length ([] ++ x0_s.Boards))) (Option.bind (getI x0_s.Boards x1_a1) (fun x4 => Option.bind (g_ref02_Times x4 x3_a3) (fun r5 => Option.bind (getI ([] ++ x0_s.Boards) x1_a1) (fun x6 => Option.bind (g_ref02_Street (GSightStreet.mk x0_s.Length x0_s.Width x0_s.Eye x0_s.Light (List.set ([] ++ x0_s.Boards) (Int.toNat x1_a1) r5) x0_s.Blocks)) (fun r7 => cond (r7) (Option.bind (g_sight_Least x0_s x1_a1 x2_a2) (fun r8 => Option.bind (g_sight_Seen (GSightStreet.mk x0_s.Length x0_s.Width x0_s.Eye x0_s.Light (List.set ([] ++ x0_s.Boards) (Int.toNat x1_a1) r5) x0_s.Blocks) x1_a1 x2_a2) (fun r9 => cond (r9.2 != 0) (some false) (cond (r8.2 != 0) (cond (r8.2 != 5) (some false) (cond (r8.2 == 0) (cond (decide (r8.1 < 1)) (some false) (cond (decide (r8.1 > 9)) (some false) (cond ((r9.1 == 3) == (decide (x3_a3 ≥ r8.1))) (Option.bind (g_law02_known ) (fun r10 => some r10)) (some false)))) (cond ((r9.1 == 3) == false) (Option.bind (g_law02_known ) (fun r11 => some r11)) (some false)))) (cond (r8.2 == 0) (cond (decide (r8.1 < 1)) (some false) (cond (decide (r8.1 > 9)) (some false) (cond ((r9.1 == 3) == (decide (x3_a3 ≥ r8.1))) (Option.bind (g_law02_known ) (fun r12 => some r12)) (some false)))) (cond ((r9.1 == 3) == false) (Option.bind (g_law02_known ) (fun r13 => some r13)) (some false))))))) (Option.bind (g_law02_known ) (fun r14 => some r14))))))) none) none))) (Option.bind (g_law02_known ) (fun r15 => some r15)))
theorem g_law02_SightLarger_ok (x0_s : GSightStreet) (x1_a1 : Int) (x2_a2 : GSightPlace) (x3_a3 : Int) (R : Bool) (h : g_law02_SightLarger x0_s x1_a1 x2_a2 x3_a3 = some R) : VPure Tryz.prog G0 11 [.agg (cGSightStreet x0_s), .lit (.int .i64 x1_a1), .agg (cGSightPlace x2_a2), .lit (.int .i64 x3_a3)] (.tree (.lit (.bool R))) := by
 refine VPure.runR mixed Tryz.call11 Tryz.func11 rfl (by simp [Tryz.ntmps11]; kernel_rfl) ?_
 obtain ⟨KF, h, kF, kN⟩ := fun_intro h
 simp only [g_law02_SightLarger] at h
 cases o17 : (g_law02_right x0_s x1_a1 x2_a2) with
 | none =>
  simp only [o17, hs, reduceCtorEq] at h
  exact absurd h kN
 | some r16 =>
  simp only [o17, hs, reduceCtorEq] at h
  simp only [vz, tyf, nm, seval]
  refine ktree (args0 := [.agg (cGSightStreet x0_s), .lit (.int .i64 x1_a1), .agg (cGSightPlace x2_a2)]) (by first | (simp only [nrm, tynrm] <;> rfl) | rfl) (by simp only [tre, tytre, Bool.and_self]) (g_law02_right_ok _ _ _ _ o17) ?_
  refine fin_cut (fun tm => tm 1 = .lit (.int .i64 x1_a1) ∧ tm 3 = .lit (.int .i64 x3_a3) ∧ tm 4 = .ptr 0 0 ∧ tm 6 = .ptr 1 0 ∧ tm 17 = .lit (.bool r16) ∧ True) (by refine ⟨?_, ?_, ?_, ?_, ?_, trivial⟩ <;> first | (simp only [ua, nm, seval] <;> rfl) | rfl) ?_
  rintro tm ⟨e18, e19, e20, e21, e22, _⟩
  cases d23 : (r16)
  ·simp only [d23, hs, reduceCtorEq] at h
   cases o25 : (g_law02_known ) with
   | none =>
    simp only [o25, hs, reduceCtorEq] at h
    exact absurd h kN
   | some r24 =>
    simp only [o25, hs, reduceCtorEq] at h
    simp only [vz, tyf, e18, e19, e20, e21, e22, d23, nm, seval]
    refine ktree (args0 := []) (by first | (simp only [nrm, tynrm] <;> rfl) | rfl) (by simp only [tre, tytre, Bool.and_self]) (g_law02_known_ok  _ o25) ?_
    refine fin_cut (fun tm => tm 27 = .lit (.bool r24) ∧ True) (by refine ⟨?_, trivial⟩ <;> first | (simp only [ua, e18, e19, e20, e21, e22, d23, nm, seval] <;> rfl) | rfl) ?_
    rintro tm ⟨e26, _⟩
    simp only [vz, tyf, d23, e26, nm, seval]
    obtain rfl := kF _ h
    exact opd_bool Tryz.results11 (by first | rfl | (simp only [upd_apply, seval] <;> rfl))
  simp only [d23, hs, reduceCtorEq] at h
  cases d27 : (decide (x3_a3 < 1))
  ·simp only [d27, hs, reduceCtorEq] at h
   cases d28 : (decide (x3_a3 > 9))
   ·simp only [d28, hs, reduceCtorEq] at h
    cases g29 : (neB x0_s.Boards)
    ·simp only [g29, hs, reduceCtorEq] at h
     exact absurd h kN
    simp only [g29, hs, reduceCtorEq] at h
    cases g30 : (roomOk 32 (List.length ([] ++ x0_s.Boards)))
    ·simp only [g30, hs, reduceCtorEq] at h
     exact absurd h kN
    simp only [g30, hs, reduceCtorEq] at h
    simp only [vz, tyf, e18, e19, e20, e21, e22, d23, d27, d28, g29, g30, nm, seval]
    refine k_appNS (w := 2) (enc := cGSightBoard) (ys := x0_s.Boards) (fun _ => rfl) lf24 ao24 Tryz.underlying24 g29 g30 ?_
    simp only [vz, tyf, e18, e19, e20, e21, e22, d23, d27, d28, g29, g30, nm, seval]
    refine cwp_drawTF (fun tm => tm 1 = .lit (.int .i64 x1_a1) ∧ tm 3 = .lit (.int .i64 x3_a3) ∧ tm 4 = .ptr 0 0 ∧ tm 6 = .ptr 1 0 ∧ tm 9 = .ptr 17 0 ∧ True) (by refine ⟨e18, e19, e20, e21, ?_, trivial⟩ <;> first | (simp only [ua, e18, e19, e20, e21, e22, d23, d27, d28, nm, seval] <;> rfl) | rfl) ?_
    rintro tm ⟨e31, e32, e33, e34, e35, _⟩
    cases o37 : (getI x0_s.Boards x1_a1) with
    | none =>
     simp only [o37, hs, reduceCtorEq] at h
     exact absurd h kN
    | some x36 =>
     simp only [o37, hs, reduceCtorEq] at h
     cases o39 : (g_ref02_Times x36 x3_a3) with
     | none =>
      simp only [o39, hs, reduceCtorEq] at h
      exact absurd h kN
     | some r38 =>
      simp only [o39, hs, reduceCtorEq] at h
      simp only [vz, tyf, d23, d27, d28, g29, g30, e31, e32, e33, e34, e35, (ix24 o37), nm, seval]
      refine dktree (args0 := [.agg (cGSightBoard x36), .lit (.int .i64 x3_a3)]) (by first | (simp only [nrm, tynrm] <;> rfl) | rfl) (by simp only [tre, tytre, Bool.and_self]) (g_ref02_Times_ok _ _ _ o39) ?_
      refine fin_cut (fun tm => tm 1 = .lit (.int .i64 x1_a1) ∧ tm 3 = .lit (.int .i64 x3_a3) ∧ tm 4 = .ptr 0 0 ∧ tm 6 = .ptr 1 0 ∧ tm 9 = .ptr 17 0 ∧ tm 34 = .ref 21 0 (List.length ([] ++ x0_s.Boards)) 2 (List.length ([] ++ x0_s.Boards)) ∧ tm 35 = .lit (.int .i64 x1_a1) ∧ tm 42 = .agg (cGSightBoard r38) ∧ True) (by refine ⟨e31, e32, e33, e34, e35, ?_, ?_, ?_, trivial⟩ <;> first | (simp only [ua, d23, d27, d28, e31, e32, e33, e34, e35, nm, seval] <;> rfl) | rfl) ?_
      rintro tm ⟨e40, e41, e42, e43, e44, e45, e46, e47, _⟩
      cases o49 : (getI ([] ++ x0_s.Boards) x1_a1) with
      | none =>
       simp only [o49, hs, reduceCtorEq] at h
       exact absurd h kN
      | some x48 =>
       simp only [o49, hs, reduceCtorEq] at h
       have w50 := setA (w := 2) (enc := cGSightBoard) (fun _ => rfl) o49
       have w51 := setB (w := 2) (enc := cGSightBoard) r38 (fun _ => rfl) o49
       simp only [vz, tyf, nm, seval] at w51
       have w52 := setC (w := 2) (enc := cGSightBoard) ([] ++ x0_s.Boards) (Int.toNat x1_a1) r38 (fun _ => rfl)
       simp only [vz, tyf, d23, d27, d28, g29, g30, (ix24 o37), e40, e41, e42, e43, e44, e45, e46, e47, (ixo24 o49), w50, w51, w52, nm, seval]
       refine drawK_nil ⟨?_, ?_⟩
       ·simp only [traceR_cons, traceR_nil, hitK_quiet, hitK_nil, and_true, true_and]
        repeat' (first | exact trivial | refine And.intro ?_ ?_ | rw [hitK_quiet] | rw [hitK_cons] | exact Or.inl (by decide +kernel) | exact Or.inl (by dsimp only; decide +kernel) | (refine Or.inr ⟨?_, ?_⟩ <;> simp; done) | (refine Or.inr ⟨?_, ?_⟩ <;> simp <;> omega))
       cases o54 : (g_ref02_Street (GSightStreet.mk x0_s.Length x0_s.Width x0_s.Eye x0_s.Light (List.set ([] ++ x0_s.Boards) (Int.toNat x1_a1) r38) x0_s.Blocks)) with
       | none =>
        simp only [o54, hs, reduceCtorEq] at h
        exact absurd h kN
       | some r53 =>
        simp only [o54, hs, reduceCtorEq] at h
        simp only [vz, tyf, d23, d27, d28, g29, g30, (ix24 o37), e40, e41, e42, e43, e44, e45, e46, e47, (ixo24 o49), w50, w51, w52, nm, seval]
        refine kseen (args0 := [.agg (cGSightStreet (GSightStreet.mk x0_s.Length x0_s.Width x0_s.Eye x0_s.Light (List.set ([] ++ x0_s.Boards) (Int.toNat x1_a1) r38) x0_s.Blocks))]) (by simp only [List.map_cons, List.map_nil, showV_ref, updH_apply, without_apply, cr, tyf, nrm, tynrm, d23, d27, d28, g29, g30, (ix24 o37), e40, e41, e42, e43, e44, e45, e46, e47, (ixo24 o49), w50, w51, w52, nm, seval] <;> rfl) (by simp only [List.map_cons, List.map_nil, showV_ref, updH_apply, without_apply, cr, tyf, nrm, tynrm, d23, d27, d28, g29, g30, (ix24 o37), e40, e41, e42, e43, e44, e45, e46, e47, (ixo24 o49), w50, w51, w52, nm, seval]; simp only [tre, tytre, Bool.and_self]) (g_ref02_Street_ok _ _ o54) (by first | rfl | simp only [VV.flat, flatL, Bool.and_self]) ?_
        refine fin_cut (fun tm => tm 1 = .lit (.int .i64 x1_a1) ∧ tm 3 = .lit (.int .i64 x3_a3) ∧ tm 4 = .ptr 0 0 ∧ tm 6 = .ptr 1 0 ∧ tm 9 = .ptr 17 0 ∧ tm 45 = .lit (.bool r53) ∧ True) (by refine ⟨e40, e41, e42, e43, e44, ?_, trivial⟩ <;> first | (simp only [ua, d23, d27, d28, e40, e41, e42, e43, e44, e45, e46, e47, w50, w51, w52, nm, seval] <;> rfl) | rfl) ?_
        rintro tm ⟨e55, e56, e57, e58, e59, e60, _⟩
        cases d61 : (r53)
        ·simp only [d61, hs, reduceCtorEq] at h
         cases o63 : (g_law02_known ) with
         | none =>
          simp only [o63, hs, reduceCtorEq] at h
          exact absurd h kN
         | some r62 =>
          simp only [o63, hs, reduceCtorEq] at h
          simp only [vz, tyf, d23, d27, d28, g29, g30, (ix24 o37), (ixo24 o49), w50, w51, w52, e55, e56, e57, e58, e59, e60, d61, nm, seval]
          refine ktree (args0 := []) (by first | (simp only [nrm, tynrm] <;> rfl) | rfl) (by simp only [tre, tytre, Bool.and_self]) (g_law02_known_ok  _ o63) ?_
          refine fin_cut (fun tm => tm 47 = .lit (.bool r62) ∧ True) (by refine ⟨?_, trivial⟩ <;> first | (simp only [ua, d23, d27, d28, w50, w51, w52, e55, e56, e57, e58, e59, e60, d61, nm, seval] <;> rfl) | rfl) ?_
          rintro tm ⟨e64, _⟩
          simp only [vz, tyf, d23, d27, d28, g29, g30, (ix24 o37), (ixo24 o49), w50, w51, w52, d61, e64, nm, seval]
          obtain rfl := kF _ h
          exact opd_bool Tryz.results11 (by first | rfl | (simp only [upd_apply, seval] <;> rfl))
        simp only [d61, hs, reduceCtorEq] at h
        cases o66 : (g_sight_Least x0_s x1_a1 x2_a2) with
        | none =>
         simp only [o66, hs, reduceCtorEq] at h
         exact absurd h kN
        | some r65 =>
         simp only [o66, hs, reduceCtorEq] at h
         simp only [vz, tyf, d23, d27, d28, g29, g30, (ix24 o37), (ixo24 o49), w50, w51, w52, e55, e56, e57, e58, e59, e60, d61, nm, seval]
         refine ktree (args0 := [.agg (cGSightStreet x0_s), .lit (.int .i64 x1_a1), .agg (cGSightPlace x2_a2)]) (by first | (simp only [nrm, tynrm] <;> rfl) | rfl) (by simp only [tre, tytre, Bool.and_self]) (g_sight_Least_ok _ _ _ _ o66) ?_
         refine fin_cut (fun tm => tm 1 = .lit (.int .i64 x1_a1) ∧ tm 3 = .lit (.int .i64 x3_a3) ∧ tm 6 = .ptr 1 0 ∧ tm 9 = .ptr 17 0 ∧ tm 52 = .tup [.lit (.int .i64 r65.1), .lit (.int .i64 r65.2)] ∧ True) (by refine ⟨e55, e56, e58, e59, ?_, trivial⟩ <;> first | (simp only [ua, d23, d27, d28, w50, w51, w52, e55, e56, e57, e58, e59, e60, d61, nm, seval] <;> rfl) | rfl) ?_
         rintro tm ⟨e67, e68, e69, e70, e71, _⟩
         cases o73 : (g_sight_Seen (GSightStreet.mk x0_s.Length x0_s.Width x0_s.Eye x0_s.Light (List.set ([] ++ x0_s.Boards) (Int.toNat x1_a1) r38) x0_s.Blocks) x1_a1 x2_a2) with
         | none =>
          simp only [o73, hs, reduceCtorEq] at h
          exact absurd h kN
         | some r72 =>
          simp only [o73, hs, reduceCtorEq] at h
          simp only [vz, tyf, d23, d27, d28, g29, g30, (ix24 o37), (ixo24 o49), w50, w51, w52, d61, e67, e68, e69, e70, e71, nm, seval]
          refine kseen (args0 := [.agg (cGSightStreet (GSightStreet.mk x0_s.Length x0_s.Width x0_s.Eye x0_s.Light (List.set ([] ++ x0_s.Boards) (Int.toNat x1_a1) r38) x0_s.Blocks)), .lit (.int .i64 x1_a1), .agg (cGSightPlace x2_a2)]) (by simp only [List.map_cons, List.map_nil, showV_ref, updH_apply, without_apply, cr, tyf, nrm, tynrm, d23, d27, d28, g29, g30, (ix24 o37), (ixo24 o49), w50, w51, w52, d61, e67, e68, e69, e70, e71, nm, seval] <;> rfl) (by simp only [List.map_cons, List.map_nil, showV_ref, updH_apply, without_apply, cr, tyf, nrm, tynrm, d23, d27, d28, g29, g30, (ix24 o37), (ixo24 o49), w50, w51, w52, d61, e67, e68, e69, e70, e71, nm, seval]; simp only [tre, tytre, Bool.and_self]) (g_sight_Seen_ok _ _ _ _ o73) (by first | rfl | simp only [VV.flat, flatL, Bool.and_self]) ?_
          refine fin_cut (fun tm => tm 3 = .lit (.int .i64 x3_a3) ∧ tm 10 = .lit (.int .i64 r65.1) ∧ tm 11 = .lit (.int .i64 r65.2) ∧ tm 59 = .tup [.lit (.int .i64 r72.1), .lit (.int .i64 r72.2)] ∧ True) (by refine ⟨e68, ?_, ?_, ?_, trivial⟩ <;> first | (simp only [ua, d23, d27, d28, w50, w51, w52, d61, e67, e68, e69, e70, e71, nm, seval] <;> rfl) | rfl) ?_
          rintro tm ⟨e74, e75, e76, e77, _⟩
          cases d78 : (r72.2 != 0)
          ·simp only [d78, hs, reduceCtorEq] at h
           have b79 := And.intro d23 (And.intro d27 (And.intro d28 (And.intro g29 (And.intro g30 (And.intro d61 d78)))))
           cases d80 : (r65.2 != 0)
           ·simp only [d80, hs, reduceCtorEq] at h
            cases d81 : (r65.2 == 0)
            ·simp only [d81, hs, reduceCtorEq] at h
             cases d82 : ((r72.1 == 3) == false)
             ·simp only [d82, hs, reduceCtorEq] at h
              simp only [vz, tyf, b79, (ix24 o37), (ixo24 o49), w50, w51, w52, e74, e75, e76, e77, d80, d81, d82, nm, seval]
              obtain rfl := kF _ h
              exact opd_bool Tryz.results11 (by first | rfl | (simp only [upd_apply, seval] <;> rfl))
             simp only [d82, hs, reduceCtorEq] at h
             cases o84 : (g_law02_known ) with
             | none =>
              simp only [o84, hs, reduceCtorEq] at h
              exact absurd h kN
             | some r83 =>
              simp only [o84, hs, reduceCtorEq] at h
              simp only [vz, tyf, b79, (ix24 o37), (ixo24 o49), w50, w51, w52, e74, e75, e76, e77, d80, d81, d82, nm, seval]
              refine ktree (args0 := []) (by first | (simp only [nrm, tynrm] <;> rfl) | rfl) (by simp only [tre, tytre, Bool.and_self]) (g_law02_known_ok  _ o84) ?_
              refine fin_cut (fun tm => tm 94 = .lit (.bool true) ∧ tm 95 = .lit (.bool r83) ∧ True) (by refine ⟨?_, ?_, trivial⟩ <;> first | (simp only [ua, b79, w50, w51, w52, e74, e75, e76, e77, d80, d81, d82, nm, seval] <;> rfl) | rfl) ?_
              rintro tm ⟨e85, e86, _⟩
              simp only [vz, tyf, b79, (ix24 o37), (ixo24 o49), w50, w51, w52, d80, d81, d82, e85, e86, nm, seval]
              obtain rfl := kF _ h
              exact opd_bool Tryz.results11 (by first | rfl | (simp only [upd_apply, seval] <;> rfl))
            simp only [d81, hs, reduceCtorEq] at h
            cases d87 : (decide (r65.1 < 1))
            ·simp only [d87, hs, reduceCtorEq] at h
             cases d88 : (decide (r65.1 > 9))
             ·simp only [d88, hs, reduceCtorEq] at h
              cases d89 : ((r72.1 == 3) == (decide (x3_a3 ≥ r65.1)))
              ·simp only [d89, hs, reduceCtorEq] at h
               simp only [vz, tyf, b79, (ix24 o37), (ixo24 o49), w50, w51, w52, e74, e75, e76, e77, d80, d81, d87, d88, d89, nm, seval]
               obtain rfl := kF _ h
               exact opd_bool Tryz.results11 (by first | rfl | (simp only [upd_apply, seval] <;> rfl))
              simp only [d89, hs, reduceCtorEq] at h
              cases o91 : (g_law02_known ) with
              | none =>
               simp only [o91, hs, reduceCtorEq] at h
               exact absurd h kN
              | some r90 =>
               simp only [o91, hs, reduceCtorEq] at h
               simp only [vz, tyf, b79, (ix24 o37), (ixo24 o49), w50, w51, w52, e74, e75, e76, e77, d80, d81, d87, d88, d89, nm, seval]
               refine ktree (args0 := []) (by first | (simp only [nrm, tynrm] <;> rfl) | rfl) (by simp only [tre, tytre, Bool.and_self]) (g_law02_known_ok  _ o91) ?_
               refine fin_cut (fun tm => tm 94 = .lit (.bool true) ∧ tm 95 = .lit (.bool r90) ∧ True) (by refine ⟨?_, ?_, trivial⟩ <;> first | (simp only [ua, b79, w50, w51, w52, e74, e75, e76, e77, d80, d81, d87, d88, d89, nm, seval] <;> rfl) | rfl) ?_
               rintro tm ⟨e92, e93, _⟩
               simp only [vz, tyf, b79, (ix24 o37), (ixo24 o49), w50, w51, w52, d80, d81, d87, d88, d89, e92, e93, nm, seval]
               obtain rfl := kF _ h
               exact opd_bool Tryz.results11 (by first | rfl | (simp only [upd_apply, seval] <;> rfl))
             simp only [d88, hs, reduceCtorEq] at h
             simp only [vz, tyf, b79, (ix24 o37), (ixo24 o49), w50, w51, w52, e74, e75, e76, e77, d80, d81, d87, d88, nm, seval]
             obtain rfl := kF _ h
             exact opd_bool Tryz.results11 (by first | rfl | (simp only [upd_apply, seval] <;> rfl))
            simp only [d87, hs, reduceCtorEq] at h
            simp only [vz, tyf, b79, (ix24 o37), (ixo24 o49), w50, w51, w52, e74, e75, e76, e77, d80, d81, d87, nm, seval]
            obtain rfl := kF _ h
            exact opd_bool Tryz.results11 (by first | rfl | (simp only [upd_apply, seval] <;> rfl))
           simp only [d80, hs, reduceCtorEq] at h
           cases d94 : (r65.2 != 5)
           ·simp only [d94, hs, reduceCtorEq] at h
            cases d95 : (r65.2 == 0)
            ·simp only [d95, hs, reduceCtorEq] at h
             cases d96 : ((r72.1 == 3) == false)
             ·simp only [d96, hs, reduceCtorEq] at h
              simp only [vz, tyf, b79, (ix24 o37), (ixo24 o49), w50, w51, w52, e74, e75, e76, e77, d80, d94, d95, d96, nm, seval]
              obtain rfl := kF _ h
              exact opd_bool Tryz.results11 (by first | rfl | (simp only [upd_apply, seval] <;> rfl))
             simp only [d96, hs, reduceCtorEq] at h
             cases o98 : (g_law02_known ) with
             | none =>
              simp only [o98, hs, reduceCtorEq] at h
              exact absurd h kN
             | some r97 =>
              simp only [o98, hs, reduceCtorEq] at h
              simp only [vz, tyf, b79, (ix24 o37), (ixo24 o49), w50, w51, w52, e74, e75, e76, e77, d80, d94, d95, d96, nm, seval]
              refine ktree (args0 := []) (by first | (simp only [nrm, tynrm] <;> rfl) | rfl) (by simp only [tre, tytre, Bool.and_self]) (g_law02_known_ok  _ o98) ?_
              refine fin_cut (fun tm => tm 94 = .lit (.bool true) ∧ tm 95 = .lit (.bool r97) ∧ True) (by refine ⟨?_, ?_, trivial⟩ <;> first | (simp only [ua, b79, w50, w51, w52, e74, e75, e76, e77, d80, d94, d95, d96, nm, seval] <;> rfl) | rfl) ?_
              rintro tm ⟨e99, e100, _⟩
              simp only [vz, tyf, b79, (ix24 o37), (ixo24 o49), w50, w51, w52, d80, d94, d95, d96, e99, e100, nm, seval]
              obtain rfl := kF _ h
              exact opd_bool Tryz.results11 (by first | rfl | (simp only [upd_apply, seval] <;> rfl))
            simp only [d95, hs, reduceCtorEq] at h
            cases d101 : (decide (r65.1 < 1))
            ·simp only [d101, hs, reduceCtorEq] at h
             cases d102 : (decide (r65.1 > 9))
             ·simp only [d102, hs, reduceCtorEq] at h
              cases d103 : ((r72.1 == 3) == (decide (x3_a3 ≥ r65.1)))
              ·simp only [d103, hs, reduceCtorEq] at h
               have b104 := And.intro b79 (And.intro d80 (And.intro d94 (And.intro d95 (And.intro d101 (And.intro d102 d103)))))
               simp only [vz, tyf, b104, (ix24 o37), (ixo24 o49), w50, w51, w52, e74, e75, e76, e77, nm, seval]
               obtain rfl := kF _ h
               exact opd_bool Tryz.results11 (by first | rfl | (simp only [upd_apply, seval] <;> rfl))
              simp only [d103, hs, reduceCtorEq] at h
              have b105 := And.intro b79 (And.intro d80 (And.intro d94 (And.intro d95 (And.intro d101 (And.intro d102 d103)))))
              cases o107 : (g_law02_known ) with
              | none =>
               simp only [o107, hs, reduceCtorEq] at h
               exact absurd h kN
              | some r106 =>
               simp only [o107, hs, reduceCtorEq] at h
               simp only [vz, tyf, b105, (ix24 o37), (ixo24 o49), w50, w51, w52, e74, e75, e76, e77, nm, seval]
               refine ktree (args0 := []) (by first | (simp only [nrm, tynrm] <;> rfl) | rfl) (by simp only [tre, tytre, Bool.and_self]) (g_law02_known_ok  _ o107) ?_
               refine fin_cut (fun tm => tm 94 = .lit (.bool true) ∧ tm 95 = .lit (.bool r106) ∧ True) (by refine ⟨?_, ?_, trivial⟩ <;> first | (simp only [ua, b105, w50, w51, w52, e74, e75, e76, e77, nm, seval] <;> rfl) | rfl) ?_
               rintro tm ⟨e108, e109, _⟩
               simp only [vz, tyf, b105, (ix24 o37), (ixo24 o49), w50, w51, w52, e108, e109, nm, seval]
               obtain rfl := kF _ h
               exact opd_bool Tryz.results11 (by first | rfl | (simp only [upd_apply, seval] <;> rfl))
             simp only [d102, hs, reduceCtorEq] at h
             simp only [vz, tyf, b79, (ix24 o37), (ixo24 o49), w50, w51, w52, e74, e75, e76, e77, d80, d94, d95, d101, d102, nm, seval]
             obtain rfl := kF _ h
             exact opd_bool Tryz.results11 (by first | rfl | (simp only [upd_apply, seval] <;> rfl))
            simp only [d101, hs, reduceCtorEq] at h
            simp only [vz, tyf, b79, (ix24 o37), (ixo24 o49), w50, w51, w52, e74, e75, e76, e77, d80, d94, d95, d101, nm, seval]
            obtain rfl := kF _ h
            exact opd_bool Tryz.results11 (by first | rfl | (simp only [upd_apply, seval] <;> rfl))
           simp only [d94, hs, reduceCtorEq] at h
           simp only [vz, tyf, b79, (ix24 o37), (ixo24 o49), w50, w51, w52, e74, e75, e76, e77, d80, d94, nm, seval]
           obtain rfl := kF _ h
           exact opd_bool Tryz.results11 (by first | rfl | (simp only [upd_apply, seval] <;> rfl))
          simp only [d78, hs, reduceCtorEq] at h
          have b110 := And.intro d23 (And.intro d27 (And.intro d28 (And.intro g29 (And.intro g30 (And.intro d61 d78)))))
          simp only [vz, tyf, b110, (ix24 o37), (ixo24 o49), w50, w51, w52, e74, e75, e76, e77, nm, seval]
          obtain rfl := kF _ h
          exact opd_bool Tryz.results11 (by first | rfl | (simp only [upd_apply, seval] <;> rfl))
   simp only [d28, hs, reduceCtorEq] at h
   cases o112 : (g_law02_known ) with
   | none =>
    simp only [o112, hs, reduceCtorEq] at h
    exact absurd h kN
   | some r111 =>
    simp only [o112, hs, reduceCtorEq] at h
    simp only [vz, tyf, e18, e19, e20, e21, e22, d23, d27, d28, nm, seval]
    refine ktree (args0 := []) (by first | (simp only [nrm, tynrm] <;> rfl) | rfl) (by simp only [tre, tytre, Bool.and_self]) (g_law02_known_ok  _ o112) ?_
    refine fin_cut (fun tm => tm 27 = .lit (.bool r111) ∧ True) (by refine ⟨?_, trivial⟩ <;> first | (simp only [ua, e18, e19, e20, e21, e22, d23, d27, d28, nm, seval] <;> rfl) | rfl) ?_
    rintro tm ⟨e113, _⟩
    simp only [vz, tyf, d23, d27, d28, e113, nm, seval]
    obtain rfl := kF _ h
    exact opd_bool Tryz.results11 (by first | rfl | (simp only [upd_apply, seval] <;> rfl))
  simp only [d27, hs, reduceCtorEq] at h
  cases o115 : (g_law02_known ) with
  | none =>
   simp only [o115, hs, reduceCtorEq] at h
   exact absurd h kN
  | some r114 =>
   simp only [o115, hs, reduceCtorEq] at h
   simp only [vz, tyf, e18, e19, e20, e21, e22, d23, d27, nm, seval]
   refine ktree (args0 := []) (by first | (simp only [nrm, tynrm] <;> rfl) | rfl) (by simp only [tre, tytre, Bool.and_self]) (g_law02_known_ok  _ o115) ?_
   refine fin_cut (fun tm => tm 27 = .lit (.bool r114) ∧ True) (by refine ⟨?_, trivial⟩ <;> first | (simp only [ua, e18, e19, e20, e21, e22, d23, d27, nm, seval] <;> rfl) | rfl) ?_
   rintro tm ⟨e116, _⟩
   simp only [vz, tyf, d23, d27, e116, nm, seval]
   obtain rfl := kF _ h
   exact opd_bool Tryz.results11 (by first | rfl | (simp only [upd_apply, seval] <;> rfl))
end Go.V
end
section
namespace Go.V
open Go
theorem right_eq (s : GSightStreet) (n : Int) (p : GSightPlace) (h : FineS s) (bs : Bool) (hb : g_law02_short s = some bs) : g_law02_right s n p = some (bs && (streetB s && (numB s n && placeB s p))) := by
 simp only [g_law02_right, hb, Option.bind_some, refStreet_eq s h, refBoard_eq, refPlace_eq, csome, numB]
theorem reach_larger {w a : Int} {p : GSightPlace} {h h' : Int} (h0 : 0 ≤ h) (hh : h ≤ h') (hw : 0 ≤ w) (hr : reachB w a p h = true) : reachB w a p h' = true := by
 unfold reachB at hr ⊢
 have h1 := of_decide_eq_true hr
 have h2 : h * w ≤ h' * w := Int.mul_le_mul_of_nonneg_right hh hw
 have h3 := sq_mono (Int.mul_nonneg h0 hw) h2
 exact decide_eq_true (Int.le_trans h1 h3)
theorem spread_larger {w a : Int} {p : GSightPlace} {h h' : Int} (hh : h ≤ h') (hw : 0 ≤ w) (hq : 0 ≤ p.Across) (hr : spreadB w a p h = true) : spreadB w a p h' = true := by
 unfold spreadB at hr ⊢
 have h1 := of_decide_eq_true hr
 have h2 : h * w ≤ h' * w := Int.mul_le_mul_of_nonneg_right hh hw
 have h3 : h * w * p.Across ≤ h' * w * p.Across := Int.mul_le_mul_of_nonneg_right h2 hq
 exact decide_eq_true (Int.le_trans h1 h3)
theorem times_le {a k m : Int} (h0 : 0 ≤ a) (hk : k ≤ m) : a * k ≤ a * m := Int.mul_le_mul_of_nonneg_left hk h0
theorem clear_times {w a : Int} {p : GSightPlace} {ls : List GSightLetter} {k m : Int} (hl : ∀ l ∈ ls, letterB l = true) (hp : PG a p) (hw : 0 ≤ w) (k1 : 1 ≤ k) (hk : k ≤ m) (h : clearB w a p (ls.map (timesL k)) = true) : clearB w a p (ls.map (timesL m)) = true := by
 unfold PG at hp
 rw [clear_iff] at h ⊢
 simp only [List.length_map, ← List.map_take, List.mem_map, forall_exists_index, and_imp, forall_apply_eq_imp_iff₂] at h ⊢
 refine ⟨fun l h1 => ?_, fun l h1 => ?_⟩
 ·have hb := hl l h1
  simp only [letterB, Bool.and_eq_true, inB_iff] at hb
  obtain ⟨a1, a2, a3⟩ := leg_iff.1 (h.1 l h1)
  have q1 := Int.mul_nonneg (a := l.Height) (b := k) (by omega) (by omega)
  have q2 := Int.mul_nonneg (a := l.Stroke) (b := k) (by omega) (by omega)
  have e1 := times_le (a := l.Height) (k := k) (m := m) (by omega) hk
  have e2 := times_le (a := l.Width) (k := k) (m := m) (by omega) hk
  have e3 := times_le (a := l.Stroke) (k := k) (m := m) (by omega) hk
  refine leg_iff.2 ⟨reach_larger q1 e1 hw a1, spread_larger e2 hw (by omega) a2, reach_larger (h := 5 * (l.Stroke * k)) (h' := 5 * (l.Stroke * m)) (by omega) (by omega) hw a3⟩
 ·have hb := hl l (List.mem_of_mem_take h1)
  simp only [letterB, Bool.and_eq_true, inB_iff] at hb
  have e4 := times_le (a := l.Space) (k := k) (m := m) (by omega) hk
  exact spread_larger (h := 5 * (l.Space * k)) (h' := 5 * (l.Space * m)) (by omega) hw (by omega) (h.2 l h1)
theorem sure_times {s : GSightStreet} {b : GSightBoard} {p : GSightPlace} (h : Good s b p) {k m : Int} (k1 : 1 ≤ k) (hk : k ≤ m) (hs : sureB s (timesB b k) p = true) : sureB s (timesB b m) p = true := by
 obtain ⟨hp, _, _, w1, _⟩ := goods h
 unfold sureB at hs ⊢
 rw [Bool.and_eq_true] at hs ⊢
 exact ⟨clear_times h.lets hp w1.1 k1 hk hs.1, hs.2⟩
theorem seen3 (s : GSightStreet) (b : GSightBoard) (p : GSightPlace) : (seenI s b p == 3) = sureB s b p := by
 unfold seenI
 cases sureB s b p <;> cases mayB s b p <;> rfl
theorem SightLarger_true (s : GSightStreet) (n : Int) (p : GSightPlace) (t : Int) (h : FineS s) : g_law02_SightLarger s n p t = some true := by
 obtain ⟨bs, hb⟩ := short_some s h
 simp only [g_law02_SightLarger, right_eq s n p h bs hb, Option.bind_some, g_law02_known]
 cases hr : (bs && (streetB s && (numB s n && placeB s p))) with
 | false => rfl
 | true =>
  simp only [Bool.and_eq_true] at hr
  obtain ⟨_, h1, h2, h3⟩ := hr
  simp only [cond_true]
  by_cases c1 : t < 1
  ·simp only [c1, decide_true, cond_true]
  by_cases c2 : t > 9
  ·simp only [c1, c2, decide_true, decide_false, cond_true, cond_false]
  obtain ⟨b, b1, b2, b3⟩ := good_of h1 h2 h3
  have hv := isView_eq s n p h
  rw [h1, h2, h3] at hv
  have hlt := getI_lt b1
  have hst := h1
  simp only [streetB, boardsB, Bool.and_eq_true, inB_iff] at hst
  have hlen := hst.2.2.2.2.1.1
  have ne : neB s.Boards = true := by unfold neB; cases hb : s.Boards with
   | nil => rw [hb] at hlen; simp at hlen
   | cons a l => rfl
  have hroom : roomOk 32 s.Boards.length = true := room_small 32 (by omega) (by omega)
  simp only [c1, c2, decide_false, cond_false, ne, hroom, List.nil_append, cond_true, b1, Option.bind_some, times_eq b3 t (by omega) (by omega)]
  obtain ⟨x, hx⟩ : ∃ x, x = GSightStreet.mk s.Length s.Width s.Eye s.Light (s.Boards.set n.toNat (timesB b t)) s.Blocks := ⟨_, rfl⟩
  rw [← hx]
  have hfx : FineS x := by
   subst hx
   refine ⟨?_, ?_, h.2.2⟩
   ·unfold lenOk; rw [List.length_set]; exact h.1
   ·intro b' hb'
    rcases List.mem_or_eq_of_mem_set hb' with hb' | rfl
    ·exact h.2.1 b' hb'
    ·exact lenOk_of (by simp only [timesB, List.length_map]; have := b3.n5; omega)
  rw [refStreet_eq x hfx]
  simp only [Option.bind_some]
  cases hsx : streetB x with
  | false => rfl
  | true =>
   have hnx : numB x n = true := by subst hx; unfold numB at h2 ⊢; simp only [List.length_set]; exact h2
   have hpx : placeB x p = true := by subst hx; exact h3
   have hgx : getI x.Boards n = some (timesB b t) := by
    subst hx
    unfold getI
    rw [if_pos hlt.1, List.getElem?_set_self (by omega)]
   have x1 : g_sight_Seen x n p = some (seenI x (timesB b t) p, 0) := by
    rcases Seen_eq x n p hfx with ⟨b', b1', _, _, _, _, _, ee⟩ | ⟨g1, ee⟩
    ·rw [hgx] at b1'; cases b1'; exact ee
    ·rw [hsx, hnx, hpx] at g1; cases g1
   have hsu : sureB x (timesB b t) p = sureB s (timesB b t) p := by subst hx; rfl
   simp only [cond_true, Least_good b3 b1 hv, x1, Option.bind_some, bne_self_eq_false, cond_false, seen3, hsu]
   cases hf : firstN (fun k => sureB s (timesB b k) p) 9 1 with
   | none =>
    have d := firstN_none _ _ hf t (by omega) (by omega)
    rw [d]
    rfl
   | some v =>
    obtain ⟨v1, v2, v3, v4⟩ := firstN_some _ _ _ hf
    have d1 : decide (v < 1) = false := decide_eq_false (by omega)
    have d2 : decide (v > 9) = false := decide_eq_false (by omega)
    have d3 : sureB s (timesB b t) p = decide (t ≥ v) := by
     by_cases hlv : t ≥ v
     ·rw [decide_eq_true hlv]
      exact sure_times b3 v1 hlv v3
     ·rw [decide_eq_false hlv]
      exact v4 t (by omega) (by omega)
    simp only [outN, bne_self_eq_false, cond_false, beq_self_eq_true, cond_true, d3]
    have q1 : ¬ v < 1 := by omega
    have q2 : ¬ v > 9 := by omega
    simp only [q1, q2, decide_false, cond_false]
    by_cases q3 : t ≥ v
    ·simp only [q3, decide_true]; rfl
    ·simp only [q3, decide_false]; rfl
end Go.V
end
