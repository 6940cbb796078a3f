/- Part of a proof: a logic of values by content, lifted functions, what follows. -/
import Derived.Test.YtbpeickbdiihcaaGreatDoorRbc
import Derived.Test.YtbpeickbdiihcaaGreatDoorRbd
import Derived.Test.YtbpeickbdiihcaaGreatDoorRbf
import Derived.Test.YtbpeickbdiihcaaGreatDoorRbl
import Derived.Test.YtbpeickbdiihcaaGreatDoorRbg
import Derived.Test.YtbpeickbdiihcaaGreatDoorRbk
set_option linter.all false
set_option maxRecDepth 4000
set_option maxHeartbeats 4000000
section
set_option maxRecDepth 100000
namespace Go.V
open Go Go.Proofs
def Ok_GSightBoard (x : GSightBoard) : Prop := lenOk x.Letters = true
def Ok_GSightStreet (x : GSightStreet) : Prop := lenOk x.Boards = true ∧ (∀ y ∈ x.Boards, Ok_GSightBoard y) ∧ lenOk x.Blocks = true
section
variable {P : Program} (hu3 : P.underlying 3 = some (.int .i64)) {f23 : Array Field} (hu23 : P.underlying 23 = some (.struct f23)) (ht23 : f23.toList.map Field.type = [3, 3]) {f61 : Array Field} (hu61 : P.underlying 61 = some (.struct f61)) (ht61 : f61.toList.map Field.type = [3, 3, 3, 3]) (hu40 : P.underlying 40 = some (.slice 61)) {f42 : Array Field} (hu42 : P.underlying 42 = some (.struct f42)) (ht42 : f42.toList.map Field.type = [3, 40]) (hu24 : P.underlying 24 = some (.slice 42)) (hu4 : P.underlying 4 = some (.bool)) {f68 : Array Field} (hu68 : P.underlying 68 = some (.struct f68)) (ht68 : f68.toList.map Field.type = [23, 23, 4]) (hu25 : P.underlying 25 = some (.slice 68)) {f27 : Array Field} (hu27 : P.underlying 27 = some (.struct f27)) (ht27 : f27.toList.map Field.type = [3, 3, 23, 23, 24, 25]) {f29 : Array Field} (hu29 : P.underlying 29 = some (.struct f29)) (ht29 : f29.toList.map Field.type = [3, 3])
include hu3 hu23 ht23 hu61 ht61 hu40 hu42 ht42 hu24 hu4 hu68 ht68 hu25 hu27 ht27 hu29 ht29
theorem gd_3 {n : Nat} : Dec P (n + 1) 3 eI (fun _ => True) := dec_int hu3
theorem gd_23 {n : Nat} : Dec P (n + 2) 23 cGSpan (fun _ => True) := by
 intro xs h
 obtain ⟨yss, hf, rfl⟩ := dec_struct (n := n + 1) (ts := [3, 3]) hu23 ht23 h
 match yss, hf with
 | [y0, y1], ⟨h0, h1, _⟩ =>
  obtain ⟨x0, r0, e0⟩ := gd_3 hu3 hu23 ht23 hu61 ht61 hu40 hu42 ht42 hu24 hu4 hu68 ht68 hu25 hu27 ht27 hu29 ht29 (n := n + 0) _ h0
  obtain ⟨x1, r1, e1⟩ := gd_3 hu3 hu23 ht23 hu61 ht61 hu40 hu42 ht42 hu24 hu4 hu68 ht68 hu25 hu27 ht27 hu29 ht29 (n := n + 0) _ h1
  exact ⟨⟨x0, x1⟩, trivial, by simp only [List.flatten_cons, List.flatten_nil, List.append_nil, normL_append, e0, e1, eI, eU8, eB, eS, eSl, cGSpan_eq, List.cons_append, List.nil_append]⟩
theorem gd_61 {n : Nat} : Dec P (n + 2) 61 cGSightLetter (fun _ => True) := by
 intro xs h
 obtain ⟨yss, hf, rfl⟩ := dec_struct (n := n + 1) (ts := [3, 3, 3, 3]) hu61 ht61 h
 match yss, hf with
 | [y0, y1, y2, y3], ⟨h0, h1, h2, h3, _⟩ =>
  obtain ⟨x0, r0, e0⟩ := gd_3 hu3 hu23 ht23 hu61 ht61 hu40 hu42 ht42 hu24 hu4 hu68 ht68 hu25 hu27 ht27 hu29 ht29 (n := n + 0) _ h0
  obtain ⟨x1, r1, e1⟩ := gd_3 hu3 hu23 ht23 hu61 ht61 hu40 hu42 ht42 hu24 hu4 hu68 ht68 hu25 hu27 ht27 hu29 ht29 (n := n + 0) _ h1
  obtain ⟨x2, r2, e2⟩ := gd_3 hu3 hu23 ht23 hu61 ht61 hu40 hu42 ht42 hu24 hu4 hu68 ht68 hu25 hu27 ht27 hu29 ht29 (n := n + 0) _ h2
  obtain ⟨x3, r3, e3⟩ := gd_3 hu3 hu23 ht23 hu61 ht61 hu40 hu42 ht42 hu24 hu4 hu68 ht68 hu25 hu27 ht27 hu29 ht29 (n := n + 0) _ h3
  exact ⟨⟨x0, x1, x2, x3⟩, trivial, by simp only [List.flatten_cons, List.flatten_nil, List.append_nil, normL_append, e0, e1, e2, e3, eI, eU8, eB, eS, eSl, cGSightLetter_eq, List.cons_append, List.nil_append]⟩
theorem gd_40 {n : Nat} : Dec P (n + 3) 40 (eSl cGSightLetter) (fun l => lenOk l = true ∧ ∀ x ∈ l, True) := dec_slice hu40 (gd_61 hu3 hu23 ht23 hu61 ht61 hu40 hu42 ht42 hu24 hu4 hu68 ht68 hu25 hu27 ht27 hu29 ht29 (n := n))
theorem gd_42 {n : Nat} : Dec P (n + 4) 42 cGSightBoard (Ok_GSightBoard) := by
 intro xs h
 obtain ⟨yss, hf, rfl⟩ := dec_struct (n := n + 3) (ts := [3, 40]) hu42 ht42 h
 match yss, hf with
 | [y0, y1], ⟨h0, h1, _⟩ =>
  obtain ⟨x0, r0, e0⟩ := gd_3 hu3 hu23 ht23 hu61 ht61 hu40 hu42 ht42 hu24 hu4 hu68 ht68 hu25 hu27 ht27 hu29 ht29 (n := n + 2) _ h0
  obtain ⟨x1, r1, e1⟩ := gd_40 hu3 hu23 ht23 hu61 ht61 hu40 hu42 ht42 hu24 hu4 hu68 ht68 hu25 hu27 ht27 hu29 ht29 (n := n + 0) _ h1
  exact ⟨⟨x0, x1⟩, r1.1, by simp only [List.flatten_cons, List.flatten_nil, List.append_nil, normL_append, e0, e1, eI, eU8, eB, eS, eSl, cGSightBoard_eq, List.cons_append, List.nil_append]⟩
theorem gd_24 {n : Nat} : Dec P (n + 5) 24 (eSl cGSightBoard) (fun l => lenOk l = true ∧ ∀ x ∈ l, Ok_GSightBoard x) := dec_slice hu24 (gd_42 hu3 hu23 ht23 hu61 ht61 hu40 hu42 ht42 hu24 hu4 hu68 ht68 hu25 hu27 ht27 hu29 ht29 (n := n))
theorem gd_4 {n : Nat} : Dec P (n + 1) 4 eB (fun _ => True) := dec_bool hu4
theorem gd_68 {n : Nat} : Dec P (n + 3) 68 cGSightBlock (fun _ => True) := by
 intro xs h
 obtain ⟨yss, hf, rfl⟩ := dec_struct (n := n + 2) (ts := [23, 23, 4]) hu68 ht68 h
 match yss, hf with
 | [y0, y1, y2], ⟨h0, h1, h2, _⟩ =>
  obtain ⟨x0, r0, e0⟩ := gd_23 hu3 hu23 ht23 hu61 ht61 hu40 hu42 ht42 hu24 hu4 hu68 ht68 hu25 hu27 ht27 hu29 ht29 (n := n + 0) _ h0
  obtain ⟨x1, r1, e1⟩ := gd_23 hu3 hu23 ht23 hu61 ht61 hu40 hu42 ht42 hu24 hu4 hu68 ht68 hu25 hu27 ht27 hu29 ht29 (n := n + 0) _ h1
  obtain ⟨x2, r2, e2⟩ := gd_4 hu3 hu23 ht23 hu61 ht61 hu40 hu42 ht42 hu24 hu4 hu68 ht68 hu25 hu27 ht27 hu29 ht29 (n := n + 1) _ h2
  exact ⟨⟨x0, x1, x2⟩, trivial, by simp only [List.flatten_cons, List.flatten_nil, List.append_nil, normL_append, e0, e1, e2, eI, eU8, eB, eS, eSl, cGSightBlock_eq, cGSpan_eq, List.cons_append, List.nil_append]⟩
theorem gd_25 {n : Nat} : Dec P (n + 4) 25 (eSl cGSightBlock) (fun l => lenOk l = true ∧ ∀ x ∈ l, True) := dec_slice hu25 (gd_68 hu3 hu23 ht23 hu61 ht61 hu40 hu42 ht42 hu24 hu4 hu68 ht68 hu25 hu27 ht27 hu29 ht29 (n := n))
theorem gd_27 {n : Nat} : Dec P (n + 6) 27 cGSightStreet (Ok_GSightStreet) := by
 intro xs h
 obtain ⟨yss, hf, rfl⟩ := dec_struct (n := n + 5) (ts := [3, 3, 23, 23, 24, 25]) hu27 ht27 h
 match yss, hf with
 | [y0, y1, y2, y3, y4, y5], ⟨h0, h1, h2, h3, h4, h5, _⟩ =>
  obtain ⟨x0, r0, e0⟩ := gd_3 hu3 hu23 ht23 hu61 ht61 hu40 hu42 ht42 hu24 hu4 hu68 ht68 hu25 hu27 ht27 hu29 ht29 (n := n + 4) _ h0
  obtain ⟨x1, r1, e1⟩ := gd_3 hu3 hu23 ht23 hu61 ht61 hu40 hu42 ht42 hu24 hu4 hu68 ht68 hu25 hu27 ht27 hu29 ht29 (n := n + 4) _ h1
  obtain ⟨x2, r2, e2⟩ := gd_23 hu3 hu23 ht23 hu61 ht61 hu40 hu42 ht42 hu24 hu4 hu68 ht68 hu25 hu27 ht27 hu29 ht29 (n := n + 3) _ h2
  obtain ⟨x3, r3, e3⟩ := gd_23 hu3 hu23 ht23 hu61 ht61 hu40 hu42 ht42 hu24 hu4 hu68 ht68 hu25 hu27 ht27 hu29 ht29 (n := n + 3) _ h3
  obtain ⟨x4, r4, e4⟩ := gd_24 hu3 hu23 ht23 hu61 ht61 hu40 hu42 ht42 hu24 hu4 hu68 ht68 hu25 hu27 ht27 hu29 ht29 (n := n + 0) _ h4
  obtain ⟨x5, r5, e5⟩ := gd_25 hu3 hu23 ht23 hu61 ht61 hu40 hu42 ht42 hu24 hu4 hu68 ht68 hu25 hu27 ht27 hu29 ht29 (n := n + 1) _ h5
  exact ⟨⟨x0, x1, x2, x3, x4, x5⟩, ⟨r4.1, r4.2, r5.1⟩, by simp only [List.flatten_cons, List.flatten_nil, List.append_nil, normL_append, e0, e1, e2, e3, e4, e5, eI, eU8, eB, eS, eSl, cGSightStreet_eq, cGSpan_eq, List.cons_append, List.nil_append]⟩
theorem gd_29 {n : Nat} : Dec P (n + 2) 29 cGSightPlace (fun _ => True) := by
 intro xs h
 obtain ⟨yss, hf, rfl⟩ := dec_struct (n := n + 1) (ts := [3, 3]) hu29 ht29 h
 match yss, hf with
 | [y0, y1], ⟨h0, h1, _⟩ =>
  obtain ⟨x0, r0, e0⟩ := gd_3 hu3 hu23 ht23 hu61 ht61 hu40 hu42 ht42 hu24 hu4 hu68 ht68 hu25 hu27 ht27 hu29 ht29 (n := n + 0) _ h0
  obtain ⟨x1, r1, e1⟩ := gd_3 hu3 hu23 ht23 hu61 ht61 hu40 hu42 ht42 hu24 hu4 hu68 ht68 hu25 hu27 ht27 hu29 ht29 (n := n + 0) _ h1
  exact ⟨⟨x0, x1⟩, trivial, by simp only [List.flatten_cons, List.flatten_nil, List.append_nil, normL_append, e0, e1, eI, eU8, eB, eS, eSl, cGSightPlace_eq, List.cons_append, List.nil_append]⟩
end
theorem dec_3 {n : Nat} : Dec Tryz.prog (n + 1) 3 eI (fun _ => True) := gd_3 Tryz.underlying3 Tryz.underlying23 (by kernel_rfl) Tryz.underlying61 (by kernel_rfl) Tryz.underlying40 Tryz.underlying42 (by kernel_rfl) Tryz.underlying24 Tryz.underlying4 Tryz.underlying68 (by kernel_rfl) Tryz.underlying25 Tryz.underlying27 (by kernel_rfl) Tryz.underlying29 (by kernel_rfl)
theorem dec_27 {n : Nat} : Dec Tryz.prog (n + 6) 27 cGSightStreet (Ok_GSightStreet) := gd_27 Tryz.underlying3 Tryz.underlying23 (by kernel_rfl) Tryz.underlying61 (by kernel_rfl) Tryz.underlying40 Tryz.underlying42 (by kernel_rfl) Tryz.underlying24 Tryz.underlying4 Tryz.underlying68 (by kernel_rfl) Tryz.underlying25 Tryz.underlying27 (by kernel_rfl) Tryz.underlying29 (by kernel_rfl)
theorem dec_29 {n : Nat} : Dec Tryz.prog (n + 2) 29 cGSightPlace (fun _ => True) := gd_29 Tryz.underlying3 Tryz.underlying23 (by kernel_rfl) Tryz.underlying61 (by kernel_rfl) Tryz.underlying40 Tryz.underlying42 (by kernel_rfl) Tryz.underlying24 Tryz.underlying4 Tryz.underlying68 (by kernel_rfl) Tryz.underlying25 Tryz.underlying27 (by kernel_rfl) Tryz.underlying29 (by kernel_rfl)
end Go.V
end
section
namespace Go.V
open Go Go.Proofs
def g_law02_SightLeasts (x0_s : GSightStreet) (x1_a1 : Int) (x2_a2 : GSightPlace) : Option (Bool) := Option.bind (g_law02_short x0_s) (fun r1 => cond (r1) (Option.bind (g_sight_Least x0_s x1_a1 x2_a2) (fun r2 => Option.bind (g_sight_Light x0_s x1_a1 x2_a2) (fun r3 => Option.bind (g_ref02_Street x0_s) (fun r4 => cond (r4) (Option.bind (g_ref02_Board x0_s x1_a1) (fun r5 => cond (r5) (Option.bind (g_ref02_Place x0_s x2_a2) (fun r6 => cond (r6) (Option.bind (getI x0_s.Boards x1_a1) (fun x7 => Option.bind (g_ref02_Least x0_s x7 x2_a2) (fun r8 => cond (r8.2) (cond (r2.2 != 0) (some false) (cond (r2.1 != r8.1) (some false) (Option.bind (g_ref02_Light x0_s x7 x2_a2) (fun r9 => cond (r9.2) (cond (r3.2 == 0) (cond (r3.1 == r9.1) (Option.bind (g_law02_known ) (fun r10 => some r10)) (some false)) (some false)) (cond (r3.2 == 5) (cond (r3.1 == 0) (Option.bind (g_law02_known ) (fun r11 => some r11)) (some false)) (some false)))))) (cond (r2.2 != 5) (some false) (cond (r2.1 != 0) (some false) (Option.bind (g_ref02_Light x0_s x7 x2_a2) (fun r12 => cond (r12.2) (cond (r3.2 == 0) (cond (r3.1 == r12.1) (Option.bind (g_law02_known ) (fun r13 => some r13)) (some false)) (some false)) (cond (r3.2 == 5) (cond (r3.1 == 0) (Option.bind (g_law02_known ) (fun r14 => some r14)) (some false)) (some false))))))))) (cond (r2.2 == 2) (cond (r2.1 == 0) (cond (r3.2 == 2) (cond (r3.1 == 0) (Option.bind (g_law02_known ) (fun r15 => some r15)) (some false)) (some false)) (some false)) (some false)))) (cond (r2.2 == 2) (cond (r2.1 == 0) (cond (r3.2 == 2) (cond (r3.1 == 0) (Option.bind (g_law02_known ) (fun r16 => some r16)) (some false)) (some false)) (some false)) (some false)))) (cond (r2.2 == 2) (cond (r2.1 == 0) (cond (r3.2 == 2) (cond (r3.1 == 0) (Option.bind (g_law02_known ) (fun r17 => some r17)) (some false)) (some false)) (some false)) (some false)))))) (Option.bind (g_law02_known ) (fun r18 => some r18)))
theorem g_law02_SightLeasts_ok (x0_s : GSightStreet) (x1_a1 : Int) (x2_a2 : GSightPlace) (R : Bool) (h : g_law02_SightLeasts x0_s x1_a1 x2_a2 = some R) : VPure Tryz.prog G0 10 [.agg (cGSightStreet x0_s), .lit (.int .i64 x1_a1), .agg (cGSightPlace x2_a2)] (.tree (.lit (.bool R))) := by
 refine VPure.runR mixed Tryz.call10 Tryz.func10 rfl (by simp [Tryz.ntmps10]; kernel_rfl) ?_
 obtain ⟨KF, h, kF, kN⟩ := fun_intro h
 simp only [g_law02_SightLeasts] at h
 cases o20 : (g_law02_short x0_s) with
 | none =>
  simp only [o20, hs, reduceCtorEq] at h
  exact absurd h kN
 | some r19 =>
  simp only [o20, hs, reduceCtorEq] at h
  simp only [vz, tyf, nm, seval]
  refine ktree (args0 := [.agg (cGSightStreet x0_s)]) (by first | (simp only [nrm, tynrm] <;> rfl) | rfl) (by simp only [tre, tytre, Bool.and_self]) (g_law02_short_ok _ _ o20) ?_
  refine fin_cut (fun tm => tm 1 = .lit (.int .i64 x1_a1) ∧ tm 3 = .ptr 0 0 ∧ tm 5 = .ptr 1 0 ∧ tm 15 = .lit (.bool r19) ∧ True) (by refine ⟨?_, ?_, ?_, ?_, trivial⟩ <;> first | (simp only [ua, nm, seval] <;> rfl) | rfl) ?_
  rintro tm ⟨e21, e22, e23, e24, _⟩
  cases d25 : (r19)
  ·simp only [d25, hs, reduceCtorEq] at h
   cases o27 : (g_law02_known ) with
   | none =>
    simp only [o27, hs, reduceCtorEq] at h
    exact absurd h kN
   | some r26 =>
    simp only [o27, hs, reduceCtorEq] at h
    simp only [vz, tyf, e21, e22, e23, e24, d25, nm, seval]
    refine ktree (args0 := []) (by first | (simp only [nrm, tynrm] <;> rfl) | rfl) (by simp only [tre, tytre, Bool.and_self]) (g_law02_known_ok  _ o27) ?_
    refine fin_cut (fun tm => tm 17 = .lit (.bool r26) ∧ True) (by refine ⟨?_, trivial⟩ <;> first | (simp only [ua, e21, e22, e23, e24, d25, nm, seval] <;> rfl) | rfl) ?_
    rintro tm ⟨e28, _⟩
    simp only [vz, tyf, d25, e28, nm, seval]
    obtain rfl := kF _ h
    exact opd_bool Tryz.results10 (by first | rfl | (simp only [upd_apply, seval] <;> rfl))
  simp only [d25, hs, reduceCtorEq] at h
  cases o30 : (g_sight_Least x0_s x1_a1 x2_a2) with
  | none =>
   simp only [o30, hs, reduceCtorEq] at h
   exact absurd h kN
  | some r29 =>
   simp only [o30, hs, reduceCtorEq] at h
   simp only [vz, tyf, e21, e22, e23, e24, d25, nm, seval]
   refine ktree (args0 := [.agg (cGSightStreet x0_s), .lit (.int .i64 x1_a1), .agg (cGSightPlace x2_a2)]) (by first | (simp only [nrm, tynrm] <;> rfl) | rfl) (by simp only [tre, tytre, Bool.and_self]) (g_sight_Least_ok _ _ _ _ o30) ?_
   refine fin_cut (fun tm => tm 1 = .lit (.int .i64 x1_a1) ∧ tm 3 = .ptr 0 0 ∧ tm 5 = .ptr 1 0 ∧ tm 22 = .tup [.lit (.int .i64 r29.1), .lit (.int .i64 r29.2)] ∧ True) (by refine ⟨e21, e22, e23, ?_, trivial⟩ <;> first | (simp only [ua, e21, e22, e23, e24, d25, nm, seval] <;> rfl) | rfl) ?_
   rintro tm ⟨e31, e32, e33, e34, _⟩
   cases o36 : (g_sight_Light x0_s x1_a1 x2_a2) with
   | none =>
    simp only [o36, hs, reduceCtorEq] at h
    exact absurd h kN
   | some r35 =>
    simp only [o36, hs, reduceCtorEq] at h
    simp only [vz, tyf, d25, e31, e32, e33, e34, nm, seval]
    refine ktree (args0 := [.agg (cGSightStreet x0_s), .lit (.int .i64 x1_a1), .agg (cGSightPlace x2_a2)]) (by first | (simp only [nrm, tynrm] <;> rfl) | rfl) (by simp only [tre, tytre, Bool.and_self]) (g_sight_Light_ok _ _ _ _ o36) ?_
    refine fin_cut (fun tm => tm 1 = .lit (.int .i64 x1_a1) ∧ tm 3 = .ptr 0 0 ∧ tm 5 = .ptr 1 0 ∧ tm 7 = .lit (.int .i64 r29.1) ∧ tm 8 = .lit (.int .i64 r29.2) ∧ tm 29 = .tup [.lit (.int .i64 r35.1), .lit (.int .i64 r35.2)] ∧ True) (by refine ⟨e31, e32, e33, ?_, ?_, ?_, trivial⟩ <;> first | (simp only [ua, d25, e31, e32, e33, e34, nm, seval] <;> rfl) | rfl) ?_
    rintro tm ⟨e37, e38, e39, e40, e41, e42, _⟩
    cases o44 : (g_ref02_Street x0_s) with
    | none =>
     simp only [o44, hs, reduceCtorEq] at h
     exact absurd h kN
    | some r43 =>
     simp only [o44, hs, reduceCtorEq] at h
     simp only [vz, tyf, d25, e37, e38, e39, e40, e41, e42, nm, seval]
     refine ktree (args0 := [.agg (cGSightStreet x0_s)]) (by first | (simp only [nrm, tynrm] <;> rfl) | rfl) (by simp only [tre, tytre, Bool.and_self]) (g_ref02_Street_ok _ _ o44) ?_
     refine fin_cut (fun tm => tm 1 = .lit (.int .i64 x1_a1) ∧ tm 3 = .ptr 0 0 ∧ tm 5 = .ptr 1 0 ∧ tm 7 = .lit (.int .i64 r29.1) ∧ tm 8 = .lit (.int .i64 r29.2) ∧ tm 9 = .lit (.int .i64 r35.1) ∧ tm 10 = .lit (.int .i64 r35.2) ∧ tm 33 = .lit (.bool r43) ∧ True) (by refine ⟨e37, e38, e39, e40, e41, ?_, ?_, ?_, trivial⟩ <;> first | (simp only [ua, d25, e37, e38, e39, e40, e41, e42, nm, seval] <;> rfl) | rfl) ?_
     rintro tm ⟨e45, e46, e47, e48, e49, e50, e51, e52, _⟩
     cases d53 : (r43)
     ·simp only [d53, hs, reduceCtorEq] at h
      cases d54 : (r29.2 == 2)
      ·simp only [d54, hs, reduceCtorEq] at h
       simp only [vz, tyf, d25, e45, e46, e47, e48, e49, e50, e51, e52, d53, d54, nm, seval]
       obtain rfl := kF _ h
       exact opd_bool Tryz.results10 (by first | rfl | (simp only [upd_apply, seval] <;> rfl))
      simp only [d54, hs, reduceCtorEq] at h
      cases d55 : (r29.1 == 0)
      ·simp only [d55, hs, reduceCtorEq] at h
       simp only [vz, tyf, d25, e45, e46, e47, e48, e49, e50, e51, e52, d53, d54, d55, nm, seval]
       obtain rfl := kF _ h
       exact opd_bool Tryz.results10 (by first | rfl | (simp only [upd_apply, seval] <;> rfl))
      simp only [d55, hs, reduceCtorEq] at h
      cases d56 : (r35.2 == 2)
      ·simp only [d56, hs, reduceCtorEq] at h
       simp only [vz, tyf, d25, e45, e46, e47, e48, e49, e50, e51, e52, d53, d54, d55, d56, nm, seval]
       obtain rfl := kF _ h
       exact opd_bool Tryz.results10 (by first | rfl | (simp only [upd_apply, seval] <;> rfl))
      simp only [d56, hs, reduceCtorEq] at h
      cases d57 : (r35.1 == 0)
      ·simp only [d57, hs, reduceCtorEq] at h
       simp only [vz, tyf, d25, e45, e46, e47, e48, e49, e50, e51, e52, d53, d54, d55, d56, d57, nm, seval]
       obtain rfl := kF _ h
       exact opd_bool Tryz.results10 (by first | rfl | (simp only [upd_apply, seval] <;> rfl))
      simp only [d57, hs, reduceCtorEq] at h
      cases o59 : (g_law02_known ) with
      | none =>
       simp only [o59, hs, reduceCtorEq] at h
       exact absurd h kN
      | some r58 =>
       simp only [o59, hs, reduceCtorEq] at h
       simp only [vz, tyf, d25, e45, e46, e47, e48, e49, e50, e51, e52, d53, d54, d55, d56, d57, nm, seval]
       refine ktree (args0 := []) (by first | (simp only [nrm, tynrm] <;> rfl) | rfl) (by simp only [tre, tytre, Bool.and_self]) (g_law02_known_ok  _ o59) ?_
       refine fin_cut (fun tm => tm 61 = .lit (.bool true) ∧ tm 62 = .lit (.bool r58) ∧ True) (by refine ⟨?_, ?_, trivial⟩ <;> first | (simp only [ua, d25, e45, e46, e47, e48, e49, e50, e51, e52, d53, d54, d55, d56, d57, nm, seval] <;> rfl) | rfl) ?_
       rintro tm ⟨e60, e61, _⟩
       simp only [vz, tyf, d25, d53, d54, d55, d56, d57, e60, e61, nm, seval]
       obtain rfl := kF _ h
       exact opd_bool Tryz.results10 (by first | rfl | (simp only [upd_apply, seval] <;> rfl))
     simp only [d53, hs, reduceCtorEq] at h
     cases o63 : (g_ref02_Board x0_s x1_a1) with
     | none =>
      simp only [o63, hs, reduceCtorEq] at h
      exact absurd h kN
     | some r62 =>
      simp only [o63, hs, reduceCtorEq] at h
      simp only [vz, tyf, d25, e45, e46, e47, e48, e49, e50, e51, e52, d53, nm, seval]
      refine ktree (args0 := [.agg (cGSightStreet x0_s), .lit (.int .i64 x1_a1)]) (by first | (simp only [nrm, tynrm] <;> rfl) | rfl) (by simp only [tre, tytre, Bool.and_self]) (g_ref02_Board_ok _ _ _ o63) ?_
      refine fin_cut (fun tm => tm 1 = .lit (.int .i64 x1_a1) ∧ tm 3 = .ptr 0 0 ∧ tm 5 = .ptr 1 0 ∧ tm 7 = .lit (.int .i64 r29.1) ∧ tm 8 = .lit (.int .i64 r29.2) ∧ tm 9 = .lit (.int .i64 r35.1) ∧ tm 10 = .lit (.int .i64 r35.2) ∧ tm 35 = .lit (.bool false) ∧ tm 38 = .lit (.bool r62) ∧ True) (by refine ⟨e45, e46, e47, e48, e49, e50, e51, ?_, ?_, trivial⟩ <;> first | (simp only [ua, d25, e45, e46, e47, e48, e49, e50, e51, e52, d53, nm, seval] <;> rfl) | rfl) ?_
      rintro tm ⟨e64, e65, e66, e67, e68, e69, e70, e71, e72, _⟩
      cases d73 : (r62)
      ·simp only [d73, hs, reduceCtorEq] at h
       cases d74 : (r29.2 == 2)
       ·simp only [d74, hs, reduceCtorEq] at h
        simp only [vz, tyf, d25, d53, e64, e65, e66, e67, e68, e69, e70, e71, e72, d73, d74, nm, seval]
        obtain rfl := kF _ h
        exact opd_bool Tryz.results10 (by first | rfl | (simp only [upd_apply, seval] <;> rfl))
       simp only [d74, hs, reduceCtorEq] at h
       cases d75 : (r29.1 == 0)
       ·simp only [d75, hs, reduceCtorEq] at h
        simp only [vz, tyf, d25, d53, e64, e65, e66, e67, e68, e69, e70, e71, e72, d73, d74, d75, nm, seval]
        obtain rfl := kF _ h
        exact opd_bool Tryz.results10 (by first | rfl | (simp only [upd_apply, seval] <;> rfl))
       simp only [d75, hs, reduceCtorEq] at h
       cases d76 : (r35.2 == 2)
       ·simp only [d76, hs, reduceCtorEq] at h
        simp only [vz, tyf, d25, d53, e64, e65, e66, e67, e68, e69, e70, e71, e72, d73, d74, d75, d76, nm, seval]
        obtain rfl := kF _ h
        exact opd_bool Tryz.results10 (by first | rfl | (simp only [upd_apply, seval] <;> rfl))
       simp only [d76, hs, reduceCtorEq] at h
       cases d77 : (r35.1 == 0)
       ·simp only [d77, hs, reduceCtorEq] at h
        have b78 := And.intro d25 (And.intro d53 (And.intro d73 (And.intro d74 (And.intro d75 (And.intro d76 d77)))))
        simp only [vz, tyf, b78, e64, e65, e66, e67, e68, e69, e70, e71, e72, nm, seval]
        obtain rfl := kF _ h
        exact opd_bool Tryz.results10 (by first | rfl | (simp only [upd_apply, seval] <;> rfl))
       simp only [d77, hs, reduceCtorEq] at h
       have b79 := And.intro d25 (And.intro d53 (And.intro d73 (And.intro d74 (And.intro d75 (And.intro d76 d77)))))
       cases o81 : (g_law02_known ) with
       | none =>
        simp only [o81, hs, reduceCtorEq] at h
        exact absurd h kN
       | some r80 =>
        simp only [o81, hs, reduceCtorEq] at h
        simp only [vz, tyf, b79, e64, e65, e66, e67, e68, e69, e70, e71, e72, nm, seval]
        refine ktree (args0 := []) (by first | (simp only [nrm, tynrm] <;> rfl) | rfl) (by simp only [tre, tytre, Bool.and_self]) (g_law02_known_ok  _ o81) ?_
        refine fin_cut (fun tm => tm 61 = .lit (.bool true) ∧ tm 62 = .lit (.bool r80) ∧ True) (by refine ⟨?_, ?_, trivial⟩ <;> first | (simp only [ua, b79, e64, e65, e66, e67, e68, e69, e70, e71, e72, nm, seval] <;> rfl) | rfl) ?_
        rintro tm ⟨e82, e83, _⟩
        simp only [vz, tyf, b79, e82, e83, nm, seval]
        obtain rfl := kF _ h
        exact opd_bool Tryz.results10 (by first | rfl | (simp only [upd_apply, seval] <;> rfl))
      simp only [d73, hs, reduceCtorEq] at h
      cases o85 : (g_ref02_Place x0_s x2_a2) with
      | none =>
       simp only [o85, hs, reduceCtorEq] at h
       exact absurd h kN
      | some r84 =>
       simp only [o85, hs, reduceCtorEq] at h
       simp only [vz, tyf, d25, d53, e64, e65, e66, e67, e68, e69, e70, e71, e72, d73, nm, seval]
       refine ktree (args0 := [.agg (cGSightStreet x0_s), .agg (cGSightPlace x2_a2)]) (by first | (simp only [nrm, tynrm] <;> rfl) | rfl) (by simp only [tre, tytre, Bool.and_self]) (g_ref02_Place_ok _ _ _ o85) ?_
       refine fin_cut (fun tm => tm 1 = .lit (.int .i64 x1_a1) ∧ tm 3 = .ptr 0 0 ∧ tm 5 = .ptr 1 0 ∧ tm 7 = .lit (.int .i64 r29.1) ∧ tm 8 = .lit (.int .i64 r29.2) ∧ tm 9 = .lit (.int .i64 r35.1) ∧ tm 10 = .lit (.int .i64 r35.2) ∧ tm 41 = .lit (.bool false) ∧ tm 44 = .lit (.bool r84) ∧ True) (by refine ⟨e64, e65, e66, e67, e68, e69, e70, ?_, ?_, trivial⟩ <;> first | (simp only [ua, d25, d53, e64, e65, e66, e67, e68, e69, e70, e71, e72, d73, nm, seval] <;> rfl) | rfl) ?_
       rintro tm ⟨e86, e87, e88, e89, e90, e91, e92, e93, e94, _⟩
       cases d95 : (r84)
       ·simp only [d95, hs, reduceCtorEq] at h
        cases d96 : (r29.2 == 2)
        ·simp only [d96, hs, reduceCtorEq] at h
         simp only [vz, tyf, d25, d53, d73, e86, e87, e88, e89, e90, e91, e92, e93, e94, d95, d96, nm, seval]
         obtain rfl := kF _ h
         exact opd_bool Tryz.results10 (by first | rfl | (simp only [upd_apply, seval] <;> rfl))
        simp only [d96, hs, reduceCtorEq] at h
        cases d97 : (r29.1 == 0)
        ·simp only [d97, hs, reduceCtorEq] at h
         simp only [vz, tyf, d25, d53, d73, e86, e87, e88, e89, e90, e91, e92, e93, e94, d95, d96, d97, nm, seval]
         obtain rfl := kF _ h
         exact opd_bool Tryz.results10 (by first | rfl | (simp only [upd_apply, seval] <;> rfl))
        simp only [d97, hs, reduceCtorEq] at h
        cases d98 : (r35.2 == 2)
        ·simp only [d98, hs, reduceCtorEq] at h
         have b99 := And.intro d25 (And.intro d53 (And.intro d73 (And.intro d95 (And.intro d96 (And.intro d97 d98)))))
         simp only [vz, tyf, b99, e86, e87, e88, e89, e90, e91, e92, e93, e94, nm, seval]
         obtain rfl := kF _ h
         exact opd_bool Tryz.results10 (by first | rfl | (simp only [upd_apply, seval] <;> rfl))
        simp only [d98, hs, reduceCtorEq] at h
        have b100 := And.intro d25 (And.intro d53 (And.intro d73 (And.intro d95 (And.intro d96 (And.intro d97 d98)))))
        cases d101 : (r35.1 == 0)
        ·simp only [d101, hs, reduceCtorEq] at h
         simp only [vz, tyf, b100, e86, e87, e88, e89, e90, e91, e92, e93, e94, d101, nm, seval]
         obtain rfl := kF _ h
         exact opd_bool Tryz.results10 (by first | rfl | (simp only [upd_apply, seval] <;> rfl))
        simp only [d101, hs, reduceCtorEq] at h
        cases o103 : (g_law02_known ) with
        | none =>
         simp only [o103, hs, reduceCtorEq] at h
         exact absurd h kN
        | some r102 =>
         simp only [o103, hs, reduceCtorEq] at h
         simp only [vz, tyf, b100, e86, e87, e88, e89, e90, e91, e92, e93, e94, d101, nm, seval]
         refine ktree (args0 := []) (by first | (simp only [nrm, tynrm] <;> rfl) | rfl) (by simp only [tre, tytre, Bool.and_self]) (g_law02_known_ok  _ o103) ?_
         refine fin_cut (fun tm => tm 61 = .lit (.bool true) ∧ tm 62 = .lit (.bool r102) ∧ True) (by refine ⟨?_, ?_, trivial⟩ <;> first | (simp only [ua, b100, e86, e87, e88, e89, e90, e91, e92, e93, e94, d101, nm, seval] <;> rfl) | rfl) ?_
         rintro tm ⟨e104, e105, _⟩
         simp only [vz, tyf, b100, d101, e104, e105, nm, seval]
         obtain rfl := kF _ h
         exact opd_bool Tryz.results10 (by first | rfl | (simp only [upd_apply, seval] <;> rfl))
       simp only [d95, hs, reduceCtorEq] at h
       simp only [vz, tyf, d25, d53, d73, e86, e87, e88, e89, e90, e91, e92, e93, e94, d95, nm, seval]
       refine cwp_drwQF (fun tm => tm 1 = .lit (.int .i64 x1_a1) ∧ tm 3 = .ptr 0 0 ∧ tm 5 = .ptr 1 0 ∧ tm 7 = .lit (.int .i64 r29.1) ∧ tm 8 = .lit (.int .i64 r29.2) ∧ tm 9 = .lit (.int .i64 r35.1) ∧ tm 10 = .lit (.int .i64 r35.2) ∧ True) (by refine ⟨e86, e87, e88, e89, e90, e91, e92, trivial⟩ <;> first | (simp only [ua, d25, d53, d73, e86, e87, e88, e89, e90, e91, e92, e93, e94, d95, nm, seval] <;> rfl) | rfl) ?_
       rintro tm ⟨e106, e107, e108, e109, e110, e111, e112, _⟩
       cases o114 : (getI x0_s.Boards x1_a1) with
       | none =>
        simp only [o114, hs, reduceCtorEq] at h
        exact absurd h kN
       | some x113 =>
        simp only [o114, hs, reduceCtorEq] at h
        cases o116 : (g_ref02_Least x0_s x113 x2_a2) with
        | none =>
         simp only [o116, hs, reduceCtorEq] at h
         exact absurd h kN
        | some r115 =>
         simp only [o116, hs, reduceCtorEq] at h
         simp only [vz, tyf, d25, d53, d73, d95, e106, e107, e108, e109, e110, e111, e112, (ix24 o114), nm, seval]
         refine dktree (args0 := [.agg (cGSightStreet x0_s), .agg (cGSightBoard x113), .agg (cGSightPlace x2_a2)]) (by first | (simp only [nrm, tynrm] <;> rfl) | rfl) (by simp only [tre, tytre, Bool.and_self]) (g_ref02_Least_ok _ _ _ _ o116) ?_
         refine fin_cut (fun tm => tm 1 = .lit (.int .i64 x1_a1) ∧ tm 3 = .ptr 0 0 ∧ tm 5 = .ptr 1 0 ∧ tm 7 = .lit (.int .i64 r29.1) ∧ tm 8 = .lit (.int .i64 r29.2) ∧ tm 9 = .lit (.int .i64 r35.1) ∧ tm 10 = .lit (.int .i64 r35.2) ∧ tm 72 = .tup [.lit (.int .i64 r115.1), .lit (.bool r115.2)] ∧ True) (by refine ⟨e106, e107, e108, e109, e110, e111, e112, ?_, trivial⟩ <;> first | (simp only [ua, d25, d53, d73, d95, e106, e107, e108, e109, e110, e111, e112, nm, seval] <;> rfl) | rfl) ?_
         rintro tm ⟨e117, e118, e119, e120, e121, e122, e123, e124, _⟩
         cases d125 : (r115.2)
         ·simp only [d125, hs, reduceCtorEq] at h
          cases d126 : (r29.2 != 5)
          ·simp only [d126, hs, reduceCtorEq] at h
           cases d127 : (r29.1 != 0)
           ·simp only [d127, hs, reduceCtorEq] at h
            have b128 := And.intro d25 (And.intro d53 (And.intro d73 (And.intro d95 (And.intro d125 (And.intro d126 d127)))))
            simp only [vz, tyf, b128, (ix24 o114), e117, e118, e119, e120, e121, e122, e123, e124, nm, seval]
            refine cwp_drwQF (fun tm => tm 1 = .lit (.int .i64 x1_a1) ∧ tm 3 = .ptr 0 0 ∧ tm 5 = .ptr 1 0 ∧ tm 9 = .lit (.int .i64 r35.1) ∧ tm 10 = .lit (.int .i64 r35.2) ∧ True) (by refine ⟨e117, e118, e119, e122, e123, trivial⟩ <;> first | (simp only [ua, b128, e117, e118, e119, e120, e121, e122, e123, e124, nm, seval] <;> rfl) | rfl) ?_
            rintro tm ⟨e129, e130, e131, e132, e133, _⟩
            cases o135 : (g_ref02_Light x0_s x113 x2_a2) with
            | none =>
             simp only [o135, hs, reduceCtorEq] at h
             exact absurd h kN
            | some r134 =>
             simp only [o135, hs, reduceCtorEq] at h
             simp only [vz, tyf, b128, (ix24 o114), e129, e130, e131, e132, e133, nm, seval]
             refine dktree (args0 := [.agg (cGSightStreet x0_s), .agg (cGSightBoard x113), .agg (cGSightPlace x2_a2)]) (by first | (simp only [nrm, tynrm] <;> rfl) | rfl) (by simp only [tre, tytre, Bool.and_self]) (g_ref02_Light_ok _ _ _ _ o135) ?_
             refine fin_cut (fun tm => tm 9 = .lit (.int .i64 r35.1) ∧ tm 10 = .lit (.int .i64 r35.2) ∧ tm 105 = .tup [.lit (.int .i64 r134.1), .lit (.bool r134.2)] ∧ True) (by refine ⟨e132, e133, ?_, trivial⟩ <;> first | (simp only [ua, b128, e129, e130, e131, e132, e133, nm, seval] <;> rfl) | rfl) ?_
             rintro tm ⟨e136, e137, e138, _⟩
             cases d139 : (r134.2)
             ·simp only [d139, hs, reduceCtorEq] at h
              cases d140 : (r35.2 == 5)
              ·simp only [d140, hs, reduceCtorEq] at h
               simp only [vz, tyf, b128, (ix24 o114), e136, e137, e138, d139, d140, nm, seval]
               obtain rfl := kF _ h
               exact opd_bool Tryz.results10 (by first | rfl | (simp only [upd_apply, seval] <;> rfl))
              simp only [d140, hs, reduceCtorEq] at h
              cases d141 : (r35.1 == 0)
              ·simp only [d141, hs, reduceCtorEq] at h
               simp only [vz, tyf, b128, (ix24 o114), e136, e137, e138, d139, d140, d141, nm, seval]
               obtain rfl := kF _ h
               exact opd_bool Tryz.results10 (by first | rfl | (simp only [upd_apply, seval] <;> rfl))
              simp only [d141, hs, reduceCtorEq] at h
              cases o143 : (g_law02_known ) with
              | none =>
               simp only [o143, hs, reduceCtorEq] at h
               exact absurd h kN
              | some r142 =>
               simp only [o143, hs, reduceCtorEq] at h
               simp only [vz, tyf, b128, (ix24 o114), e136, e137, e138, d139, d140, d141, nm, seval]
               refine ktree (args0 := []) (by first | (simp only [nrm, tynrm] <;> rfl) | rfl) (by simp only [tre, tytre, Bool.and_self]) (g_law02_known_ok  _ o143) ?_
               refine fin_cut (fun tm => tm 116 = .lit (.bool true) ∧ tm 117 = .lit (.bool r142) ∧ True) (by refine ⟨?_, ?_, trivial⟩ <;> first | (simp only [ua, b128, e136, e137, e138, d139, d140, d141, nm, seval] <;> rfl) | rfl) ?_
               rintro tm ⟨e144, e145, _⟩
               simp only [vz, tyf, b128, (ix24 o114), d139, d140, d141, e144, e145, nm, seval]
               obtain rfl := kF _ h
               exact opd_bool Tryz.results10 (by first | rfl | (simp only [upd_apply, seval] <;> rfl))
             simp only [d139, hs, reduceCtorEq] at h
             cases d146 : (r35.2 == 0)
             ·simp only [d146, hs, reduceCtorEq] at h
              simp only [vz, tyf, b128, (ix24 o114), e136, e137, e138, d139, d146, nm, seval]
              obtain rfl := kF _ h
              exact opd_bool Tryz.results10 (by first | rfl | (simp only [upd_apply, seval] <;> rfl))
             simp only [d146, hs, reduceCtorEq] at h
             cases d147 : (r35.1 == r134.1)
             ·simp only [d147, hs, reduceCtorEq] at h
              simp only [vz, tyf, b128, (ix24 o114), e136, e137, e138, d139, d146, d147, nm, seval]
              obtain rfl := kF _ h
              exact opd_bool Tryz.results10 (by first | rfl | (simp only [upd_apply, seval] <;> rfl))
             simp only [d147, hs, reduceCtorEq] at h
             cases o149 : (g_law02_known ) with
             | none =>
              simp only [o149, hs, reduceCtorEq] at h
              exact absurd h kN
             | some r148 =>
              simp only [o149, hs, reduceCtorEq] at h
              simp only [vz, tyf, b128, (ix24 o114), e136, e137, e138, d139, d146, d147, nm, seval]
              refine ktree (args0 := []) (by first | (simp only [nrm, tynrm] <;> rfl) | rfl) (by simp only [tre, tytre, Bool.and_self]) (g_law02_known_ok  _ o149) ?_
              refine fin_cut (fun tm => tm 126 = .lit (.bool true) ∧ tm 127 = .lit (.bool r148) ∧ True) (by refine ⟨?_, ?_, trivial⟩ <;> first | (simp only [ua, b128, e136, e137, e138, d139, d146, d147, nm, seval] <;> rfl) | rfl) ?_
              rintro tm ⟨e150, e151, _⟩
              simp only [vz, tyf, b128, (ix24 o114), d139, d146, d147, e150, e151, nm, seval]
              obtain rfl := kF _ h
              exact opd_bool Tryz.results10 (by first | rfl | (simp only [upd_apply, seval] <;> rfl))
           simp only [d127, hs, reduceCtorEq] at h
           have b152 := And.intro d25 (And.intro d53 (And.intro d73 (And.intro d95 (And.intro d125 (And.intro d126 d127)))))
           simp only [vz, tyf, b152, (ix24 o114), e117, e118, e119, e120, e121, e122, e123, e124, nm, seval]
           obtain rfl := kF _ h
           exact opd_bool Tryz.results10 (by first | rfl | (simp only [upd_apply, seval] <;> rfl))
          simp only [d126, hs, reduceCtorEq] at h
          simp only [vz, tyf, d25, d53, d73, d95, (ix24 o114), e117, e118, e119, e120, e121, e122, e123, e124, d125, d126, nm, seval]
          obtain rfl := kF _ h
          exact opd_bool Tryz.results10 (by first | rfl | (simp only [upd_apply, seval] <;> rfl))
         simp only [d125, hs, reduceCtorEq] at h
         cases d153 : (r29.2 != 0)
         ·simp only [d153, hs, reduceCtorEq] at h
          cases d154 : (r29.1 != r115.1)
          ·simp only [d154, hs, reduceCtorEq] at h
           have b155 := And.intro d25 (And.intro d53 (And.intro d73 (And.intro d95 (And.intro d125 (And.intro d153 d154)))))
           simp only [vz, tyf, b155, (ix24 o114), e117, e118, e119, e120, e121, e122, e123, e124, nm, seval]
           refine cwp_drwQF (fun tm => tm 1 = .lit (.int .i64 x1_a1) ∧ tm 3 = .ptr 0 0 ∧ tm 5 = .ptr 1 0 ∧ tm 9 = .lit (.int .i64 r35.1) ∧ tm 10 = .lit (.int .i64 r35.2) ∧ True) (by refine ⟨e117, e118, e119, e122, e123, trivial⟩ <;> first | (simp only [ua, b155, e117, e118, e119, e120, e121, e122, e123, e124, nm, seval] <;> rfl) | rfl) ?_
           rintro tm ⟨e156, e157, e158, e159, e160, _⟩
           cases o162 : (g_ref02_Light x0_s x113 x2_a2) with
           | none =>
            simp only [o162, hs, reduceCtorEq] at h
            exact absurd h kN
           | some r161 =>
            simp only [o162, hs, reduceCtorEq] at h
            simp only [vz, tyf, b155, (ix24 o114), e156, e157, e158, e159, e160, nm, seval]
            refine dktree (args0 := [.agg (cGSightStreet x0_s), .agg (cGSightBoard x113), .agg (cGSightPlace x2_a2)]) (by first | (simp only [nrm, tynrm] <;> rfl) | rfl) (by simp only [tre, tytre, Bool.and_self]) (g_ref02_Light_ok _ _ _ _ o162) ?_
            refine fin_cut (fun tm => tm 9 = .lit (.int .i64 r35.1) ∧ tm 10 = .lit (.int .i64 r35.2) ∧ tm 105 = .tup [.lit (.int .i64 r161.1), .lit (.bool r161.2)] ∧ True) (by refine ⟨e159, e160, ?_, trivial⟩ <;> first | (simp only [ua, b155, e156, e157, e158, e159, e160, nm, seval] <;> rfl) | rfl) ?_
            rintro tm ⟨e163, e164, e165, _⟩
            cases d166 : (r161.2)
            ·simp only [d166, hs, reduceCtorEq] at h
             cases d167 : (r35.2 == 5)
             ·simp only [d167, hs, reduceCtorEq] at h
              simp only [vz, tyf, b155, (ix24 o114), e163, e164, e165, d166, d167, nm, seval]
              obtain rfl := kF _ h
              exact opd_bool Tryz.results10 (by first | rfl | (simp only [upd_apply, seval] <;> rfl))
             simp only [d167, hs, reduceCtorEq] at h
             cases d168 : (r35.1 == 0)
             ·simp only [d168, hs, reduceCtorEq] at h
              simp only [vz, tyf, b155, (ix24 o114), e163, e164, e165, d166, d167, d168, nm, seval]
              obtain rfl := kF _ h
              exact opd_bool Tryz.results10 (by first | rfl | (simp only [upd_apply, seval] <;> rfl))
             simp only [d168, hs, reduceCtorEq] at h
             cases o170 : (g_law02_known ) with
             | none =>
              simp only [o170, hs, reduceCtorEq] at h
              exact absurd h kN
             | some r169 =>
              simp only [o170, hs, reduceCtorEq] at h
              simp only [vz, tyf, b155, (ix24 o114), e163, e164, e165, d166, d167, d168, nm, seval]
              refine ktree (args0 := []) (by first | (simp only [nrm, tynrm] <;> rfl) | rfl) (by simp only [tre, tytre, Bool.and_self]) (g_law02_known_ok  _ o170) ?_
              refine fin_cut (fun tm => tm 116 = .lit (.bool true) ∧ tm 117 = .lit (.bool r169) ∧ True) (by refine ⟨?_, ?_, trivial⟩ <;> first | (simp only [ua, b155, e163, e164, e165, d166, d167, d168, nm, seval] <;> rfl) | rfl) ?_
              rintro tm ⟨e171, e172, _⟩
              simp only [vz, tyf, b155, (ix24 o114), d166, d167, d168, e171, e172, nm, seval]
              obtain rfl := kF _ h
              exact opd_bool Tryz.results10 (by first | rfl | (simp only [upd_apply, seval] <;> rfl))
            simp only [d166, hs, reduceCtorEq] at h
            cases d173 : (r35.2 == 0)
            ·simp only [d173, hs, reduceCtorEq] at h
             simp only [vz, tyf, b155, (ix24 o114), e163, e164, e165, d166, d173, nm, seval]
             obtain rfl := kF _ h
             exact opd_bool Tryz.results10 (by first | rfl | (simp only [upd_apply, seval] <;> rfl))
            simp only [d173, hs, reduceCtorEq] at h
            cases d174 : (r35.1 == r161.1)
            ·simp only [d174, hs, reduceCtorEq] at h
             simp only [vz, tyf, b155, (ix24 o114), e163, e164, e165, d166, d173, d174, nm, seval]
             obtain rfl := kF _ h
             exact opd_bool Tryz.results10 (by first | rfl | (simp only [upd_apply, seval] <;> rfl))
            simp only [d174, hs, reduceCtorEq] at h
            cases o176 : (g_law02_known ) with
            | none =>
             simp only [o176, hs, reduceCtorEq] at h
             exact absurd h kN
            | some r175 =>
             simp only [o176, hs, reduceCtorEq] at h
             simp only [vz, tyf, b155, (ix24 o114), e163, e164, e165, d166, d173, d174, nm, seval]
             refine ktree (args0 := []) (by first | (simp only [nrm, tynrm] <;> rfl) | rfl) (by simp only [tre, tytre, Bool.and_self]) (g_law02_known_ok  _ o176) ?_
             refine fin_cut (fun tm => tm 126 = .lit (.bool true) ∧ tm 127 = .lit (.bool r175) ∧ True) (by refine ⟨?_, ?_, trivial⟩ <;> first | (simp only [ua, b155, e163, e164, e165, d166, d173, d174, nm, seval] <;> rfl) | rfl) ?_
             rintro tm ⟨e177, e178, _⟩
             simp only [vz, tyf, b155, (ix24 o114), d166, d173, d174, e177, e178, nm, seval]
             obtain rfl := kF _ h
             exact opd_bool Tryz.results10 (by first | rfl | (simp only [upd_apply, seval] <;> rfl))
          simp only [d154, hs, reduceCtorEq] at h
          have b179 := And.intro d25 (And.intro d53 (And.intro d73 (And.intro d95 (And.intro d125 (And.intro d153 d154)))))
          simp only [vz, tyf, b179, (ix24 o114), e117, e118, e119, e120, e121, e122, e123, e124, nm, seval]
          obtain rfl := kF _ h
          exact opd_bool Tryz.results10 (by first | rfl | (simp only [upd_apply, seval] <;> rfl))
         simp only [d153, hs, reduceCtorEq] at h
         simp only [vz, tyf, d25, d53, d73, d95, (ix24 o114), e117, e118, e119, e120, e121, e122, e123, e124, d125, d153, nm, seval]
         obtain rfl := kF _ h
         exact opd_bool Tryz.results10 (by first | rfl | (simp only [upd_apply, seval] <;> rfl))
end Go.V
end
section
namespace Go.V
open Go
theorem SightLeasts_true (s : GSightStreet) (n : Int) (p : GSightPlace) (h : FineS s) : g_law02_SightLeasts s n p = some true := by
 obtain ⟨bs, hb⟩ := short_some s h
 simp only [g_law02_SightLeasts, hb, Option.bind_some, refStreet_eq s h, refBoard_eq, refPlace_eq, g_law02_known]
 change cond bs _ _ = _
 cases bs
 ·rfl
 simp only [cond_true]
 have hv := isView_eq s n p h
 cases g : (streetB s && (numB s n && placeB s p)) with
 | true =>
  rw [g] at hv
  simp only [Bool.and_eq_true] at g
  obtain ⟨h1, h2, h3⟩ := g
  obtain ⟨b, b1, b2, b3⟩ := good_of h1 h2 h3
  simp only [numB] at h2
  simp only [Least_good b3 b1 hv, Light_good b3 b1 hv, refLeast_eq b3, refLight_eq b3, Option.bind_some, h1, h2, h3, cond_true, b1]
  cases firstN (fun k => sureB s (timesB b k) p) 9 1 with
  | none =>
   cases firstN (fun v => sureB (litS s v) b p) 100 1 with
   | none => rfl
   | some m => simp only [outN, outR, cond_true, cond_false, bne_self_eq_false, beq_self_eq_true]
  | some k =>
   cases firstN (fun v => sureB (litS s v) b p) 100 1 with
   | none => simp only [outN, outR, cond_true, cond_false, bne_self_eq_false, beq_self_eq_true]
   | some m => simp only [outN, outR, cond_true, cond_false, bne_self_eq_false, beq_self_eq_true]
 | false =>
  rw [g] at hv
  simp only [g_sight_Least, g_sight_Light, hv, Option.bind_some, cond_false]
  cases g1 : streetB s with
  | false => rfl
  | true =>
   simp only [cond_true]
   cases g2 : numB s n with
   | false => simp only [numB] at g2; simp only [g2]; rfl
   | true =>
    cases g3 : placeB s p with
    | false => simp only [numB] at g2; simp only [g2]; rfl
    | true => rw [g1, g2, g3] at g; cases g
end Go.V
end
