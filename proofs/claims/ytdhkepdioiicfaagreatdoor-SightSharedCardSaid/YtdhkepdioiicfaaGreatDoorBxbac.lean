/- Part of a proof: a logic of values by content, lifted functions, what follows. -/
import Derived.Test.YtdhkepdioiicfaaGreatDoorBbc
import Derived.Test.YtdhkepdioiicfaaGreatDoorBbd
import Derived.Test.YtdhkepdioiicfaaGreatDoorBbf
import Derived.Test.YtdhkepdioiicfaaGreatDoorBbg
import Derived.Test.YtdhkepdioiicfaaGreatDoorBbm
import Derived.Test.YtdhkepdioiicfaaGreatDoorBbo
import Derived.Test.YtdhkepdioiicfaaGreatDoorBbj
import Derived.Test.YtdhkepdioiicfaaGreatDoorBbl
import Derived.Test.YtdhkepdioiicfaaGreatDoorBbn
set_option linter.all false
set_option maxRecDepth 4000
set_option maxHeartbeats 4000000
section
set_option maxRecDepth 100000
namespace Go.V
open Go Go.Proofs
def Ok_GSightBoard (x : GSightBoard) : Prop := lenOk x.Letters = true
def Ok_GSightStreet (x : GSightStreet) : Prop := lenOk x.Boards = true ∧ (∀ y ∈ x.Boards, Ok_GSightBoard y) ∧ lenOk x.Blocks = true
section
variable {P : Program} (hu3 : P.underlying 3 = some (.int .i64)) {f23 : Array Field} (hu23 : P.underlying 23 = some (.struct f23)) (ht23 : f23.toList.map Field.type = [3, 3]) {f66 : Array Field} (hu66 : P.underlying 66 = some (.struct f66)) (ht66 : f66.toList.map Field.type = [3, 3, 3, 3]) (hu38 : P.underlying 38 = some (.slice 66)) {f40 : Array Field} (hu40 : P.underlying 40 = some (.struct f40)) (ht40 : f40.toList.map Field.type = [3, 38]) (hu24 : P.underlying 24 = some (.slice 40)) (hu4 : P.underlying 4 = some (.bool)) {f69 : Array Field} (hu69 : P.underlying 69 = some (.struct f69)) (ht69 : f69.toList.map Field.type = [23, 23, 4]) (hu25 : P.underlying 25 = some (.slice 69)) {f27 : Array Field} (hu27 : P.underlying 27 = some (.struct f27)) (ht27 : f27.toList.map Field.type = [3, 3, 23, 23, 24, 25]) {f34 : Array Field} (hu34 : P.underlying 34 = some (.struct f34)) (ht34 : f34.toList.map Field.type = [3, 3])
include hu3 hu23 ht23 hu66 ht66 hu38 hu40 ht40 hu24 hu4 hu69 ht69 hu25 hu27 ht27 hu34 ht34
theorem gd_3 {n : Nat} : Dec P (n + 1) 3 eI (fun _ => True) := dec_int hu3
theorem gd_23 {n : Nat} : Dec P (n + 2) 23 cGSpan (fun _ => True) := by
 intro xs h
 obtain ⟨yss, hf, rfl⟩ := dec_struct (n := n + 1) (ts := [3, 3]) hu23 ht23 h
 match yss, hf with
 | [y0, y1], ⟨h0, h1, _⟩ =>
  obtain ⟨x0, r0, e0⟩ := gd_3 hu3 hu23 ht23 hu66 ht66 hu38 hu40 ht40 hu24 hu4 hu69 ht69 hu25 hu27 ht27 hu34 ht34 (n := n + 0) _ h0
  obtain ⟨x1, r1, e1⟩ := gd_3 hu3 hu23 ht23 hu66 ht66 hu38 hu40 ht40 hu24 hu4 hu69 ht69 hu25 hu27 ht27 hu34 ht34 (n := n + 0) _ h1
  exact ⟨⟨x0, x1⟩, trivial, by simp only [List.flatten_cons, List.flatten_nil, List.append_nil, normL_append, e0, e1, eI, eU8, eB, eS, eSl, cGSpan_eq, List.cons_append, List.nil_append]⟩
theorem gd_66 {n : Nat} : Dec P (n + 2) 66 cGSightLetter (fun _ => True) := by
 intro xs h
 obtain ⟨yss, hf, rfl⟩ := dec_struct (n := n + 1) (ts := [3, 3, 3, 3]) hu66 ht66 h
 match yss, hf with
 | [y0, y1, y2, y3], ⟨h0, h1, h2, h3, _⟩ =>
  obtain ⟨x0, r0, e0⟩ := gd_3 hu3 hu23 ht23 hu66 ht66 hu38 hu40 ht40 hu24 hu4 hu69 ht69 hu25 hu27 ht27 hu34 ht34 (n := n + 0) _ h0
  obtain ⟨x1, r1, e1⟩ := gd_3 hu3 hu23 ht23 hu66 ht66 hu38 hu40 ht40 hu24 hu4 hu69 ht69 hu25 hu27 ht27 hu34 ht34 (n := n + 0) _ h1
  obtain ⟨x2, r2, e2⟩ := gd_3 hu3 hu23 ht23 hu66 ht66 hu38 hu40 ht40 hu24 hu4 hu69 ht69 hu25 hu27 ht27 hu34 ht34 (n := n + 0) _ h2
  obtain ⟨x3, r3, e3⟩ := gd_3 hu3 hu23 ht23 hu66 ht66 hu38 hu40 ht40 hu24 hu4 hu69 ht69 hu25 hu27 ht27 hu34 ht34 (n := n + 0) _ h3
  exact ⟨⟨x0, x1, x2, x3⟩, trivial, by simp only [List.flatten_cons, List.flatten_nil, List.append_nil, normL_append, e0, e1, e2, e3, eI, eU8, eB, eS, eSl, cGSightLetter_eq, List.cons_append, List.nil_append]⟩
theorem gd_38 {n : Nat} : Dec P (n + 3) 38 (eSl cGSightLetter) (fun l => lenOk l = true ∧ ∀ x ∈ l, True) := dec_slice hu38 (gd_66 hu3 hu23 ht23 hu66 ht66 hu38 hu40 ht40 hu24 hu4 hu69 ht69 hu25 hu27 ht27 hu34 ht34 (n := n))
theorem gd_40 {n : Nat} : Dec P (n + 4) 40 cGSightBoard (Ok_GSightBoard) := by
 intro xs h
 obtain ⟨yss, hf, rfl⟩ := dec_struct (n := n + 3) (ts := [3, 38]) hu40 ht40 h
 match yss, hf with
 | [y0, y1], ⟨h0, h1, _⟩ =>
  obtain ⟨x0, r0, e0⟩ := gd_3 hu3 hu23 ht23 hu66 ht66 hu38 hu40 ht40 hu24 hu4 hu69 ht69 hu25 hu27 ht27 hu34 ht34 (n := n + 2) _ h0
  obtain ⟨x1, r1, e1⟩ := gd_38 hu3 hu23 ht23 hu66 ht66 hu38 hu40 ht40 hu24 hu4 hu69 ht69 hu25 hu27 ht27 hu34 ht34 (n := n + 0) _ h1
  exact ⟨⟨x0, x1⟩, r1.1, by simp only [List.flatten_cons, List.flatten_nil, List.append_nil, normL_append, e0, e1, eI, eU8, eB, eS, eSl, cGSightBoard_eq, List.cons_append, List.nil_append]⟩
theorem gd_24 {n : Nat} : Dec P (n + 5) 24 (eSl cGSightBoard) (fun l => lenOk l = true ∧ ∀ x ∈ l, Ok_GSightBoard x) := dec_slice hu24 (gd_40 hu3 hu23 ht23 hu66 ht66 hu38 hu40 ht40 hu24 hu4 hu69 ht69 hu25 hu27 ht27 hu34 ht34 (n := n))
theorem gd_4 {n : Nat} : Dec P (n + 1) 4 eB (fun _ => True) := dec_bool hu4
theorem gd_69 {n : Nat} : Dec P (n + 3) 69 cGSightBlock (fun _ => True) := by
 intro xs h
 obtain ⟨yss, hf, rfl⟩ := dec_struct (n := n + 2) (ts := [23, 23, 4]) hu69 ht69 h
 match yss, hf with
 | [y0, y1, y2], ⟨h0, h1, h2, _⟩ =>
  obtain ⟨x0, r0, e0⟩ := gd_23 hu3 hu23 ht23 hu66 ht66 hu38 hu40 ht40 hu24 hu4 hu69 ht69 hu25 hu27 ht27 hu34 ht34 (n := n + 0) _ h0
  obtain ⟨x1, r1, e1⟩ := gd_23 hu3 hu23 ht23 hu66 ht66 hu38 hu40 ht40 hu24 hu4 hu69 ht69 hu25 hu27 ht27 hu34 ht34 (n := n + 0) _ h1
  obtain ⟨x2, r2, e2⟩ := gd_4 hu3 hu23 ht23 hu66 ht66 hu38 hu40 ht40 hu24 hu4 hu69 ht69 hu25 hu27 ht27 hu34 ht34 (n := n + 1) _ h2
  exact ⟨⟨x0, x1, x2⟩, trivial, by simp only [List.flatten_cons, List.flatten_nil, List.append_nil, normL_append, e0, e1, e2, eI, eU8, eB, eS, eSl, cGSightBlock_eq, cGSpan_eq, List.cons_append, List.nil_append]⟩
theorem gd_25 {n : Nat} : Dec P (n + 4) 25 (eSl cGSightBlock) (fun l => lenOk l = true ∧ ∀ x ∈ l, True) := dec_slice hu25 (gd_69 hu3 hu23 ht23 hu66 ht66 hu38 hu40 ht40 hu24 hu4 hu69 ht69 hu25 hu27 ht27 hu34 ht34 (n := n))
theorem gd_27 {n : Nat} : Dec P (n + 6) 27 cGSightStreet (Ok_GSightStreet) := by
 intro xs h
 obtain ⟨yss, hf, rfl⟩ := dec_struct (n := n + 5) (ts := [3, 3, 23, 23, 24, 25]) hu27 ht27 h
 match yss, hf with
 | [y0, y1, y2, y3, y4, y5], ⟨h0, h1, h2, h3, h4, h5, _⟩ =>
  obtain ⟨x0, r0, e0⟩ := gd_3 hu3 hu23 ht23 hu66 ht66 hu38 hu40 ht40 hu24 hu4 hu69 ht69 hu25 hu27 ht27 hu34 ht34 (n := n + 4) _ h0
  obtain ⟨x1, r1, e1⟩ := gd_3 hu3 hu23 ht23 hu66 ht66 hu38 hu40 ht40 hu24 hu4 hu69 ht69 hu25 hu27 ht27 hu34 ht34 (n := n + 4) _ h1
  obtain ⟨x2, r2, e2⟩ := gd_23 hu3 hu23 ht23 hu66 ht66 hu38 hu40 ht40 hu24 hu4 hu69 ht69 hu25 hu27 ht27 hu34 ht34 (n := n + 3) _ h2
  obtain ⟨x3, r3, e3⟩ := gd_23 hu3 hu23 ht23 hu66 ht66 hu38 hu40 ht40 hu24 hu4 hu69 ht69 hu25 hu27 ht27 hu34 ht34 (n := n + 3) _ h3
  obtain ⟨x4, r4, e4⟩ := gd_24 hu3 hu23 ht23 hu66 ht66 hu38 hu40 ht40 hu24 hu4 hu69 ht69 hu25 hu27 ht27 hu34 ht34 (n := n + 0) _ h4
  obtain ⟨x5, r5, e5⟩ := gd_25 hu3 hu23 ht23 hu66 ht66 hu38 hu40 ht40 hu24 hu4 hu69 ht69 hu25 hu27 ht27 hu34 ht34 (n := n + 1) _ h5
  exact ⟨⟨x0, x1, x2, x3, x4, x5⟩, ⟨r4.1, r4.2, r5.1⟩, by simp only [List.flatten_cons, List.flatten_nil, List.append_nil, normL_append, e0, e1, e2, e3, e4, e5, eI, eU8, eB, eS, eSl, cGSightStreet_eq, cGSpan_eq, List.cons_append, List.nil_append]⟩
theorem gd_34 {n : Nat} : Dec P (n + 2) 34 cGSightPlace (fun _ => True) := by
 intro xs h
 obtain ⟨yss, hf, rfl⟩ := dec_struct (n := n + 1) (ts := [3, 3]) hu34 ht34 h
 match yss, hf with
 | [y0, y1], ⟨h0, h1, _⟩ =>
  obtain ⟨x0, r0, e0⟩ := gd_3 hu3 hu23 ht23 hu66 ht66 hu38 hu40 ht40 hu24 hu4 hu69 ht69 hu25 hu27 ht27 hu34 ht34 (n := n + 0) _ h0
  obtain ⟨x1, r1, e1⟩ := gd_3 hu3 hu23 ht23 hu66 ht66 hu38 hu40 ht40 hu24 hu4 hu69 ht69 hu25 hu27 ht27 hu34 ht34 (n := n + 0) _ h1
  exact ⟨⟨x0, x1⟩, trivial, by simp only [List.flatten_cons, List.flatten_nil, List.append_nil, normL_append, e0, e1, eI, eU8, eB, eS, eSl, cGSightPlace_eq, List.cons_append, List.nil_append]⟩
end
theorem dec_3 {n : Nat} : Dec Tryz.prog (n + 1) 3 eI (fun _ => True) := gd_3 Tryz.underlying3 Tryz.underlying23 (by kernel_rfl) Tryz.underlying66 (by kernel_rfl) Tryz.underlying38 Tryz.underlying40 (by kernel_rfl) Tryz.underlying24 Tryz.underlying4 Tryz.underlying69 (by kernel_rfl) Tryz.underlying25 Tryz.underlying27 (by kernel_rfl) Tryz.underlying34 (by kernel_rfl)
theorem dec_27 {n : Nat} : Dec Tryz.prog (n + 6) 27 cGSightStreet (Ok_GSightStreet) := gd_27 Tryz.underlying3 Tryz.underlying23 (by kernel_rfl) Tryz.underlying66 (by kernel_rfl) Tryz.underlying38 Tryz.underlying40 (by kernel_rfl) Tryz.underlying24 Tryz.underlying4 Tryz.underlying69 (by kernel_rfl) Tryz.underlying25 Tryz.underlying27 (by kernel_rfl) Tryz.underlying34 (by kernel_rfl)
theorem dec_34 {n : Nat} : Dec Tryz.prog (n + 2) 34 cGSightPlace (fun _ => True) := gd_34 Tryz.underlying3 Tryz.underlying23 (by kernel_rfl) Tryz.underlying66 (by kernel_rfl) Tryz.underlying38 Tryz.underlying40 (by kernel_rfl) Tryz.underlying24 Tryz.underlying4 Tryz.underlying69 (by kernel_rfl) Tryz.underlying25 Tryz.underlying27 (by kernel_rfl) Tryz.underlying34 (by kernel_rfl)
end Go.V
end
section
namespace Go.V
open Go Go.Proofs
def g_law02_right (x0_s : GSightStreet) (x1_board : Int) (x2_p : GSightPlace) : Option (Bool) := Option.bind (g_law02_short x0_s) (fun r1 => cond (r1) (Option.bind (g_ref02_Street x0_s) (fun r2 => cond (r2) (Option.bind (g_ref02_Board x0_s x1_board) (fun r3 => cond (r3) (Option.bind (g_ref02_Place x0_s x2_p) (fun r4 => some r4)) (some false))) (some false))) (some false))
theorem g_law02_right_ok (x0_s : GSightStreet) (x1_board : Int) (x2_p : GSightPlace) (R : Bool) (h : g_law02_right x0_s x1_board x2_p = some R) : VPure Tryz.prog G0 24 [.agg (cGSightStreet x0_s), .lit (.int .i64 x1_board), .agg (cGSightPlace x2_p)] (.tree (.lit (.bool R))) := by
 refine VPure.runR mixed Tryz.call24 Tryz.func24 rfl (by simp [Tryz.ntmps24]; kernel_rfl) ?_
 obtain ⟨KF, h, kF, kN⟩ := fun_intro h
 simp only [g_law02_right] at h
 rcases o6 : (g_law02_short x0_s) with _ | r5
 ·simp only [o6, hs] at h
  exact absurd h kN
 simp only [o6, hs] at h
 simp only [vz, tyf, nm, seval]
 refine ktree (args0 := [.agg (cGSightStreet x0_s)]) (by first | (simp only [nrm, tynrm] <;> rfl) | rfl) (by simp only [tre, tytre, Bool.and_self]) (g_law02_short_ok _ _ o6) ?_
 refine fin_cut (fun tm => tm 1 = .lit (.int .i64 x1_board) ∧ tm 3 = .ptr 0 0 ∧ tm 5 = .ptr 1 0 ∧ tm 8 = .lit (.bool r5) ∧ True) (by refine ⟨?_, ?_, ?_, ?_, trivial⟩ <;> first | (simp only [ua, nm, seval] <;> rfl) | rfl) ?_
 rintro tm ⟨e7, e8, e9, e10, _⟩
 cases d11 : (r5)
 ·simp only [d11, hs] at h
  try simp only [vz, tyf, e7, e8, e9, e10, d11, nm, seval]
  obtain rfl := kF _ h
  exact opd_bool Tryz.results24 rfl
 simp only [d11, hs] at h
 rcases o13 : (g_ref02_Street x0_s) with _ | r12
 ·simp only [o13, hs] at h
  exact absurd h kN
 simp only [o13, hs] at h
 simp only [vz, tyf, e7, e8, e9, e10, d11, nm, seval]
 refine ktree (args0 := [.agg (cGSightStreet x0_s)]) (by first | (simp only [nrm, tynrm] <;> rfl) | rfl) (by simp only [tre, tytre, Bool.and_self]) (g_ref02_Street_ok _ _ o13) ?_
 refine fin_cut (fun tm => tm 1 = .lit (.int .i64 x1_board) ∧ tm 3 = .ptr 0 0 ∧ tm 5 = .ptr 1 0 ∧ tm 9 = .lit (.bool true) ∧ tm 11 = .lit (.bool r12) ∧ True) (by refine ⟨e7, e8, e9, ?_, ?_, trivial⟩ <;> first | (simp only [ua, e7, e8, e9, e10, d11, nm, seval] <;> rfl) | rfl) ?_
 rintro tm ⟨e14, e15, e16, e17, e18, _⟩
 cases d19 : (r12)
 ·simp only [d19, hs] at h
  try simp only [vz, tyf, d11, e14, e15, e16, e17, e18, d19, nm, seval]
  obtain rfl := kF _ h
  exact opd_bool Tryz.results24 rfl
 simp only [d19, hs] at h
 rcases o21 : (g_ref02_Board x0_s x1_board) with _ | r20
 ·simp only [o21, hs] at h
  exact absurd h kN
 simp only [o21, hs] at h
 simp only [vz, tyf, d11, e14, e15, e16, e17, e18, d19, nm, seval]
 refine ktree (args0 := [.agg (cGSightStreet x0_s), .lit (.int .i64 x1_board)]) (by first | (simp only [nrm, tynrm] <;> rfl) | rfl) (by simp only [tre, tytre, Bool.and_self]) (g_ref02_Board_ok _ _ _ o21) ?_
 refine fin_cut (fun tm => tm 3 = .ptr 0 0 ∧ tm 5 = .ptr 1 0 ∧ tm 13 = .lit (.bool true) ∧ tm 16 = .lit (.bool r20) ∧ True) (by refine ⟨e15, e16, ?_, ?_, trivial⟩ <;> first | (simp only [ua, d11, e14, e15, e16, e17, e18, d19, nm, seval] <;> rfl) | rfl) ?_
 rintro tm ⟨e22, e23, e24, e25, _⟩
 cases d26 : (r20)
 ·simp only [d26, hs] at h
  try simp only [vz, tyf, d11, d19, e22, e23, e24, e25, d26, nm, seval]
  obtain rfl := kF _ h
  exact opd_bool Tryz.results24 rfl
 simp only [d26, hs] at h
 rcases o28 : (g_ref02_Place x0_s x2_p) with _ | r27
 ·simp only [o28, hs] at h
  exact absurd h kN
 simp only [o28, hs] at h
 simp only [vz, tyf, d11, d19, e22, e23, e24, e25, d26, nm, seval]
 refine ktree (args0 := [.agg (cGSightStreet x0_s), .agg (cGSightPlace x2_p)]) (by first | (simp only [nrm, tynrm] <;> rfl) | rfl) (by simp only [tre, tytre, Bool.and_self]) (g_ref02_Place_ok _ _ _ o28) ?_
 refine fin_cut (fun tm => tm 18 = .lit (.bool true) ∧ tm 21 = .lit (.bool r27) ∧ True) (by refine ⟨?_, ?_, trivial⟩ <;> first | (simp only [ua, d11, d19, e22, e23, e24, e25, d26, nm, seval] <;> rfl) | rfl) ?_
 rintro tm ⟨e29, e30, _⟩
 try simp only [vz, tyf, d11, d19, d26, e29, e30, nm, seval]
 obtain rfl := kF _ h
 exact opd_bool Tryz.results24 rfl
end Go.V
end
section
namespace Go.V
open Go Go.Proofs
end Go.V
end
section
namespace Go.V
open Go Go.Proofs
def g_law02_before (x0_a : GSightPlace) (x1_b : GSightPlace) : Option (Bool) := cond (decide (x0_a.Along < x1_b.Along)) (some true) (cond (x0_a.Along == x1_b.Along) (some (decide (x0_a.Across < x1_b.Across))) (some false))
theorem g_law02_before_ok (x0_a : GSightPlace) (x1_b : GSightPlace) (R : Bool) (h : g_law02_before x0_a x1_b = some R) : VPure Tryz.prog G0 29 [.agg (cGSightPlace x0_a), .agg (cGSightPlace x1_b)] (.tree (.lit (.bool R))) := by
 refine VPure.runR mixed Tryz.call29 Tryz.func29 rfl (by simp [Tryz.ntmps29]; kernel_rfl) ?_
 obtain ⟨KF, h, kF, kN⟩ := fun_intro h
 simp only [g_law02_before] at h
 cases d1 : (decide (x0_a.Along < x1_b.Along))
 ·simp only [d1, hs] at h
  cases d2 : (x0_a.Along == x1_b.Along)
  ·simp only [d2, hs] at h
   try simp only [vz, tyf, d1, d2, nm, seval]
   obtain rfl := kF _ h
   exact opd_bool Tryz.results29 rfl
  simp only [d2, hs] at h
  try simp only [vz, tyf, d1, d2, nm, seval]
  obtain rfl := kF _ h
  exact opd_bool Tryz.results29 rfl
 simp only [d1, hs] at h
 try simp only [vz, tyf, d1, nm, seval]
 obtain rfl := kF _ h
 exact opd_bool Tryz.results29 rfl
end Go.V
end
section
namespace Go.V
open Go Go.Proofs
end Go.V
end
section
namespace Go.V
open Go
theorem right_eq (s : GSightStreet) (n : Int) (p : GSightPlace) (h : FineS s) (bs : Bool) (hb : g_law02_short s = some bs) : g_law02_right s n p = some (bs && (streetB s && (numB s n && placeB s p))) := by
 simp only [g_law02_right, hb, Option.bind_some, refStreet_eq s h, refBoard_eq, refPlace_eq, csome, numB]
theorem rowP_mem {a : Int} {p : GSightPlace} : ∀ (k : Nat) (c : Int), p.Along = a → c + 1 ≤ p.Across → p.Across ≤ c + k → p ∈ rowP a k c
 | 0, c, _, h1, h2 => by omega
 | k + 1, c, h0, h1, h2 => by
  unfold rowP
  by_cases h : p.Across = c + 1
  ·have : p = ⟨a, c + 1⟩ := by cases p; simp at h h0 ⊢; exact ⟨h0, h⟩
   rw [this]; exact List.mem_cons_self ..
  ·exact List.mem_cons_of_mem _ (rowP_mem k (c + 1) h0 (by omega) (by omega))
theorem gridP_mem {w : Nat} {p : GSightPlace} (h1 : 1 ≤ p.Across) (h2 : p.Across ≤ w) : ∀ (k : Nat) (c : Int), c ≤ p.Along → p.Along < c + k → p ∈ gridP w k c
 | 0, c, _, _ => by omega
 | k + 1, c, h3, h4 => by
  unfold gridP
  by_cases h : p.Along = c
  ·exact List.mem_append.2 (.inl (rowP_mem w 0 h (by omega) (by omega)))
  ·exact List.mem_append.2 (.inr (gridP_mem h1 h2 k (c + 1) (by omega) (by omega)))
theorem allP_mem {s : GSightStreet} {p : GSightPlace} (h : placeB s p = true) : p ∈ allP s := by
 simp only [placeB, Bool.and_eq_true, inB_iff] at h
 exact gridP_mem h.2.1 (by omega) _ 0 h.1.1 (by omega)
def bfB (p q : GSightPlace) : Bool := cond (decide (p.Along < q.Along)) true (cond (p.Along == q.Along) (decide (p.Across < q.Across)) false)
theorem before_eq (p q : GSightPlace) : g_law02_before p q = some (bfB p q) := by
 unfold g_law02_before bfB
 cases decide (p.Along < q.Along) <;> cases (p.Along == q.Along) <;> rfl
theorem bf_iff {p q : GSightPlace} : bfB p q = true ↔ p.Along < q.Along ∨ (p.Along = q.Along ∧ p.Across < q.Across) := by
 unfold bfB
 by_cases h1 : p.Along < q.Along
 ·simp [h1]
 ·by_cases h2 : p.Along = q.Along
  ·simp [h2]
  ·simp [h1, h2]
theorem rowP_sorted {a : Int} : ∀ (k : Nat) (c : Int), (rowP a k c).Pairwise fun p q => bfB p q = true
 | 0, c => by simp [rowP]
 | k + 1, c => by
  unfold rowP
  refine List.pairwise_cons.2 ⟨fun q hq => ?_, rowP_sorted k (c + 1)⟩
  have := mem_rowP _ _ hq
  exact bf_iff.2 (.inr ⟨this.1.symm, by show c + 1 < q.Across; omega⟩)
theorem gridP_sorted {w : Nat} : ∀ (k : Nat) (c : Int), (gridP w k c).Pairwise fun p q => bfB p q = true
 | 0, c => by simp [gridP]
 | k + 1, c => by
  unfold gridP
  refine List.pairwise_append.2 ⟨rowP_sorted _ _, gridP_sorted k (c + 1), fun p hp q hq => ?_⟩
  have h1 := mem_rowP _ _ hp
  have h2 := mem_gridP _ _ hq
  exact bf_iff.2 (.inl (by omega))
theorem bf_asym {p q : GSightPlace} (h : p = q ∨ bfB p q = true) : bfB q p = false := by
 cases hh : bfB q p with
 | false => rfl
 | true =>
  have h2 := bf_iff.1 hh
  rcases h with rfl | h
  ·omega
  ·have h1 := bf_iff.1 h; omega
end Go.V
end
section
namespace Go.V
open Go Go.Proofs
def g_law02_SightShared (x0_s : GSightStreet) (x1_a1 : Int) (x2_a2 : Int) (x3_a3 : GSightPlace) : Option (Bool) := Option.bind (g_law02_right x0_s x1_a1 x3_a3) (fun r1 => cond (r1) (Option.bind (g_ref02_Board x0_s x2_a2) (fun r2 => cond (r2) (cond (x1_a1 == x2_a2) (some true) (Option.bind (g_sight_Both x0_s x1_a1 x2_a2) (fun r3 => Option.bind (g_sight_Both x0_s x2_a2 x1_a1) (fun r4 => Option.bind (g_sight_Many x0_s x1_a1) (fun r5 => Option.bind (g_sight_Many x0_s x2_a2) (fun r6 => Option.bind (g_sight_Seen x0_s x1_a1 x3_a3) (fun r7 => Option.bind (g_sight_Seen x0_s x2_a2 x3_a3) (fun r8 => cond (r3.2.2 != r4.2.2) (some false) (cond (r3.1.Along == r4.1.Along && (r3.1.Across == r4.1.Across)) (cond (r3.2.1 != r4.2.1) (some false) (cond (r3.2.2 != 0) (cond (r3.2.2 != 5) (some false) (cond (r5.2.2 != 0) (some false) (cond (r6.2.2 != 0) (some false) (cond (r7.2 != 0) (some false) (cond (r8.2 != 0) (some false) (cond (decide (r3.2.1 < 0)) (some false) (cond (decide (r3.2.1 > r5.1)) (some false) (cond (decide (r3.2.1 > r6.1)) (some false) (cond ((decide (r3.2.1 > 0)) != (r3.2.2 == 0)) (some false) (cond (r7.1 == 3) (cond (r8.1 == 3) (some false) (some true)) (some true))))))))))) (cond (r5.2.2 != 0) (some false) (cond (r6.2.2 != 0) (some false) (cond (r7.2 != 0) (some false) (cond (r8.2 != 0) (some false) (cond (decide (r3.2.1 < 0)) (some false) (cond (decide (r3.2.1 > r5.1)) (some false) (cond (decide (r3.2.1 > r6.1)) (some false) (cond ((decide (r3.2.1 > 0)) != (r3.2.2 == 0)) (some false) (cond (r7.1 == 3) (Option.bind (g_ref02_Place x0_s r3.1) (fun r9 => cond (r9) (Option.bind (g_sight_Seen x0_s x1_a1 r3.1) (fun r10 => Option.bind (g_sight_Seen x0_s x2_a2 r3.1) (fun r11 => cond (r10.2 == 0) (cond (r11.2 == 0) (cond (r10.1 == 3) (cond (r11.1 == 3) (cond (r8.1 == 3) (Option.bind (g_law02_before x3_a3 r3.1) (fun r12 => cond (r12) (some false) (some true))) (some true)) (some false)) (some false)) (some false)) (some false)))) (some false))) (Option.bind (g_ref02_Place x0_s r3.1) (fun r13 => cond (r13) (Option.bind (g_sight_Seen x0_s x1_a1 r3.1) (fun r14 => Option.bind (g_sight_Seen x0_s x2_a2 r3.1) (fun r15 => cond (r14.2 == 0) (cond (r15.2 == 0) (cond (r14.1 == 3) (cond (r15.1 == 3) (some true) (some false)) (some false)) (some false)) (some false)))) (some false)))))))))))))) (some false)))))))))) (some true))) (some true))
theorem g_law02_SightShared_ok (x0_s : GSightStreet) (x1_a1 : Int) (x2_a2 : Int) (x3_a3 : GSightPlace) (R : Bool) (h : g_law02_SightShared x0_s x1_a1 x2_a2 x3_a3 = some R) : VPure Tryz.prog G0 6 [.agg (cGSightStreet x0_s), .lit (.int .i64 x1_a1), .lit (.int .i64 x2_a2), .agg (cGSightPlace x3_a3)] (.tree (.lit (.bool R))) := by
 refine VPure.runR mixed Tryz.call6 Tryz.func6 rfl (by simp [Tryz.ntmps6]; kernel_rfl) ?_
 obtain ⟨KF, h, kF, kN⟩ := fun_intro h
 simp only [g_law02_SightShared] at h
 rcases o17 : (g_law02_right x0_s x1_a1 x3_a3) with _ | r16
 ·simp only [o17, hs] at h
  exact absurd h kN
 simp only [o17, hs] at h
 simp only [vz, tyf, nm, seval]
 refine ktree (args0 := [.agg (cGSightStreet x0_s), .lit (.int .i64 x1_a1), .agg (cGSightPlace x3_a3)]) (by first | (simp only [nrm, tynrm] <;> rfl) | rfl) (by simp only [tre, tytre, Bool.and_self]) (g_law02_right_ok _ _ _ _ o17) ?_
 refine fin_cut (fun tm => tm 1 = .lit (.int .i64 x1_a1) ∧ tm 2 = .lit (.int .i64 x2_a2) ∧ tm 4 = .ptr 0 0 ∧ tm 7 = .ptr 1 0 ∧ tm 29 = .lit (.bool r16) ∧ True) (by refine ⟨?_, ?_, ?_, ?_, ?_, trivial⟩ <;> first | (simp only [ua, nm, seval] <;> rfl) | rfl) ?_
 rintro tm ⟨e18, e19, e20, e21, e22, _⟩
 cases d23 : (r16)
 ·simp only [d23, hs] at h
  simp only [vz, tyf, e18, e19, e20, e21, e22, d23, nm, seval]
  refine ktree0 g_law02_known_ok ?_
  try simp only [vz, tyf, e18, e19, e20, e21, e22, d23, nm, seval]
  obtain rfl := kF _ h
  exact opd_bool Tryz.results6 rfl
 simp only [d23, hs] at h
 rcases o25 : (g_ref02_Board x0_s x2_a2) with _ | r24
 ·simp only [o25, hs] at h
  exact absurd h kN
 simp only [o25, hs] at h
 simp only [vz, tyf, e18, e19, e20, e21, e22, d23, nm, seval]
 refine ktree (args0 := [.agg (cGSightStreet x0_s), .lit (.int .i64 x2_a2)]) (by first | (simp only [nrm, tynrm] <;> rfl) | rfl) (by simp only [tre, tytre, Bool.and_self]) (g_ref02_Board_ok _ _ _ o25) ?_
 refine fin_cut (fun tm => tm 1 = .lit (.int .i64 x1_a1) ∧ tm 2 = .lit (.int .i64 x2_a2) ∧ tm 4 = .ptr 0 0 ∧ tm 7 = .ptr 1 0 ∧ tm 31 = .lit (.bool false) ∧ tm 34 = .lit (.bool r24) ∧ True) (by refine ⟨e18, e19, e20, e21, ?_, ?_, trivial⟩ <;> first | (simp only [ua, e18, e19, e20, e21, e22, d23, nm, seval] <;> rfl) | rfl) ?_
 rintro tm ⟨e26, e27, e28, e29, e30, e31, _⟩
 cases d32 : (r24)
 ·simp only [d32, hs] at h
  simp only [vz, tyf, d23, e26, e27, e28, e29, e30, e31, d32, nm, seval]
  refine ktree0 g_law02_known_ok ?_
  try simp only [vz, tyf, d23, e26, e27, e28, e29, e30, e31, d32, nm, seval]
  obtain rfl := kF _ h
  exact opd_bool Tryz.results6 rfl
 simp only [d32, hs] at h
 cases d33 : (x1_a1 == x2_a2)
 ·simp only [d33, hs] at h
  rcases o35 : (g_sight_Both x0_s x1_a1 x2_a2) with _ | r34
  ·simp only [o35, hs] at h
   exact absurd h kN
  simp only [o35, hs] at h
  simp only [vz, tyf, d23, e26, e27, e28, e29, e30, e31, d32, d33, nm, seval]
  refine ktree (args0 := [.agg (cGSightStreet x0_s), .lit (.int .i64 x1_a1), .lit (.int .i64 x2_a2)]) (by first | (simp only [nrm, tynrm] <;> rfl) | rfl) (by simp only [tre, tytre, Bool.and_self]) (g_sight_Both_ok _ _ _ _ o35) ?_
  refine fin_cut (fun tm => tm 1 = .lit (.int .i64 x1_a1) ∧ tm 2 = .lit (.int .i64 x2_a2) ∧ tm 4 = .ptr 0 0 ∧ tm 7 = .ptr 1 0 ∧ tm 47 = .tup [.agg (cGSightPlace r34.1), .lit (.int .i64 r34.2.1), .lit (.int .i64 r34.2.2)] ∧ True) (by refine ⟨e26, e27, e28, e29, ?_, trivial⟩ <;> first | (simp only [ua, d23, e26, e27, e28, e29, e30, e31, d32, d33, nm, seval] <;> rfl) | rfl) ?_
  rintro tm ⟨e36, e37, e38, e39, e40, _⟩
  rcases o42 : (g_sight_Both x0_s x2_a2 x1_a1) with _ | r41
  ·simp only [o42, hs] at h
   exact absurd h kN
  simp only [o42, hs] at h
  simp only [vz, tyf, d23, d32, d33, e36, e37, e38, e39, e40, nm, seval]
  refine ktree (args0 := [.agg (cGSightStreet x0_s), .lit (.int .i64 x2_a2), .lit (.int .i64 x1_a1)]) (by first | (simp only [nrm, tynrm] <;> rfl) | rfl) (by simp only [tre, tytre, Bool.and_self]) (g_sight_Both_ok _ _ _ _ o42) ?_
  refine fin_cut (fun tm => tm 1 = .lit (.int .i64 x1_a1) ∧ tm 2 = .lit (.int .i64 x2_a2) ∧ tm 4 = .ptr 0 0 ∧ tm 7 = .ptr 1 0 ∧ tm 9 = .ptr 27 0 ∧ tm 10 = .lit (.int .i64 r34.2.1) ∧ tm 11 = .lit (.int .i64 r34.2.2) ∧ tm 55 = .tup [.agg (cGSightPlace r41.1), .lit (.int .i64 r41.2.1), .lit (.int .i64 r41.2.2)] ∧ True) (by refine ⟨e36, e37, e38, e39, ?_, ?_, ?_, ?_, trivial⟩ <;> first | (simp only [ua, d23, d32, d33, e36, e37, e38, e39, e40, nm, seval] <;> rfl) | rfl) ?_
  rintro tm ⟨e43, e44, e45, e46, e47, e48, e49, e50, _⟩
  rcases o52 : (g_sight_Many x0_s x1_a1) with _ | r51
  ·simp only [o52, hs] at h
   exact absurd h kN
  simp only [o52, hs] at h
  simp only [vz, tyf, d23, d32, d33, e43, e44, e45, e46, e47, e48, e49, e50, nm, seval]
  refine ktree (args0 := [.agg (cGSightStreet x0_s), .lit (.int .i64 x1_a1)]) (by first | (simp only [nrm, tynrm] <;> rfl) | rfl) (by simp only [tre, tytre, Bool.and_self]) (g_sight_Many_ok _ _ _ o52) ?_
  refine fin_cut (fun tm => tm 1 = .lit (.int .i64 x1_a1) ∧ tm 2 = .lit (.int .i64 x2_a2) ∧ tm 4 = .ptr 0 0 ∧ tm 7 = .ptr 1 0 ∧ tm 9 = .ptr 27 0 ∧ tm 10 = .lit (.int .i64 r34.2.1) ∧ tm 11 = .lit (.int .i64 r34.2.2) ∧ tm 12 = .ptr 39 0 ∧ tm 13 = .lit (.int .i64 r41.2.1) ∧ tm 14 = .lit (.int .i64 r41.2.2) ∧ tm 62 = .tup [.lit (.int .i64 r51.1), .lit (.int .i64 r51.2.1), .lit (.int .i64 r51.2.2)] ∧ True) (by refine ⟨e43, e44, e45, e46, e47, e48, e49, ?_, ?_, ?_, ?_, trivial⟩ <;> first | (simp only [ua, d23, d32, d33, e43, e44, e45, e46, e47, e48, e49, e50, nm, seval] <;> rfl) | rfl) ?_
  rintro tm ⟨e53, e54, e55, e56, e57, e58, e59, e60, e61, e62, e63, _⟩
  rcases o65 : (g_sight_Many x0_s x2_a2) with _ | r64
  ·simp only [o65, hs] at h
   exact absurd h kN
  simp only [o65, hs] at h
  simp only [vz, tyf, d23, d32, d33, e53, e54, e55, e56, e57, e58, e59, e60, e61, e62, e63, nm, seval]
  refine ktree (args0 := [.agg (cGSightStreet x0_s), .lit (.int .i64 x2_a2)]) (by first | (simp only [nrm, tynrm] <;> rfl) | rfl) (by simp only [tre, tytre, Bool.and_self]) (g_sight_Many_ok _ _ _ o65) ?_
  refine fin_cut (fun tm => tm 1 = .lit (.int .i64 x1_a1) ∧ tm 2 = .lit (.int .i64 x2_a2) ∧ tm 4 = .ptr 0 0 ∧ tm 7 = .ptr 1 0 ∧ tm 9 = .ptr 27 0 ∧ tm 10 = .lit (.int .i64 r34.2.1) ∧ tm 11 = .lit (.int .i64 r34.2.2) ∧ tm 12 = .ptr 39 0 ∧ tm 13 = .lit (.int .i64 r41.2.1) ∧ tm 14 = .lit (.int .i64 r41.2.2) ∧ tm 15 = .lit (.int .i64 r51.1) ∧ tm 17 = .lit (.int .i64 r51.2.2) ∧ tm 69 = .tup [.lit (.int .i64 r64.1), .lit (.int .i64 r64.2.1), .lit (.int .i64 r64.2.2)] ∧ True) (by refine ⟨e53, e54, e55, e56, e57, e58, e59, e60, e61, e62, ?_, ?_, ?_, trivial⟩ <;> first | (simp only [ua, d23, d32, d33, e53, e54, e55, e56, e57, e58, e59, e60, e61, e62, e63, nm, seval] <;> rfl) | rfl) ?_
  rintro tm ⟨e66, e67, e68, e69, e70, e71, e72, e73, e74, e75, e76, e77, e78, _⟩
  rcases o80 : (g_sight_Seen x0_s x1_a1 x3_a3) with _ | r79
  ·simp only [o80, hs] at h
   exact absurd h kN
  simp only [o80, hs] at h
  simp only [vz, tyf, d23, d32, d33, e66, e67, e68, e69, e70, e71, e72, e73, e74, e75, e76, e77, e78, nm, seval]
  refine ktree (args0 := [.agg (cGSightStreet x0_s), .lit (.int .i64 x1_a1), .agg (cGSightPlace x3_a3)]) (by first | (simp only [nrm, tynrm] <;> rfl) | rfl) (by simp only [tre, tytre, Bool.and_self]) (g_sight_Seen_ok _ _ _ _ o80) ?_
  refine fin_cut (fun tm => tm 1 = .lit (.int .i64 x1_a1) ∧ tm 2 = .lit (.int .i64 x2_a2) ∧ tm 4 = .ptr 0 0 ∧ tm 7 = .ptr 1 0 ∧ tm 9 = .ptr 27 0 ∧ tm 10 = .lit (.int .i64 r34.2.1) ∧ tm 11 = .lit (.int .i64 r34.2.2) ∧ tm 12 = .ptr 39 0 ∧ tm 13 = .lit (.int .i64 r41.2.1) ∧ tm 14 = .lit (.int .i64 r41.2.2) ∧ tm 15 = .lit (.int .i64 r51.1) ∧ tm 17 = .lit (.int .i64 r51.2.2) ∧ tm 18 = .lit (.int .i64 r64.1) ∧ tm 20 = .lit (.int .i64 r64.2.2) ∧ tm 77 = .tup [.lit (.int .i64 r79.1), .lit (.int .i64 r79.2)] ∧ True) (by refine ⟨e66, e67, e68, e69, e70, e71, e72, e73, e74, e75, e76, e77, ?_, ?_, ?_, trivial⟩ <;> first | (simp only [ua, d23, d32, d33, e66, e67, e68, e69, e70, e71, e72, e73, e74, e75, e76, e77, e78, nm, seval] <;> rfl) | rfl) ?_
  rintro tm ⟨e81, e82, e83, e84, e85, e86, e87, e88, e89, e90, e91, e92, e93, e94, e95, _⟩
  rcases o97 : (g_sight_Seen x0_s x2_a2 x3_a3) with _ | r96
  ·simp only [o97, hs] at h
   exact absurd h kN
  simp only [o97, hs] at h
  simp only [vz, tyf, d23, d32, d33, e81, e82, e83, e84, e85, e86, e87, e88, e89, e90, e91, e92, e93, e94, e95, nm, seval]
  refine ktree (args0 := [.agg (cGSightStreet x0_s), .lit (.int .i64 x2_a2), .agg (cGSightPlace x3_a3)]) (by first | (simp only [nrm, tynrm] <;> rfl) | rfl) (by simp only [tre, tytre, Bool.and_self]) (g_sight_Seen_ok _ _ _ _ o97) ?_
  refine fin_cut (fun tm => tm 1 = .lit (.int .i64 x1_a1) ∧ tm 2 = .lit (.int .i64 x2_a2) ∧ tm 4 = .ptr 0 0 ∧ tm 7 = .ptr 1 0 ∧ tm 9 = .ptr 27 0 ∧ tm 10 = .lit (.int .i64 r34.2.1) ∧ tm 11 = .lit (.int .i64 r34.2.2) ∧ tm 12 = .ptr 39 0 ∧ tm 13 = .lit (.int .i64 r41.2.1) ∧ tm 14 = .lit (.int .i64 r41.2.2) ∧ tm 15 = .lit (.int .i64 r51.1) ∧ tm 17 = .lit (.int .i64 r51.2.2) ∧ tm 18 = .lit (.int .i64 r64.1) ∧ tm 20 = .lit (.int .i64 r64.2.2) ∧ tm 21 = .lit (.int .i64 r79.1) ∧ tm 22 = .lit (.int .i64 r79.2) ∧ tm 84 = .tup [.lit (.int .i64 r96.1), .lit (.int .i64 r96.2)] ∧ True) (by refine ⟨e81, e82, e83, e84, e85, e86, e87, e88, e89, e90, e91, e92, e93, e94, ?_, ?_, ?_, trivial⟩ <;> first | (simp only [ua, d23, d32, d33, e81, e82, e83, e84, e85, e86, e87, e88, e89, e90, e91, e92, e93, e94, e95, nm, seval] <;> rfl) | rfl) ?_
  rintro tm ⟨e98, e99, e100, e101, e102, e103, e104, e105, e106, e107, e108, e109, e110, e111, e112, e113, e114, _⟩
  cases d115 : (r34.2.2 != r41.2.2)
  ·simp only [d115, hs] at h
   cases d116 : (r34.1.Along == r41.1.Along && (r34.1.Across == r41.1.Across))
   ·simp only [d116, hs] at h
    try simp only [vz, tyf, d23, d32, d33, e98, e99, e100, e101, e102, e103, e104, e105, e106, e107, e108, e109, e110, e111, e112, e113, e114, d115, d116, nm, seval]
    obtain rfl := kF _ h
    exact opd_bool Tryz.results6 rfl
   simp only [d116, hs] at h
   cases d117 : (r34.2.1 != r41.2.1)
   ·simp only [d117, hs] at h
    cases d118 : (r34.2.2 != 0)
    ·simp only [d118, hs] at h
     have b119 := And.intro d23 (And.intro d32 (And.intro d33 (And.intro d115 (And.intro d116 (And.intro d117 d118)))))
     cases d120 : (r51.2.2 != 0)
     ·simp only [d120, hs] at h
      cases d121 : (r64.2.2 != 0)
      ·simp only [d121, hs] at h
       cases d122 : (r79.2 != 0)
       ·simp only [d122, hs] at h
        cases d123 : (r96.2 != 0)
        ·simp only [d123, hs] at h
         cases d124 : (decide (r34.2.1 < 0))
         ·simp only [d124, hs] at h
          cases d125 : (decide (r34.2.1 > r51.1))
          ·simp only [d125, hs] at h
           have b126 := And.intro b119 (And.intro d120 (And.intro d121 (And.intro d122 (And.intro d123 (And.intro d124 d125)))))
           cases d127 : (decide (r34.2.1 > r64.1))
           ·simp only [d127, hs] at h
            cases d128 : ((decide (r34.2.1 > 0)) != (r34.2.2 == 0))
            ·simp only [d128, hs] at h
             cases d129 : (r79.1 == 3)
             ·simp only [d129, hs] at h
              rcases o131 : (g_ref02_Place x0_s r34.1) with _ | r130
              ·simp only [o131, hs] at h
               exact absurd h kN
              simp only [o131, hs] at h
              simp only [vz, tyf, b126, e98, e99, e100, e101, e102, e103, e104, e105, e106, e107, e108, e109, e110, e111, e112, e113, e114, d127, d128, d129, nm, seval]
              refine ktree (args0 := [.agg (cGSightStreet x0_s), .agg (cGSightPlace r34.1)]) (by first | (simp only [nrm, tynrm] <;> rfl) | rfl) (by simp only [tre, tytre, Bool.and_self]) (g_ref02_Place_ok _ _ _ o131) ?_
              refine fin_cut (fun tm => tm 1 = .lit (.int .i64 x1_a1) ∧ tm 2 = .lit (.int .i64 x2_a2) ∧ tm 4 = .ptr 0 0 ∧ tm 7 = .ptr 1 0 ∧ tm 9 = .ptr 27 0 ∧ tm 25 = .lit (.bool false) ∧ tm 160 = .lit (.bool r130) ∧ True) (by refine ⟨e98, e99, e100, e101, e102, ?_, ?_, trivial⟩ <;> first | (simp only [ua, b126, e98, e99, e100, e101, e102, e103, e104, e105, e106, e107, e108, e109, e110, e111, e112, e113, e114, d127, d128, d129, nm, seval] <;> rfl) | rfl) ?_
              rintro tm ⟨e132, e133, e134, e135, e136, e137, e138, _⟩
              cases d139 : (r130)
              ·simp only [d139, hs] at h
               try simp only [vz, tyf, b126, d127, d128, d129, e132, e133, e134, e135, e136, e137, e138, d139, nm, seval]
               obtain rfl := kF _ h
               exact opd_bool Tryz.results6 rfl
              simp only [d139, hs] at h
              rcases o141 : (g_sight_Seen x0_s x1_a1 r34.1) with _ | r140
              ·simp only [o141, hs] at h
               exact absurd h kN
              simp only [o141, hs] at h
              simp only [vz, tyf, b126, d127, d128, d129, e132, e133, e134, e135, e136, e137, e138, d139, nm, seval]
              refine ktree (args0 := [.agg (cGSightStreet x0_s), .lit (.int .i64 x1_a1), .agg (cGSightPlace r34.1)]) (by first | (simp only [nrm, tynrm] <;> rfl) | rfl) (by simp only [tre, tytre, Bool.and_self]) (g_sight_Seen_ok _ _ _ _ o141) ?_
              refine fin_cut (fun tm => tm 2 = .lit (.int .i64 x2_a2) ∧ tm 4 = .ptr 0 0 ∧ tm 7 = .ptr 1 0 ∧ tm 9 = .ptr 27 0 ∧ tm 25 = .lit (.bool false) ∧ tm 166 = .tup [.lit (.int .i64 r140.1), .lit (.int .i64 r140.2)] ∧ True) (by refine ⟨e133, e134, e135, e136, e137, ?_, trivial⟩ <;> first | (simp only [ua, b126, d127, d128, d129, e132, e133, e134, e135, e136, e137, e138, d139, nm, seval] <;> rfl) | rfl) ?_
              rintro tm ⟨e142, e143, e144, e145, e146, e147, _⟩
              rcases o149 : (g_sight_Seen x0_s x2_a2 r34.1) with _ | r148
              ·simp only [o149, hs] at h
               exact absurd h kN
              simp only [o149, hs] at h
              simp only [vz, tyf, b126, d127, d128, d129, d139, e142, e143, e144, e145, e146, e147, nm, seval]
              refine ktree (args0 := [.agg (cGSightStreet x0_s), .lit (.int .i64 x2_a2), .agg (cGSightPlace r34.1)]) (by first | (simp only [nrm, tynrm] <;> rfl) | rfl) (by simp only [tre, tytre, Bool.and_self]) (g_sight_Seen_ok _ _ _ _ o149) ?_
              refine fin_cut (fun tm => tm 7 = .ptr 1 0 ∧ tm 9 = .ptr 27 0 ∧ tm 21 = .lit (.int .i64 r140.1) ∧ tm 22 = .lit (.int .i64 r140.2) ∧ tm 25 = .lit (.bool false) ∧ tm 173 = .tup [.lit (.int .i64 r148.1), .lit (.int .i64 r148.2)] ∧ True) (by refine ⟨e144, e145, ?_, ?_, e146, ?_, trivial⟩ <;> first | (simp only [ua, b126, d127, d128, d129, d139, e142, e143, e144, e145, e146, e147, nm, seval] <;> rfl) | rfl) ?_
              rintro tm ⟨e150, e151, e152, e153, e154, e155, _⟩
              cases d156 : (r140.2 == 0)
              ·simp only [d156, hs] at h
               try simp only [vz, tyf, b126, d127, d128, d129, d139, e150, e151, e152, e153, e154, e155, d156, nm, seval]
               obtain rfl := kF _ h
               exact opd_bool Tryz.results6 rfl
              simp only [d156, hs] at h
              cases d157 : (r148.2 == 0)
              ·simp only [d157, hs] at h
               have b158 := And.intro b126 (And.intro d127 (And.intro d128 (And.intro d129 (And.intro d139 (And.intro d156 d157)))))
               try simp only [vz, tyf, b158, e150, e151, e152, e153, e154, e155, nm, seval]
               obtain rfl := kF _ h
               exact opd_bool Tryz.results6 rfl
              simp only [d157, hs] at h
              have b159 := And.intro b126 (And.intro d127 (And.intro d128 (And.intro d129 (And.intro d139 (And.intro d156 d157)))))
              cases d160 : (r140.1 == 3)
              ·simp only [d160, hs] at h
               try simp only [vz, tyf, b159, e150, e151, e152, e153, e154, e155, d160, nm, seval]
               obtain rfl := kF _ h
               exact opd_bool Tryz.results6 rfl
              simp only [d160, hs] at h
              cases d161 : (r148.1 == 3)
              ·simp only [d161, hs] at h
               try simp only [vz, tyf, b159, e150, e151, e152, e153, e154, e155, d160, d161, nm, seval]
               obtain rfl := kF _ h
               exact opd_bool Tryz.results6 rfl
              simp only [d161, hs] at h
              simp only [vz, tyf, b159, e150, e151, e152, e153, e154, e155, d160, d161, nm, seval]
              refine ktree0 g_law02_known_ok ?_
              try simp only [vz, tyf, b159, e150, e151, e152, e153, e154, e155, d160, d161, nm, seval]
              obtain rfl := kF _ h
              exact opd_bool Tryz.results6 rfl
             simp only [d129, hs] at h
             rcases o163 : (g_ref02_Place x0_s r34.1) with _ | r162
             ·simp only [o163, hs] at h
              exact absurd h kN
             simp only [o163, hs] at h
             simp only [vz, tyf, b126, e98, e99, e100, e101, e102, e103, e104, e105, e106, e107, e108, e109, e110, e111, e112, e113, e114, d127, d128, d129, nm, seval]
             refine ktree (args0 := [.agg (cGSightStreet x0_s), .agg (cGSightPlace r34.1)]) (by first | (simp only [nrm, tynrm] <;> rfl) | rfl) (by simp only [tre, tytre, Bool.and_self]) (g_ref02_Place_ok _ _ _ o163) ?_
             refine fin_cut (fun tm => tm 1 = .lit (.int .i64 x1_a1) ∧ tm 2 = .lit (.int .i64 x2_a2) ∧ tm 4 = .ptr 0 0 ∧ tm 7 = .ptr 1 0 ∧ tm 9 = .ptr 27 0 ∧ tm 25 = .lit (.bool (r96.1 == 3)) ∧ tm 160 = .lit (.bool r162) ∧ True) (by refine ⟨e98, e99, e100, e101, e102, ?_, ?_, trivial⟩ <;> first | (simp only [ua, b126, e98, e99, e100, e101, e102, e103, e104, e105, e106, e107, e108, e109, e110, e111, e112, e113, e114, d127, d128, d129, nm, seval] <;> rfl) | rfl) ?_
             rintro tm ⟨e164, e165, e166, e167, e168, e169, e170, _⟩
             cases d171 : (r162)
             ·simp only [d171, hs] at h
              try simp only [vz, tyf, b126, d127, d128, d129, e164, e165, e166, e167, e168, e169, e170, d171, nm, seval]
              obtain rfl := kF _ h
              exact opd_bool Tryz.results6 rfl
             simp only [d171, hs] at h
             rcases o173 : (g_sight_Seen x0_s x1_a1 r34.1) with _ | r172
             ·simp only [o173, hs] at h
              exact absurd h kN
             simp only [o173, hs] at h
             simp only [vz, tyf, b126, d127, d128, d129, e164, e165, e166, e167, e168, e169, e170, d171, nm, seval]
             refine ktree (args0 := [.agg (cGSightStreet x0_s), .lit (.int .i64 x1_a1), .agg (cGSightPlace r34.1)]) (by first | (simp only [nrm, tynrm] <;> rfl) | rfl) (by simp only [tre, tytre, Bool.and_self]) (g_sight_Seen_ok _ _ _ _ o173) ?_
             refine fin_cut (fun tm => tm 2 = .lit (.int .i64 x2_a2) ∧ tm 4 = .ptr 0 0 ∧ tm 7 = .ptr 1 0 ∧ tm 9 = .ptr 27 0 ∧ tm 25 = .lit (.bool (r96.1 == 3)) ∧ tm 166 = .tup [.lit (.int .i64 r172.1), .lit (.int .i64 r172.2)] ∧ True) (by refine ⟨e165, e166, e167, e168, e169, ?_, trivial⟩ <;> first | (simp only [ua, b126, d127, d128, d129, e164, e165, e166, e167, e168, e169, e170, d171, nm, seval] <;> rfl) | rfl) ?_
             rintro tm ⟨e174, e175, e176, e177, e178, e179, _⟩
             rcases o181 : (g_sight_Seen x0_s x2_a2 r34.1) with _ | r180
             ·simp only [o181, hs] at h
              exact absurd h kN
             simp only [o181, hs] at h
             simp only [vz, tyf, b126, d127, d128, d129, d171, e174, e175, e176, e177, e178, e179, nm, seval]
             refine ktree (args0 := [.agg (cGSightStreet x0_s), .lit (.int .i64 x2_a2), .agg (cGSightPlace r34.1)]) (by first | (simp only [nrm, tynrm] <;> rfl) | rfl) (by simp only [tre, tytre, Bool.and_self]) (g_sight_Seen_ok _ _ _ _ o181) ?_
             refine fin_cut (fun tm => tm 7 = .ptr 1 0 ∧ tm 9 = .ptr 27 0 ∧ tm 21 = .lit (.int .i64 r172.1) ∧ tm 22 = .lit (.int .i64 r172.2) ∧ tm 25 = .lit (.bool (r96.1 == 3)) ∧ tm 173 = .tup [.lit (.int .i64 r180.1), .lit (.int .i64 r180.2)] ∧ True) (by refine ⟨e176, e177, ?_, ?_, e178, ?_, trivial⟩ <;> first | (simp only [ua, b126, d127, d128, d129, d171, e174, e175, e176, e177, e178, e179, nm, seval] <;> rfl) | rfl) ?_
             rintro tm ⟨e182, e183, e184, e185, e186, e187, _⟩
             cases d188 : (r172.2 == 0)
             ·simp only [d188, hs] at h
              try simp only [vz, tyf, b126, d127, d128, d129, d171, e182, e183, e184, e185, e186, e187, d188, nm, seval]
              obtain rfl := kF _ h
              exact opd_bool Tryz.results6 rfl
             simp only [d188, hs] at h
             cases d189 : (r180.2 == 0)
             ·simp only [d189, hs] at h
              have b190 := And.intro b126 (And.intro d127 (And.intro d128 (And.intro d129 (And.intro d171 (And.intro d188 d189)))))
              try simp only [vz, tyf, b190, e182, e183, e184, e185, e186, e187, nm, seval]
              obtain rfl := kF _ h
              exact opd_bool Tryz.results6 rfl
             simp only [d189, hs] at h
             have b191 := And.intro b126 (And.intro d127 (And.intro d128 (And.intro d129 (And.intro d171 (And.intro d188 d189)))))
             cases d192 : (r172.1 == 3)
             ·simp only [d192, hs] at h
              try simp only [vz, tyf, b191, e182, e183, e184, e185, e186, e187, d192, nm, seval]
              obtain rfl := kF _ h
              exact opd_bool Tryz.results6 rfl
             simp only [d192, hs] at h
             cases d193 : (r180.1 == 3)
             ·simp only [d193, hs] at h
              try simp only [vz, tyf, b191, e182, e183, e184, e185, e186, e187, d192, d193, nm, seval]
              obtain rfl := kF _ h
              exact opd_bool Tryz.results6 rfl
             simp only [d193, hs] at h
             cases d194 : (r96.1 == 3)
             ·simp only [d194, hs] at h
              simp only [vz, tyf, b191, e182, e183, e184, e185, e186, e187, d192, d193, d194, nm, seval]
              refine ktree0 g_law02_known_ok ?_
              try simp only [vz, tyf, b191, e182, e183, e184, e185, e186, e187, d192, d193, d194, nm, seval]
              obtain rfl := kF _ h
              exact opd_bool Tryz.results6 rfl
             simp only [d194, hs] at h
             rcases o196 : (g_law02_before x3_a3 r34.1) with _ | r195
             ·simp only [o196, hs] at h
              exact absurd h kN
             simp only [o196, hs] at h
             simp only [vz, tyf, b191, e182, e183, e184, e185, e186, e187, d192, d193, d194, nm, seval]
             refine ktree (args0 := [.agg (cGSightPlace x3_a3), .agg (cGSightPlace r34.1)]) (by first | (simp only [nrm, tynrm] <;> rfl) | rfl) (by simp only [tre, tytre, Bool.and_self]) (g_law02_before_ok _ _ _ o196) ?_
             refine fin_cut (fun tm => tm 190 = .lit (.bool true) ∧ tm 193 = .lit (.bool false) ∧ tm 196 = .lit (.bool r195) ∧ True) (by refine ⟨?_, ?_, ?_, trivial⟩ <;> first | (simp only [ua, b191, e182, e183, e184, e185, e186, e187, d192, d193, d194, nm, seval] <;> rfl) | rfl) ?_
             rintro tm ⟨e197, e198, e199, _⟩
             cases d200 : (r195)
             ·simp only [d200, hs] at h
              simp only [vz, tyf, b191, d192, d193, d194, e197, e198, e199, d200, nm, seval]
              refine ktree0 g_law02_known_ok ?_
              try simp only [vz, tyf, b191, d192, d193, d194, e197, e198, e199, d200, nm, seval]
              obtain rfl := kF _ h
              exact opd_bool Tryz.results6 rfl
             simp only [d200, hs] at h
             try simp only [vz, tyf, b191, d192, d193, d194, e197, e198, e199, d200, nm, seval]
             obtain rfl := kF _ h
             exact opd_bool Tryz.results6 rfl
            simp only [d128, hs] at h
            try simp only [vz, tyf, b126, e98, e99, e100, e101, e102, e103, e104, e105, e106, e107, e108, e109, e110, e111, e112, e113, e114, d127, d128, nm, seval]
            obtain rfl := kF _ h
            exact opd_bool Tryz.results6 rfl
           simp only [d127, hs] at h
           try simp only [vz, tyf, b126, e98, e99, e100, e101, e102, e103, e104, e105, e106, e107, e108, e109, e110, e111, e112, e113, e114, d127, nm, seval]
           obtain rfl := kF _ h
           exact opd_bool Tryz.results6 rfl
          simp only [d125, hs] at h
          have b201 := And.intro b119 (And.intro d120 (And.intro d121 (And.intro d122 (And.intro d123 (And.intro d124 d125)))))
          try simp only [vz, tyf, b201, e98, e99, e100, e101, e102, e103, e104, e105, e106, e107, e108, e109, e110, e111, e112, e113, e114, nm, seval]
          obtain rfl := kF _ h
          exact opd_bool Tryz.results6 rfl
         simp only [d124, hs] at h
         try simp only [vz, tyf, b119, e98, e99, e100, e101, e102, e103, e104, e105, e106, e107, e108, e109, e110, e111, e112, e113, e114, d120, d121, d122, d123, d124, nm, seval]
         obtain rfl := kF _ h
         exact opd_bool Tryz.results6 rfl
        simp only [d123, hs] at h
        try simp only [vz, tyf, b119, e98, e99, e100, e101, e102, e103, e104, e105, e106, e107, e108, e109, e110, e111, e112, e113, e114, d120, d121, d122, d123, nm, seval]
        obtain rfl := kF _ h
        exact opd_bool Tryz.results6 rfl
       simp only [d122, hs] at h
       try simp only [vz, tyf, b119, e98, e99, e100, e101, e102, e103, e104, e105, e106, e107, e108, e109, e110, e111, e112, e113, e114, d120, d121, d122, nm, seval]
       obtain rfl := kF _ h
       exact opd_bool Tryz.results6 rfl
      simp only [d121, hs] at h
      try simp only [vz, tyf, b119, e98, e99, e100, e101, e102, e103, e104, e105, e106, e107, e108, e109, e110, e111, e112, e113, e114, d120, d121, nm, seval]
      obtain rfl := kF _ h
      exact opd_bool Tryz.results6 rfl
     simp only [d120, hs] at h
     try simp only [vz, tyf, b119, e98, e99, e100, e101, e102, e103, e104, e105, e106, e107, e108, e109, e110, e111, e112, e113, e114, d120, nm, seval]
     obtain rfl := kF _ h
     exact opd_bool Tryz.results6 rfl
    simp only [d118, hs] at h
    have b202 := And.intro d23 (And.intro d32 (And.intro d33 (And.intro d115 (And.intro d116 (And.intro d117 d118)))))
    cases d203 : (r34.2.2 != 5)
    ·simp only [d203, hs] at h
     cases d204 : (r51.2.2 != 0)
     ·simp only [d204, hs] at h
      cases d205 : (r64.2.2 != 0)
      ·simp only [d205, hs] at h
       cases d206 : (r79.2 != 0)
       ·simp only [d206, hs] at h
        cases d207 : (r96.2 != 0)
        ·simp only [d207, hs] at h
         cases d208 : (decide (r34.2.1 < 0))
         ·simp only [d208, hs] at h
          have b209 := And.intro b202 (And.intro d203 (And.intro d204 (And.intro d205 (And.intro d206 (And.intro d207 d208)))))
          cases d210 : (decide (r34.2.1 > r51.1))
          ·simp only [d210, hs] at h
           cases d211 : (decide (r34.2.1 > r64.1))
           ·simp only [d211, hs] at h
            cases d212 : ((decide (r34.2.1 > 0)) != (r34.2.2 == 0))
            ·simp only [d212, hs] at h
             cases d213 : (r79.1 == 3)
             ·simp only [d213, hs] at h
              simp only [vz, tyf, b209, e98, e99, e100, e101, e102, e103, e104, e105, e106, e107, e108, e109, e110, e111, e112, e113, e114, d210, d211, d212, d213, nm, seval]
              refine ktree0 g_law02_known_ok ?_
              try simp only [vz, tyf, b209, e98, e99, e100, e101, e102, e103, e104, e105, e106, e107, e108, e109, e110, e111, e112, e113, e114, d210, d211, d212, d213, nm, seval]
              obtain rfl := kF _ h
              exact opd_bool Tryz.results6 rfl
             simp only [d213, hs] at h
             cases d214 : (r96.1 == 3)
             ·simp only [d214, hs] at h
              simp only [vz, tyf, b209, e98, e99, e100, e101, e102, e103, e104, e105, e106, e107, e108, e109, e110, e111, e112, e113, e114, d210, d211, d212, d213, d214, nm, seval]
              refine ktree0 g_law02_known_ok ?_
              try simp only [vz, tyf, b209, e98, e99, e100, e101, e102, e103, e104, e105, e106, e107, e108, e109, e110, e111, e112, e113, e114, d210, d211, d212, d213, d214, nm, seval]
              obtain rfl := kF _ h
              exact opd_bool Tryz.results6 rfl
             simp only [d214, hs] at h
             try simp only [vz, tyf, b209, e98, e99, e100, e101, e102, e103, e104, e105, e106, e107, e108, e109, e110, e111, e112, e113, e114, d210, d211, d212, d213, d214, nm, seval]
             obtain rfl := kF _ h
             exact opd_bool Tryz.results6 rfl
            simp only [d212, hs] at h
            try simp only [vz, tyf, b209, e98, e99, e100, e101, e102, e103, e104, e105, e106, e107, e108, e109, e110, e111, e112, e113, e114, d210, d211, d212, nm, seval]
            obtain rfl := kF _ h
            exact opd_bool Tryz.results6 rfl
           simp only [d211, hs] at h
           try simp only [vz, tyf, b209, e98, e99, e100, e101, e102, e103, e104, e105, e106, e107, e108, e109, e110, e111, e112, e113, e114, d210, d211, nm, seval]
           obtain rfl := kF _ h
           exact opd_bool Tryz.results6 rfl
          simp only [d210, hs] at h
          try simp only [vz, tyf, b209, e98, e99, e100, e101, e102, e103, e104, e105, e106, e107, e108, e109, e110, e111, e112, e113, e114, d210, nm, seval]
          obtain rfl := kF _ h
          exact opd_bool Tryz.results6 rfl
         simp only [d208, hs] at h
         have b215 := And.intro b202 (And.intro d203 (And.intro d204 (And.intro d205 (And.intro d206 (And.intro d207 d208)))))
         try simp only [vz, tyf, b215, e98, e99, e100, e101, e102, e103, e104, e105, e106, e107, e108, e109, e110, e111, e112, e113, e114, nm, seval]
         obtain rfl := kF _ h
         exact opd_bool Tryz.results6 rfl
        simp only [d207, hs] at h
        try simp only [vz, tyf, b202, e98, e99, e100, e101, e102, e103, e104, e105, e106, e107, e108, e109, e110, e111, e112, e113, e114, d203, d204, d205, d206, d207, nm, seval]
        obtain rfl := kF _ h
        exact opd_bool Tryz.results6 rfl
       simp only [d206, hs] at h
       try simp only [vz, tyf, b202, e98, e99, e100, e101, e102, e103, e104, e105, e106, e107, e108, e109, e110, e111, e112, e113, e114, d203, d204, d205, d206, nm, seval]
       obtain rfl := kF _ h
       exact opd_bool Tryz.results6 rfl
      simp only [d205, hs] at h
      try simp only [vz, tyf, b202, e98, e99, e100, e101, e102, e103, e104, e105, e106, e107, e108, e109, e110, e111, e112, e113, e114, d203, d204, d205, nm, seval]
      obtain rfl := kF _ h
      exact opd_bool Tryz.results6 rfl
     simp only [d204, hs] at h
     try simp only [vz, tyf, b202, e98, e99, e100, e101, e102, e103, e104, e105, e106, e107, e108, e109, e110, e111, e112, e113, e114, d203, d204, nm, seval]
     obtain rfl := kF _ h
     exact opd_bool Tryz.results6 rfl
    simp only [d203, hs] at h
    try simp only [vz, tyf, b202, e98, e99, e100, e101, e102, e103, e104, e105, e106, e107, e108, e109, e110, e111, e112, e113, e114, d203, nm, seval]
    obtain rfl := kF _ h
    exact opd_bool Tryz.results6 rfl
   simp only [d117, hs] at h
   try simp only [vz, tyf, d23, d32, d33, e98, e99, e100, e101, e102, e103, e104, e105, e106, e107, e108, e109, e110, e111, e112, e113, e114, d115, d116, d117, nm, seval]
   obtain rfl := kF _ h
   exact opd_bool Tryz.results6 rfl
  simp only [d115, hs] at h
  try simp only [vz, tyf, d23, d32, d33, e98, e99, e100, e101, e102, e103, e104, e105, e106, e107, e108, e109, e110, e111, e112, e113, e114, d115, nm, seval]
  obtain rfl := kF _ h
  exact opd_bool Tryz.results6 rfl
 simp only [d33, hs] at h
 simp only [vz, tyf, d23, e26, e27, e28, e29, e30, e31, d32, d33, nm, seval]
 refine ktree0 g_law02_known_ok ?_
 try simp only [vz, tyf, d23, e26, e27, e28, e29, e30, e31, d32, d33, nm, seval]
 obtain rfl := kF _ h
 exact opd_bool Tryz.results6 rfl
end Go.V
end
section
namespace Go.V
open Go
theorem SightShared_true (s : GSightStreet) (n n' : Int) (p : GSightPlace) (h : FineS s) : g_law02_SightShared s n n' p = some true := by
 obtain ⟨bs, hb⟩ := short_some s h
 unfold g_law02_SightShared
 rw [right_eq s n p h bs hb]
 simp only [Option.bind_some, refBoard_eq]
 cases hr : (bs && (streetB s && (numB s n && placeB s p))) with
 | false => rfl
 | true =>
 simp only [Bool.and_eq_true] at hr
 obtain ⟨_, h1, h2, hp⟩ := hr
 cases h3 : numB s n' with
 | false =>
  have h3' := h3
  simp only [numB] at h3'
  simp only [h3', cond_true, cond_false]
 | true =>
 have h3' := h3
 simp only [numB] at h3'
 simp only [h3', cond_true]
 cases hne : (n == n') with
 | true => rfl
 | false =>
 have hne' : (n' == n) = false := by
  rw [beq_eq_false_iff_ne] at hne ⊢
  exact fun e => hne e.symm
 obtain ⟨b, b1, hl, hw, hg⟩ := all_good h1 h2
 obtain ⟨b', b1', _, _, hg'⟩ := all_good h1 h3
 have hseen : ∀ q, placeB s q = true → g_sight_Seen s n q = some (seenI s b q, 0) := by
  intro q hq
  rcases Seen_eq s n q h with ⟨c, b2, _, _, _, _, _, e⟩ | ⟨e, _⟩
  ·rw [b1] at b2; cases b2; exact e
  ·rw [h1, h2, hq] at e; cases e
 have hseen' : ∀ q, placeB s q = true → g_sight_Seen s n' q = some (seenI s b' q, 0) := by
  intro q hq
  rcases Seen_eq s n' q h with ⟨c, b2, _, _, _, _, _, e⟩ | ⟨e, _⟩
  ·rw [b1'] at b2; cases b2; exact e
  ·rw [h1, h3, hq] at e; cases e
 have hcomm : (allP s).filter (bothB s b' b) = (allP s).filter (bothB s b b') := by congr 1; funext q; exact Bool.and_comm ..
 have l1 : ((allP s).filter (bothB s b b')).length ≤ ((allP s).filter (fun q => seenI s b q == 3)).length := by
  have e : (allP s).filter (bothB s b b') = ((allP s).filter (fun q => seenI s b q == 3)).filter (sureB s b') := by
   rw [List.filter_filter]
   congr 1
   funext q
   rw [seen3]
   rfl
  rw [e]
  exact List.length_filter_le ..
 have l2 : ((allP s).filter (bothB s b b')).length ≤ ((allP s).filter (fun q => seenI s b' q == 3)).length := by
  have e : (allP s).filter (bothB s b b') = ((allP s).filter (fun q => seenI s b' q == 3)).filter (sureB s b) := by
   rw [List.filter_filter]
   congr 1
   funext q
   rw [seen3]
   exact Bool.and_comm ..
  rw [e]
  exact List.length_filter_le ..
 have hmem : ∀ q, placeB s q = true → (seenI s b q == 3) = true → (seenI s b' q == 3) = true → q ∈ (allP s).filter (bothB s b b') := by
  intro q hq a1 a2
  rw [seen3] at a1 a2
  exact List.mem_filter.2 ⟨allP_mem hq, by show (sureB s b' q && sureB s b q) = true; rw [a1, a2]; rfl⟩
 rw [Both_eq h h1 h2 h3 b1 b1' hl hw hg hg' hne, Both_eq h h1 h3 h2 b1' b1 hl hw hg' hg hne', hcomm, Many_eq h h1 h2 b1 hl hw hg, Many_eq h h1 h3 b1' hl hw hg', hseen p hp, hseen' p hp]
 simp only [Option.bind_some, cond_false]
 generalize hN : ((allP s).filter (fun q => seenI s b q == 3)).length = N at l1 ⊢
 generalize hN' : ((allP s).filter (fun q => seenI s b' q == 3)).length = N' at l2 ⊢
 cases hL : (allP s).filter (bothB s b b') with
 | nil =>
  have hd0 : decide ((0 : Int) < 0) = false := rfl
  have hd1 : decide ((0 : Int) > (N : Int)) = false := decide_eq_false (by omega)
  have hd2 : decide ((0 : Int) > (N' : Int)) = false := decide_eq_false (by omega)
  simp only [hd0, hd1, hd2, bne_self_eq_false, beq_self_eq_true, Bool.and_self, cond_true, cond_false]
  cases a1 : (seenI s b p == 3) with
  | false => rfl
  | true =>
   cases a2 : (seenI s b' p == 3) with
   | false => rfl
   | true =>
    have := hmem p hp a1 a2
    rw [hL] at this; cases this
 | cons x t =>
  rw [hL] at l1 l2
  have hx : x ∈ (allP s).filter (bothB s b b') := by rw [hL]; exact List.mem_cons_self ..
  obtain ⟨hxa, hxb⟩ := List.mem_filter.1 hx
  simp only [bothB, Bool.and_eq_true] at hxb
  have hxp : placeB s x = true := by
   have := mem_gridP _ _ hxa
   simp only [placeB, Bool.and_eq_true, inB_iff]
   omega
  have sx : seenI s b x = 3 := by have := seen3 (s := s) (b := b) x; rw [hxb.2] at this; simpa using this
  have sx' : seenI s b' x = 3 := by have := seen3 (s := s) (b := b') x; rw [hxb.1] at this; simpa using this
  have hc : 0 < (x :: t).length := by simp only [List.length_cons]; omega
  have hd0 : decide (((x :: t).length : Int) < 0) = false := decide_eq_false (by omega)
  have hd1 : decide (((x :: t).length : Int) > (N : Int)) = false := decide_eq_false (by omega)
  have hd2 : decide (((x :: t).length : Int) > (N' : Int)) = false := decide_eq_false (by omega)
  have hd3 : decide (((x :: t).length : Int) > 0) = true := decide_eq_true (by omega)
  simp only [hd0, hd1, hd2, hd3, bne_self_eq_false, beq_self_eq_true, Bool.and_self, cond_true, cond_false, refPlace_eq, hxp, hseen x hxp, hseen' x hxp, sx, sx', Option.bind_some, before_eq]
  cases a1 : (seenI s b p == 3) with
  | false => rfl
  | true =>
   cases a2 : (seenI s b' p == 3) with
   | false => rfl
   | true =>
    have hpm := hmem p hp a1 a2
    rw [hL] at hpm
    have hsorted : (x :: t).Pairwise fun p q => bfB p q = true := by
     rw [← hL]
     exact (gridP_sorted _ _).sublist List.filter_sublist
    have hbf : bfB p x = false := by
     rcases List.mem_cons.1 hpm with e | hm
     ·exact bf_asym (.inl e.symm)
     ·exact bf_asym (.inr ((List.pairwise_cons.1 hsorted).1 p hm))
    simp only [hbf, cond_true, cond_false]
end Go.V
end
