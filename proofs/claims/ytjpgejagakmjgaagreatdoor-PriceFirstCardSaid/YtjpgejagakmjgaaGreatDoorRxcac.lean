/- Part of a proof. -/
import Derived.Test.YtjpgejagakmjgaaGreatDoorRbj
set_option linter.all false
set_option maxRecDepth 4000
set_option maxHeartbeats 40000000
section
set_option maxRecDepth 100000
namespace Go.V
open Go Go.Proofs
def zbt (x : GPriceSheet) : Prop := lenOk x.Offs = true ∧ lenOk x.Boards = true ∧ lenOk x.Tariffs = true
section
variable {P : Program} (hu3 : P.underlying 3 = some (.int .i64)) (hu22 : P.underlying 22 = some (.slice 3)) {f33 : Array Field} (hu33 : P.underlying 33 = some (.struct f33)) (ht33 : f33.toList.map Field.type = [3, 3]) {f75 : Array Field} (hu75 : P.underlying 75 = some (.struct f75)) (ht75 : f75.toList.map Field.type = [3, 3, 33, 3]) (hu23 : P.underlying 23 = some (.slice 75)) (hu39 : P.underlying 39 = some (.int .i64)) (hu40 : P.underlying 40 = some (.int .i64)) (hu4 : P.underlying 4 = some (.bool)) {f42 : Array Field} (hu42 : P.underlying 42 = some (.struct f42)) (ht42 : f42.toList.map Field.type = [39, 3, 3, 40, 4]) (hu24 : P.underlying 24 = some (.slice 42)) {f26 : Array Field} (hu26 : P.underlying 26 = some (.struct f26)) (ht26 : f26.toList.map Field.type = [22, 23, 24])
include hu3 hu22 hu33 ht33 hu75 ht75 hu23 hu39 hu40 hu4 hu42 ht42 hu24 hu26 ht26
theorem gd_3 {n : Nat} : Dec P (n + 1) 3 eI (fun _ => True) := zil hu3
theorem gd_22 {n : Nat} : Dec P (n + 2) 22 (eSl eI) (fun l => lenOk l = true ∧ ∀ x ∈ l, True) := zer hu22 (gd_3 hu3 hu22 hu33 ht33 hu75 ht75 hu23 hu39 hu40 hu4 hu42 ht42 hu24 hu26 ht26 (n := n))
theorem gd_33 {n : Nat} : Dec P (n + 2) 33 cGSpan (fun _ => True) := by
 intro xs h
 obtain ⟨yss, hf, rfl⟩ := zcj (n := n + 1) (ts := [3, 3]) hu33 ht33 h
 match yss, hf with
 | [y0, y1], ⟨h0, h1, _⟩ =>
  obtain ⟨x0, r0, e0⟩ := gd_3 hu3 hu22 hu33 ht33 hu75 ht75 hu23 hu39 hu40 hu4 hu42 ht42 hu24 hu26 ht26 (n := n + 0) _ h0
  obtain ⟨x1, r1, e1⟩ := gd_3 hu3 hu22 hu33 ht33 hu75 ht75 hu23 hu39 hu40 hu4 hu42 ht42 hu24 hu26 ht26 (n := n + 0) _ h1
  exact ⟨⟨x0, x1⟩, trivial, by simp only [List.flatten_cons, List.flatten_nil, List.append_nil, zbe, e0, e1, eI, eU8, eB, eS, eSl, zfc, List.cons_append, List.nil_append]⟩
theorem gd_75 {n : Nat} : Dec P (n + 3) 75 cGPriceBoard (fun _ => True) := by
 intro xs h
 obtain ⟨yss, hf, rfl⟩ := zcj (n := n + 2) (ts := [3, 3, 33, 3]) hu75 ht75 h
 match yss, hf with
 | [y0, y1, y2, y3], ⟨h0, h1, h2, h3, _⟩ =>
  obtain ⟨x0, r0, e0⟩ := gd_3 hu3 hu22 hu33 ht33 hu75 ht75 hu23 hu39 hu40 hu4 hu42 ht42 hu24 hu26 ht26 (n := n + 1) _ h0
  obtain ⟨x1, r1, e1⟩ := gd_3 hu3 hu22 hu33 ht33 hu75 ht75 hu23 hu39 hu40 hu4 hu42 ht42 hu24 hu26 ht26 (n := n + 1) _ h1
  obtain ⟨x2, r2, e2⟩ := gd_33 hu3 hu22 hu33 ht33 hu75 ht75 hu23 hu39 hu40 hu4 hu42 ht42 hu24 hu26 ht26 (n := n + 0) _ h2
  obtain ⟨x3, r3, e3⟩ := gd_3 hu3 hu22 hu33 ht33 hu75 ht75 hu23 hu39 hu40 hu4 hu42 ht42 hu24 hu26 ht26 (n := n + 1) _ h3
  exact ⟨⟨x0, x1, x2, x3⟩, trivial, by simp only [List.flatten_cons, List.flatten_nil, List.append_nil, zbe, e0, e1, e2, e3, eI, eU8, eB, eS, eSl, zck, zfc, List.cons_append, List.nil_append]⟩
theorem gd_23 {n : Nat} : Dec P (n + 4) 23 (eSl cGPriceBoard) (fun l => lenOk l = true ∧ ∀ x ∈ l, True) := zer hu23 (gd_75 hu3 hu22 hu33 ht33 hu75 ht75 hu23 hu39 hu40 hu4 hu42 ht42 hu24 hu26 ht26 (n := n))
theorem gd_39 {n : Nat} : Dec P (n + 1) 39 eI (fun _ => True) := zil hu39
theorem gd_40 {n : Nat} : Dec P (n + 1) 40 eI (fun _ => True) := zil hu40
theorem gd_4 {n : Nat} : Dec P (n + 1) 4 eB (fun _ => True) := zqc hu4
theorem gd_42 {n : Nat} : Dec P (n + 2) 42 cGPriceTariff (fun _ => True) := by
 intro xs h
 obtain ⟨yss, hf, rfl⟩ := zcj (n := n + 1) (ts := [39, 3, 3, 40, 4]) hu42 ht42 h
 match yss, hf with
 | [y0, y1, y2, y3, y4], ⟨h0, h1, h2, h3, h4, _⟩ =>
  obtain ⟨x0, r0, e0⟩ := gd_39 hu3 hu22 hu33 ht33 hu75 ht75 hu23 hu39 hu40 hu4 hu42 ht42 hu24 hu26 ht26 (n := n + 0) _ h0
  obtain ⟨x1, r1, e1⟩ := gd_3 hu3 hu22 hu33 ht33 hu75 ht75 hu23 hu39 hu40 hu4 hu42 ht42 hu24 hu26 ht26 (n := n + 0) _ h1
  obtain ⟨x2, r2, e2⟩ := gd_3 hu3 hu22 hu33 ht33 hu75 ht75 hu23 hu39 hu40 hu4 hu42 ht42 hu24 hu26 ht26 (n := n + 0) _ h2
  obtain ⟨x3, r3, e3⟩ := gd_40 hu3 hu22 hu33 ht33 hu75 ht75 hu23 hu39 hu40 hu4 hu42 ht42 hu24 hu26 ht26 (n := n + 0) _ h3
  obtain ⟨x4, r4, e4⟩ := gd_4 hu3 hu22 hu33 ht33 hu75 ht75 hu23 hu39 hu40 hu4 hu42 ht42 hu24 hu26 ht26 (n := n + 0) _ h4
  exact ⟨⟨x0, x1, x2, x3, x4⟩, trivial, by simp only [List.flatten_cons, List.flatten_nil, List.append_nil, zbe, e0, e1, e2, e3, e4, eI, eU8, eB, eS, eSl, zce, List.cons_append, List.nil_append]⟩
theorem gd_24 {n : Nat} : Dec P (n + 3) 24 (eSl cGPriceTariff) (fun l => lenOk l = true ∧ ∀ x ∈ l, True) := zer hu24 (gd_42 hu3 hu22 hu33 ht33 hu75 ht75 hu23 hu39 hu40 hu4 hu42 ht42 hu24 hu26 ht26 (n := n))
theorem gd_26 {n : Nat} : Dec P (n + 5) 26 cGPriceSheet (zbt) := by
 intro xs h
 obtain ⟨yss, hf, rfl⟩ := zcj (n := n + 4) (ts := [22, 23, 24]) hu26 ht26 h
 match yss, hf with
 | [y0, y1, y2], ⟨h0, h1, h2, _⟩ =>
  obtain ⟨x0, r0, e0⟩ := gd_22 hu3 hu22 hu33 ht33 hu75 ht75 hu23 hu39 hu40 hu4 hu42 ht42 hu24 hu26 ht26 (n := n + 2) _ h0
  obtain ⟨x1, r1, e1⟩ := gd_23 hu3 hu22 hu33 ht33 hu75 ht75 hu23 hu39 hu40 hu4 hu42 ht42 hu24 hu26 ht26 (n := n + 0) _ h1
  obtain ⟨x2, r2, e2⟩ := gd_24 hu3 hu22 hu33 ht33 hu75 ht75 hu23 hu39 hu40 hu4 hu42 ht42 hu24 hu26 ht26 (n := n + 1) _ h2
  exact ⟨⟨x0, x1, x2⟩, ⟨r0.1, r1.1, r2.1⟩, by simp only [List.flatten_cons, List.flatten_nil, List.append_nil, zbe, e0, e1, e2, eI, eU8, eB, eS, eSl, zdd, List.cons_append, List.nil_append]⟩
end
theorem dec_3 {n : Nat} : Dec Tryz.prog (n + 1) 3 eI (fun _ => True) := gd_3 Tryz.underlying3 Tryz.underlying22 Tryz.underlying33 (by kernel_rfl) Tryz.underlying75 (by kernel_rfl) Tryz.underlying23 Tryz.underlying39 Tryz.underlying40 Tryz.underlying4 Tryz.underlying42 (by kernel_rfl) Tryz.underlying24 Tryz.underlying26 (by kernel_rfl)
theorem zsw {n : Nat} : Dec Tryz.prog (n + 2) 22 (eSl eI) (fun l => lenOk l = true ∧ ∀ x ∈ l, True) := gd_22 Tryz.underlying3 Tryz.underlying22 Tryz.underlying33 (by kernel_rfl) Tryz.underlying75 (by kernel_rfl) Tryz.underlying23 Tryz.underlying39 Tryz.underlying40 Tryz.underlying4 Tryz.underlying42 (by kernel_rfl) Tryz.underlying24 Tryz.underlying26 (by kernel_rfl)
theorem zsi {n : Nat} : Dec Tryz.prog (n + 5) 26 cGPriceSheet (zbt) := gd_26 Tryz.underlying3 Tryz.underlying22 Tryz.underlying33 (by kernel_rfl) Tryz.underlying75 (by kernel_rfl) Tryz.underlying23 Tryz.underlying39 Tryz.underlying40 Tryz.underlying4 Tryz.underlying42 (by kernel_rfl) Tryz.underlying24 Tryz.underlying26 (by kernel_rfl)
end Go.V
end
section
namespace Go.V
open Go Go.Proofs
def zfy (x0_s : GPriceSheet) (x1_a1 : Int) (x2_a2 : Int) (x3_a3 : List Int) (x4_a4 : Int) : Option (Bool) := Option.bind (zel x0_s x1_a1 x3_a3) (fun r1 => cond (r1) (Option.bind (zco x0_s x2_a2) (fun r2 => cond (r2) (cond (x1_a1 == x2_a2) (some true) (cond (decide (x4_a4 < 0)) (some true) (cond (decide (x4_a4 ≥ (List.length x0_s.Boards : Int))) (some true) (Option.bind (zej x0_s x1_a1 x2_a2 x3_a3) (fun r3 => Option.bind (zdu x0_s x1_a1 x3_a3) (fun r4 => Option.bind (zdu x0_s x2_a2 x3_a3) (fun r5 => Option.bind (zde x0_s x3_a3) (fun r6 => Option.bind (zcx x0_s x1_a1 x3_a3) (fun r7 => cond (r4.2 != 0) (some false) (cond (r5.2 != 0) (some false) (cond (r6.2.2 != 0) (some false) (cond (r7.2 != 0) (some false) (cond (r3.2 != 0) (cond (r3.2 != 5) (some false) (cond ((List.length r4.1 : Int) != (List.length x0_s.Boards : Int)) (some false) (cond ((List.length r5.1 : Int) != (List.length x0_s.Boards : Int)) (some false) (Option.bind (zco x0_s r6.1) (fun r8 => cond (r8) (Option.bind (zcx x0_s r6.1 x3_a3) (fun r9 => cond (r9.2 != 0) (some false) (cond (r9.1 != r6.2.1) (some false) (cond (decide (r7.1 < r6.2.1)) (some false) (cond (r7.1 == r6.2.1) (cond (decide (x1_a1 < r6.1)) (some false) (Option.bind (getI r4.1 x4_a4) (fun x10 => Option.bind (getI r5.1 x4_a4) (fun x11 => cond (x10 == x11) (some true) (some false))))) (Option.bind (getI r4.1 x4_a4) (fun x12 => Option.bind (getI r5.1 x4_a4) (fun x13 => cond (x12 == x13) (some true) (some false))))))))) (some false)))))) (cond ((List.length r4.1 : Int) != (List.length x0_s.Boards : Int)) (some false) (cond ((List.length r5.1 : Int) != (List.length x0_s.Boards : Int)) (some false) (Option.bind (zco x0_s r6.1) (fun r14 => cond (r14) (Option.bind (zcx x0_s r6.1 x3_a3) (fun r15 => cond (r15.2 != 0) (some false) (cond (r15.1 != r6.2.1) (some false) (cond (decide (r7.1 < r6.2.1)) (some false) (cond (r7.1 == r6.2.1) (cond (decide (x1_a1 < r6.1)) (some false) (cond (decide (r3.1 ≥ 0)) (cond (decide (r3.1 < (List.length r4.1 : Int))) (Option.bind (getI r4.1 r3.1) (fun x16 => Option.bind (getI r5.1 r3.1) (fun x17 => cond (x16 != x17) (cond (decide (x4_a4 ≥ r3.1)) (some true) (Option.bind (getI r4.1 x4_a4) (fun x18 => Option.bind (getI r5.1 x4_a4) (fun x19 => cond (x18 == x19) (some true) (some false))))) (some false)))) (some false)) (some false))) (cond (decide (r3.1 ≥ 0)) (cond (decide (r3.1 < (List.length r4.1 : Int))) (Option.bind (getI r4.1 r3.1) (fun x20 => Option.bind (getI r5.1 r3.1) (fun x21 => cond (x20 != x21) (cond (decide (x4_a4 ≥ r3.1)) (some true) (Option.bind (getI r4.1 x4_a4) (fun x22 => Option.bind (getI r5.1 x4_a4) (fun x23 => cond (x22 == x23) (some true) (some false))))) (some false)))) (some false)) (some false))))))) (some false)))))))))))))))))) (some true))) (some true))
theorem zks (x0_s : GPriceSheet) (x1_a1 : Int) (x2_a2 : Int) (x3_a3 : List Int) (x4_a4 : Int) (R : Bool) (h : zfy x0_s x1_a1 x2_a2 x3_a3 x4_a4 = some R) : VPure Tryz.prog G0 10 [.agg (cGPriceSheet x0_s), .lit (.int .i64 x1_a1), .lit (.int .i64 x2_a2), .sl (cellsL eI x3_a3) (List.length x3_a3) false, .lit (.int .i64 x4_a4)] (.tree (.lit (.bool R))) := by
 refine VPure.runRQ mixed Tryz.call10 Tryz.func10 rfl (by simp [Tryz.ntmps10]; kernel_rfl) ?_
 obtain ⟨KF, h, kF, kN⟩ := zal h
 simp only [zfy] at h
 obtain ⟨r24, o25, h⟩ := optI h kN
 try simp only [hs] at h
 simp only [vz, tyf, nm, seval]
 refine ktA (zif _ _ _ _ o25) ?_
 refine zah (fun tm => tm 1 = .lit (.int .i64 x1_a1) ∧ tm 2 = .lit (.int .i64 x2_a2) ∧ tm 3 = .sl (cellsL eI x3_a3) (List.length x3_a3) false ∧ tm 4 = .lit (.int .i64 x4_a4) ∧ tm 5 = .ptr 0 0 ∧ tm 27 = .lit (.bool r24) ∧ True) (by refine ⟨?_, ?_, ?_, ?_, ?_, ?_, trivial⟩ <;> first | (simp only [ua, nm, seval] <;> rfl) | rfl) ?_
 rintro tm ⟨e26, e27, e28, e29, e30, e31, _⟩
 cases d32 : (r24)
 ·simp only [d32, hs] at h
  simp only [vz, tyf, e26, e27, e28, e29, e30, e31, d32, nm, seval]
  refine ktree0 zaf ?_
  try simp only [vz, tyf, e26, e27, e28, e29, e30, e31, d32, nm, seval]
  obtain rfl := kF _ h
  exact zac Tryz.results10 rfl
 simp only [d32, hs] at h
 obtain ⟨r33, o34, h⟩ := optI h kN
 try simp only [hs] at h
 simp only [vz, tyf, e26, e27, e28, e29, e30, e31, d32, nm, seval]
 refine ktA (zdj _ _ _ o34) ?_
 refine zah (fun tm => tm 1 = .lit (.int .i64 x1_a1) ∧ tm 2 = .lit (.int .i64 x2_a2) ∧ tm 3 = .sl (cellsL eI x3_a3) (List.length x3_a3) false ∧ tm 4 = .lit (.int .i64 x4_a4) ∧ tm 5 = .ptr 0 0 ∧ tm 29 = .lit (.bool false) ∧ tm 32 = .lit (.bool r33) ∧ True) (by refine ⟨e26, e27, e28, e29, e30, ?_, ?_, trivial⟩ <;> first | (simp only [ua, e26, e27, e28, e29, e30, e31, d32, nm, seval] <;> rfl) | rfl) ?_
 rintro tm ⟨e35, e36, e37, e38, e39, e40, e41, _⟩
 cases d42 : (r33)
 ·simp only [d42, hs] at h
  simp only [vz, tyf, d32, e35, e36, e37, e38, e39, e40, e41, d42, nm, seval]
  refine ktree0 zaf ?_
  try simp only [vz, tyf, d32, e35, e36, e37, e38, e39, e40, e41, d42, nm, seval]
  obtain rfl := kF _ h
  exact zac Tryz.results10 rfl
 simp only [d42, hs] at h
 cases d43 : (x1_a1 == x2_a2)
 ·simp only [d43, hs] at h
  cases d44 : (decide (x4_a4 < 0))
  ·simp only [d44, hs] at h
   cases d45 : (decide (x4_a4 ≥ (List.length x0_s.Boards : Int)))
   ·simp only [d45, hs] at h
    obtain ⟨r46, o47, h⟩ := optI h kN
    try simp only [hs] at h
    simp only [vz, tyf, d32, e35, e36, e37, e38, e39, e40, e41, d42, d43, d44, d45, nm, seval]
    refine ktA (zjs _ _ _ _ _ o47) ?_
    refine zah (fun tm => tm 1 = .lit (.int .i64 x1_a1) ∧ tm 2 = .lit (.int .i64 x2_a2) ∧ tm 3 = .sl (cellsL eI x3_a3) (List.length x3_a3) false ∧ tm 4 = .lit (.int .i64 x4_a4) ∧ tm 5 = .ptr 0 0 ∧ tm 57 = .tup [.lit (.int .i64 r46.1), .lit (.int .i64 r46.2)] ∧ True) (by refine ⟨e35, e36, e37, e38, e39, ?_, trivial⟩ <;> first | (simp only [ua, d32, e35, e36, e37, e38, e39, e40, e41, d42, d43, d44, d45, nm, seval] <;> rfl) | rfl) ?_
    rintro tm ⟨e48, e49, e50, e51, e52, e53, _⟩
    obtain ⟨r54, o55, h⟩ := optI h kN
    try simp only [hs] at h
    simp only [vz, tyf, d32, d42, d43, d44, d45, e48, e49, e50, e51, e52, e53, nm, seval]
    refine ktA (zik _ _ _ _ o55) ?_
    refine zah (fun tm => tm 1 = .lit (.int .i64 x1_a1) ∧ tm 2 = .lit (.int .i64 x2_a2) ∧ tm 3 = .sl (cellsL eI x3_a3) (List.length x3_a3) false ∧ tm 4 = .lit (.int .i64 x4_a4) ∧ tm 5 = .ptr 0 0 ∧ tm 11 = .lit (.int .i64 r46.1) ∧ tm 12 = .lit (.int .i64 r46.2) ∧ tm 64 = .tup [.sl (cellsL eI r54.1) (List.length r54.1) false, .lit (.int .i64 r54.2)] ∧ True) (by refine ⟨e48, e49, e50, e51, e52, ?_, ?_, ?_, trivial⟩ <;> first | (simp only [ua, d32, d42, d43, d44, d45, e48, e49, e50, e51, e52, e53, nm, seval] <;> rfl) | rfl) ?_
    rintro tm ⟨e56, e57, e58, e59, e60, e61, e62, e63, _⟩
    obtain ⟨r64, o65, h⟩ := optI h kN
    try simp only [hs] at h
    simp only [vz, tyf, d32, d42, d43, d44, d45, e56, e57, e58, e59, e60, e61, e62, e63, nm, seval]
    refine ktA (zik _ _ _ _ o65) ?_
    refine zah (fun tm => tm 1 = .lit (.int .i64 x1_a1) ∧ tm 3 = .sl (cellsL eI x3_a3) (List.length x3_a3) false ∧ tm 4 = .lit (.int .i64 x4_a4) ∧ tm 5 = .ptr 0 0 ∧ tm 11 = .lit (.int .i64 r46.1) ∧ tm 12 = .lit (.int .i64 r46.2) ∧ tm 13 = .sl (cellsL eI r54.1) (List.length r54.1) false ∧ tm 14 = .lit (.int .i64 r54.2) ∧ tm 71 = .tup [.sl (cellsL eI r64.1) (List.length r64.1) false, .lit (.int .i64 r64.2)] ∧ True) (by refine ⟨e56, e58, e59, e60, e61, e62, ?_, ?_, ?_, trivial⟩ <;> first | (simp only [ua, d32, d42, d43, d44, d45, e56, e57, e58, e59, e60, e61, e62, e63, nm, seval] <;> rfl) | rfl) ?_
    rintro tm ⟨e66, e67, e68, e69, e70, e71, e72, e73, e74, _⟩
    obtain ⟨r75, o76, h⟩ := optI h kN
    try simp only [hs] at h
    simp only [vz, tyf, d32, d42, d43, d44, d45, e66, e67, e68, e69, e70, e71, e72, e73, e74, nm, seval]
    refine ktA (ziu _ _ _ o76) ?_
    refine zah (fun tm => tm 1 = .lit (.int .i64 x1_a1) ∧ tm 3 = .sl (cellsL eI x3_a3) (List.length x3_a3) false ∧ tm 4 = .lit (.int .i64 x4_a4) ∧ tm 5 = .ptr 0 0 ∧ tm 11 = .lit (.int .i64 r46.1) ∧ tm 12 = .lit (.int .i64 r46.2) ∧ tm 13 = .sl (cellsL eI r54.1) (List.length r54.1) false ∧ tm 14 = .lit (.int .i64 r54.2) ∧ tm 15 = .sl (cellsL eI r64.1) (List.length r64.1) false ∧ tm 16 = .lit (.int .i64 r64.2) ∧ tm 77 = .tup [.lit (.int .i64 r75.1), .lit (.int .i64 r75.2.1), .lit (.int .i64 r75.2.2)] ∧ True) (by refine ⟨e66, e67, e68, e69, e70, e71, e72, e73, ?_, ?_, ?_, trivial⟩ <;> first | (simp only [ua, d32, d42, d43, d44, d45, e66, e67, e68, e69, e70, e71, e72, e73, e74, nm, seval] <;> rfl) | rfl) ?_
    rintro tm ⟨e77, e78, e79, e80, e81, e82, e83, e84, e85, e86, e87, _⟩
    obtain ⟨r88, o89, h⟩ := optI h kN
    try simp only [hs] at h
    simp only [vz, tyf, d32, d42, d43, d44, d45, e77, e78, e79, e80, e81, e82, e83, e84, e85, e86, e87, nm, seval]
    refine ktA (zdg _ _ _ _ o89) ?_
    refine zah (fun tm => tm 1 = .lit (.int .i64 x1_a1) ∧ tm 3 = .sl (cellsL eI x3_a3) (List.length x3_a3) false ∧ tm 4 = .lit (.int .i64 x4_a4) ∧ tm 5 = .ptr 0 0 ∧ tm 11 = .lit (.int .i64 r46.1) ∧ tm 12 = .lit (.int .i64 r46.2) ∧ tm 13 = .sl (cellsL eI r54.1) (List.length r54.1) false ∧ tm 14 = .lit (.int .i64 r54.2) ∧ tm 15 = .sl (cellsL eI r64.1) (List.length r64.1) false ∧ tm 16 = .lit (.int .i64 r64.2) ∧ tm 17 = .lit (.int .i64 r75.1) ∧ tm 18 = .lit (.int .i64 r75.2.1) ∧ tm 19 = .lit (.int .i64 r75.2.2) ∧ tm 85 = .tup [.lit (.int .i64 r88.1), .lit (.int .i64 r88.2)] ∧ True) (by refine ⟨e77, e78, e79, e80, e81, e82, e83, e84, e85, e86, ?_, ?_, ?_, ?_, trivial⟩ <;> first | (simp only [ua, d32, d42, d43, d44, d45, e77, e78, e79, e80, e81, e82, e83, e84, e85, e86, e87, nm, seval] <;> rfl) | rfl) ?_
    rintro tm ⟨e90, e91, e92, e93, e94, e95, e96, e97, e98, e99, e100, e101, e102, e103, _⟩
    cases d104 : (r54.2 != 0)
    ·simp only [d104, hs] at h
     cases d105 : (r64.2 != 0)
     ·simp only [d105, hs] at h
      have b106 := And.intro d32 (And.intro d42 (And.intro d43 (And.intro d44 (And.intro d45 (And.intro d104 d105)))))
      cases d107 : (r75.2.2 != 0)
      ·simp only [d107, hs] at h
       cases d108 : (r88.2 != 0)
       ·simp only [d108, hs] at h
        cases d109 : (r46.2 != 0)
        ·simp only [d109, hs] at h
         cases d110 : ((List.length r54.1 : Int) != (List.length x0_s.Boards : Int))
         ·simp only [d110, hs] at h
          cases d111 : ((List.length r64.1 : Int) != (List.length x0_s.Boards : Int))
          ·simp only [d111, hs] at h
           obtain ⟨r112, o113, h⟩ := optI h kN
           try simp only [hs] at h
           simp only [vz, tyf, b106, e90, e91, e92, e93, e94, e95, e96, e97, e98, e99, e100, e101, e102, e103, d107, d108, d109, d110, d111, nm, seval]
           refine ktA (zdj _ _ _ o113) ?_
           refine zah (fun tm => tm 1 = .lit (.int .i64 x1_a1) ∧ tm 3 = .sl (cellsL eI x3_a3) (List.length x3_a3) false ∧ tm 4 = .lit (.int .i64 x4_a4) ∧ tm 5 = .ptr 0 0 ∧ tm 11 = .lit (.int .i64 r46.1) ∧ tm 12 = .lit (.int .i64 r46.2) ∧ tm 13 = .sl (cellsL eI r54.1) (List.length r54.1) false ∧ tm 15 = .sl (cellsL eI r64.1) (List.length r64.1) false ∧ tm 17 = .lit (.int .i64 r75.1) ∧ tm 18 = .lit (.int .i64 r75.2.1) ∧ tm 20 = .lit (.int .i64 r88.1) ∧ tm 126 = .lit (.bool false) ∧ tm 129 = .lit (.bool r112) ∧ True) (by refine ⟨e90, e91, e92, e93, e94, e95, e96, e98, e100, e101, ?_, ?_, ?_, trivial⟩ <;> first | (simp only [ua, b106, e90, e91, e92, e93, e94, e95, e96, e97, e98, e99, e100, e101, e102, e103, d107, d108, d109, d110, d111, nm, seval] <;> rfl) | rfl) ?_
           rintro tm ⟨e114, e115, e116, e117, e118, e119, e120, e121, e122, e123, e124, e125, e126, _⟩
           cases d127 : (r112)
           ·simp only [d127, hs] at h
            have b128 := And.intro b106 (And.intro d107 (And.intro d108 (And.intro d109 (And.intro d110 (And.intro d111 d127)))))
            try simp only [vz, tyf, b128, e114, e115, e116, e117, e118, e119, e120, e121, e122, e123, e124, e125, e126, nm, seval]
            obtain rfl := kF _ h
            exact zac Tryz.results10 rfl
           simp only [d127, hs] at h
           have b129 := And.intro b106 (And.intro d107 (And.intro d108 (And.intro d109 (And.intro d110 (And.intro d111 d127)))))
           obtain ⟨r130, o131, h⟩ := optI h kN
           try simp only [hs] at h
           simp only [vz, tyf, b129, e114, e115, e116, e117, e118, e119, e120, e121, e122, e123, e124, e125, e126, nm, seval]
           refine ktA (zdg _ _ _ _ o131) ?_
           refine zah (fun tm => tm 1 = .lit (.int .i64 x1_a1) ∧ tm 4 = .lit (.int .i64 x4_a4) ∧ tm 11 = .lit (.int .i64 r46.1) ∧ tm 12 = .lit (.int .i64 r46.2) ∧ tm 13 = .sl (cellsL eI r54.1) (List.length r54.1) false ∧ tm 15 = .sl (cellsL eI r64.1) (List.length r64.1) false ∧ tm 17 = .lit (.int .i64 r75.1) ∧ tm 18 = .lit (.int .i64 r75.2.1) ∧ tm 20 = .lit (.int .i64 r88.1) ∧ tm 136 = .tup [.lit (.int .i64 r130.1), .lit (.int .i64 r130.2)] ∧ True) (by refine ⟨e114, e116, e118, e119, e120, e121, e122, e123, e124, ?_, trivial⟩ <;> first | (simp only [ua, b129, e114, e115, e116, e117, e118, e119, e120, e121, e122, e123, e124, e125, e126, nm, seval] <;> rfl) | rfl) ?_
           rintro tm ⟨e132, e133, e134, e135, e136, e137, e138, e139, e140, e141, _⟩
           cases d142 : (r130.2 != 0)
           ·simp only [d142, hs] at h
            cases d143 : (r130.1 != r75.2.1)
            ·simp only [d143, hs] at h
             cases d144 : (decide (r88.1 < r75.2.1))
             ·simp only [d144, hs] at h
              cases d145 : (r88.1 == r75.2.1)
              ·simp only [d145, hs] at h
               simp only [vz, tyf, b129, e132, e133, e134, e135, e136, e137, e138, e139, e140, e141, d142, d143, d144, d145, nm, seval]
               refine zdt (fun tm => tm 4 = .lit (.int .i64 x4_a4) ∧ tm 11 = .lit (.int .i64 r46.1) ∧ tm 13 = .sl (cellsL eI r54.1) (List.length r54.1) false ∧ tm 15 = .sl (cellsL eI r64.1) (List.length r64.1) false ∧ True) (by refine ⟨e133, e134, e136, e137, trivial⟩ <;> first | (simp only [ua, b129, e132, e133, e134, e135, e136, e137, e138, e139, e140, e141, d142, d143, d144, d145, nm, seval] <;> rfl) | rfl) ?_
               rintro tm ⟨e146, e147, e148, e149, _⟩
               cases d150 : (decide (r46.1 ≥ 0))
               ·simp only [d150, hs] at h
                try simp only [vz, tyf, b129, d142, d143, d144, d145, e146, e147, e148, e149, d150, nm, seval]
                obtain rfl := kF _ h
                exact zac Tryz.results10 rfl
               simp only [d150, hs] at h
               cases d151 : (decide (r46.1 < (List.length r54.1 : Int)))
               ·simp only [d151, hs] at h
                have b152 := And.intro b129 (And.intro d142 (And.intro d143 (And.intro d144 (And.intro d145 (And.intro d150 d151)))))
                try simp only [vz, tyf, b152, e146, e147, e148, e149, nm, seval]
                obtain rfl := kF _ h
                exact zac Tryz.results10 rfl
               simp only [d151, hs] at h
               have b153 := And.intro b129 (And.intro d142 (And.intro d143 (And.intro d144 (And.intro d145 (And.intro d150 d151)))))
               obtain ⟨x154, o155, h⟩ := optI h kN
               try simp only [hs] at h
               obtain ⟨x156, o157, h⟩ := optI h kN
               try simp only [hs] at h
               cases d158 : (x154 != x156)
               ·simp only [d158, hs] at h
                try simp only [vz, tyf, b153, e146, e147, e148, e149, (ix22 o155), (ix22 o157), d158, nm, seval]
                obtain rfl := kF _ h
                exact zac Tryz.results10 rfl
               simp only [d158, hs] at h
               cases d159 : (decide (x4_a4 ≥ r46.1))
               ·simp only [d159, hs] at h
                obtain ⟨x160, o161, h⟩ := optI h kN
                try simp only [hs] at h
                obtain ⟨x162, o163, h⟩ := optI h kN
                try simp only [hs] at h
                cases d164 : (x160 == x162)
                ·simp only [d164, hs] at h
                 try simp only [vz, tyf, b153, e146, e147, e148, e149, (ix22 o155), (ix22 o157), d158, d159, (ix22 o161), (ix22 o163), d164, nm, seval]
                 obtain rfl := kF _ h
                 exact zac Tryz.results10 rfl
                simp only [d164, hs] at h
                simp only [vz, tyf, b153, e146, e147, e148, e149, (ix22 o155), (ix22 o157), d158, d159, (ix22 o161), (ix22 o163), d164, nm, seval]
                refine dktree0 zaf ?_
                try simp only [vz, tyf, b153, e146, e147, e148, e149, (ix22 o155), (ix22 o157), d158, d159, (ix22 o161), (ix22 o163), d164, nm, seval]
                obtain rfl := kF _ h
                exact zac Tryz.results10 rfl
               simp only [d159, hs] at h
               simp only [vz, tyf, b153, e146, e147, e148, e149, (ix22 o155), (ix22 o157), d158, d159, nm, seval]
               refine dktree0 zaf ?_
               try simp only [vz, tyf, b153, e146, e147, e148, e149, (ix22 o155), (ix22 o157), d158, d159, nm, seval]
               obtain rfl := kF _ h
               exact zac Tryz.results10 rfl
              simp only [d145, hs] at h
              cases d165 : (decide (x1_a1 < r75.1))
              ·simp only [d165, hs] at h
               simp only [vz, tyf, b129, e132, e133, e134, e135, e136, e137, e138, e139, e140, e141, d142, d143, d144, d145, d165, nm, seval]
               refine zdt (fun tm => tm 4 = .lit (.int .i64 x4_a4) ∧ tm 11 = .lit (.int .i64 r46.1) ∧ tm 13 = .sl (cellsL eI r54.1) (List.length r54.1) false ∧ tm 15 = .sl (cellsL eI r64.1) (List.length r64.1) false ∧ True) (by refine ⟨e133, e134, e136, e137, trivial⟩ <;> first | (simp only [ua, b129, e132, e133, e134, e135, e136, e137, e138, e139, e140, e141, d142, d143, d144, d145, d165, nm, seval] <;> rfl) | rfl) ?_
               rintro tm ⟨e166, e167, e168, e169, _⟩
               cases d170 : (decide (r46.1 ≥ 0))
               ·simp only [d170, hs] at h
                have b171 := And.intro b129 (And.intro d142 (And.intro d143 (And.intro d144 (And.intro d145 (And.intro d165 d170)))))
                try simp only [vz, tyf, b171, e166, e167, e168, e169, nm, seval]
                obtain rfl := kF _ h
                exact zac Tryz.results10 rfl
               simp only [d170, hs] at h
               have b172 := And.intro b129 (And.intro d142 (And.intro d143 (And.intro d144 (And.intro d145 (And.intro d165 d170)))))
               cases d173 : (decide (r46.1 < (List.length r54.1 : Int)))
               ·simp only [d173, hs] at h
                try simp only [vz, tyf, b172, e166, e167, e168, e169, d173, nm, seval]
                obtain rfl := kF _ h
                exact zac Tryz.results10 rfl
               simp only [d173, hs] at h
               obtain ⟨x174, o175, h⟩ := optI h kN
               try simp only [hs] at h
               obtain ⟨x176, o177, h⟩ := optI h kN
               try simp only [hs] at h
               cases d178 : (x174 != x176)
               ·simp only [d178, hs] at h
                try simp only [vz, tyf, b172, e166, e167, e168, e169, d173, (ix22 o175), (ix22 o177), d178, nm, seval]
                obtain rfl := kF _ h
                exact zac Tryz.results10 rfl
               simp only [d178, hs] at h
               cases d179 : (decide (x4_a4 ≥ r46.1))
               ·simp only [d179, hs] at h
                obtain ⟨x180, o181, h⟩ := optI h kN
                try simp only [hs] at h
                obtain ⟨x182, o183, h⟩ := optI h kN
                try simp only [hs] at h
                cases d184 : (x180 == x182)
                ·simp only [d184, hs] at h
                 try simp only [vz, tyf, b172, e166, e167, e168, e169, d173, (ix22 o175), (ix22 o177), d178, d179, (ix22 o181), (ix22 o183), d184, nm, seval]
                 obtain rfl := kF _ h
                 exact zac Tryz.results10 rfl
                simp only [d184, hs] at h
                simp only [vz, tyf, b172, e166, e167, e168, e169, d173, (ix22 o175), (ix22 o177), d178, d179, (ix22 o181), (ix22 o183), d184, nm, seval]
                refine dktree0 zaf ?_
                try simp only [vz, tyf, b172, e166, e167, e168, e169, d173, (ix22 o175), (ix22 o177), d178, d179, (ix22 o181), (ix22 o183), d184, nm, seval]
                obtain rfl := kF _ h
                exact zac Tryz.results10 rfl
               simp only [d179, hs] at h
               simp only [vz, tyf, b172, e166, e167, e168, e169, d173, (ix22 o175), (ix22 o177), d178, d179, nm, seval]
               refine dktree0 zaf ?_
               try simp only [vz, tyf, b172, e166, e167, e168, e169, d173, (ix22 o175), (ix22 o177), d178, d179, nm, seval]
               obtain rfl := kF _ h
               exact zac Tryz.results10 rfl
              simp only [d165, hs] at h
              try simp only [vz, tyf, b129, e132, e133, e134, e135, e136, e137, e138, e139, e140, e141, d142, d143, d144, d145, d165, nm, seval]
              obtain rfl := kF _ h
              exact zac Tryz.results10 rfl
             simp only [d144, hs] at h
             try simp only [vz, tyf, b129, e132, e133, e134, e135, e136, e137, e138, e139, e140, e141, d142, d143, d144, nm, seval]
             obtain rfl := kF _ h
             exact zac Tryz.results10 rfl
            simp only [d143, hs] at h
            try simp only [vz, tyf, b129, e132, e133, e134, e135, e136, e137, e138, e139, e140, e141, d142, d143, nm, seval]
            obtain rfl := kF _ h
            exact zac Tryz.results10 rfl
           simp only [d142, hs] at h
           try simp only [vz, tyf, b129, e132, e133, e134, e135, e136, e137, e138, e139, e140, e141, d142, nm, seval]
           obtain rfl := kF _ h
           exact zac Tryz.results10 rfl
          simp only [d111, hs] at h
          try simp only [vz, tyf, b106, e90, e91, e92, e93, e94, e95, e96, e97, e98, e99, e100, e101, e102, e103, d107, d108, d109, d110, d111, nm, seval]
          obtain rfl := kF _ h
          exact zac Tryz.results10 rfl
         simp only [d110, hs] at h
         try simp only [vz, tyf, b106, e90, e91, e92, e93, e94, e95, e96, e97, e98, e99, e100, e101, e102, e103, d107, d108, d109, d110, nm, seval]
         obtain rfl := kF _ h
         exact zac Tryz.results10 rfl
        simp only [d109, hs] at h
        cases d185 : (r46.2 != 5)
        ·simp only [d185, hs] at h
         cases d186 : ((List.length r54.1 : Int) != (List.length x0_s.Boards : Int))
         ·simp only [d186, hs] at h
          cases d187 : ((List.length r64.1 : Int) != (List.length x0_s.Boards : Int))
          ·simp only [d187, hs] at h
           have b188 := And.intro b106 (And.intro d107 (And.intro d108 (And.intro d109 (And.intro d185 (And.intro d186 d187)))))
           obtain ⟨r189, o190, h⟩ := optI h kN
           try simp only [hs] at h
           simp only [vz, tyf, b188, e90, e91, e92, e93, e94, e95, e96, e97, e98, e99, e100, e101, e102, e103, nm, seval]
           refine ktA (zdj _ _ _ o190) ?_
           refine zah (fun tm => tm 1 = .lit (.int .i64 x1_a1) ∧ tm 3 = .sl (cellsL eI x3_a3) (List.length x3_a3) false ∧ tm 4 = .lit (.int .i64 x4_a4) ∧ tm 5 = .ptr 0 0 ∧ tm 11 = .lit (.int .i64 r46.1) ∧ tm 12 = .lit (.int .i64 r46.2) ∧ tm 13 = .sl (cellsL eI r54.1) (List.length r54.1) false ∧ tm 15 = .sl (cellsL eI r64.1) (List.length r64.1) false ∧ tm 17 = .lit (.int .i64 r75.1) ∧ tm 18 = .lit (.int .i64 r75.2.1) ∧ tm 20 = .lit (.int .i64 r88.1) ∧ tm 126 = .lit (.bool false) ∧ tm 129 = .lit (.bool r189) ∧ True) (by refine ⟨e90, e91, e92, e93, e94, e95, e96, e98, e100, e101, ?_, ?_, ?_, trivial⟩ <;> first | (simp only [ua, b188, e90, e91, e92, e93, e94, e95, e96, e97, e98, e99, e100, e101, e102, e103, nm, seval] <;> rfl) | rfl) ?_
           rintro tm ⟨e191, e192, e193, e194, e195, e196, e197, e198, e199, e200, e201, e202, e203, _⟩
           cases d204 : (r189)
           ·simp only [d204, hs] at h
            try simp only [vz, tyf, b188, e191, e192, e193, e194, e195, e196, e197, e198, e199, e200, e201, e202, e203, d204, nm, seval]
            obtain rfl := kF _ h
            exact zac Tryz.results10 rfl
           simp only [d204, hs] at h
           obtain ⟨r205, o206, h⟩ := optI h kN
           try simp only [hs] at h
           simp only [vz, tyf, b188, e191, e192, e193, e194, e195, e196, e197, e198, e199, e200, e201, e202, e203, d204, nm, seval]
           refine ktA (zdg _ _ _ _ o206) ?_
           refine zah (fun tm => tm 1 = .lit (.int .i64 x1_a1) ∧ tm 4 = .lit (.int .i64 x4_a4) ∧ tm 11 = .lit (.int .i64 r46.1) ∧ tm 12 = .lit (.int .i64 r46.2) ∧ tm 13 = .sl (cellsL eI r54.1) (List.length r54.1) false ∧ tm 15 = .sl (cellsL eI r64.1) (List.length r64.1) false ∧ tm 17 = .lit (.int .i64 r75.1) ∧ tm 18 = .lit (.int .i64 r75.2.1) ∧ tm 20 = .lit (.int .i64 r88.1) ∧ tm 136 = .tup [.lit (.int .i64 r205.1), .lit (.int .i64 r205.2)] ∧ True) (by refine ⟨e191, e193, e195, e196, e197, e198, e199, e200, e201, ?_, trivial⟩ <;> first | (simp only [ua, b188, e191, e192, e193, e194, e195, e196, e197, e198, e199, e200, e201, e202, e203, d204, nm, seval] <;> rfl) | rfl) ?_
           rintro tm ⟨e207, e208, e209, e210, e211, e212, e213, e214, e215, e216, _⟩
           cases d217 : (r205.2 != 0)
           ·simp only [d217, hs] at h
            cases d218 : (r205.1 != r75.2.1)
            ·simp only [d218, hs] at h
             cases d219 : (decide (r88.1 < r75.2.1))
             ·simp only [d219, hs] at h
              cases d220 : (r88.1 == r75.2.1)
              ·simp only [d220, hs] at h
               simp only [vz, tyf, b188, d204, e207, e208, e209, e210, e211, e212, e213, e214, e215, e216, d217, d218, d219, d220, nm, seval]
               refine zdt (fun tm => tm 4 = .lit (.int .i64 x4_a4) ∧ tm 13 = .sl (cellsL eI r54.1) (List.length r54.1) false ∧ tm 15 = .sl (cellsL eI r64.1) (List.length r64.1) false ∧ True) (by refine ⟨e208, e211, e212, trivial⟩ <;> first | (simp only [ua, b188, d204, e207, e208, e209, e210, e211, e212, e213, e214, e215, e216, d217, d218, d219, d220, nm, seval] <;> rfl) | rfl) ?_
               rintro tm ⟨e221, e222, e223, _⟩
               obtain ⟨x224, o225, h⟩ := optI h kN
               try simp only [hs] at h
               obtain ⟨x226, o227, h⟩ := optI h kN
               try simp only [hs] at h
               cases d228 : (x224 == x226)
               ·simp only [d228, hs] at h
                have b229 := And.intro b188 (And.intro d204 (And.intro d217 (And.intro d218 (And.intro d219 (And.intro d220 d228)))))
                try simp only [vz, tyf, b229, e221, e222, e223, (ix22 o225), (ix22 o227), nm, seval]
                obtain rfl := kF _ h
                exact zac Tryz.results10 rfl
               simp only [d228, hs] at h
               have b230 := And.intro b188 (And.intro d204 (And.intro d217 (And.intro d218 (And.intro d219 (And.intro d220 d228)))))
               simp only [vz, tyf, b230, e221, e222, e223, (ix22 o225), (ix22 o227), nm, seval]
               refine dktree0 zaf ?_
               try simp only [vz, tyf, b230, e221, e222, e223, (ix22 o225), (ix22 o227), nm, seval]
               obtain rfl := kF _ h
               exact zac Tryz.results10 rfl
              simp only [d220, hs] at h
              cases d231 : (decide (x1_a1 < r75.1))
              ·simp only [d231, hs] at h
               have b232 := And.intro b188 (And.intro d204 (And.intro d217 (And.intro d218 (And.intro d219 (And.intro d220 d231)))))
               simp only [vz, tyf, b232, e207, e208, e209, e210, e211, e212, e213, e214, e215, e216, nm, seval]
               refine zdt (fun tm => tm 4 = .lit (.int .i64 x4_a4) ∧ tm 13 = .sl (cellsL eI r54.1) (List.length r54.1) false ∧ tm 15 = .sl (cellsL eI r64.1) (List.length r64.1) false ∧ True) (by refine ⟨e208, e211, e212, trivial⟩ <;> first | (simp only [ua, b232, e207, e208, e209, e210, e211, e212, e213, e214, e215, e216, nm, seval] <;> rfl) | rfl) ?_
               rintro tm ⟨e233, e234, e235, _⟩
               obtain ⟨x236, o237, h⟩ := optI h kN
               try simp only [hs] at h
               obtain ⟨x238, o239, h⟩ := optI h kN
               try simp only [hs] at h
               cases d240 : (x236 == x238)
               ·simp only [d240, hs] at h
                try simp only [vz, tyf, b232, e233, e234, e235, (ix22 o237), (ix22 o239), d240, nm, seval]
                obtain rfl := kF _ h
                exact zac Tryz.results10 rfl
               simp only [d240, hs] at h
               simp only [vz, tyf, b232, e233, e234, e235, (ix22 o237), (ix22 o239), d240, nm, seval]
               refine dktree0 zaf ?_
               try simp only [vz, tyf, b232, e233, e234, e235, (ix22 o237), (ix22 o239), d240, nm, seval]
               obtain rfl := kF _ h
               exact zac Tryz.results10 rfl
              simp only [d231, hs] at h
              have b241 := And.intro b188 (And.intro d204 (And.intro d217 (And.intro d218 (And.intro d219 (And.intro d220 d231)))))
              try simp only [vz, tyf, b241, e207, e208, e209, e210, e211, e212, e213, e214, e215, e216, nm, seval]
              obtain rfl := kF _ h
              exact zac Tryz.results10 rfl
             simp only [d219, hs] at h
             try simp only [vz, tyf, b188, d204, e207, e208, e209, e210, e211, e212, e213, e214, e215, e216, d217, d218, d219, nm, seval]
             obtain rfl := kF _ h
             exact zac Tryz.results10 rfl
            simp only [d218, hs] at h
            try simp only [vz, tyf, b188, d204, e207, e208, e209, e210, e211, e212, e213, e214, e215, e216, d217, d218, nm, seval]
            obtain rfl := kF _ h
            exact zac Tryz.results10 rfl
           simp only [d217, hs] at h
           try simp only [vz, tyf, b188, d204, e207, e208, e209, e210, e211, e212, e213, e214, e215, e216, d217, nm, seval]
           obtain rfl := kF _ h
           exact zac Tryz.results10 rfl
          simp only [d187, hs] at h
          have b242 := And.intro b106 (And.intro d107 (And.intro d108 (And.intro d109 (And.intro d185 (And.intro d186 d187)))))
          try simp only [vz, tyf, b242, e90, e91, e92, e93, e94, e95, e96, e97, e98, e99, e100, e101, e102, e103, nm, seval]
          obtain rfl := kF _ h
          exact zac Tryz.results10 rfl
         simp only [d186, hs] at h
         try simp only [vz, tyf, b106, e90, e91, e92, e93, e94, e95, e96, e97, e98, e99, e100, e101, e102, e103, d107, d108, d109, d185, d186, nm, seval]
         obtain rfl := kF _ h
         exact zac Tryz.results10 rfl
        simp only [d185, hs] at h
        try simp only [vz, tyf, b106, e90, e91, e92, e93, e94, e95, e96, e97, e98, e99, e100, e101, e102, e103, d107, d108, d109, d185, nm, seval]
        obtain rfl := kF _ h
        exact zac Tryz.results10 rfl
       simp only [d108, hs] at h
       try simp only [vz, tyf, b106, e90, e91, e92, e93, e94, e95, e96, e97, e98, e99, e100, e101, e102, e103, d107, d108, nm, seval]
       obtain rfl := kF _ h
       exact zac Tryz.results10 rfl
      simp only [d107, hs] at h
      try simp only [vz, tyf, b106, e90, e91, e92, e93, e94, e95, e96, e97, e98, e99, e100, e101, e102, e103, d107, nm, seval]
      obtain rfl := kF _ h
      exact zac Tryz.results10 rfl
     simp only [d105, hs] at h
     have b243 := And.intro d32 (And.intro d42 (And.intro d43 (And.intro d44 (And.intro d45 (And.intro d104 d105)))))
     try simp only [vz, tyf, b243, e90, e91, e92, e93, e94, e95, e96, e97, e98, e99, e100, e101, e102, e103, nm, seval]
     obtain rfl := kF _ h
     exact zac Tryz.results10 rfl
    simp only [d104, hs] at h
    try simp only [vz, tyf, d32, d42, d43, d44, d45, e90, e91, e92, e93, e94, e95, e96, e97, e98, e99, e100, e101, e102, e103, d104, nm, seval]
    obtain rfl := kF _ h
    exact zac Tryz.results10 rfl
   simp only [d45, hs] at h
   simp only [vz, tyf, d32, e35, e36, e37, e38, e39, e40, e41, d42, d43, d44, d45, nm, seval]
   refine ktree0 zaf ?_
   try simp only [vz, tyf, d32, e35, e36, e37, e38, e39, e40, e41, d42, d43, d44, d45, nm, seval]
   obtain rfl := kF _ h
   exact zac Tryz.results10 rfl
  simp only [d44, hs] at h
  simp only [vz, tyf, d32, e35, e36, e37, e38, e39, e40, e41, d42, d43, d44, nm, seval]
  refine ktree0 zaf ?_
  try simp only [vz, tyf, d32, e35, e36, e37, e38, e39, e40, e41, d42, d43, d44, nm, seval]
  obtain rfl := kF _ h
  exact zac Tryz.results10 rfl
 simp only [d43, hs] at h
 simp only [vz, tyf, d32, e35, e36, e37, e38, e39, e40, e41, d42, d43, nm, seval]
 refine ktree0 zaf ?_
 try simp only [vz, tyf, d32, e35, e36, e37, e38, e39, e40, e41, d42, d43, nm, seval]
 obtain rfl := kF _ h
 exact zac Tryz.results10 rfl
end Go.V
end
section
namespace Go.V
open Go
theorem zqu : ∀ (l m : List Int) (i : Int), l.length = m.length → firstD l m i = none → l = m
 | [], [], _, _, _ => rfl
 | a :: l, b :: m, i, hl, h => by
  simp only [firstD] at h
  cases hc : (a != b) with
  | true => rw [hc] at h; cases h
  | false =>
   rw [hc] at h
   rw [zqu l m (i + 1) (by simpa using hl) h]
   simp at hc
   rw [hc]
theorem zrt : ∀ (l m : List Int) (i j : Int), firstD l m i = some j → ∃ k : Nat, j = i + k ∧ ∃ a b, l[k]? = some a ∧ m[k]? = some b ∧ (a != b) = true ∧ ∀ k' : Nat, k' < k → l[k']? = m[k']?
 | [], [], _, _, h => by cases h
 | [], _ :: _, _, _, h => by cases h
 | _ :: _, [], _, _, h => by cases h
 | a :: l, b :: m, i, j, h => by
  simp only [firstD] at h
  cases hc : (a != b) with
  | true =>
   rw [hc] at h
   simp only [cond_true, Option.some.injEq] at h
   exact ⟨0, by omega, a, b, rfl, rfl, hc, fun k' hk => by omega⟩
  | false =>
   rw [hc] at h
   obtain ⟨k, hk, x, y, h1, h2, h3, h4⟩ := zrt l m (i + 1) j h
   refine ⟨k + 1, by omega, x, y, by simpa using h1, by simpa using h2, h3, ?_⟩
   intro k' hk'
   cases k' with
   | zero => simp at hc; simp [hc]
   | succ k' => simpa using h4 k' (by omega)
theorem zwh (f : GPriceTariff → Int) : ∀ (p : List GPriceTariff) (i a n : Int), a < i → (chp f p i a n).2 ≤ n ∧ ((chp f p i a n).1 = a ∧ (chp f p i a n).2 = n ∨ ∃ k : Nat, ∃ t, (chp f p i a n).1 = i + k ∧ p[k]? = some t ∧ f t = (chp f p i a n).2 ∧ (chp f p i a n).2 < n) ∧
  ∀ (k : Nat) t, p[k]? = some t → (chp f p i a n).2 ≤ f t ∧ (f t = (chp f p i a n).2 → (chp f p i a n).1 ≤ i + k)
 | [], i, a, n, h => ⟨Int.le_refl _, .inl ⟨rfl, rfl⟩, fun k t hk => by simp at hk⟩
 | t :: p, i, a, n, h => by
  simp only [chp]
  by_cases hc : f t < n
  ·rw [if_pos hc]
   obtain ⟨h1, h2, h3⟩ := zwh f p (i + 1) i (f t) (by omega)
   refine ⟨by omega, .inr ?_, ?_⟩
   ·rcases h2 with ⟨e1, e2⟩ | ⟨k, u, e1, e2, e3, e4⟩
    ·exact ⟨0, t, by omega, rfl, e2.symm, by omega⟩
    ·exact ⟨k + 1, u, by omega, by simpa using e2, e3, by omega⟩
   ·intro k u hk
    cases k with
    | zero =>
     simp only [List.getElem?_cons_zero, Option.some.injEq] at hk
     subst hk
     refine ⟨h1, fun e => ?_⟩
     rcases h2 with ⟨e1, e2⟩ | ⟨k, u, e1, e2, e3, e4⟩
     ·omega
     ·omega
    | succ k =>
     obtain ⟨g1, g2⟩ := h3 k u (by simpa using hk)
     exact ⟨g1, fun e => by have := g2 e; omega⟩
  ·rw [if_neg hc]
   obtain ⟨h1, h2, h3⟩ := zwh f p (i + 1) a n (by omega)
   refine ⟨h1, ?_, ?_⟩
   ·rcases h2 with ⟨e1, e2⟩ | ⟨k, u, e1, e2, e3, e4⟩
    ·exact .inl ⟨e1, e2⟩
    ·exact .inr ⟨k + 1, u, by omega, by simpa using e2, e3, e4⟩
   ·intro k u hk
    cases k with
    | zero =>
     simp only [List.getElem?_cons_zero, Option.some.injEq] at hk
     subst hk
     refine ⟨by omega, fun e => ?_⟩
     rcases h2 with ⟨e1, e2⟩ | ⟨k, u, e1, e2, e3, e4⟩
     ·omega
     ·omega
    | succ k =>
     obtain ⟨g1, g2⟩ := h3 k u (by simpa using hk)
     exact ⟨g1, fun e => by have := g2 e; omega⟩
theorem zahv {s : GPriceSheet} (h : sheetB s = true) (hs : List Int) : tarB s (chpS s hs).1 = true ∧ (∃ t, getI s.Tariffs (chpS s hs).1 = some t ∧ paidP t s.Boards hs = (chpS s hs).2) ∧
  ∀ (n : Int) t, getI s.Tariffs n = some t → (chpS s hs).2 ≤ paidP t s.Boards hs ∧ (paidP t s.Boards hs = (chpS s hs).2 → (chpS s hs).1 ≤ n) := by
 have hn := (znl h).2
 unfold chpS tarB
 cases ht : s.Tariffs with
 | nil => rw [ht] at hn; simp at hn
 | cons t p =>
  simp only
  obtain ⟨h1, h2, h3⟩ := zwh (fun t => paidP t s.Boards hs) p 1 0 (paidP t s.Boards hs) (by omega)
  generalize chp (fun t => paidP t s.Boards hs) p 1 0 (paidP t s.Boards hs) = c at *
  have hat : ∃ u, getI (t :: p) c.1 = some u ∧ paidP u s.Boards hs = c.2 := by
   rcases h2 with ⟨e1, e2⟩ | ⟨k, u, e1, e2, e3, e4⟩
   ·exact ⟨t, by rw [e1]; rfl, e2.symm⟩
   ·refine ⟨u, ?_, e3⟩
    unfold getI
    rw [if_pos (by omega), show c.1.toNat = k + 1 by omega]
    simpa using e2
  refine ⟨?_, hat, ?_⟩
  ·obtain ⟨u, hu, _⟩ := hat
   have := zaag hu
   rw [zic]; omega
  ·intro n u hu
   have hlt := zaag hu
   unfold getI at hu
   rw [if_pos hlt.1] at hu
   cases hk : n.toNat with
   | zero =>
    rw [hk] at hu
    simp only [List.getElem?_cons_zero, Option.some.injEq] at hu
    subst hu
    refine ⟨h1, fun e => ?_⟩
    rcases h2 with ⟨e1, e2⟩ | ⟨k, u, e1, e2, e3, e4⟩
    ·omega
    ·omega
   | succ k =>
    rw [hk] at hu
    obtain ⟨g1, g2⟩ := h3 k u (by simpa using hu)
    exact ⟨g1, fun e => by have := g2 e; omega⟩
theorem zqk (s : GPriceSheet) (n m : Int) (hs : List Int) (b : Int) (ok : lenOk s.Offs = true ∧ lenOk s.Boards = true ∧ lenOk s.Tariffs = true) (hl : lenOk hs = true) : zfy s n m hs b = some true := by
 unfold zfy
 rcases zmr s n hs with h | ⟨h, a⟩
 ·rw [h]; rfl
 rw [h]
 obtain ⟨t, ht, _, ot⟩ := zld a.sheet a.tar
 have hn := (znl a.sheet).1
 have hf := zja a.sheet a.hrs
 simp only [Option.bind_some, cond_true, zlz a.ok]
 cases hm : tarB s m with
 | false => rfl
 | true =>
  simp only [cond_true]
  cases he : (n == m) with
  | true => rfl
  | false =>
   have hne : (n != m) = true := by simpa using he
   obtain ⟨u, hu, _, ou⟩ := zld a.sheet hm
   have a2 : Asked s m hs := ⟨a.ok, a.sheet, hm, a.hrs⟩
   by_cases hb0 : b < 0
   ·rw [decide_eq_true hb0]; rfl
   rw [decide_eq_false hb0]
   by_cases hb1 : b ≥ s.Boards.length
   ·rw [decide_eq_true hb1]; rfl
   rw [decide_eq_false hb1]
   obtain ⟨c1, ⟨v, hv, ev⟩, c3⟩ := zahv a.sheet hs
   have hvo := zoc a.sheet v (zanr hv)
   have hown := c3 n t ht
   have a3 : Asked s (chpS s hs).1 hs := ⟨a.ok, a.sheet, c1, a.hrs⟩
   simp only [cond_false, zaej a hm hne ht hu ot ou, zwf a ht ot, zwf a2 hu ou, zaeb a.ok a.sheet a.hrs, zkz a ht ot, Option.bind_some, bne_self_eq_false, zdw hf, zlz a.ok, c1, cond_true, zkz a3 hv hvo, ev]
   rw [decide_eq_false (p := paidP t s.Boards hs < (chpS s hs).2) (by omega)]
   have hat : paidP t s.Boards hs = (chpS s hs).2 → decide (n < (chpS s hs).1) = false := fun e => decide_eq_false (by have := hown.2 e; omega)
   obtain ⟨x, hx, _⟩ := zlw (xs := partsP t s.Boards hs) (i := b) (by omega) (by rw [zdw hf]; omega)
   obtain ⟨y, hy, _⟩ := zlw (xs := partsP u s.Boards hs) (i := b) (by omega) (by rw [zdw hf]; omega)
   cases hd : firstD (partsP t s.Boards hs) (partsP u s.Boards hs) 0 with
   | none =>
    have e := zqu _ _ _ (by rw [zdw hf, zdw hf]) hd
    have hxy : x = y := by rw [e] at hx; rw [hx] at hy; cases hy; rfl
    subst hxy
    simp only [hx, hy, Option.bind_some, beq_self_eq_true, cond_true, show ((5 : Int) != 0) = true from rfl, show ((5 : Int) != 5) = false from rfl, cond_false]
    by_cases e2 : paidP t s.Boards hs = (chpS s hs).2
    ·rw [hat e2, e2]; simp
    ·rw [show (paidP t s.Boards hs == (chpS s hs).2) = false from by simpa using e2]; rfl
   | some j =>
    obtain ⟨k, hj, p, q, h1, h2, h3, h4⟩ := zrt _ _ _ _ hd
    have hk : k < (partsP t s.Boards hs).length := (List.getElem?_eq_some_iff.1 h1).1
    rw [zdw hf] at hk
    have g1 : getI (partsP t s.Boards hs) j = some p := by unfold getI; rw [if_pos (by omega), show j.toNat = k by omega]; exact h1
    have g2 : getI (partsP u s.Boards hs) j = some q := by unfold getI; rw [if_pos (by omega), show j.toNat = k by omega]; exact h2
    have hxy : b < j → x = y := by
     intro hbj
     have := h4 b.toNat (by omega)
     unfold getI at hx hy
     rw [if_pos (by omega)] at hx hy
     rw [hx, hy] at this
     cases this; rfl
    simp only [hx, hy, g1, g2, h3, Option.bind_some, cond_true, bne_self_eq_false, cond_false]
    rw [decide_eq_true (show j ≥ 0 by omega), decide_eq_true (show j < (s.Boards.length : Int) by omega)]
    simp only [cond_true]
    have hend : (cond (decide (b ≥ j)) (some true) (cond (x == y) (some true) (some false))) = some true := by
     by_cases hbj : b ≥ j
     ·rw [decide_eq_true hbj]; rfl
     ·rw [decide_eq_false hbj, hxy (by omega)]; simp
    rw [hend]
    by_cases e2 : paidP t s.Boards hs = (chpS s hs).2
    ·rw [hat e2, e2]; simp
    ·rw [show (paidP t s.Boards hs == (chpS s hs).2) = false from by simpa using e2]; rfl
end Go.V
end
