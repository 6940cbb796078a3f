/- Part of a proof. -/
import Derived.Test.YtjpgejagakmjgaaGreatDoorRbj
set_option linter.all false
set_option maxRecDepth 4000
set_option maxHeartbeats 40000000
section
set_option maxRecDepth 100000
namespace Go.V
open Go Go.Proofs
def zbt (x : GPriceSheet) : Prop := lenOk x.Offs = true ∧ lenOk x.Boards = true ∧ lenOk x.Tariffs = true
section
variable {P : Program} (hu3 : P.underlying 3 = some (.int .i64)) (hu22 : P.underlying 22 = some (.slice 3)) {f33 : Array Field} (hu33 : P.underlying 33 = some (.struct f33)) (ht33 : f33.toList.map Field.type = [3, 3]) {f75 : Array Field} (hu75 : P.underlying 75 = some (.struct f75)) (ht75 : f75.toList.map Field.type = [3, 3, 33, 3]) (hu23 : P.underlying 23 = some (.slice 75)) (hu39 : P.underlying 39 = some (.int .i64)) (hu40 : P.underlying 40 = some (.int .i64)) (hu4 : P.underlying 4 = some (.bool)) {f42 : Array Field} (hu42 : P.underlying 42 = some (.struct f42)) (ht42 : f42.toList.map Field.type = [39, 3, 3, 40, 4]) (hu24 : P.underlying 24 = some (.slice 42)) {f26 : Array Field} (hu26 : P.underlying 26 = some (.struct f26)) (ht26 : f26.toList.map Field.type = [22, 23, 24])
include hu3 hu22 hu33 ht33 hu75 ht75 hu23 hu39 hu40 hu4 hu42 ht42 hu24 hu26 ht26
theorem gd_3 {n : Nat} : Dec P (n + 1) 3 eI (fun _ => True) := zil hu3
theorem gd_22 {n : Nat} : Dec P (n + 2) 22 (eSl eI) (fun l => lenOk l = true ∧ ∀ x ∈ l, True) := zer hu22 (gd_3 hu3 hu22 hu33 ht33 hu75 ht75 hu23 hu39 hu40 hu4 hu42 ht42 hu24 hu26 ht26 (n := n))
theorem gd_33 {n : Nat} : Dec P (n + 2) 33 cGSpan (fun _ => True) := by
 intro xs h
 obtain ⟨yss, hf, rfl⟩ := zcj (n := n + 1) (ts := [3, 3]) hu33 ht33 h
 match yss, hf with
 | [y0, y1], ⟨h0, h1, _⟩ =>
  obtain ⟨x0, r0, e0⟩ := gd_3 hu3 hu22 hu33 ht33 hu75 ht75 hu23 hu39 hu40 hu4 hu42 ht42 hu24 hu26 ht26 (n := n + 0) _ h0
  obtain ⟨x1, r1, e1⟩ := gd_3 hu3 hu22 hu33 ht33 hu75 ht75 hu23 hu39 hu40 hu4 hu42 ht42 hu24 hu26 ht26 (n := n + 0) _ h1
  exact ⟨⟨x0, x1⟩, trivial, by simp only [List.flatten_cons, List.flatten_nil, List.append_nil, zbe, e0, e1, eI, eU8, eB, eS, eSl, zfc, List.cons_append, List.nil_append]⟩
theorem gd_75 {n : Nat} : Dec P (n + 3) 75 cGPriceBoard (fun _ => True) := by
 intro xs h
 obtain ⟨yss, hf, rfl⟩ := zcj (n := n + 2) (ts := [3, 3, 33, 3]) hu75 ht75 h
 match yss, hf with
 | [y0, y1, y2, y3], ⟨h0, h1, h2, h3, _⟩ =>
  obtain ⟨x0, r0, e0⟩ := gd_3 hu3 hu22 hu33 ht33 hu75 ht75 hu23 hu39 hu40 hu4 hu42 ht42 hu24 hu26 ht26 (n := n + 1) _ h0
  obtain ⟨x1, r1, e1⟩ := gd_3 hu3 hu22 hu33 ht33 hu75 ht75 hu23 hu39 hu40 hu4 hu42 ht42 hu24 hu26 ht26 (n := n + 1) _ h1
  obtain ⟨x2, r2, e2⟩ := gd_33 hu3 hu22 hu33 ht33 hu75 ht75 hu23 hu39 hu40 hu4 hu42 ht42 hu24 hu26 ht26 (n := n + 0) _ h2
  obtain ⟨x3, r3, e3⟩ := gd_3 hu3 hu22 hu33 ht33 hu75 ht75 hu23 hu39 hu40 hu4 hu42 ht42 hu24 hu26 ht26 (n := n + 1) _ h3
  exact ⟨⟨x0, x1, x2, x3⟩, trivial, by simp only [List.flatten_cons, List.flatten_nil, List.append_nil, zbe, e0, e1, e2, e3, eI, eU8, eB, eS, eSl, zck, zfc, List.cons_append, List.nil_append]⟩
theorem gd_23 {n : Nat} : Dec P (n + 4) 23 (eSl cGPriceBoard) (fun l => lenOk l = true ∧ ∀ x ∈ l, True) := zer hu23 (gd_75 hu3 hu22 hu33 ht33 hu75 ht75 hu23 hu39 hu40 hu4 hu42 ht42 hu24 hu26 ht26 (n := n))
theorem gd_39 {n : Nat} : Dec P (n + 1) 39 eI (fun _ => True) := zil hu39
theorem gd_40 {n : Nat} : Dec P (n + 1) 40 eI (fun _ => True) := zil hu40
theorem gd_4 {n : Nat} : Dec P (n + 1) 4 eB (fun _ => True) := zqc hu4
theorem gd_42 {n : Nat} : Dec P (n + 2) 42 cGPriceTariff (fun _ => True) := by
 intro xs h
 obtain ⟨yss, hf, rfl⟩ := zcj (n := n + 1) (ts := [39, 3, 3, 40, 4]) hu42 ht42 h
 match yss, hf with
 | [y0, y1, y2, y3, y4], ⟨h0, h1, h2, h3, h4, _⟩ =>
  obtain ⟨x0, r0, e0⟩ := gd_39 hu3 hu22 hu33 ht33 hu75 ht75 hu23 hu39 hu40 hu4 hu42 ht42 hu24 hu26 ht26 (n := n + 0) _ h0
  obtain ⟨x1, r1, e1⟩ := gd_3 hu3 hu22 hu33 ht33 hu75 ht75 hu23 hu39 hu40 hu4 hu42 ht42 hu24 hu26 ht26 (n := n + 0) _ h1
  obtain ⟨x2, r2, e2⟩ := gd_3 hu3 hu22 hu33 ht33 hu75 ht75 hu23 hu39 hu40 hu4 hu42 ht42 hu24 hu26 ht26 (n := n + 0) _ h2
  obtain ⟨x3, r3, e3⟩ := gd_40 hu3 hu22 hu33 ht33 hu75 ht75 hu23 hu39 hu40 hu4 hu42 ht42 hu24 hu26 ht26 (n := n + 0) _ h3
  obtain ⟨x4, r4, e4⟩ := gd_4 hu3 hu22 hu33 ht33 hu75 ht75 hu23 hu39 hu40 hu4 hu42 ht42 hu24 hu26 ht26 (n := n + 0) _ h4
  exact ⟨⟨x0, x1, x2, x3, x4⟩, trivial, by simp only [List.flatten_cons, List.flatten_nil, List.append_nil, zbe, e0, e1, e2, e3, e4, eI, eU8, eB, eS, eSl, zce, List.cons_append, List.nil_append]⟩
theorem gd_24 {n : Nat} : Dec P (n + 3) 24 (eSl cGPriceTariff) (fun l => lenOk l = true ∧ ∀ x ∈ l, True) := zer hu24 (gd_42 hu3 hu22 hu33 ht33 hu75 ht75 hu23 hu39 hu40 hu4 hu42 ht42 hu24 hu26 ht26 (n := n))
theorem gd_26 {n : Nat} : Dec P (n + 5) 26 cGPriceSheet (zbt) := by
 intro xs h
 obtain ⟨yss, hf, rfl⟩ := zcj (n := n + 4) (ts := [22, 23, 24]) hu26 ht26 h
 match yss, hf with
 | [y0, y1, y2], ⟨h0, h1, h2, _⟩ =>
  obtain ⟨x0, r0, e0⟩ := gd_22 hu3 hu22 hu33 ht33 hu75 ht75 hu23 hu39 hu40 hu4 hu42 ht42 hu24 hu26 ht26 (n := n + 2) _ h0
  obtain ⟨x1, r1, e1⟩ := gd_23 hu3 hu22 hu33 ht33 hu75 ht75 hu23 hu39 hu40 hu4 hu42 ht42 hu24 hu26 ht26 (n := n + 0) _ h1
  obtain ⟨x2, r2, e2⟩ := gd_24 hu3 hu22 hu33 ht33 hu75 ht75 hu23 hu39 hu40 hu4 hu42 ht42 hu24 hu26 ht26 (n := n + 1) _ h2
  exact ⟨⟨x0, x1, x2⟩, ⟨r0.1, r1.1, r2.1⟩, by simp only [List.flatten_cons, List.flatten_nil, List.append_nil, zbe, e0, e1, e2, eI, eU8, eB, eS, eSl, zdd, List.cons_append, List.nil_append]⟩
end
theorem dec_3 {n : Nat} : Dec Tryz.prog (n + 1) 3 eI (fun _ => True) := gd_3 Tryz.underlying3 Tryz.underlying22 Tryz.underlying33 (by kernel_rfl) Tryz.underlying75 (by kernel_rfl) Tryz.underlying23 Tryz.underlying39 Tryz.underlying40 Tryz.underlying4 Tryz.underlying42 (by kernel_rfl) Tryz.underlying24 Tryz.underlying26 (by kernel_rfl)
theorem zsw {n : Nat} : Dec Tryz.prog (n + 2) 22 (eSl eI) (fun l => lenOk l = true ∧ ∀ x ∈ l, True) := gd_22 Tryz.underlying3 Tryz.underlying22 Tryz.underlying33 (by kernel_rfl) Tryz.underlying75 (by kernel_rfl) Tryz.underlying23 Tryz.underlying39 Tryz.underlying40 Tryz.underlying4 Tryz.underlying42 (by kernel_rfl) Tryz.underlying24 Tryz.underlying26 (by kernel_rfl)
theorem zsi {n : Nat} : Dec Tryz.prog (n + 5) 26 cGPriceSheet (zbt) := gd_26 Tryz.underlying3 Tryz.underlying22 Tryz.underlying33 (by kernel_rfl) Tryz.underlying75 (by kernel_rfl) Tryz.underlying23 Tryz.underlying39 Tryz.underlying40 Tryz.underlying4 Tryz.underlying42 (by kernel_rfl) Tryz.underlying24 Tryz.underlying26 (by kernel_rfl)
end Go.V
end
section
namespace Go.V
open Go Go.Proofs
def zfb (x0_s : GPriceSheet) (x1_a1 : Int) (x2_a2 : Int) (x3_a3 : List Int) : Option (Bool) := Option.bind (zdp x0_s) (fun r1 => cond (r1) (Option.bind (zfn x3_a3) (fun r2 => cond (r2) (Option.bind (zej x0_s x1_a1 x2_a2 x3_a3) (fun r3 => Option.bind (zde x0_s x3_a3) (fun r4 => Option.bind (zfm x0_s) (fun r5 => cond (r5) (Option.bind (zfv x0_s x3_a3) (fun r6 => cond (r6) (Option.bind (zfk x0_s x3_a3) (fun r7 => cond (r4.2.2 != 0) (some false) (cond (r4.1 != r7.1) (some false) (cond (r4.2.1 != r7.2) (some false) (Option.bind (zco x0_s x1_a1) (fun r8 => cond (r8) (Option.bind (zco x0_s x2_a2) (fun r9 => cond (r9) (cond (x1_a1 == x2_a2) (cond (r3.2 == 2) (cond (r3.1 == 0) (some true) (some false)) (some false)) (Option.bind (zhm x0_s x1_a1 x2_a2 x3_a3) (fun r10 => cond (r10.2) (cond (r3.2 == 0) (cond (r3.1 == r10.1) (some true) (some false)) (some false)) (cond (r3.2 == 5) (cond (r3.1 == 0) (some true) (some false)) (some false))))) (cond (r3.2 == 2) (cond (r3.1 == 0) (some true) (some false)) (some false)))) (cond (r3.2 == 2) (cond (r3.1 == 0) (some true) (some false)) (some false)))))))) (cond (r3.2 == 2) (cond (r3.1 == 0) (cond (r4.2.2 == 2) (cond (r4.1 == 0) (cond (r4.2.1 == 0) (some true) (some false)) (some false)) (some false)) (some false)) (some false)))) (cond (r3.2 == 2) (cond (r3.1 == 0) (cond (r4.2.2 == 2) (cond (r4.1 == 0) (cond (r4.2.1 == 0) (some true) (some false)) (some false)) (some false)) (some false)) (some false)))))) (some true))) (some true))
theorem zjt (x0_s : GPriceSheet) (x1_a1 : Int) (x2_a2 : Int) (x3_a3 : List Int) (R : Bool) (h : zfb x0_s x1_a1 x2_a2 x3_a3 = some R) : VPure Tryz.prog G0 9 [.agg (cGPriceSheet x0_s), .lit (.int .i64 x1_a1), .lit (.int .i64 x2_a2), .sl (cellsL eI x3_a3) (List.length x3_a3) false] (.tree (.lit (.bool R))) := by
 refine VPure.runR mixed Tryz.call9 Tryz.func9 rfl (by simp [Tryz.ntmps9]; kernel_rfl) ?_
 obtain ⟨KF, h, kF, kN⟩ := zal h
 simp only [zfb] at h
 obtain ⟨r11, o12, h⟩ := optI h kN
 try simp only [hs] at h
 simp only [vz, tyf, nm, seval]
 refine ktA (zie _ _ o12) ?_
 refine zah (fun tm => tm 1 = .lit (.int .i64 x1_a1) ∧ tm 2 = .lit (.int .i64 x2_a2) ∧ tm 3 = .sl (cellsL eI x3_a3) (List.length x3_a3) false ∧ tm 4 = .ptr 0 0 ∧ tm 19 = .lit (.bool r11) ∧ True) (by refine ⟨?_, ?_, ?_, ?_, ?_, trivial⟩ <;> first | (simp only [ua, nm, seval] <;> rfl) | rfl) ?_
 rintro tm ⟨e13, e14, e15, e16, e17, _⟩
 cases d18 : (r11)
 ·simp only [d18, hs] at h
  simp only [vz, tyf, e13, e14, e15, e16, e17, d18, nm, seval]
  refine ktree0 zaf ?_
  try simp only [vz, tyf, e13, e14, e15, e16, e17, d18, nm, seval]
  obtain rfl := kF _ h
  exact zac Tryz.results9 rfl
 simp only [d18, hs] at h
 obtain ⟨r19, o20, h⟩ := optI h kN
 try simp only [hs] at h
 simp only [vz, tyf, e13, e14, e15, e16, e17, d18, nm, seval]
 refine ktA (ziv _ _ o20) ?_
 refine zah (fun tm => tm 1 = .lit (.int .i64 x1_a1) ∧ tm 2 = .lit (.int .i64 x2_a2) ∧ tm 3 = .sl (cellsL eI x3_a3) (List.length x3_a3) false ∧ tm 4 = .ptr 0 0 ∧ tm 21 = .lit (.bool false) ∧ tm 23 = .lit (.bool r19) ∧ True) (by refine ⟨e13, e14, e15, e16, ?_, ?_, trivial⟩ <;> first | (simp only [ua, e13, e14, e15, e16, e17, d18, nm, seval] <;> rfl) | rfl) ?_
 rintro tm ⟨e21, e22, e23, e24, e25, e26, _⟩
 cases d27 : (r19)
 ·simp only [d27, hs] at h
  simp only [vz, tyf, d18, e21, e22, e23, e24, e25, e26, d27, nm, seval]
  refine ktree0 zaf ?_
  try simp only [vz, tyf, d18, e21, e22, e23, e24, e25, e26, d27, nm, seval]
  obtain rfl := kF _ h
  exact zac Tryz.results9 rfl
 simp only [d27, hs] at h
 obtain ⟨r28, o29, h⟩ := optI h kN
 try simp only [hs] at h
 simp only [vz, tyf, d18, e21, e22, e23, e24, e25, e26, d27, nm, seval]
 refine ktA (zjs _ _ _ _ _ o29) ?_
 refine zah (fun tm => tm 1 = .lit (.int .i64 x1_a1) ∧ tm 2 = .lit (.int .i64 x2_a2) ∧ tm 3 = .sl (cellsL eI x3_a3) (List.length x3_a3) false ∧ tm 4 = .ptr 0 0 ∧ tm 32 = .tup [.lit (.int .i64 r28.1), .lit (.int .i64 r28.2)] ∧ True) (by refine ⟨e21, e22, e23, e24, ?_, trivial⟩ <;> first | (simp only [ua, d18, e21, e22, e23, e24, e25, e26, d27, nm, seval] <;> rfl) | rfl) ?_
 rintro tm ⟨e30, e31, e32, e33, e34, _⟩
 obtain ⟨r35, o36, h⟩ := optI h kN
 try simp only [hs] at h
 simp only [vz, tyf, d18, d27, e30, e31, e32, e33, e34, nm, seval]
 refine ktA (ziu _ _ _ o36) ?_
 refine zah (fun tm => tm 1 = .lit (.int .i64 x1_a1) ∧ tm 2 = .lit (.int .i64 x2_a2) ∧ tm 3 = .sl (cellsL eI x3_a3) (List.length x3_a3) false ∧ tm 4 = .ptr 0 0 ∧ tm 9 = .lit (.int .i64 r28.1) ∧ tm 10 = .lit (.int .i64 r28.2) ∧ tm 38 = .tup [.lit (.int .i64 r35.1), .lit (.int .i64 r35.2.1), .lit (.int .i64 r35.2.2)] ∧ True) (by refine ⟨e30, e31, e32, e33, ?_, ?_, ?_, trivial⟩ <;> first | (simp only [ua, d18, d27, e30, e31, e32, e33, e34, nm, seval] <;> rfl) | rfl) ?_
 rintro tm ⟨e37, e38, e39, e40, e41, e42, e43, _⟩
 obtain ⟨r44, o45, h⟩ := optI h kN
 try simp only [hs] at h
 simp only [vz, tyf, d18, d27, e37, e38, e39, e40, e41, e42, e43, nm, seval]
 refine ktA (zio _ _ o45) ?_
 refine zah (fun tm => tm 1 = .lit (.int .i64 x1_a1) ∧ tm 2 = .lit (.int .i64 x2_a2) ∧ tm 3 = .sl (cellsL eI x3_a3) (List.length x3_a3) false ∧ tm 4 = .ptr 0 0 ∧ tm 9 = .lit (.int .i64 r28.1) ∧ tm 10 = .lit (.int .i64 r28.2) ∧ tm 11 = .lit (.int .i64 r35.1) ∧ tm 12 = .lit (.int .i64 r35.2.1) ∧ tm 13 = .lit (.int .i64 r35.2.2) ∧ tm 43 = .lit (.bool r44) ∧ True) (by refine ⟨e37, e38, e39, e40, e41, e42, ?_, ?_, ?_, ?_, trivial⟩ <;> first | (simp only [ua, d18, d27, e37, e38, e39, e40, e41, e42, e43, nm, seval] <;> rfl) | rfl) ?_
 rintro tm ⟨e46, e47, e48, e49, e50, e51, e52, e53, e54, e55, _⟩
 cases d56 : (r44)
 ·simp only [d56, hs] at h
  cases d57 : (r28.2 == 2)
  ·simp only [d57, hs] at h
   try simp only [vz, tyf, d18, d27, e46, e47, e48, e49, e50, e51, e52, e53, e54, e55, d56, d57, nm, seval]
   obtain rfl := kF _ h
   exact zac Tryz.results9 rfl
  simp only [d57, hs] at h
  cases d58 : (r28.1 == 0)
  ·simp only [d58, hs] at h
   try simp only [vz, tyf, d18, d27, e46, e47, e48, e49, e50, e51, e52, e53, e54, e55, d56, d57, d58, nm, seval]
   obtain rfl := kF _ h
   exact zac Tryz.results9 rfl
  simp only [d58, hs] at h
  cases d59 : (r35.2.2 == 2)
  ·simp only [d59, hs] at h
   try simp only [vz, tyf, d18, d27, e46, e47, e48, e49, e50, e51, e52, e53, e54, e55, d56, d57, d58, d59, nm, seval]
   obtain rfl := kF _ h
   exact zac Tryz.results9 rfl
  simp only [d59, hs] at h
  cases d60 : (r35.1 == 0)
  ·simp only [d60, hs] at h
   have b61 := And.intro d18 (And.intro d27 (And.intro d56 (And.intro d57 (And.intro d58 (And.intro d59 d60)))))
   try simp only [vz, tyf, b61, e46, e47, e48, e49, e50, e51, e52, e53, e54, e55, nm, seval]
   obtain rfl := kF _ h
   exact zac Tryz.results9 rfl
  simp only [d60, hs] at h
  have b62 := And.intro d18 (And.intro d27 (And.intro d56 (And.intro d57 (And.intro d58 (And.intro d59 d60)))))
  cases d63 : (r35.2.1 == 0)
  ·simp only [d63, hs] at h
   try simp only [vz, tyf, b62, e46, e47, e48, e49, e50, e51, e52, e53, e54, e55, d63, nm, seval]
   obtain rfl := kF _ h
   exact zac Tryz.results9 rfl
  simp only [d63, hs] at h
  simp only [vz, tyf, b62, e46, e47, e48, e49, e50, e51, e52, e53, e54, e55, d63, nm, seval]
  refine ktree0 zaf ?_
  try simp only [vz, tyf, b62, e46, e47, e48, e49, e50, e51, e52, e53, e54, e55, d63, nm, seval]
  obtain rfl := kF _ h
  exact zac Tryz.results9 rfl
 simp only [d56, hs] at h
 obtain ⟨r64, o65, h⟩ := optI h kN
 try simp only [hs] at h
 simp only [vz, tyf, d18, d27, e46, e47, e48, e49, e50, e51, e52, e53, e54, e55, d56, nm, seval]
 refine ktA (zih _ _ _ o65) ?_
 refine zah (fun tm => tm 1 = .lit (.int .i64 x1_a1) ∧ tm 2 = .lit (.int .i64 x2_a2) ∧ tm 3 = .sl (cellsL eI x3_a3) (List.length x3_a3) false ∧ tm 4 = .ptr 0 0 ∧ tm 9 = .lit (.int .i64 r28.1) ∧ tm 10 = .lit (.int .i64 r28.2) ∧ tm 11 = .lit (.int .i64 r35.1) ∧ tm 12 = .lit (.int .i64 r35.2.1) ∧ tm 13 = .lit (.int .i64 r35.2.2) ∧ tm 45 = .lit (.bool false) ∧ tm 48 = .lit (.bool r64) ∧ True) (by refine ⟨e46, e47, e48, e49, e50, e51, e52, e53, e54, ?_, ?_, trivial⟩ <;> first | (simp only [ua, d18, d27, e46, e47, e48, e49, e50, e51, e52, e53, e54, e55, d56, nm, seval] <;> rfl) | rfl) ?_
 rintro tm ⟨e66, e67, e68, e69, e70, e71, e72, e73, e74, e75, e76, _⟩
 cases d77 : (r64)
 ·simp only [d77, hs] at h
  cases d78 : (r28.2 == 2)
  ·simp only [d78, hs] at h
   try simp only [vz, tyf, d18, d27, d56, e66, e67, e68, e69, e70, e71, e72, e73, e74, e75, e76, d77, d78, nm, seval]
   obtain rfl := kF _ h
   exact zac Tryz.results9 rfl
  simp only [d78, hs] at h
  cases d79 : (r28.1 == 0)
  ·simp only [d79, hs] at h
   try simp only [vz, tyf, d18, d27, d56, e66, e67, e68, e69, e70, e71, e72, e73, e74, e75, e76, d77, d78, d79, nm, seval]
   obtain rfl := kF _ h
   exact zac Tryz.results9 rfl
  simp only [d79, hs] at h
  cases d80 : (r35.2.2 == 2)
  ·simp only [d80, hs] at h
   have b81 := And.intro d18 (And.intro d27 (And.intro d56 (And.intro d77 (And.intro d78 (And.intro d79 d80)))))
   try simp only [vz, tyf, b81, e66, e67, e68, e69, e70, e71, e72, e73, e74, e75, e76, nm, seval]
   obtain rfl := kF _ h
   exact zac Tryz.results9 rfl
  simp only [d80, hs] at h
  have b82 := And.intro d18 (And.intro d27 (And.intro d56 (And.intro d77 (And.intro d78 (And.intro d79 d80)))))
  cases d83 : (r35.1 == 0)
  ·simp only [d83, hs] at h
   try simp only [vz, tyf, b82, e66, e67, e68, e69, e70, e71, e72, e73, e74, e75, e76, d83, nm, seval]
   obtain rfl := kF _ h
   exact zac Tryz.results9 rfl
  simp only [d83, hs] at h
  cases d84 : (r35.2.1 == 0)
  ·simp only [d84, hs] at h
   try simp only [vz, tyf, b82, e66, e67, e68, e69, e70, e71, e72, e73, e74, e75, e76, d83, d84, nm, seval]
   obtain rfl := kF _ h
   exact zac Tryz.results9 rfl
  simp only [d84, hs] at h
  simp only [vz, tyf, b82, e66, e67, e68, e69, e70, e71, e72, e73, e74, e75, e76, d83, d84, nm, seval]
  refine ktree0 zaf ?_
  try simp only [vz, tyf, b82, e66, e67, e68, e69, e70, e71, e72, e73, e74, e75, e76, d83, d84, nm, seval]
  obtain rfl := kF _ h
  exact zac Tryz.results9 rfl
 simp only [d77, hs] at h
 obtain ⟨r85, o86, h⟩ := optI h kN
 try simp only [hs] at h
 simp only [vz, tyf, d18, d27, d56, e66, e67, e68, e69, e70, e71, e72, e73, e74, e75, e76, d77, nm, seval]
 refine ktA (zli _ _ _ o86) ?_
 refine zah (fun tm => tm 1 = .lit (.int .i64 x1_a1) ∧ tm 2 = .lit (.int .i64 x2_a2) ∧ tm 3 = .sl (cellsL eI x3_a3) (List.length x3_a3) false ∧ tm 4 = .ptr 0 0 ∧ tm 9 = .lit (.int .i64 r28.1) ∧ tm 10 = .lit (.int .i64 r28.2) ∧ tm 11 = .lit (.int .i64 r35.1) ∧ tm 12 = .lit (.int .i64 r35.2.1) ∧ tm 13 = .lit (.int .i64 r35.2.2) ∧ tm 75 = .tup [.lit (.int .i64 r85.1), .lit (.int .i64 r85.2)] ∧ True) (by refine ⟨e66, e67, e68, e69, e70, e71, e72, e73, e74, ?_, trivial⟩ <;> first | (simp only [ua, d18, d27, d56, e66, e67, e68, e69, e70, e71, e72, e73, e74, e75, e76, d77, nm, seval] <;> rfl) | rfl) ?_
 rintro tm ⟨e87, e88, e89, e90, e91, e92, e93, e94, e95, e96, _⟩
 cases d97 : (r35.2.2 != 0)
 ·simp only [d97, hs] at h
  cases d98 : (r35.1 != r85.1)
  ·simp only [d98, hs] at h
   cases d99 : (r35.2.1 != r85.2)
   ·simp only [d99, hs] at h
    have b100 := And.intro d18 (And.intro d27 (And.intro d56 (And.intro d77 (And.intro d97 (And.intro d98 d99)))))
    obtain ⟨r101, o102, h⟩ := optI h kN
    try simp only [hs] at h
    simp only [vz, tyf, b100, e87, e88, e89, e90, e91, e92, e93, e94, e95, e96, nm, seval]
    refine ktA (zdj _ _ _ o102) ?_
    refine zah (fun tm => tm 1 = .lit (.int .i64 x1_a1) ∧ tm 2 = .lit (.int .i64 x2_a2) ∧ tm 3 = .sl (cellsL eI x3_a3) (List.length x3_a3) false ∧ tm 4 = .ptr 0 0 ∧ tm 9 = .lit (.int .i64 r28.1) ∧ tm 10 = .lit (.int .i64 r28.2) ∧ tm 92 = .lit (.bool r101) ∧ True) (by refine ⟨e87, e88, e89, e90, e91, e92, ?_, trivial⟩ <;> first | (simp only [ua, b100, e87, e88, e89, e90, e91, e92, e93, e94, e95, e96, nm, seval] <;> rfl) | rfl) ?_
    rintro tm ⟨e103, e104, e105, e106, e107, e108, e109, _⟩
    cases d110 : (r101)
    ·simp only [d110, hs] at h
     cases d111 : (r28.2 == 2)
     ·simp only [d111, hs] at h
      try simp only [vz, tyf, b100, e103, e104, e105, e106, e107, e108, e109, d110, d111, nm, seval]
      obtain rfl := kF _ h
      exact zac Tryz.results9 rfl
     simp only [d111, hs] at h
     cases d112 : (r28.1 == 0)
     ·simp only [d112, hs] at h
      try simp only [vz, tyf, b100, e103, e104, e105, e106, e107, e108, e109, d110, d111, d112, nm, seval]
      obtain rfl := kF _ h
      exact zac Tryz.results9 rfl
     simp only [d112, hs] at h
     simp only [vz, tyf, b100, e103, e104, e105, e106, e107, e108, e109, d110, d111, d112, nm, seval]
     refine ktree0 zaf ?_
     try simp only [vz, tyf, b100, e103, e104, e105, e106, e107, e108, e109, d110, d111, d112, nm, seval]
     obtain rfl := kF _ h
     exact zac Tryz.results9 rfl
    simp only [d110, hs] at h
    obtain ⟨r113, o114, h⟩ := optI h kN
    try simp only [hs] at h
    simp only [vz, tyf, b100, e103, e104, e105, e106, e107, e108, e109, d110, nm, seval]
    refine ktA (zdj _ _ _ o114) ?_
    refine zah (fun tm => tm 1 = .lit (.int .i64 x1_a1) ∧ tm 2 = .lit (.int .i64 x2_a2) ∧ tm 3 = .sl (cellsL eI x3_a3) (List.length x3_a3) false ∧ tm 4 = .ptr 0 0 ∧ tm 9 = .lit (.int .i64 r28.1) ∧ tm 10 = .lit (.int .i64 r28.2) ∧ tm 94 = .lit (.bool false) ∧ tm 97 = .lit (.bool r113) ∧ True) (by refine ⟨e103, e104, e105, e106, e107, e108, ?_, ?_, trivial⟩ <;> first | (simp only [ua, b100, e103, e104, e105, e106, e107, e108, e109, d110, nm, seval] <;> rfl) | rfl) ?_
    rintro tm ⟨e115, e116, e117, e118, e119, e120, e121, e122, _⟩
    cases d123 : (r113)
    ·simp only [d123, hs] at h
     cases d124 : (r28.2 == 2)
     ·simp only [d124, hs] at h
      try simp only [vz, tyf, b100, d110, e115, e116, e117, e118, e119, e120, e121, e122, d123, d124, nm, seval]
      obtain rfl := kF _ h
      exact zac Tryz.results9 rfl
     simp only [d124, hs] at h
     cases d125 : (r28.1 == 0)
     ·simp only [d125, hs] at h
      try simp only [vz, tyf, b100, d110, e115, e116, e117, e118, e119, e120, e121, e122, d123, d124, d125, nm, seval]
      obtain rfl := kF _ h
      exact zac Tryz.results9 rfl
     simp only [d125, hs] at h
     simp only [vz, tyf, b100, d110, e115, e116, e117, e118, e119, e120, e121, e122, d123, d124, d125, nm, seval]
     refine ktree0 zaf ?_
     try simp only [vz, tyf, b100, d110, e115, e116, e117, e118, e119, e120, e121, e122, d123, d124, d125, nm, seval]
     obtain rfl := kF _ h
     exact zac Tryz.results9 rfl
    simp only [d123, hs] at h
    cases d126 : (x1_a1 == x2_a2)
    ·simp only [d126, hs] at h
     obtain ⟨r127, o128, h⟩ := optI h kN
     try simp only [hs] at h
     simp only [vz, tyf, b100, d110, e115, e116, e117, e118, e119, e120, e121, e122, d123, d126, nm, seval]
     refine ktA (zpd _ _ _ _ _ o128) ?_
     refine zah (fun tm => tm 9 = .lit (.int .i64 r28.1) ∧ tm 10 = .lit (.int .i64 r28.2) ∧ tm 119 = .tup [.lit (.int .i64 r127.1), .lit (.bool r127.2)] ∧ True) (by refine ⟨e119, e120, ?_, trivial⟩ <;> first | (simp only [ua, b100, d110, e115, e116, e117, e118, e119, e120, e121, e122, d123, d126, nm, seval] <;> rfl) | rfl) ?_
     rintro tm ⟨e129, e130, e131, _⟩
     cases d132 : (r127.2)
     ·simp only [d132, hs] at h
      cases d133 : (r28.2 == 5)
      ·simp only [d133, hs] at h
       try simp only [vz, tyf, b100, d110, d123, d126, e129, e130, e131, d132, d133, nm, seval]
       obtain rfl := kF _ h
       exact zac Tryz.results9 rfl
      simp only [d133, hs] at h
      cases d134 : (r28.1 == 0)
      ·simp only [d134, hs] at h
       have b135 := And.intro b100 (And.intro d110 (And.intro d123 (And.intro d126 (And.intro d132 (And.intro d133 d134)))))
       try simp only [vz, tyf, b135, e129, e130, e131, nm, seval]
       obtain rfl := kF _ h
       exact zac Tryz.results9 rfl
      simp only [d134, hs] at h
      have b136 := And.intro b100 (And.intro d110 (And.intro d123 (And.intro d126 (And.intro d132 (And.intro d133 d134)))))
      simp only [vz, tyf, b136, e129, e130, e131, nm, seval]
      refine ktree0 zaf ?_
      try simp only [vz, tyf, b136, e129, e130, e131, nm, seval]
      obtain rfl := kF _ h
      exact zac Tryz.results9 rfl
     simp only [d132, hs] at h
     cases d137 : (r28.2 == 0)
     ·simp only [d137, hs] at h
      try simp only [vz, tyf, b100, d110, d123, d126, e129, e130, e131, d132, d137, nm, seval]
      obtain rfl := kF _ h
      exact zac Tryz.results9 rfl
     simp only [d137, hs] at h
     cases d138 : (r28.1 == r127.1)
     ·simp only [d138, hs] at h
      have b139 := And.intro b100 (And.intro d110 (And.intro d123 (And.intro d126 (And.intro d132 (And.intro d137 d138)))))
      try simp only [vz, tyf, b139, e129, e130, e131, nm, seval]
      obtain rfl := kF _ h
      exact zac Tryz.results9 rfl
     simp only [d138, hs] at h
     have b140 := And.intro b100 (And.intro d110 (And.intro d123 (And.intro d126 (And.intro d132 (And.intro d137 d138)))))
     simp only [vz, tyf, b140, e129, e130, e131, nm, seval]
     refine ktree0 zaf ?_
     try simp only [vz, tyf, b140, e129, e130, e131, nm, seval]
     obtain rfl := kF _ h
     exact zac Tryz.results9 rfl
    simp only [d126, hs] at h
    cases d141 : (r28.2 == 2)
    ·simp only [d141, hs] at h
     try simp only [vz, tyf, b100, d110, e115, e116, e117, e118, e119, e120, e121, e122, d123, d126, d141, nm, seval]
     obtain rfl := kF _ h
     exact zac Tryz.results9 rfl
    simp only [d141, hs] at h
    cases d142 : (r28.1 == 0)
    ·simp only [d142, hs] at h
     try simp only [vz, tyf, b100, d110, e115, e116, e117, e118, e119, e120, e121, e122, d123, d126, d141, d142, nm, seval]
     obtain rfl := kF _ h
     exact zac Tryz.results9 rfl
    simp only [d142, hs] at h
    simp only [vz, tyf, b100, d110, e115, e116, e117, e118, e119, e120, e121, e122, d123, d126, d141, d142, nm, seval]
    refine ktree0 zaf ?_
    try simp only [vz, tyf, b100, d110, e115, e116, e117, e118, e119, e120, e121, e122, d123, d126, d141, d142, nm, seval]
    obtain rfl := kF _ h
    exact zac Tryz.results9 rfl
   simp only [d99, hs] at h
   have b143 := And.intro d18 (And.intro d27 (And.intro d56 (And.intro d77 (And.intro d97 (And.intro d98 d99)))))
   try simp only [vz, tyf, b143, e87, e88, e89, e90, e91, e92, e93, e94, e95, e96, nm, seval]
   obtain rfl := kF _ h
   exact zac Tryz.results9 rfl
  simp only [d98, hs] at h
  try simp only [vz, tyf, d18, d27, d56, d77, e87, e88, e89, e90, e91, e92, e93, e94, e95, e96, d97, d98, nm, seval]
  obtain rfl := kF _ h
  exact zac Tryz.results9 rfl
 simp only [d97, hs] at h
 try simp only [vz, tyf, d18, d27, d56, d77, e87, e88, e89, e90, e91, e92, e93, e94, e95, e96, d97, nm, seval]
 obtain rfl := kF _ h
 exact zac Tryz.results9 rfl
end Go.V
end
section
namespace Go.V
open Go
theorem zpt (s : GPriceSheet) (n m : Int) (hs : List Int) (ok : lenOk s.Offs = true ∧ lenOk s.Boards = true ∧ lenOk s.Tariffs = true) (hl : lenOk hs = true) : zfb s n m hs = some true := by
 have ok : OkS s := ⟨ok.1, ok.2.1, ok.2.2⟩
 unfold zfb
 rcases zxd s with h | h
 case inr => rw [h]; rfl
 rcases zaea hs with h2 | h2
 case inr => rw [h, h2]; rfl
 rw [h, h2]
 simp only [Option.bind_some, cond_true, zya ok, zsm ok, zlz ok]
 cases hsh : sheetB s with
 | false => rw [zpg ok (by rw [hsh]; rfl), zacg ok (by rw [hsh]; rfl)]; rfl
 | true =>
  cases hh : hrsB s.Boards hs with
  | false => rw [zpg ok (by rw [hsh, hh]; simp), zacg ok (by rw [hsh, hh]; rfl)]; rfl
  | true =>
   have hf := zja hsh hh
   rw [zaeb ok hsh hh, zahp ok hsh hh]
   cases ht : tarB s n with
   | false => rw [zpg ok (by rw [hsh, ht]; rfl)]; simp
   | true =>
    cases hu : tarB s m with
    | false => rw [zpg ok (by rw [hsh, ht, hu]; rfl)]; simp
    | true =>
     cases hne : (n != m) with
     | false =>
      have he : (n == m) = true := by simpa using hne
      rw [zpg ok (by rw [hsh, ht, hu, hne]; rfl)]; simp [he]
     | true =>
      have he : (n == m) = false := by simpa using hne
      obtain ⟨t, et, _, ot⟩ := zld hsh ht
      obtain ⟨u, eu, _, ou⟩ := zld hsh hu
      rw [zaej ⟨ok, hsh, ht, hh⟩ hu hne et eu ot ou, zaia hf et eu ot ou]
      cases firstD (partsP t s.Boards hs) (partsP u s.Boards hs) 0 <;> simp [he]
end Go.V
end
