/- Part of a proof. -/
import Derived.Test.YtekhjalgmlflpaaGreatDoorRbj
set_option linter.all false
set_option maxRecDepth 4000
set_option maxHeartbeats 40000000
section
set_option maxRecDepth 100000
namespace Go.V
open Go Go.Proofs
def zhf (x : Gs) : Prop := lenOk x.Tins = true
def znj (x : Gu) : Prop := lenOk x.Tins = true
section
variable {P : Program} (hu3 : P.underlying 3 = some (.int .i64)) (hu22 : P.underlying 22 = some (.array 3 3)) {f24 : Array Field} (hu24 : P.underlying 24 = some (.struct f24)) (ht24 : f24.toList.map Field.type = [3, 3]) (hu25 : P.underlying 25 = some (.array 3 24)) {f94 : Array Field} (hu94 : P.underlying 94 = some (.struct f94)) (ht94 : f94.toList.map Field.type = [25]) (hu26 : P.underlying 26 = some (.slice 94)) {f28 : Array Field} (hu28 : P.underlying 28 = some (.struct f28)) (ht28 : f28.toList.map Field.type = [22, 25, 24, 3, 26]) (hu29 : P.underlying 29 = some (.slice 3)) (hu40 : P.underlying 40 = some (.slice 22)) {f42 : Array Field} (hu42 : P.underlying 42 = some (.struct f42)) (ht42 : f42.toList.map Field.type = [40, 3, 22])
include hu3 hu22 hu24 ht24 hu25 hu94 ht94 hu26 hu28 ht28 hu29 hu40 hu42 ht42
theorem gd_3 {n : Nat} : Dec P (n + 1) 3 eI (fun _ => True) := zakq hu3
theorem gd_22 {n : Nat} : Dec P (n + 2) 22 cGi (fun _ => True) := by
 intro xs h
 obtain ⟨yss, hf, rfl⟩ := znv (n := n + 1) (ts := [3, 3, 3]) hu22 rfl h
 match yss, hf with
 | [y0, y1, y2], ⟨h0, h1, h2, _⟩ =>
  obtain ⟨x0, r0, e0⟩ := gd_3 hu3 hu22 hu24 ht24 hu25 hu94 ht94 hu26 hu28 ht28 hu29 hu40 hu42 ht42 (n := n + 0) _ h0
  obtain ⟨x1, r1, e1⟩ := gd_3 hu3 hu22 hu24 ht24 hu25 hu94 ht94 hu26 hu28 ht28 hu29 hu40 hu42 ht42 (n := n + 0) _ h1
  obtain ⟨x2, r2, e2⟩ := gd_3 hu3 hu22 hu24 ht24 hu25 hu94 ht94 hu26 hu28 ht28 hu29 hu40 hu42 ht42 (n := n + 0) _ h2
  exact ⟨⟨x0, x1, x2⟩, trivial, by simp only [List.flatten_cons, List.flatten_nil, List.append_nil, zcy, e0, e1, e2, eI, eU8, eB, eS, eSl, zfy, List.cons_append, List.nil_append]⟩
theorem gd_24 {n : Nat} : Dec P (n + 2) 24 cGSpan (fun _ => True) := by
 intro xs h
 obtain ⟨yss, hf, rfl⟩ := zhz (n := n + 1) (ts := [3, 3]) hu24 ht24 h
 match yss, hf with
 | [y0, y1], ⟨h0, h1, _⟩ =>
  obtain ⟨x0, r0, e0⟩ := gd_3 hu3 hu22 hu24 ht24 hu25 hu94 ht94 hu26 hu28 ht28 hu29 hu40 hu42 ht42 (n := n + 0) _ h0
  obtain ⟨x1, r1, e1⟩ := gd_3 hu3 hu22 hu24 ht24 hu25 hu94 ht94 hu26 hu28 ht28 hu29 hu40 hu42 ht42 (n := n + 0) _ h1
  exact ⟨⟨x0, x1⟩, trivial, by simp only [List.flatten_cons, List.flatten_nil, List.append_nil, zcy, e0, e1, eI, eU8, eB, eS, eSl, zgc, List.cons_append, List.nil_append]⟩
theorem gd_25 {n : Nat} : Dec P (n + 3) 25 cGa (fun _ => True) := by
 intro xs h
 obtain ⟨yss, hf, rfl⟩ := znv (n := n + 2) (ts := [24, 24, 24]) hu25 rfl h
 match yss, hf with
 | [y0, y1, y2], ⟨h0, h1, h2, _⟩ =>
  obtain ⟨x0, r0, e0⟩ := gd_24 hu3 hu22 hu24 ht24 hu25 hu94 ht94 hu26 hu28 ht28 hu29 hu40 hu42 ht42 (n := n + 0) _ h0
  obtain ⟨x1, r1, e1⟩ := gd_24 hu3 hu22 hu24 ht24 hu25 hu94 ht94 hu26 hu28 ht28 hu29 hu40 hu42 ht42 (n := n + 0) _ h1
  obtain ⟨x2, r2, e2⟩ := gd_24 hu3 hu22 hu24 ht24 hu25 hu94 ht94 hu26 hu28 ht28 hu29 hu40 hu42 ht42 (n := n + 0) _ h2
  exact ⟨⟨x0, x1, x2⟩, trivial, by simp only [List.flatten_cons, List.flatten_nil, List.append_nil, zcy, e0, e1, e2, eI, eU8, eB, eS, eSl, zeh, zgc, List.cons_append, List.nil_append]⟩
theorem gd_94 {n : Nat} : Dec P (n + 4) 94 cGt (fun _ => True) := by
 intro xs h
 obtain ⟨yss, hf, rfl⟩ := zhz (n := n + 3) (ts := [25]) hu94 ht94 h
 match yss, hf with
 | [y0], ⟨h0, _⟩ =>
  obtain ⟨x0, r0, e0⟩ := gd_25 hu3 hu22 hu24 ht24 hu25 hu94 ht94 hu26 hu28 ht28 hu29 hu40 hu42 ht42 (n := n + 0) _ h0
  exact ⟨⟨x0⟩, trivial, by simp only [List.flatten_cons, List.flatten_nil, List.append_nil, zcy, e0, eI, eU8, eB, eS, eSl, zeh, zgc, zgi, List.cons_append, List.nil_append]⟩
theorem gd_26 {n : Nat} : Dec P (n + 5) 26 (eSl cGt) (fun l => lenOk l = true ∧ ∀ x ∈ l, True) := zmk hu26 (gd_94 hu3 hu22 hu24 ht24 hu25 hu94 ht94 hu26 hu28 ht28 hu29 hu40 hu42 ht42 (n := n))
theorem gd_28 {n : Nat} : Dec P (n + 6) 28 cGs (zhf) := by
 intro xs h
 obtain ⟨yss, hf, rfl⟩ := zhz (n := n + 5) (ts := [22, 25, 24, 3, 26]) hu28 ht28 h
 match yss, hf with
 | [y0, y1, y2, y3, y4], ⟨h0, h1, h2, h3, h4, _⟩ =>
  obtain ⟨x0, r0, e0⟩ := gd_22 hu3 hu22 hu24 ht24 hu25 hu94 ht94 hu26 hu28 ht28 hu29 hu40 hu42 ht42 (n := n + 3) _ h0
  obtain ⟨x1, r1, e1⟩ := gd_25 hu3 hu22 hu24 ht24 hu25 hu94 ht94 hu26 hu28 ht28 hu29 hu40 hu42 ht42 (n := n + 2) _ h1
  obtain ⟨x2, r2, e2⟩ := gd_24 hu3 hu22 hu24 ht24 hu25 hu94 ht94 hu26 hu28 ht28 hu29 hu40 hu42 ht42 (n := n + 3) _ h2
  obtain ⟨x3, r3, e3⟩ := gd_3 hu3 hu22 hu24 ht24 hu25 hu94 ht94 hu26 hu28 ht28 hu29 hu40 hu42 ht42 (n := n + 4) _ h3
  obtain ⟨x4, r4, e4⟩ := gd_26 hu3 hu22 hu24 ht24 hu25 hu94 ht94 hu26 hu28 ht28 hu29 hu40 hu42 ht42 (n := n + 0) _ h4
  exact ⟨⟨x0, x1, x2, x3, x4⟩, r4.1, by simp only [List.flatten_cons, List.flatten_nil, List.append_nil, zcy, e0, e1, e2, e3, e4, eI, eU8, eB, eS, eSl, zeh, zfy, zgc, zfn, List.cons_append, List.nil_append]⟩
theorem gd_29 {n : Nat} : Dec P (n + 2) 29 (eSl eI) (fun l => lenOk l = true ∧ ∀ x ∈ l, True) := zmk hu29 (gd_3 hu3 hu22 hu24 ht24 hu25 hu94 ht94 hu26 hu28 ht28 hu29 hu40 hu42 ht42 (n := n))
theorem gd_40 {n : Nat} : Dec P (n + 3) 40 (eSl cGi) (fun l => lenOk l = true ∧ ∀ x ∈ l, True) := zmk hu40 (gd_22 hu3 hu22 hu24 ht24 hu25 hu94 ht94 hu26 hu28 ht28 hu29 hu40 hu42 ht42 (n := n))
theorem gd_42 {n : Nat} : Dec P (n + 4) 42 cGu (znj) := by
 intro xs h
 obtain ⟨yss, hf, rfl⟩ := zhz (n := n + 3) (ts := [40, 3, 22]) hu42 ht42 h
 match yss, hf with
 | [y0, y1, y2], ⟨h0, h1, h2, _⟩ =>
  obtain ⟨x0, r0, e0⟩ := gd_40 hu3 hu22 hu24 ht24 hu25 hu94 ht94 hu26 hu28 ht28 hu29 hu40 hu42 ht42 (n := n + 0) _ h0
  obtain ⟨x1, r1, e1⟩ := gd_3 hu3 hu22 hu24 ht24 hu25 hu94 ht94 hu26 hu28 ht28 hu29 hu40 hu42 ht42 (n := n + 2) _ h1
  obtain ⟨x2, r2, e2⟩ := gd_22 hu3 hu22 hu24 ht24 hu25 hu94 ht94 hu26 hu28 ht28 hu29 hu40 hu42 ht42 (n := n + 1) _ h2
  exact ⟨⟨x0, x1, x2⟩, r0.1, by simp only [List.flatten_cons, List.flatten_nil, List.append_nil, zcy, e0, e1, e2, eI, eU8, eB, eS, eSl, zfy, zgq, List.cons_append, List.nil_append]⟩
end
theorem zanp {n : Nat} : Dec Tryz.prog (n + 6) 28 cGs (zhf) := gd_28 Tryz.underlying3 Tryz.underlying22 Tryz.underlying24 (by kernel_rfl) Tryz.underlying25 Tryz.underlying94 (by kernel_rfl) Tryz.underlying26 Tryz.underlying28 (by kernel_rfl) Tryz.underlying29 Tryz.underlying40 Tryz.underlying42 (by kernel_rfl)
theorem zajf {n : Nat} : Dec Tryz.prog (n + 2) 29 (eSl eI) (fun l => lenOk l = true ∧ ∀ x ∈ l, True) := gd_29 Tryz.underlying3 Tryz.underlying22 Tryz.underlying24 (by kernel_rfl) Tryz.underlying25 Tryz.underlying94 (by kernel_rfl) Tryz.underlying26 Tryz.underlying28 (by kernel_rfl) Tryz.underlying29 Tryz.underlying40 Tryz.underlying42 (by kernel_rfl)
theorem zauv {n : Nat} : Dec Tryz.prog (n + 4) 42 cGu (znj) := gd_42 Tryz.underlying3 Tryz.underlying22 Tryz.underlying24 (by kernel_rfl) Tryz.underlying25 Tryz.underlying94 (by kernel_rfl) Tryz.underlying26 Tryz.underlying28 (by kernel_rfl) Tryz.underlying29 Tryz.underlying40 Tryz.underlying42 (by kernel_rfl)
end Go.V
end
section
namespace Go.V
open Go Go.Proofs
def zgh (x0_s : Gs) (x1_mix : List Int) : Option (Int × Bool) := Option.bind (zhp x0_s x1_mix) (fun r1 => cond (r1.2 == 0) (cond (decide (r1.1 ≥ 1)) (some (r1.1, decide (r1.1 ≤ 3))) (some (r1.1, false))) (some (r1.1, false)))
theorem zey (x0_s : Gs) (x1_mix : List Int) (R : Int × Bool) (h : zgh x0_s x1_mix = some R) : VPure Tryz.prog G0 36 [.agg (cGs x0_s), .sl (cellsL eI x1_mix) (List.length x1_mix) false] (.tree (.tup [.lit (.int .i64 R.1), .lit (.bool R.2)])) := by
 refine VPure.runR mixed Tryz.call36 Tryz.func36 rfl (by simp [Tryz.ntmps36]; kernel_rfl) ?_
 obtain ⟨KF, h, kF, kN⟩ := zaq h
 simp only [zgh] at h
 obtain ⟨r2, o3, h⟩ := optI h kN
 try simp only [hs] at h
 simp only [vz, tyf, nm, seval]
 refine ktA (zmf _ _ _ o3) ?_
 refine zae (fun tm => tm 11 = .tup [.lit (.int .i64 r2.1), .lit (.int .i64 r2.2)] ∧ True) (by refine ⟨?_, trivial⟩ <;> first | (simp only [ua, nm, seval] <;> rfl) | rfl) ?_
 rintro tm ⟨e4, _⟩
 cases d5 : (r2.2 == 0)
 ·simp only [d5, hs] at h
  try simp only [vz, tyf, e4, d5, nm, seval]
  refine zay (x := (.tup [.lit (.int .i64 r2.1), .lit (.bool false)])) (by first | (simp only [Tryz.results36, resV, resL, resV1, zba, zcc, uw, cr, tyf, d5, nm, seval] <;> rfl) | rfl) ?_
  obtain rfl := kF _ h
  refine zbb ?_ ?_
  ·simp only [tre, tytre, Bool.and_self]
  ·first | (simp only [outV, uw, zaf, cr, tyf, nrm, tynrm, e4, d5, nm, seval] <;> rfl) | rfl
 simp only [d5, hs] at h
 cases d6 : (decide (r2.1 ≥ 1))
 ·simp only [d6, hs] at h
  try simp only [vz, tyf, e4, d5, d6, nm, seval]
  refine zay (x := (.tup [.lit (.int .i64 r2.1), .lit (.bool false)])) (by first | (simp only [Tryz.results36, resV, resL, resV1, zba, zcc, uw, cr, tyf, d5, d6, nm, seval] <;> rfl) | rfl) ?_
  obtain rfl := kF _ h
  refine zbb ?_ ?_
  ·simp only [tre, tytre, Bool.and_self]
  ·first | (simp only [outV, uw, zaf, cr, tyf, nrm, tynrm, e4, d5, d6, nm, seval] <;> rfl) | rfl
 simp only [d6, hs] at h
 try simp only [vz, tyf, e4, d5, d6, nm, seval]
 refine zay (x := (.tup [.lit (.int .i64 r2.1), .lit (.bool (decide (r2.1 ≤ 3)))])) (by first | (simp only [Tryz.results36, resV, resL, resV1, zba, zcc, uw, cr, tyf, d5, d6, nm, seval] <;> rfl) | rfl) ?_
 obtain rfl := kF _ h
 refine zbb ?_ ?_
 ·simp only [tre, tytre, Bool.and_self]
 ·first | (simp only [outV, uw, zaf, cr, tyf, nrm, tynrm, e4, d5, d6, nm, seval] <;> rfl) | rfl
end Go.V
end
section
namespace Go.V
open Go Go.Proofs
def zcb (x2_a2 : List Int) : List Int → Int → (List Int) → Option (LOut (Bool) ((List Int)))
 | [], c0_10, c0_9 => some (.go c0_9)
 | e0 :: p0, c0_10, c0_9 => Option.bind (getI x2_a2 c0_10) (fun x6 => cond (roomOk 8 (List.length (c0_9 ++ [IntKind.i64.wrap (e0 + x6)]))) (zcb x2_a2 p0 (c0_10 + 1) (c0_9 ++ [IntKind.i64.wrap (e0 + x6)])) none)
def zgp (x0_s : Gs) (x1_a1 : List Int) (x2_a2 : List Int) (x3_a3 : Gu) : Option (Bool) := Option.bind (zfi x0_s x1_a1) (fun r1 => cond (r1) (Option.bind (zfi x0_s x2_a2) (fun r2 => cond (r2) (cond (decide ((List.length x3_a3.Tins : Int) > 6)) (some true) (Option.bind (zhe x0_s x3_a3) (fun r3 => cond (r3) (Option.bind (zfh x1_a1) (fun r4 => Option.bind (zfh x2_a2) (fun r5 => cond (decide ((IntKind.i64.wrap (r4 + r5)) > 8)) (some true) (cond (lenOk x1_a1) (lbind (zcb x2_a2 x1_a1 0 ([] : List Int)) (fun r14 => some r14) (fun c7 => Option.bind (zfm x0_s x1_a1 x3_a3) (fun r8 => Option.bind (zfm x0_s x2_a2 x3_a3) (fun r9 => Option.bind (zfm x0_s c7 x3_a3) (fun r10 => Option.bind (zgh x0_s x1_a1) (fun r11 => Option.bind (zgh x0_s x2_a2) (fun r12 => Option.bind (zgh x0_s c7) (fun r13 => cond (r8.2 != 0) (some false) (cond (r9.2 != 0) (some false) (cond (r10.2 != 0) (some false) (cond (r11.2) (cond (r12.2) (cond (r13.2) (cond (r8.1) (cond (r9.1) (cond (r10.1) (cond (r11.1 != 3) (some true) (cond (r12.1 != 3) (some true) (cond (r13.1 == 3) (some true) (some false)))) (some false)) (cond (r11.1 != 3) (some true) (cond (r12.1 != 3) (some true) (cond (r13.1 == 3) (some true) (some false))))) (cond (r11.1 != 3) (some true) (cond (r12.1 != 3) (some true) (cond (r13.1 == 3) (some true) (some false))))) (some false)) (some false)) (some false))))))))))) (fun _ _ => none)) none)))) (some true)))) (some true))) (some true))
theorem zmn (x0_s : Gs) (x1_a1 : List Int) (x2_a2 : List Int) (x3_a3 : Gu) (R : Bool) (h : zgp x0_s x1_a1 x2_a2 x3_a3 = some R) : VPure Tryz.prog G0 8 [.agg (cGs x0_s), .sl (cellsL eI x1_a1) (List.length x1_a1) false, .sl (cellsL eI x2_a2) (List.length x2_a2) false, .agg (cGu x3_a3)] (.tree (.lit (.bool R))) := by
 refine VPure.runR mixed Tryz.call8 Tryz.func8 rfl (by simp [Tryz.ntmps8]; kernel_rfl) ?_
 obtain ⟨KF, h, kF, kN⟩ := zaq h
 simp only [zgp] at h
 obtain ⟨r15, o16, h⟩ := optI h kN
 try simp only [hs] at h
 simp only [vz, tyf, nm, seval]
 refine ktA (zhy _ _ _ o16) ?_
 refine zae (fun tm => tm 1 = .sl (cellsL eI x1_a1) (List.length x1_a1) false ∧ tm 2 = .sl (cellsL eI x2_a2) (List.length x2_a2) false ∧ tm 4 = .ptr 0 0 ∧ tm 7 = .ptr 1 0 ∧ tm 25 = .lit (.bool r15) ∧ True) (by refine ⟨?_, ?_, ?_, ?_, ?_, trivial⟩ <;> first | (simp only [ua, nm, seval] <;> rfl) | rfl) ?_
 rintro tm ⟨e17, e18, e19, e20, e21, _⟩
 cases d22 : (r15)
 ·simp only [d22, hs] at h
  simp only [vz, tyf, e17, e18, e19, e20, e21, d22, nm, seval]
  refine ktree0 zak ?_
  try simp only [vz, tyf, e17, e18, e19, e20, e21, d22, nm, seval]
  obtain rfl := kF _ h
  exact zab Tryz.results8 rfl
 simp only [d22, hs] at h
 obtain ⟨r23, o24, h⟩ := optI h kN
 try simp only [hs] at h
 simp only [vz, tyf, e17, e18, e19, e20, e21, d22, nm, seval]
 refine ktA (zhy _ _ _ o24) ?_
 refine zae (fun tm => tm 1 = .sl (cellsL eI x1_a1) (List.length x1_a1) false ∧ tm 2 = .sl (cellsL eI x2_a2) (List.length x2_a2) false ∧ tm 4 = .ptr 0 0 ∧ tm 7 = .ptr 1 0 ∧ tm 27 = .lit (.bool false) ∧ tm 30 = .lit (.bool r23) ∧ True) (by refine ⟨e17, e18, e19, e20, ?_, ?_, trivial⟩ <;> first | (simp only [ua, e17, e18, e19, e20, e21, d22, nm, seval] <;> rfl) | rfl) ?_
 rintro tm ⟨e25, e26, e27, e28, e29, e30, _⟩
 cases d31 : (r23)
 ·simp only [d31, hs] at h
  simp only [vz, tyf, d22, e25, e26, e27, e28, e29, e30, d31, nm, seval]
  refine ktree0 zak ?_
  try simp only [vz, tyf, d22, e25, e26, e27, e28, e29, e30, d31, nm, seval]
  obtain rfl := kF _ h
  exact zab Tryz.results8 rfl
 simp only [d31, hs] at h
 cases d32 : (decide ((List.length x3_a3.Tins : Int) > 6))
 ·simp only [d32, hs] at h
  obtain ⟨r33, o34, h⟩ := optI h kN
  try simp only [hs] at h
  simp only [vz, tyf, d22, e25, e26, e27, e28, e29, e30, d31, d32, nm, seval]
  refine ktA (zox _ _ _ o34) ?_
  refine zae (fun tm => tm 1 = .sl (cellsL eI x1_a1) (List.length x1_a1) false ∧ tm 2 = .sl (cellsL eI x2_a2) (List.length x2_a2) false ∧ tm 4 = .ptr 0 0 ∧ tm 7 = .ptr 1 0 ∧ tm 39 = .lit (.bool false) ∧ tm 42 = .lit (.bool r33) ∧ True) (by refine ⟨e25, e26, e27, e28, ?_, ?_, trivial⟩ <;> first | (simp only [ua, d22, e25, e26, e27, e28, e29, e30, d31, d32, nm, seval] <;> rfl) | rfl) ?_
  rintro tm ⟨e35, e36, e37, e38, e39, e40, _⟩
  cases d41 : (r33)
  ·simp only [d41, hs] at h
   simp only [vz, tyf, d22, d31, d32, e35, e36, e37, e38, e39, e40, d41, nm, seval]
   refine ktree0 zak ?_
   try simp only [vz, tyf, d22, d31, d32, e35, e36, e37, e38, e39, e40, d41, nm, seval]
   obtain rfl := kF _ h
   exact zab Tryz.results8 rfl
  simp only [d41, hs] at h
  obtain ⟨r42, o43, h⟩ := optI h kN
  try simp only [hs] at h
  simp only [vz, tyf, d22, d31, d32, e35, e36, e37, e38, e39, e40, d41, nm, seval]
  refine ktA (zhq _ _ o43) ?_
  refine zae (fun tm => tm 1 = .sl (cellsL eI x1_a1) (List.length x1_a1) false ∧ tm 2 = .sl (cellsL eI x2_a2) (List.length x2_a2) false ∧ tm 4 = .ptr 0 0 ∧ tm 7 = .ptr 1 0 ∧ tm 45 = .lit (.bool false) ∧ tm 47 = .lit (.int .i64 r42) ∧ True) (by refine ⟨e35, e36, e37, e38, ?_, ?_, trivial⟩ <;> first | (simp only [ua, d22, d31, d32, e35, e36, e37, e38, e39, e40, d41, nm, seval] <;> rfl) | rfl) ?_
  rintro tm ⟨e44, e45, e46, e47, e48, e49, _⟩
  obtain ⟨r50, o51, h⟩ := optI h kN
  try simp only [hs] at h
  simp only [vz, tyf, d22, d31, d32, d41, e44, e45, e46, e47, e48, e49, nm, seval]
  refine ktA (zhq _ _ o51) ?_
  refine zae (fun tm => tm 1 = .sl (cellsL eI x1_a1) (List.length x1_a1) false ∧ tm 2 = .sl (cellsL eI x2_a2) (List.length x2_a2) false ∧ tm 4 = .ptr 0 0 ∧ tm 7 = .ptr 1 0 ∧ tm 45 = .lit (.bool false) ∧ tm 47 = .lit (.int .i64 r42) ∧ tm 49 = .lit (.int .i64 r50) ∧ True) (by refine ⟨e44, e45, e46, e47, e48, e49, ?_, trivial⟩ <;> first | (simp only [ua, d22, d31, d32, d41, e44, e45, e46, e47, e48, e49, nm, seval] <;> rfl) | rfl) ?_
  rintro tm ⟨e52, e53, e54, e55, e56, e57, e58, _⟩
  cases d59 : (decide ((IntKind.i64.wrap (r42 + r50)) > 8))
  ·simp only [d59, hs] at h
   cases g61 : (lenOk x1_a1)
   ·simp only [g61, hs] at h
    exact absurd h kN
   simp only [g61, hs] at h
   simp only [vz, tyf, d22, d31, d32, d41, e52, e53, e54, e55, e56, e57, e58, d59, g61, nm, seval]
   obtain ⟨K60, h, kR60, kG60, kB60, kN60⟩ := zat h kN
   obtain ⟨f60, hf60, h⟩ := call3 h
   obtain ⟨I60, hI60⟩ : ∃ I : Nat → St → Prop, I = (fun m st => ∃ (p60 : List Int) (c60_10 : Int) (c60_9 : List Int) (y60_0 : VV), m = List.length p60 ∧ 0 ≤ c60_10 ∧ List.drop (Int.toNat c60_10) x1_a1 = p60 ∧ st.df = [] ∧ 35 ≤ st.nx ∧ st.H 0 = some (.cells (some 28) (cGs x0_s)) ∧ st.H 1 = some (.cells (some 42) (cGu x3_a3)) ∧ st.tm 1 = .sl (cellsL eI x1_a1) (List.length x1_a1) false ∧ st.tm 2 = .sl (cellsL eI x2_a2) (List.length x2_a2) false ∧ st.tm 4 = .ptr 0 0 ∧ st.tm 7 = .ptr 1 0 ∧ st.tm 9 = y60_0 ∧ st.tm 10 = .lit (.int .i64 c60_10) ∧ ((∃ (β : Nat) (el : Option TypeId), y60_0 = .ref β 0 (List.length c60_9) 1 (List.length c60_9) ∧ β < st.nx ∧ β ≠ 0 ∧ β ≠ 1 ∧ st.H β = some (.cells el (cellsL eI c60_9))) ∨ (y60_0 = .lit (.slice none 0 0) ∧ c60_9 = [])) ∧ K60 (f60 p60 c60_10 c60_9)) := ⟨_, rfl⟩
   refine loopK mixed (by kernel_rfl) I60 (List.length x1_a1) (by rw [hI60]; refine ⟨x1_a1, 0, ([] : List Int), .lit (.slice none 0 0), rfl, Int.le_refl _, rfl, rfl, (show 35 ≤ 35 by omega), ?_, ?_, e52, e53, e54, e55, ?_, ?_, Or.inr ⟨rfl, rfl⟩, h⟩ <;> first | (simp only [ua, d22, d31, d32, d41, e52, e53, e54, e55, e56, e57, e58, d59, nm, seval] <;> rfl) | rfl) ?_
   rintro m ⟨tm, H, nx60, df⟩ hinv
   rw [hI60] at hinv
   obtain ⟨p60, c60_10, c60_9, y60_0, rfl, hi60, hp60, hdf, hn60, H62, H63, e64, e65, e66, e67, e68, e69, ow60_0, h⟩ := hinv
   simp only at hdf hn60 H62 H63 e64 e65 e66 e67 e68 e69 ow60_0
   have n70 := zcg (m := 35) (b := nx60) (by omega)
   subst hdf hf60
   rcases ow60_0 with ⟨b60_0, el60_0, rfl, lq72, lq73, lq74, H71⟩ | ⟨rfl, rfl⟩
   ·have q72 := ztn lq72
    have q73 := ne_f lq73
    have q74 := ne_f lq74
    cases p60 with
    | nil =>
     have d75 : (decide (c60_10 < (List.length x1_a1 : Int))) = false := zap hi60 hp60
     simp only [zcb, hs, reduceCtorEq] at h
     replace h := kG60 _ h
     try dsimp only at h
     try simp only [hs] at h
     obtain ⟨r76, o77, h⟩ := optI h kN
     try simp only [hs] at h
     simp only [vz, tyf, d22, d31, d32, d41, d59, g61, n70, e64, e65, e66, e67, e68, e69, H62, H63, q72, H71, q73, q74, d75, nm, seval]
     refine ktA (zeg _ _ _ _ o77) ?_
     refine zae (fun tm => tm 1 = .sl (cellsL eI x1_a1) (List.length x1_a1) false ∧ tm 2 = .sl (cellsL eI x2_a2) (List.length x2_a2) false ∧ tm 4 = .ptr 0 0 ∧ tm 7 = .ptr 1 0 ∧ tm 9 = .ref b60_0 0 (List.length c60_9) 1 (List.length c60_9) ∧ tm 76 = .tup [.lit (.bool r76.1), .lit (.int .i64 r76.2)] ∧ True) (by refine ⟨e64, e65, e66, e67, e68, ?_, trivial⟩ <;> first | (simp only [ua, d22, d31, d32, d41, d59, n70, e64, e65, e66, e67, e68, e69, H62, H63, q72, H71, q73, q74, d75, nm, seval] <;> rfl) | rfl) ?_
     rintro tm ⟨e78, e79, e80, e81, e82, e83, _⟩
     have b84 := And.intro d22 (And.intro d31 (And.intro d32 (And.intro d41 (And.intro d59 (And.intro g61 (And.intro n70 (And.intro H62 (And.intro H63 (And.intro q72 (And.intro H71 (And.intro q73 (And.intro q74 d75))))))))))))
     obtain ⟨r85, o86, h⟩ := optI h kN
     try simp only [hs] at h
     simp only [vz, tyf, b84, e78, e79, e80, e81, e82, e83, nm, seval]
     refine ktA (zeg _ _ _ _ o86) ?_
     refine zae (fun tm => tm 1 = .sl (cellsL eI x1_a1) (List.length x1_a1) false ∧ tm 2 = .sl (cellsL eI x2_a2) (List.length x2_a2) false ∧ tm 4 = .ptr 0 0 ∧ tm 7 = .ptr 1 0 ∧ tm 9 = .ref b60_0 0 (List.length c60_9) 1 (List.length c60_9) ∧ tm 11 = .lit (.bool r76.1) ∧ tm 12 = .lit (.int .i64 r76.2) ∧ tm 83 = .tup [.lit (.bool r85.1), .lit (.int .i64 r85.2)] ∧ True) (by refine ⟨e78, e79, e80, e81, e82, ?_, ?_, ?_, trivial⟩ <;> first | (simp only [ua, b84, e78, e79, e80, e81, e82, e83, nm, seval] <;> rfl) | rfl) ?_
     rintro tm ⟨e87, e88, e89, e90, e91, e92, e93, e94, _⟩
     obtain ⟨r95, o96, h⟩ := optI h kN
     try simp only [hs] at h
     simp only [vz, tyf, b84, e87, e88, e89, e90, e91, e92, e93, e94, nm, seval]
     refine kseen (args0 := [.agg (cGs x0_s), .sl (cellsL eI c60_9) (List.length c60_9) false, .agg (cGu x3_a3)]) (by simp only [List.map_cons, List.map_nil, zaf, zaa, zac, cr, tyf, nrm, tynrm, b84, e87, e88, e89, e90, e91, e92, e93, e94, nm, seval] <;> rfl) (by simp only [List.map_cons, List.map_nil, zaf, zaa, zac, cr, tyf, nrm, tynrm, b84, e87, e88, e89, e90, e91, e92, e93, e94, nm, seval]; simp only [tre, tytre, Bool.and_self]) (zeg _ _ _ _ o96) (by first | rfl | simp only [VV.flat, flatL, Bool.and_self]) ?_
     refine zae (fun tm => tm 1 = .sl (cellsL eI x1_a1) (List.length x1_a1) false ∧ tm 2 = .sl (cellsL eI x2_a2) (List.length x2_a2) false ∧ tm 4 = .ptr 0 0 ∧ tm 9 = .ref b60_0 0 (List.length c60_9) 1 (List.length c60_9) ∧ tm 11 = .lit (.bool r76.1) ∧ tm 12 = .lit (.int .i64 r76.2) ∧ tm 13 = .lit (.bool r85.1) ∧ tm 14 = .lit (.int .i64 r85.2) ∧ tm 90 = .tup [.lit (.bool r95.1), .lit (.int .i64 r95.2)] ∧ True) (by refine ⟨e87, e88, e89, e91, e92, e93, ?_, ?_, ?_, trivial⟩ <;> first | (simp only [ua, b84, e87, e88, e89, e90, e91, e92, e93, e94, nm, seval] <;> rfl) | rfl) ?_
     rintro tm ⟨e97, e98, e99, e100, e101, e102, e103, e104, e105, _⟩
     obtain ⟨r106, o107, h⟩ := optI h kN
     try simp only [hs] at h
     simp only [vz, tyf, b84, e97, e98, e99, e100, e101, e102, e103, e104, e105, nm, seval]
     refine ktA (zey _ _ _ o107) ?_
     refine zae (fun tm => tm 2 = .sl (cellsL eI x2_a2) (List.length x2_a2) false ∧ tm 4 = .ptr 0 0 ∧ tm 9 = .ref b60_0 0 (List.length c60_9) 1 (List.length c60_9) ∧ tm 11 = .lit (.bool r76.1) ∧ tm 12 = .lit (.int .i64 r76.2) ∧ tm 13 = .lit (.bool r85.1) ∧ tm 14 = .lit (.int .i64 r85.2) ∧ tm 15 = .lit (.bool r95.1) ∧ tm 16 = .lit (.int .i64 r95.2) ∧ tm 96 = .tup [.lit (.int .i64 r106.1), .lit (.bool r106.2)] ∧ True) (by refine ⟨e98, e99, e100, e101, e102, e103, e104, ?_, ?_, ?_, trivial⟩ <;> first | (simp only [ua, b84, e97, e98, e99, e100, e101, e102, e103, e104, e105, nm, seval] <;> rfl) | rfl) ?_
     rintro tm ⟨e108, e109, e110, e111, e112, e113, e114, e115, e116, e117, _⟩
     obtain ⟨r118, o119, h⟩ := optI h kN
     try simp only [hs] at h
     simp only [vz, tyf, b84, e108, e109, e110, e111, e112, e113, e114, e115, e116, e117, nm, seval]
     refine ktA (zey _ _ _ o119) ?_
     refine zae (fun tm => tm 4 = .ptr 0 0 ∧ tm 9 = .ref b60_0 0 (List.length c60_9) 1 (List.length c60_9) ∧ tm 11 = .lit (.bool r76.1) ∧ tm 12 = .lit (.int .i64 r76.2) ∧ tm 13 = .lit (.bool r85.1) ∧ tm 14 = .lit (.int .i64 r85.2) ∧ tm 15 = .lit (.bool r95.1) ∧ tm 16 = .lit (.int .i64 r95.2) ∧ tm 17 = .lit (.int .i64 r106.1) ∧ tm 18 = .lit (.bool r106.2) ∧ tm 102 = .tup [.lit (.int .i64 r118.1), .lit (.bool r118.2)] ∧ True) (by refine ⟨e109, e110, e111, e112, e113, e114, e115, e116, ?_, ?_, ?_, trivial⟩ <;> first | (simp only [ua, b84, e108, e109, e110, e111, e112, e113, e114, e115, e116, e117, nm, seval] <;> rfl) | rfl) ?_
     rintro tm ⟨e120, e121, e122, e123, e124, e125, e126, e127, e128, e129, e130, _⟩
     obtain ⟨r131, o132, h⟩ := optI h kN
     try simp only [hs] at h
     simp only [vz, tyf, b84, e120, e121, e122, e123, e124, e125, e126, e127, e128, e129, e130, nm, seval]
     refine kseen (args0 := [.agg (cGs x0_s), .sl (cellsL eI c60_9) (List.length c60_9) false]) (by simp only [List.map_cons, List.map_nil, zaf, zaa, zac, cr, tyf, nrm, tynrm, b84, e120, e121, e122, e123, e124, e125, e126, e127, e128, e129, e130, nm, seval] <;> rfl) (by simp only [List.map_cons, List.map_nil, zaf, zaa, zac, cr, tyf, nrm, tynrm, b84, e120, e121, e122, e123, e124, e125, e126, e127, e128, e129, e130, nm, seval]; simp only [tre, tytre, Bool.and_self]) (zey _ _ _ o132) (by first | rfl | simp only [VV.flat, flatL, Bool.and_self]) ?_
     refine zae (fun tm => tm 11 = .lit (.bool r76.1) ∧ tm 12 = .lit (.int .i64 r76.2) ∧ tm 13 = .lit (.bool r85.1) ∧ tm 14 = .lit (.int .i64 r85.2) ∧ tm 15 = .lit (.bool r95.1) ∧ tm 16 = .lit (.int .i64 r95.2) ∧ tm 17 = .lit (.int .i64 r106.1) ∧ tm 18 = .lit (.bool r106.2) ∧ tm 19 = .lit (.int .i64 r118.1) ∧ tm 20 = .lit (.bool r118.2) ∧ tm 108 = .tup [.lit (.int .i64 r131.1), .lit (.bool r131.2)] ∧ True) (by refine ⟨e122, e123, e124, e125, e126, e127, e128, e129, ?_, ?_, ?_, trivial⟩ <;> first | (simp only [ua, b84, e120, e121, e122, e123, e124, e125, e126, e127, e128, e129, e130, nm, seval] <;> rfl) | rfl) ?_
     rintro tm ⟨e133, e134, e135, e136, e137, e138, e139, e140, e141, e142, e143, _⟩
     cases d144 : (r76.2 != 0)
     ·simp only [d144, hs] at h
      cases d145 : (r85.2 != 0)
      ·simp only [d145, hs] at h
       cases d146 : (r95.2 != 0)
       ·simp only [d146, hs] at h
        cases d147 : (r106.2)
        ·simp only [d147, hs] at h
         try simp only [vz, tyf, b84, e133, e134, e135, e136, e137, e138, e139, e140, e141, e142, e143, d144, d145, d146, d147, nm, seval]
         obtain rfl := kF _ h
         exact zab Tryz.results8 rfl
        simp only [d147, hs] at h
        cases d148 : (r118.2)
        ·simp only [d148, hs] at h
         try simp only [vz, tyf, b84, e133, e134, e135, e136, e137, e138, e139, e140, e141, e142, e143, d144, d145, d146, d147, d148, nm, seval]
         obtain rfl := kF _ h
         exact zab Tryz.results8 rfl
        simp only [d148, hs] at h
        cases d149 : (r131.2)
        ·simp only [d149, hs] at h
         have b150 := And.intro b84 (And.intro d144 (And.intro d145 (And.intro d146 (And.intro d147 (And.intro d148 d149)))))
         try simp only [vz, tyf, b150, e133, e134, e135, e136, e137, e138, e139, e140, e141, e142, e143, nm, seval]
         obtain rfl := kF _ h
         exact zab Tryz.results8 rfl
        simp only [d149, hs] at h
        have b151 := And.intro b84 (And.intro d144 (And.intro d145 (And.intro d146 (And.intro d147 (And.intro d148 d149)))))
        cases d152 : (r76.1)
        ·simp only [d152, hs] at h
         cases d153 : (r106.1 != 3)
         ·simp only [d153, hs] at h
          cases d154 : (r118.1 != 3)
          ·simp only [d154, hs] at h
           cases d155 : (r131.1 == 3)
           ·simp only [d155, hs] at h
            try simp only [vz, tyf, b151, e133, e134, e135, e136, e137, e138, e139, e140, e141, e142, e143, d152, d153, d154, d155, nm, seval]
            obtain rfl := kF _ h
            exact zab Tryz.results8 rfl
           simp only [d155, hs] at h
           simp only [vz, tyf, b151, e133, e134, e135, e136, e137, e138, e139, e140, e141, e142, e143, d152, d153, d154, d155, nm, seval]
           refine ktree0 zak ?_
           try simp only [vz, tyf, b151, e133, e134, e135, e136, e137, e138, e139, e140, e141, e142, e143, d152, d153, d154, d155, nm, seval]
           obtain rfl := kF _ h
           exact zab Tryz.results8 rfl
          simp only [d154, hs] at h
          simp only [vz, tyf, b151, e133, e134, e135, e136, e137, e138, e139, e140, e141, e142, e143, d152, d153, d154, nm, seval]
          refine ktree0 zak ?_
          try simp only [vz, tyf, b151, e133, e134, e135, e136, e137, e138, e139, e140, e141, e142, e143, d152, d153, d154, nm, seval]
          obtain rfl := kF _ h
          exact zab Tryz.results8 rfl
         simp only [d153, hs] at h
         simp only [vz, tyf, b151, e133, e134, e135, e136, e137, e138, e139, e140, e141, e142, e143, d152, d153, nm, seval]
         refine ktree0 zak ?_
         try simp only [vz, tyf, b151, e133, e134, e135, e136, e137, e138, e139, e140, e141, e142, e143, d152, d153, nm, seval]
         obtain rfl := kF _ h
         exact zab Tryz.results8 rfl
        simp only [d152, hs] at h
        cases d156 : (r85.1)
        ·simp only [d156, hs] at h
         cases d157 : (r106.1 != 3)
         ·simp only [d157, hs] at h
          cases d158 : (r118.1 != 3)
          ·simp only [d158, hs] at h
           cases d159 : (r131.1 == 3)
           ·simp only [d159, hs] at h
            try simp only [vz, tyf, b151, e133, e134, e135, e136, e137, e138, e139, e140, e141, e142, e143, d152, d156, d157, d158, d159, nm, seval]
            obtain rfl := kF _ h
            exact zab Tryz.results8 rfl
           simp only [d159, hs] at h
           simp only [vz, tyf, b151, e133, e134, e135, e136, e137, e138, e139, e140, e141, e142, e143, d152, d156, d157, d158, d159, nm, seval]
           refine ktree0 zak ?_
           try simp only [vz, tyf, b151, e133, e134, e135, e136, e137, e138, e139, e140, e141, e142, e143, d152, d156, d157, d158, d159, nm, seval]
           obtain rfl := kF _ h
           exact zab Tryz.results8 rfl
          simp only [d158, hs] at h
          simp only [vz, tyf, b151, e133, e134, e135, e136, e137, e138, e139, e140, e141, e142, e143, d152, d156, d157, d158, nm, seval]
          refine ktree0 zak ?_
          try simp only [vz, tyf, b151, e133, e134, e135, e136, e137, e138, e139, e140, e141, e142, e143, d152, d156, d157, d158, nm, seval]
          obtain rfl := kF _ h
          exact zab Tryz.results8 rfl
         simp only [d157, hs] at h
         simp only [vz, tyf, b151, e133, e134, e135, e136, e137, e138, e139, e140, e141, e142, e143, d152, d156, d157, nm, seval]
         refine ktree0 zak ?_
         try simp only [vz, tyf, b151, e133, e134, e135, e136, e137, e138, e139, e140, e141, e142, e143, d152, d156, d157, nm, seval]
         obtain rfl := kF _ h
         exact zab Tryz.results8 rfl
        simp only [d156, hs] at h
        cases d160 : (r95.1)
        ·simp only [d160, hs] at h
         try simp only [vz, tyf, b151, e133, e134, e135, e136, e137, e138, e139, e140, e141, e142, e143, d152, d156, d160, nm, seval]
         obtain rfl := kF _ h
         exact zab Tryz.results8 rfl
        simp only [d160, hs] at h
        cases d161 : (r106.1 != 3)
        ·simp only [d161, hs] at h
         cases d162 : (r118.1 != 3)
         ·simp only [d162, hs] at h
          cases d163 : (r131.1 == 3)
          ·simp only [d163, hs] at h
           have b164 := And.intro b151 (And.intro d152 (And.intro d156 (And.intro d160 (And.intro d161 (And.intro d162 d163)))))
           try simp only [vz, tyf, b164, e133, e134, e135, e136, e137, e138, e139, e140, e141, e142, e143, nm, seval]
           obtain rfl := kF _ h
           exact zab Tryz.results8 rfl
          simp only [d163, hs] at h
          have b165 := And.intro b151 (And.intro d152 (And.intro d156 (And.intro d160 (And.intro d161 (And.intro d162 d163)))))
          simp only [vz, tyf, b165, e133, e134, e135, e136, e137, e138, e139, e140, e141, e142, e143, nm, seval]
          refine ktree0 zak ?_
          try simp only [vz, tyf, b165, e133, e134, e135, e136, e137, e138, e139, e140, e141, e142, e143, nm, seval]
          obtain rfl := kF _ h
          exact zab Tryz.results8 rfl
         simp only [d162, hs] at h
         simp only [vz, tyf, b151, e133, e134, e135, e136, e137, e138, e139, e140, e141, e142, e143, d152, d156, d160, d161, d162, nm, seval]
         refine ktree0 zak ?_
         try simp only [vz, tyf, b151, e133, e134, e135, e136, e137, e138, e139, e140, e141, e142, e143, d152, d156, d160, d161, d162, nm, seval]
         obtain rfl := kF _ h
         exact zab Tryz.results8 rfl
        simp only [d161, hs] at h
        simp only [vz, tyf, b151, e133, e134, e135, e136, e137, e138, e139, e140, e141, e142, e143, d152, d156, d160, d161, nm, seval]
        refine ktree0 zak ?_
        try simp only [vz, tyf, b151, e133, e134, e135, e136, e137, e138, e139, e140, e141, e142, e143, d152, d156, d160, d161, nm, seval]
        obtain rfl := kF _ h
        exact zab Tryz.results8 rfl
       simp only [d146, hs] at h
       try simp only [vz, tyf, b84, e133, e134, e135, e136, e137, e138, e139, e140, e141, e142, e143, d144, d145, d146, nm, seval]
       obtain rfl := kF _ h
       exact zab Tryz.results8 rfl
      simp only [d145, hs] at h
      try simp only [vz, tyf, b84, e133, e134, e135, e136, e137, e138, e139, e140, e141, e142, e143, d144, d145, nm, seval]
      obtain rfl := kF _ h
      exact zab Tryz.results8 rfl
     simp only [d144, hs] at h
     try simp only [vz, tyf, b84, e133, e134, e135, e136, e137, e138, e139, e140, e141, e142, e143, d144, nm, seval]
     obtain rfl := kF _ h
     exact zab Tryz.results8 rfl
    | cons e60 p60 =>
     have d166 : (decide (c60_10 < (List.length x1_a1 : Int))) = true := zbr hi60 hp60
     have o168 := zal hi60 hp60
     have w167 := zcf hi60 hp60 g61
     simp only [zcb, hs, reduceCtorEq] at h
     simp only [vz, tyf, d22, d31, d32, d41, d59, g61, n70, e64, e65, e66, e67, e68, e69, H62, H63, q72, H71, q73, q74, d166, (ix29 o168), w167, nm, seval]
     refine zbw (fun tm => tm 1 = .sl (cellsL eI x1_a1) (List.length x1_a1) false ∧ tm 2 = .sl (cellsL eI x2_a2) (List.length x2_a2) false ∧ tm 4 = .ptr 0 0 ∧ tm 7 = .ptr 1 0 ∧ tm 9 = .ref b60_0 0 (List.length c60_9) 1 (List.length c60_9) ∧ tm 10 = .lit (.int .i64 c60_10) ∧ True) (by refine ⟨e64, e65, e66, e67, e68, e69, trivial⟩ <;> first | (simp only [ua, d22, d31, d32, d41, d59, n70, e64, e65, e66, e67, e68, e69, H62, H63, q72, H71, q73, q74, d166, w167, nm, seval] <;> rfl) | rfl) ?_
     rintro tm ⟨e169, e170, e171, e172, e173, e174, _⟩
     have b175 := And.intro d22 (And.intro d31 (And.intro d32 (And.intro d41 (And.intro d59 (And.intro g61 (And.intro n70 (And.intro H62 (And.intro H63 (And.intro q72 (And.intro H71 (And.intro q73 (And.intro q74 (And.intro d166 w167)))))))))))))
     obtain ⟨x176, o177, h⟩ := optI h kN60
     try simp only [hs] at h
     cases g178 : (roomOk 8 (List.length (c60_9 ++ [IntKind.i64.wrap (e60 + x176)])))
     ·simp only [g178, hs] at h
      exact absurd h kN60
     simp only [g178, hs] at h
     simp only [vz, tyf, b175, (ix29 o168), e169, e170, e171, e172, e173, e174, (ix29 o177), g178, nm, seval]
     refine k_app (w := 1) (enc := eI) (xs := c60_9) (ys := ([IntKind.i64.wrap (e60 + x176)])) (el := el60_0) (el2 := (some 3)) (fun _ => rfl) lf29 ao29 Tryz.underlying29 (by first | rfl | assumption | (simp only [zaa, zac, et29, b175, nm, seval] <;> rfl) | (simp only [zaa, zac, zci, zbu, zjb, zgn, tyf, b175, (ix29 o168), e169, e170, e171, e172, e173, e174, (ix29 o177), g178, nm, seval]; done)) (by first | rfl | assumption | (simp only [zaa, zac, et29, b175, nm, seval] <;> rfl) | (simp only [zaa, zac, zci, zbu, zjb, zgn, tyf, b175, (ix29 o168), e169, e170, e171, e172, e173, e174, (ix29 o177), g178, nm, seval]; done)) (Nat.zero_lt_succ _) g178 ?_
     simp only [vz, tyf, b175, (ix29 o168), e169, e170, e171, e172, e173, e174, (ix29 o177), g178, nm, seval]
     refine zbl ⟨?_, ?_⟩
     ·simp only [zas, zaz, zad, zbz, and_true, true_and]
      repeat' (first | exact trivial | refine And.intro ?_ ?_ | rw [zad] | rw [zbk] | exact Or.inl (by decide +kernel) | exact Or.inl (by dsimp only; decide +kernel) | (refine Or.inr ⟨?_, ?_⟩ <;> simp; done) | (refine Or.inr ⟨?_, ?_⟩ <;> simp <;> omega) | (refine Or.inr ⟨?_, ?_⟩ <;> simp [VEff.wr] <;> omega))
     simp only [vz, tyf, b175, (ix29 o168), e169, e170, e171, e172, e173, e174, (ix29 o177), g178, nm, seval]
     exact ⟨List.length p60, Nat.lt_succ_self _, by rw [hI60]; refine ⟨p60, c60_10 + 1, (c60_9 ++ [IntKind.i64.wrap (e60 + x176)]), .ref (nx60 + 15) 0 (List.length (c60_9 ++ [IntKind.i64.wrap (e60 + x176)])) 1 (List.length (c60_9 ++ [IntKind.i64.wrap (e60 + x176)])), rfl, Int.le_trans hi60 (Int.le_add_one (Int.le_refl _)), zbe hi60 hp60, rfl, (show 35 ≤ nx60 + 20 by omega), ?_, ?_, e169, e170, e171, e172, ?_, ?_, Or.inl ⟨nx60 + 15, (sameEl el60_0 3), rfl, (by first | omega | (simp only [nm, seval]; omega)), (by first | omega | (intro hh; simp only [b175, reduceCtorEq] at hh)), (by first | omega | (intro hh; simp only [b175, reduceCtorEq] at hh)), ?_⟩, h⟩ <;> first | (simp only [ua, b175, e169, e170, e171, e172, e173, e174, nm, seval] <;> rfl) | rfl⟩
   ·cases p60 with
    | nil =>
     have d179 : (decide (c60_10 < (List.length x1_a1 : Int))) = false := zap hi60 hp60
     simp only [zcb, hs, reduceCtorEq] at h
     replace h := kG60 _ h
     try dsimp only at h
     try simp only [hs] at h
     obtain ⟨r180, o181, h⟩ := optI h kN
     try simp only [hs] at h
     simp only [vz, tyf, d22, d31, d32, d41, d59, g61, n70, e64, e65, e66, e67, e68, e69, H62, H63, d179, nm, seval]
     refine ktA (zeg _ _ _ _ o181) ?_
     refine zae (fun tm => tm 1 = .sl (cellsL eI x1_a1) (List.length x1_a1) false ∧ tm 2 = .sl (cellsL eI x2_a2) (List.length x2_a2) false ∧ tm 4 = .ptr 0 0 ∧ tm 7 = .ptr 1 0 ∧ tm 9 = .lit (.slice none 0 0) ∧ tm 76 = .tup [.lit (.bool r180.1), .lit (.int .i64 r180.2)] ∧ True) (by refine ⟨e64, e65, e66, e67, e68, ?_, trivial⟩ <;> first | (simp only [ua, d22, d31, d32, d41, d59, n70, e64, e65, e66, e67, e68, e69, H62, H63, d179, nm, seval] <;> rfl) | rfl) ?_
     rintro tm ⟨e182, e183, e184, e185, e186, e187, _⟩
     have b188 := And.intro d22 (And.intro d31 (And.intro d32 (And.intro d41 (And.intro d59 (And.intro g61 (And.intro n70 (And.intro H62 (And.intro H63 d179))))))))
     obtain ⟨r189, o190, h⟩ := optI h kN
     try simp only [hs] at h
     simp only [vz, tyf, b188, e182, e183, e184, e185, e186, e187, nm, seval]
     refine ktA (zeg _ _ _ _ o190) ?_
     refine zae (fun tm => tm 1 = .sl (cellsL eI x1_a1) (List.length x1_a1) false ∧ tm 2 = .sl (cellsL eI x2_a2) (List.length x2_a2) false ∧ tm 4 = .ptr 0 0 ∧ tm 7 = .ptr 1 0 ∧ tm 9 = .lit (.slice none 0 0) ∧ tm 11 = .lit (.bool r180.1) ∧ tm 12 = .lit (.int .i64 r180.2) ∧ tm 83 = .tup [.lit (.bool r189.1), .lit (.int .i64 r189.2)] ∧ True) (by refine ⟨e182, e183, e184, e185, e186, ?_, ?_, ?_, trivial⟩ <;> first | (simp only [ua, b188, e182, e183, e184, e185, e186, e187, nm, seval] <;> rfl) | rfl) ?_
     rintro tm ⟨e191, e192, e193, e194, e195, e196, e197, e198, _⟩
     obtain ⟨r199, o200, h⟩ := optI h kN
     try simp only [hs] at h
     simp only [vz, tyf, b188, e191, e192, e193, e194, e195, e196, e197, e198, nm, seval]
     refine ktA (zeg _ _ _ _ o200) ?_
     refine zae (fun tm => tm 1 = .sl (cellsL eI x1_a1) (List.length x1_a1) false ∧ tm 2 = .sl (cellsL eI x2_a2) (List.length x2_a2) false ∧ tm 4 = .ptr 0 0 ∧ tm 9 = .lit (.slice none 0 0) ∧ tm 11 = .lit (.bool r180.1) ∧ tm 12 = .lit (.int .i64 r180.2) ∧ tm 13 = .lit (.bool r189.1) ∧ tm 14 = .lit (.int .i64 r189.2) ∧ tm 90 = .tup [.lit (.bool r199.1), .lit (.int .i64 r199.2)] ∧ True) (by refine ⟨e191, e192, e193, e195, e196, e197, ?_, ?_, ?_, trivial⟩ <;> first | (simp only [ua, b188, e191, e192, e193, e194, e195, e196, e197, e198, nm, seval] <;> rfl) | rfl) ?_
     rintro tm ⟨e201, e202, e203, e204, e205, e206, e207, e208, e209, _⟩
     obtain ⟨r210, o211, h⟩ := optI h kN
     try simp only [hs] at h
     simp only [vz, tyf, b188, e201, e202, e203, e204, e205, e206, e207, e208, e209, nm, seval]
     refine ktA (zey _ _ _ o211) ?_
     refine zae (fun tm => tm 2 = .sl (cellsL eI x2_a2) (List.length x2_a2) false ∧ tm 4 = .ptr 0 0 ∧ tm 9 = .lit (.slice none 0 0) ∧ tm 11 = .lit (.bool r180.1) ∧ tm 12 = .lit (.int .i64 r180.2) ∧ tm 13 = .lit (.bool r189.1) ∧ tm 14 = .lit (.int .i64 r189.2) ∧ tm 15 = .lit (.bool r199.1) ∧ tm 16 = .lit (.int .i64 r199.2) ∧ tm 96 = .tup [.lit (.int .i64 r210.1), .lit (.bool r210.2)] ∧ True) (by refine ⟨e202, e203, e204, e205, e206, e207, e208, ?_, ?_, ?_, trivial⟩ <;> first | (simp only [ua, b188, e201, e202, e203, e204, e205, e206, e207, e208, e209, nm, seval] <;> rfl) | rfl) ?_
     rintro tm ⟨e212, e213, e214, e215, e216, e217, e218, e219, e220, e221, _⟩
     obtain ⟨r222, o223, h⟩ := optI h kN
     try simp only [hs] at h
     simp only [vz, tyf, b188, e212, e213, e214, e215, e216, e217, e218, e219, e220, e221, nm, seval]
     refine ktA (zey _ _ _ o223) ?_
     refine zae (fun tm => tm 4 = .ptr 0 0 ∧ tm 9 = .lit (.slice none 0 0) ∧ tm 11 = .lit (.bool r180.1) ∧ tm 12 = .lit (.int .i64 r180.2) ∧ tm 13 = .lit (.bool r189.1) ∧ tm 14 = .lit (.int .i64 r189.2) ∧ tm 15 = .lit (.bool r199.1) ∧ tm 16 = .lit (.int .i64 r199.2) ∧ tm 17 = .lit (.int .i64 r210.1) ∧ tm 18 = .lit (.bool r210.2) ∧ tm 102 = .tup [.lit (.int .i64 r222.1), .lit (.bool r222.2)] ∧ True) (by refine ⟨e213, e214, e215, e216, e217, e218, e219, e220, ?_, ?_, ?_, trivial⟩ <;> first | (simp only [ua, b188, e212, e213, e214, e215, e216, e217, e218, e219, e220, e221, nm, seval] <;> rfl) | rfl) ?_
     rintro tm ⟨e224, e225, e226, e227, e228, e229, e230, e231, e232, e233, e234, _⟩
     obtain ⟨r235, o236, h⟩ := optI h kN
     try simp only [hs] at h
     simp only [vz, tyf, b188, e224, e225, e226, e227, e228, e229, e230, e231, e232, e233, e234, nm, seval]
     refine ktA (zey _ _ _ o236) ?_
     refine zae (fun tm => tm 11 = .lit (.bool r180.1) ∧ tm 12 = .lit (.int .i64 r180.2) ∧ tm 13 = .lit (.bool r189.1) ∧ tm 14 = .lit (.int .i64 r189.2) ∧ tm 15 = .lit (.bool r199.1) ∧ tm 16 = .lit (.int .i64 r199.2) ∧ tm 17 = .lit (.int .i64 r210.1) ∧ tm 18 = .lit (.bool r210.2) ∧ tm 19 = .lit (.int .i64 r222.1) ∧ tm 20 = .lit (.bool r222.2) ∧ tm 108 = .tup [.lit (.int .i64 r235.1), .lit (.bool r235.2)] ∧ True) (by refine ⟨e226, e227, e228, e229, e230, e231, e232, e233, ?_, ?_, ?_, trivial⟩ <;> first | (simp only [ua, b188, e224, e225, e226, e227, e228, e229, e230, e231, e232, e233, e234, nm, seval] <;> rfl) | rfl) ?_
     rintro tm ⟨e237, e238, e239, e240, e241, e242, e243, e244, e245, e246, e247, _⟩
     cases d248 : (r180.2 != 0)
     ·simp only [d248, hs] at h
      cases d249 : (r189.2 != 0)
      ·simp only [d249, hs] at h
       cases d250 : (r199.2 != 0)
       ·simp only [d250, hs] at h
        cases d251 : (r210.2)
        ·simp only [d251, hs] at h
         try simp only [vz, tyf, b188, e237, e238, e239, e240, e241, e242, e243, e244, e245, e246, e247, d248, d249, d250, d251, nm, seval]
         obtain rfl := kF _ h
         exact zab Tryz.results8 rfl
        simp only [d251, hs] at h
        cases d252 : (r222.2)
        ·simp only [d252, hs] at h
         try simp only [vz, tyf, b188, e237, e238, e239, e240, e241, e242, e243, e244, e245, e246, e247, d248, d249, d250, d251, d252, nm, seval]
         obtain rfl := kF _ h
         exact zab Tryz.results8 rfl
        simp only [d252, hs] at h
        cases d253 : (r235.2)
        ·simp only [d253, hs] at h
         have b254 := And.intro b188 (And.intro d248 (And.intro d249 (And.intro d250 (And.intro d251 (And.intro d252 d253)))))
         try simp only [vz, tyf, b254, e237, e238, e239, e240, e241, e242, e243, e244, e245, e246, e247, nm, seval]
         obtain rfl := kF _ h
         exact zab Tryz.results8 rfl
        simp only [d253, hs] at h
        have b255 := And.intro b188 (And.intro d248 (And.intro d249 (And.intro d250 (And.intro d251 (And.intro d252 d253)))))
        cases d256 : (r180.1)
        ·simp only [d256, hs] at h
         cases d257 : (r210.1 != 3)
         ·simp only [d257, hs] at h
          cases d258 : (r222.1 != 3)
          ·simp only [d258, hs] at h
           cases d259 : (r235.1 == 3)
           ·simp only [d259, hs] at h
            try simp only [vz, tyf, b255, e237, e238, e239, e240, e241, e242, e243, e244, e245, e246, e247, d256, d257, d258, d259, nm, seval]
            obtain rfl := kF _ h
            exact zab Tryz.results8 rfl
           simp only [d259, hs] at h
           simp only [vz, tyf, b255, e237, e238, e239, e240, e241, e242, e243, e244, e245, e246, e247, d256, d257, d258, d259, nm, seval]
           refine ktree0 zak ?_
           try simp only [vz, tyf, b255, e237, e238, e239, e240, e241, e242, e243, e244, e245, e246, e247, d256, d257, d258, d259, nm, seval]
           obtain rfl := kF _ h
           exact zab Tryz.results8 rfl
          simp only [d258, hs] at h
          simp only [vz, tyf, b255, e237, e238, e239, e240, e241, e242, e243, e244, e245, e246, e247, d256, d257, d258, nm, seval]
          refine ktree0 zak ?_
          try simp only [vz, tyf, b255, e237, e238, e239, e240, e241, e242, e243, e244, e245, e246, e247, d256, d257, d258, nm, seval]
          obtain rfl := kF _ h
          exact zab Tryz.results8 rfl
         simp only [d257, hs] at h
         simp only [vz, tyf, b255, e237, e238, e239, e240, e241, e242, e243, e244, e245, e246, e247, d256, d257, nm, seval]
         refine ktree0 zak ?_
         try simp only [vz, tyf, b255, e237, e238, e239, e240, e241, e242, e243, e244, e245, e246, e247, d256, d257, nm, seval]
         obtain rfl := kF _ h
         exact zab Tryz.results8 rfl
        simp only [d256, hs] at h
        cases d260 : (r189.1)
        ·simp only [d260, hs] at h
         cases d261 : (r210.1 != 3)
         ·simp only [d261, hs] at h
          cases d262 : (r222.1 != 3)
          ·simp only [d262, hs] at h
           cases d263 : (r235.1 == 3)
           ·simp only [d263, hs] at h
            try simp only [vz, tyf, b255, e237, e238, e239, e240, e241, e242, e243, e244, e245, e246, e247, d256, d260, d261, d262, d263, nm, seval]
            obtain rfl := kF _ h
            exact zab Tryz.results8 rfl
           simp only [d263, hs] at h
           simp only [vz, tyf, b255, e237, e238, e239, e240, e241, e242, e243, e244, e245, e246, e247, d256, d260, d261, d262, d263, nm, seval]
           refine ktree0 zak ?_
           try simp only [vz, tyf, b255, e237, e238, e239, e240, e241, e242, e243, e244, e245, e246, e247, d256, d260, d261, d262, d263, nm, seval]
           obtain rfl := kF _ h
           exact zab Tryz.results8 rfl
          simp only [d262, hs] at h
          simp only [vz, tyf, b255, e237, e238, e239, e240, e241, e242, e243, e244, e245, e246, e247, d256, d260, d261, d262, nm, seval]
          refine ktree0 zak ?_
          try simp only [vz, tyf, b255, e237, e238, e239, e240, e241, e242, e243, e244, e245, e246, e247, d256, d260, d261, d262, nm, seval]
          obtain rfl := kF _ h
          exact zab Tryz.results8 rfl
         simp only [d261, hs] at h
         simp only [vz, tyf, b255, e237, e238, e239, e240, e241, e242, e243, e244, e245, e246, e247, d256, d260, d261, nm, seval]
         refine ktree0 zak ?_
         try simp only [vz, tyf, b255, e237, e238, e239, e240, e241, e242, e243, e244, e245, e246, e247, d256, d260, d261, nm, seval]
         obtain rfl := kF _ h
         exact zab Tryz.results8 rfl
        simp only [d260, hs] at h
        cases d264 : (r199.1)
        ·simp only [d264, hs] at h
         try simp only [vz, tyf, b255, e237, e238, e239, e240, e241, e242, e243, e244, e245, e246, e247, d256, d260, d264, nm, seval]
         obtain rfl := kF _ h
         exact zab Tryz.results8 rfl
        simp only [d264, hs] at h
        cases d265 : (r210.1 != 3)
        ·simp only [d265, hs] at h
         cases d266 : (r222.1 != 3)
         ·simp only [d266, hs] at h
          cases d267 : (r235.1 == 3)
          ·simp only [d267, hs] at h
           have b268 := And.intro b255 (And.intro d256 (And.intro d260 (And.intro d264 (And.intro d265 (And.intro d266 d267)))))
           try simp only [vz, tyf, b268, e237, e238, e239, e240, e241, e242, e243, e244, e245, e246, e247, nm, seval]
           obtain rfl := kF _ h
           exact zab Tryz.results8 rfl
          simp only [d267, hs] at h
          have b269 := And.intro b255 (And.intro d256 (And.intro d260 (And.intro d264 (And.intro d265 (And.intro d266 d267)))))
          simp only [vz, tyf, b269, e237, e238, e239, e240, e241, e242, e243, e244, e245, e246, e247, nm, seval]
          refine ktree0 zak ?_
          try simp only [vz, tyf, b269, e237, e238, e239, e240, e241, e242, e243, e244, e245, e246, e247, nm, seval]
          obtain rfl := kF _ h
          exact zab Tryz.results8 rfl
         simp only [d266, hs] at h
         simp only [vz, tyf, b255, e237, e238, e239, e240, e241, e242, e243, e244, e245, e246, e247, d256, d260, d264, d265, d266, nm, seval]
         refine ktree0 zak ?_
         try simp only [vz, tyf, b255, e237, e238, e239, e240, e241, e242, e243, e244, e245, e246, e247, d256, d260, d264, d265, d266, nm, seval]
         obtain rfl := kF _ h
         exact zab Tryz.results8 rfl
        simp only [d265, hs] at h
        simp only [vz, tyf, b255, e237, e238, e239, e240, e241, e242, e243, e244, e245, e246, e247, d256, d260, d264, d265, nm, seval]
        refine ktree0 zak ?_
        try simp only [vz, tyf, b255, e237, e238, e239, e240, e241, e242, e243, e244, e245, e246, e247, d256, d260, d264, d265, nm, seval]
        obtain rfl := kF _ h
        exact zab Tryz.results8 rfl
       simp only [d250, hs] at h
       try simp only [vz, tyf, b188, e237, e238, e239, e240, e241, e242, e243, e244, e245, e246, e247, d248, d249, d250, nm, seval]
       obtain rfl := kF _ h
       exact zab Tryz.results8 rfl
      simp only [d249, hs] at h
      try simp only [vz, tyf, b188, e237, e238, e239, e240, e241, e242, e243, e244, e245, e246, e247, d248, d249, nm, seval]
      obtain rfl := kF _ h
      exact zab Tryz.results8 rfl
     simp only [d248, hs] at h
     try simp only [vz, tyf, b188, e237, e238, e239, e240, e241, e242, e243, e244, e245, e246, e247, d248, nm, seval]
     obtain rfl := kF _ h
     exact zab Tryz.results8 rfl
    | cons e60 p60 =>
     have d270 : (decide (c60_10 < (List.length x1_a1 : Int))) = true := zbr hi60 hp60
     have o272 := zal hi60 hp60
     have w271 := zcf hi60 hp60 g61
     simp only [zcb, hs, reduceCtorEq] at h
     simp only [vz, tyf, d22, d31, d32, d41, d59, g61, n70, e64, e65, e66, e67, e68, e69, H62, H63, d270, (ix29 o272), w271, nm, seval]
     refine zbw (fun tm => tm 1 = .sl (cellsL eI x1_a1) (List.length x1_a1) false ∧ tm 2 = .sl (cellsL eI x2_a2) (List.length x2_a2) false ∧ tm 4 = .ptr 0 0 ∧ tm 7 = .ptr 1 0 ∧ tm 9 = .lit (.slice none 0 0) ∧ tm 10 = .lit (.int .i64 c60_10) ∧ True) (by refine ⟨e64, e65, e66, e67, e68, e69, trivial⟩ <;> first | (simp only [ua, d22, d31, d32, d41, d59, n70, e64, e65, e66, e67, e68, e69, H62, H63, d270, w271, nm, seval] <;> rfl) | rfl) ?_
     rintro tm ⟨e273, e274, e275, e276, e277, e278, _⟩
     have b279 := And.intro d22 (And.intro d31 (And.intro d32 (And.intro d41 (And.intro d59 (And.intro g61 (And.intro n70 (And.intro H62 (And.intro H63 (And.intro d270 w271)))))))))
     obtain ⟨x280, o281, h⟩ := optI h kN60
     try simp only [hs] at h
     cases g282 : (roomOk 8 (List.length (([] : List Int) ++ [IntKind.i64.wrap (e60 + x280)])))
     ·simp only [g282, hs] at h
      exact absurd h kN60
     simp only [g282, hs] at h
     simp only [vz, tyf, b279, (ix29 o272), e273, e274, e275, e276, e277, e278, (ix29 o281), g282, nm, seval]
     refine zxd (w := 1) (enc := eI) (ys := ([IntKind.i64.wrap (e60 + x280)])) (el2 := (some 3)) (fun _ => rfl) lf29 ao29 Tryz.underlying29 (by first | rfl | assumption | (simp only [zaa, zac, et29, b279, nm, seval] <;> rfl) | (simp only [zaa, zac, zci, zbu, zjb, zgn, tyf, b279, (ix29 o272), e273, e274, e275, e276, e277, e278, (ix29 o281), g282, nm, seval]; done)) (Nat.zero_lt_succ _) g282 ?_
     simp only [vz, tyf, b279, (ix29 o272), e273, e274, e275, e276, e277, e278, (ix29 o281), g282, nm, seval]
     refine zbl ⟨?_, ?_⟩
     ·simp only [zas, zaz, zad, zbz, and_true, true_and]
      repeat' (first | exact trivial | refine And.intro ?_ ?_ | rw [zad] | rw [zbk] | exact Or.inl (by decide +kernel) | exact Or.inl (by dsimp only; decide +kernel) | (refine Or.inr ⟨?_, ?_⟩ <;> simp; done) | (refine Or.inr ⟨?_, ?_⟩ <;> simp <;> omega) | (refine Or.inr ⟨?_, ?_⟩ <;> simp [VEff.wr] <;> omega))
     simp only [vz, tyf, b279, (ix29 o272), e273, e274, e275, e276, e277, e278, (ix29 o281), g282, nm, seval]
     exact ⟨List.length p60, Nat.lt_succ_self _, by rw [hI60]; refine ⟨p60, c60_10 + 1, (([] : List Int) ++ [IntKind.i64.wrap (e60 + x280)]), .ref (nx60 + 15) 0 (List.length (([] : List Int) ++ [IntKind.i64.wrap (e60 + x280)])) 1 (List.length (([] : List Int) ++ [IntKind.i64.wrap (e60 + x280)])), rfl, Int.le_trans hi60 (Int.le_add_one (Int.le_refl _)), zbe hi60 hp60, rfl, (show 35 ≤ nx60 + 20 by omega), ?_, ?_, e273, e274, e275, e276, ?_, ?_, Or.inl ⟨nx60 + 15, (some 3), rfl, (by first | omega | (simp only [nm, seval]; omega)), (by first | omega | (intro hh; simp only [b279, reduceCtorEq] at hh)), (by first | omega | (intro hh; simp only [b279, reduceCtorEq] at hh)), ?_⟩, h⟩ <;> first | (simp only [ua, b279, e273, e274, e275, e276, e277, e278, nm, seval] <;> rfl) | rfl⟩
  simp only [d59, hs] at h
  simp only [vz, tyf, d22, d31, d32, d41, e52, e53, e54, e55, e56, e57, e58, d59, nm, seval]
  refine ktree0 zak ?_
  try simp only [vz, tyf, d22, d31, d32, d41, e52, e53, e54, e55, e56, e57, e58, d59, nm, seval]
  obtain rfl := kF _ h
  exact zab Tryz.results8 rfl
 simp only [d32, hs] at h
 simp only [vz, tyf, d22, e25, e26, e27, e28, e29, e30, d31, d32, nm, seval]
 refine ktree0 zak ?_
 try simp only [vz, tyf, d22, e25, e26, e27, e28, e29, e30, d31, d32, nm, seval]
 obtain rfl := kF _ h
 exact zab Tryz.results8 rfl
end Go.V
end
section
namespace Go.V
open Go
def addL : List Int → List Int → List Int
 | a :: l, b :: m => (a + b) :: addL l m
 | _, _ => []
theorem zadu : ∀ {l m : List Int}, l.length = m.length → (addL l m).length = l.length
 | [], [], _ => rfl
 | a :: l, b :: m, h => by simp only [addL, List.length_cons]; rw [zadu (by simpa using h)]
 | [], _ :: _, h => by simp at h
 | _ :: _, [], h => by simp at h
theorem zsf : ∀ {l m : List Int}, l.length = m.length → sumL (addL l m) = sumL l + sumL m
 | [], [], _ => rfl
 | a :: l, b :: m, h => by
  simp only [addL, sumL]
  rw [zsf (by simpa using h)]
  omega
 | [], _ :: _, h => by simp at h
 | _ :: _, [], h => by simp at h
theorem zsa {α : Type} (f : α → Int) : ∀ {l m : List Int} (ts : List α), l.length = m.length → dot f (addL l m) ts = dot f l ts + dot f m ts
 | [], [], ts, _ => by simp [addL, dot]
 | a :: l, b :: m, [], h => by simp [addL, dot]
 | a :: l, b :: m, t :: ts, h => by
  simp only [addL, dot]
  rw [zsa f ts (by simpa using h), Int.add_mul]
  omega
 | [], _ :: _, _, h => by simp at h
 | _ :: _, [], _, h => by simp at h
theorem zakm : ∀ {l m : List Int}, (∀ e ∈ l, 0 ≤ e ∧ e ≤ 8) → (∀ e ∈ m, 0 ≤ e ∧ e ≤ 8) → ∀ e ∈ addL l m, 0 ≤ e
 | [], _, _, _, e, he => by simp [addL] at he
 | _ :: _, [], _, _, e, he => by simp [addL] at he
 | a :: l, b :: m, h1, h2, e, he => by
  simp only [addL, List.mem_cons] at he
  have := h1 a (List.mem_cons_self ..)
  have := h2 b (List.mem_cons_self ..)
  rcases he with rfl | he
  ·omega
  ·exact zakm (fun x hx => h1 x (List.mem_cons_of_mem _ hx)) (fun x hx => h2 x (List.mem_cons_of_mem _ hx)) e he
theorem zajx : ∀ {l : List Int}, (∀ e ∈ l, 0 ≤ e) → 0 ≤ sumL l ∧ ∀ e ∈ l, e ≤ sumL l
 | [], _ => ⟨Int.le_refl _, fun e he => by cases he⟩
 | a :: l, h => by
  have h1 := h a (List.mem_cons_self ..)
  have ih := zajx fun x hx => h x (List.mem_cons_of_mem _ hx)
  refine ⟨by simp only [sumL]; omega, fun e he => ?_⟩
  simp only [sumL]
  rcases List.mem_cons.1 he with rfl | he
  ·omega
  ·have := ih.2 e he
   omega
theorem zapb {s : Gs} {l m : List Int} (h1 : MixOk s l) (h2 : MixOk s m) (h : sumL l + sumL m ≤ 8) : MixOk s (addL l m) := by
 have hl : l.length = m.length := by rw [h1.n, h2.n]
 have hs := zsf hl
 have hnn := zakm h1.b h2.b
 have hle := zajx hnn
 refine ⟨by rw [zadu hl, h1.n], fun e he => ⟨hnn e he, ?_⟩, ?_⟩
 ·have := hle.2 e he
  omega
 ·have := h1.s
  have := h2.s
  omega
theorem zakw (other : List Int) : ∀ (p q : List Int) (c : Int) (acc : List Int), 0 ≤ c → List.drop c.toNat other = q → p.length = q.length → (∀ e ∈ p, 0 ≤ e ∧ e ≤ 8) → (∀ e ∈ q, 0 ≤ e ∧ e ≤ 8) → acc.length + p.length ≤ 1000 → zcb other p c acc = some (.go (acc ++ addL p q))
 | [], [], c, acc, _, _, _, _, _, _ => by simp [zcb, addL]
 | a :: p, b :: q, c, acc, h0, hd, hl, h1, h2, hn => by
  have g1 := h1 a (List.mem_cons_self ..)
  have g2 := h2 b (List.mem_cons_self ..)
  simp only [List.length_cons] at hn
  have hr : roomOk 8 (List.length (acc ++ [a + b])) = true := by
   unfold roomOk
   simp only [List.length_append, List.length_cons, List.length_nil, decide_eq_true_eq]
   omega
  simp only [zcb, zal h0 hd, Option.bind_some]
  rw [zdg (by omega) (by omega), hr, cond_true, zakw other p q (c + 1) _ (by omega) (zbe h0 hd) (by simpa using hl) (fun x hx => h1 x (List.mem_cons_of_mem _ hx)) (fun x hx => h2 x (List.mem_cons_of_mem _ hx)) (by simp only [List.length_append, List.length_cons, List.length_nil]; omega)]
  simp [addL]
 | [], _ :: _, _, _, _, _, hl, _, _, _ => by simp at hl
 | _ :: _, [], _, _, _, _, hl, _, _, _ => by simp at hl
theorem zagh {s : Gs} (h : lenOk s.Tins = true) {mix : List Int} (hs : ShOk s) (hm : MixOk s mix) : zgh s mix = some (wordI s mix, true) := by
 unfold zgh
 rw [zakr h, hs.ok, hm.ok]
 simp only [Bool.and_self, cond_true, Option.bind_some, beq_self_eq_true]
 unfold wordI
 cases surelyB s mix <;> cases (yearsL s mix).isEmpty <;> rfl
theorem zail {s : Gs} {l m : List Int} (hl : l.length = m.length) {t : Gu} (h1 : trueB s l t = true) (h2 : trueB s m t = true) : trueB s (addL l m) t = true := by
 rw [zoc] at *
 intro p
 have a := h1 p
 have b := h2 p
 unfold sumT at *
 rw [zsa _ _ hl, zsf hl, Int.add_mul, Int.mul_add]
 unfold absI at *
 split at a <;> split at b <;> split <;> omega
theorem zaak {s : Gs} (hs : ShOk s) {l m : List Int} (hl : l.length = m.length) (g1 : MixOk s l) (g2 : MixOk s m) (g3 : MixOk s (addL l m)) (h1 : surelyB s l = true) (h2 : surelyB s m = true) : surelyB s (addL l m) = true := by
 rw [zit hs g1] at h1
 rw [zit hs g2] at h2
 rw [zit hs g3]
 intro p
 have a := h1 p
 have b := h2 p
 unfold mostI sumsP at *
 simp only at *
 rw [zsa _ _ hl, zsa _ _ hl, zsf hl, Int.add_mul, Int.add_mul, Int.mul_add]
 split at a <;> split at b <;> split <;> omega
theorem ne3 (s : Gs) (mix : List Int) : (wordI s mix != 3) = !surelyB s mix := by
 unfold wordI
 cases surelyB s mix <;> cases (yearsL s mix).isEmpty <;> rfl
theorem eq3 (s : Gs) (mix : List Int) : (wordI s mix == 3) = surelyB s mix := by
 unfold wordI
 cases surelyB s mix <;> cases (yearsL s mix).isEmpty <;> rfl
theorem zts (s : Gs) (one other : List Int) (t : Gu) (h : lenOk s.Tins = true) (h1 : lenOk one = true) (h2 : lenOk other = true) (ht : lenOk t.Tins = true) : zgp s one other t = some true := by
 unfold zgp
 obtain ⟨b1, hb1, hbo1⟩ := zwz h h1
 obtain ⟨b2, hb2, hbo2⟩ := zwz h h2
 rw [hb1, hb2]
 cases b1 with
 | false => rfl
 | true =>
 cases b2 with
 | false => rfl
 | true =>
 obtain ⟨hs, m1⟩ := hbo1 rfl
 obtain ⟨_, m2⟩ := hbo2 rfl
 have hn := hs.n
 have n1 := m1.n
 have n2 := m2.n
 have hl : one.length = other.length := by rw [n1, n2]
 cases decide ((List.length t.Tins : Int) > 6) with
 | true => rfl
 | false =>
 simp only [Option.bind_some, cond_true, cond_false, zajd s ht]
 cases hy : truthB s t with
 | false => rfl
 | true =>
 have s1 := m1.s
 have s2 := m2.s
 simp only [cond_true, zsj m1.b (show one.length ≤ 1000 by omega), zsj m2.b (show other.length ≤ 1000 by omega), Option.bind_some]
 rw [zdg (by omega) (by omega)]
 by_cases h8 : sumL one + sumL other ≤ 8
 ·have m3 := zapb m1 m2 h8
  rw [decide_eq_false (by show ¬ sumL one + sumL other > 8; omega), h1, zakw other one other 0 [] (Int.le_refl _) rfl hl m1.b m2.b (by simp only [List.length_nil]; omega)]
  simp only [cond_true, cond_false, lbind, List.nil_append, ztm h one ht, ztm h other ht, ztm h (addL one other) ht, hs.ok, m1.ok, m2.ok, m3.ok, hy, Bool.and_self, Option.bind_some, zagh h hs m1, zagh h hs m2, zagh h hs m3, bne_self_eq_false, ne3, eq3]
  have k1 := @zail s one other hl t
  have k2 := zaak hs hl m1 m2 m3
  revert k1 k2
  cases trueB s one t <;> cases trueB s other t <;> cases trueB s (addL one other) t <;> cases surelyB s one <;> cases surelyB s other <;> cases surelyB s (addL one other) <;> simp
 ·rw [decide_eq_true (by show sumL one + sumL other > 8; omega)]
  rfl
end Go.V
end
