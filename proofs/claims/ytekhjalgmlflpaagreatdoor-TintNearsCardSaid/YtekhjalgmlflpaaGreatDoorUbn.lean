/- Part of a proof. -/
import Derived.Test.YtekhjalgmlflpaaGreatDoorUbm
set_option linter.all false
set_option maxRecDepth 4000
set_option maxHeartbeats 40000000
section
namespace Go.V
open Go Go.Proofs
def zer (x0_s : Gs) : Option (Bool) := Option.bind (zgx x0_s) (fun r1 => cond (r1) (Option.bind (zga x0_s) (fun r2 => Option.bind (zfr x0_s) (fun r3 => cond (r3) (Option.bind (zgm x0_s) (fun r4 => cond (r2.2.2 == 0) (Option.bind (zgg r2.1 r4.1) (fun r5 => cond (r5) (cond (r2.2.1 == r4.2) (some true) (some false)) (some false))) (some false))) (cond (r2.2.2 == 2) (cond ((List.length r2.1 : Int) == 0) (cond (r2.2.1 == 0) (some true) (some false)) (some false)) (some false))))) (some true))
theorem zjz (x0_s : Gs) (R : Bool) (h : zer x0_s = some R) : VPure Tryz.prog G0 13 [.agg (cGs x0_s)] (.tree (.lit (.bool R))) := by
 refine VPure.runR mixed Tryz.call13 Tryz.func13 rfl (by simp [Tryz.ntmps13]; kernel_rfl) ?_
 obtain ⟨KF, h, kF, kN⟩ := zam h
 simp only [zer] at h
 obtain ⟨r6, o7, h⟩ := optI h kN
 try simp only [hs] at h
 simp only [vz, tyf, nm, seval]
 refine ktA (znm _ _ o7) ?_
 refine zae (fun tm => tm 1 = .ptr 0 0 ∧ tm 9 = .lit (.bool r6) ∧ True) (by refine ⟨?_, ?_, trivial⟩ <;> first | (simp only [ua, nm, seval] <;> rfl) | rfl) ?_
 rintro tm ⟨e8, e9, _⟩
 cases d10 : (r6)
 ·simp only [d10, hs] at h
  simp only [vz, tyf, e8, e9, d10, nm, seval]
  refine ktree0 zgf ?_
  try simp only [vz, tyf, e8, e9, d10, nm, seval]
  obtain rfl := kF _ h
  exact zan Tryz.results13 rfl
 simp only [d10, hs] at h
 obtain ⟨r11, o12, h⟩ := optI h kN
 try simp only [hs] at h
 simp only [vz, tyf, e8, e9, d10, nm, seval]
 refine ktA (zlc _ _ o12) ?_
 refine zae (fun tm => tm 1 = .ptr 0 0 ∧ tm 14 = .tup [.sl (cellsL eI r11.1) (List.length r11.1) false, .lit (.int .i64 r11.2.1), .lit (.int .i64 r11.2.2)] ∧ True) (by refine ⟨e8, ?_, trivial⟩ <;> first | (simp only [ua, e8, e9, d10, nm, seval] <;> rfl) | rfl) ?_
 rintro tm ⟨e13, e14, _⟩
 obtain ⟨r15, o16, h⟩ := optI h kN
 try simp only [hs] at h
 simp only [vz, tyf, d10, e13, e14, nm, seval]
 refine ktA (znt _ _ o16) ?_
 refine zae (fun tm => tm 1 = .ptr 0 0 ∧ tm 3 = .sl (cellsL eI r11.1) (List.length r11.1) false ∧ tm 4 = .lit (.int .i64 r11.2.1) ∧ tm 5 = .lit (.int .i64 r11.2.2) ∧ tm 19 = .lit (.bool r15) ∧ True) (by refine ⟨e13, ?_, ?_, ?_, ?_, trivial⟩ <;> first | (simp only [ua, d10, e13, e14, nm, seval] <;> rfl) | rfl) ?_
 rintro tm ⟨e17, e18, e19, e20, e21, _⟩
 cases d22 : (r15)
 ·simp only [d22, hs] at h
  cases d23 : (r11.2.2 == 2)
  ·simp only [d23, hs] at h
   try simp only [vz, tyf, d10, e17, e18, e19, e20, e21, d22, d23, nm, seval]
   obtain rfl := kF _ h
   exact zan Tryz.results13 rfl
  simp only [d23, hs] at h
  cases d24 : ((List.length r11.1 : Int) == 0)
  ·simp only [d24, hs] at h
   try simp only [vz, tyf, d10, e17, e18, e19, e20, e21, d22, d23, d24, nm, seval]
   obtain rfl := kF _ h
   exact zan Tryz.results13 rfl
  simp only [d24, hs] at h
  cases d25 : (r11.2.1 == 0)
  ·simp only [d25, hs] at h
   try simp only [vz, tyf, d10, e17, e18, e19, e20, e21, d22, d23, d24, d25, nm, seval]
   obtain rfl := kF _ h
   exact zan Tryz.results13 rfl
  simp only [d25, hs] at h
  simp only [vz, tyf, d10, e17, e18, e19, e20, e21, d22, d23, d24, d25, nm, seval]
  refine ktree0 zgf ?_
  try simp only [vz, tyf, d10, e17, e18, e19, e20, e21, d22, d23, d24, d25, nm, seval]
  obtain rfl := kF _ h
  exact zan Tryz.results13 rfl
 simp only [d22, hs] at h
 obtain ⟨r26, o27, h⟩ := optI h kN
 try simp only [hs] at h
 simp only [vz, tyf, d10, e17, e18, e19, e20, e21, d22, nm, seval]
 refine ktA (zos _ _ o27) ?_
 refine zae (fun tm => tm 3 = .sl (cellsL eI r11.1) (List.length r11.1) false ∧ tm 4 = .lit (.int .i64 r11.2.1) ∧ tm 5 = .lit (.int .i64 r11.2.2) ∧ tm 37 = .tup [.sl (cellsL eI r26.1) (List.length r26.1) false, .lit (.int .i64 r26.2)] ∧ True) (by refine ⟨e18, e19, e20, ?_, trivial⟩ <;> first | (simp only [ua, d10, e17, e18, e19, e20, e21, d22, nm, seval] <;> rfl) | rfl) ?_
 rintro tm ⟨e28, e29, e30, e31, _⟩
 cases d32 : (r11.2.2 == 0)
 ·simp only [d32, hs] at h
  try simp only [vz, tyf, d10, d22, e28, e29, e30, e31, d32, nm, seval]
  obtain rfl := kF _ h
  exact zan Tryz.results13 rfl
 simp only [d32, hs] at h
 obtain ⟨r33, o34, h⟩ := optI h kN
 try simp only [hs] at h
 simp only [vz, tyf, d10, d22, e28, e29, e30, e31, d32, nm, seval]
 refine ktA (zor _ _ _ o34) ?_
 refine zae (fun tm => tm 4 = .lit (.int .i64 r11.2.1) ∧ tm 7 = .lit (.int .i64 r26.2) ∧ tm 42 = .lit (.bool true) ∧ tm 45 = .lit (.bool r33) ∧ True) (by refine ⟨e29, ?_, ?_, ?_, trivial⟩ <;> first | (simp only [ua, d10, d22, e28, e29, e30, e31, d32, nm, seval] <;> rfl) | rfl) ?_
 rintro tm ⟨e35, e36, e37, e38, _⟩
 cases d39 : (r33)
 ·simp only [d39, hs] at h
  try simp only [vz, tyf, d10, d22, d32, e35, e36, e37, e38, d39, nm, seval]
  obtain rfl := kF _ h
  exact zan Tryz.results13 rfl
 simp only [d39, hs] at h
 cases d40 : (r11.2.1 == r26.2)
 ·simp only [d40, hs] at h
  try simp only [vz, tyf, d10, d22, d32, e35, e36, e37, e38, d39, d40, nm, seval]
  obtain rfl := kF _ h
  exact zan Tryz.results13 rfl
 simp only [d40, hs] at h
 simp only [vz, tyf, d10, d22, d32, e35, e36, e37, e38, d39, d40, nm, seval]
 refine ktree0 zgf ?_
 try simp only [vz, tyf, d10, d22, d32, e35, e36, e37, e38, d39, d40, nm, seval]
 obtain rfl := kF _ h
 exact zan Tryz.results13 rfl
end Go.V
end
section
namespace Go.V
open Go
theorem zqt (s : Gs) (h : lenOk s.Tins = true) : zer s = some true := by
 unfold zer
 rw [show zgx s = some (decide ((List.length s.Tins : Int) ≤ 6)) from rfl, zapi h, zahh h]
 cases decide ((List.length s.Tins : Int) ≤ 6) with
 | false => rfl
 | true =>
 simp only [Option.bind_some, cond_true]
 cases hb : sheetB s with
 | false => rfl
 | true =>
  have hs := ShOk.of hb
  simp only [cond_true, zajz hs, Option.bind_some, zafr ((zvo hs).lenOk hs), beq_self_eq_true]
end Go.V
end
