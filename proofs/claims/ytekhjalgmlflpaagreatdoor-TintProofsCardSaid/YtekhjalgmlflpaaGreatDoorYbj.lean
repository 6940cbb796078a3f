/- Part of a proof. -/
import Derived.Test.YtekhjalgmlflpaaGreatDoorYbi
set_option linter.all false
set_option maxRecDepth 4000
set_option maxHeartbeats 40000000
section
namespace Go.V
open Go Go.Proofs
def zdd (x0_w : Gi) (x1_c : Ga) : Nat → Int → Int → Option (LOut (Int) (Int))
 | 0, c0_6, c0_5 => some (.go c0_5)
 | k0 + 1, c0_6, c0_5 => cond (c0_6 == 0) (zdd x0_w x1_c k0 (c0_6 + 1) (IntKind.i64.wrap (c0_5 + (if (IntKind.i64.wrap (x0_w.a0 * x1_c.a0.Low)) < (IntKind.i64.wrap (x0_w.a0 * x1_c.a0.High)) then (IntKind.i64.wrap (x0_w.a0 * x1_c.a0.High)) else (IntKind.i64.wrap (x0_w.a0 * x1_c.a0.Low)))))) (cond (c0_6 == 1) (zdd x0_w x1_c k0 (c0_6 + 1) (IntKind.i64.wrap (c0_5 + (if (IntKind.i64.wrap (x0_w.a1 * x1_c.a1.Low)) < (IntKind.i64.wrap (x0_w.a1 * x1_c.a1.High)) then (IntKind.i64.wrap (x0_w.a1 * x1_c.a1.High)) else (IntKind.i64.wrap (x0_w.a1 * x1_c.a1.Low)))))) (cond (c0_6 == 2) (zdd x0_w x1_c k0 (c0_6 + 1) (IntKind.i64.wrap (c0_5 + (if (IntKind.i64.wrap (x0_w.a2 * x1_c.a2.Low)) < (IntKind.i64.wrap (x0_w.a2 * x1_c.a2.High)) then (IntKind.i64.wrap (x0_w.a2 * x1_c.a2.High)) else (IntKind.i64.wrap (x0_w.a2 * x1_c.a2.Low)))))) (none)))
def zgg (x0_w : Gi) (x1_c : Ga) : Option (Int) := cond (boundOk 3) (lbind (zdd x0_w x1_c (Int.toNat (3 - 0)) 0 0) (fun r2 => some r2) (fun c1 => some c1) (fun _ _ => none)) none
theorem zmk (x0_w : Gi) (x1_c : Ga) (R : Int) (h : zgg x0_w x1_c = some R) : VPure Tryz.prog G0 74 [.agg (cGi x0_w), .agg (cGa x1_c)] (.tree (.lit (.int .i64 R))) := by
 refine VPure.runR mixed Tryz.call74 Tryz.func74 rfl (by simp [Tryz.ntmps74]; kernel_rfl) ?_
 obtain ⟨KF, h, kF, kN⟩ := zan h
 simp only [zgg] at h
 cases g4 : (boundOk 3)
 ·simp only [g4, hs] at h
  exact absurd h kN
 simp only [g4, hs] at h
 simp only [vz, tyf, g4, nm, seval]
 obtain ⟨K3, h, kR3, kG3, kB3, kN3⟩ := zax h kN
 obtain ⟨f3, hf3, h⟩ := call3 h
 obtain ⟨I3, hI3⟩ : ∃ I : Nat → St → Prop, I = (fun m st => ∃ (p3 : Nat) (c3_6 : Int) (c3_5 : Int), p3 = m ∧ loOk c3_6 = true ∧ Int.toNat (3 - c3_6) = p3 ∧ st.df = [] ∧ 5 ≤ st.nx ∧ st.H 0 = some (.cells (some 22) (cGi x0_w)) ∧ st.H 1 = some (.cells (some 25) (cGa x1_c)) ∧ st.tm 2 = .ptr 0 0 ∧ st.tm 3 = .ptr 1 0 ∧ st.tm 5 = .lit (.int .i64 c3_5) ∧ st.tm 6 = .lit (.int .i64 c3_6) ∧ K3 (f3 p3 c3_6 c3_5)) := ⟨_, rfl⟩
 refine loopK mixed (by kernel_rfl) I3 (Int.toNat (3 - 0)) (by rw [hI3]; refine ⟨Int.toNat (3 - 0), 0, 0, rfl, (by rfl), rfl, rfl, (show 5 ≤ 5 by omega), ?_, ?_, ?_, ?_, ?_, ?_, h⟩ <;> first | (simp only [ua, nm, seval] <;> rfl) | rfl) ?_
 rintro m ⟨tm, H, nx3, df⟩ hinv
 rw [hI3] at hinv
 obtain ⟨p3, c3_6, c3_5, rfl, hi3, hp3, hdf, hn3, H5, H6, e7, e8, e9, e10, h⟩ := hinv
 simp only at hdf hn3 H5 H6 e7 e8 e9 e10
 have n11 := zct (m := 5) (b := nx3) (by omega)
 subst hdf hf3
 cases p3 with
 | zero =>
  have d12 : (decide (c3_6 < 3)) = false := zhx hp3
  simp only [zdd, hs, reduceCtorEq] at h
  replace h := kG3 _ h
  try dsimp only at h
  try simp only [hs] at h
  try simp only [vz, tyf, g4, n11, e7, e8, e9, e10, H5, H6, d12, nm, seval]
  refine zap (x := (.lit (.int .i64 c3_5))) (by first | (simp only [Tryz.results74, resV, resL, resV1, zat, zbq, uw, cr, tyf, g4, n11, H5, H6, d12, nm, seval] <;> rfl) | rfl) ?_
  obtain rfl := kF _ h
  refine zas ?_ ?_
  ·simp only [tre, tytre, Bool.and_self]
  ·first | (simp only [outV, uw, zah, cr, tyf, nrm, tynrm, g4, n11, e7, e8, e9, e10, H5, H6, d12, nm, seval] <;> rfl) | rfl
 | succ p3 =>
  have d13 : (decide (c3_6 < 3)) = true := zabl hp3
  have w14 := zmo hi3 hp3 g4
  simp only [zdd, hs, reduceCtorEq] at h
  simp only [vz, tyf, g4, n11, e7, e8, e9, e10, H5, H6, d13, w14, nm, seval]
  refine zds (fun tm => tm 2 = .ptr 0 0 ∧ tm 3 = .ptr 1 0 ∧ tm 5 = .lit (.int .i64 c3_5) ∧ tm 6 = .lit (.int .i64 c3_6) ∧ True) (by refine ⟨e7, e8, e9, e10, trivial⟩ <;> first | (simp only [ua, n11, e7, e8, e9, e10, H5, H6, d13, w14, nm, seval] <;> rfl) | rfl) ?_
  rintro tm ⟨e15, e16, e17, e18, _⟩
  cases d19 : (c3_6 == 0)
  ·simp only [d19, hs] at h
   have b20 := And.intro g4 (And.intro n11 (And.intro H5 (And.intro H6 (And.intro d13 (And.intro w14 d19)))))
   cases d21 : (c3_6 == 1)
   ·simp only [d21, hs] at h
    cases d22 : (c3_6 == 2)
    ·simp only [d22, hs] at h
     exact absurd h kN3
    simp only [d22, hs] at h
    simp only [vz, tyf, b20, e15, e16, e17, e18, d21, d22, (zhs d22), (zjz d22), nm, seval]
    exact ⟨p3, Nat.lt_succ_self _, by rw [hI3]; refine ⟨p3, c3_6 + 1, IntKind.i64.wrap (c3_5 + (if (IntKind.i64.wrap (x0_w.a2 * x1_c.a2.Low)) < (IntKind.i64.wrap (x0_w.a2 * x1_c.a2.High)) then (IntKind.i64.wrap (x0_w.a2 * x1_c.a2.High)) else (IntKind.i64.wrap (x0_w.a2 * x1_c.a2.Low)))), rfl, zjp hi3, zep hp3, rfl, (show 5 ≤ nx3 + 25 by omega), ?_, ?_, e15, e16, ?_, ?_, h⟩ <;> first | (simp only [ua, b20, e15, e16, e17, e18, d21, d22, nm, seval] <;> rfl) | rfl⟩
   simp only [d21, hs] at h
   simp only [vz, tyf, b20, e15, e16, e17, e18, d21, (zht d21), (zjy d21), nm, seval]
   exact ⟨p3, Nat.lt_succ_self _, by rw [hI3]; refine ⟨p3, c3_6 + 1, IntKind.i64.wrap (c3_5 + (if (IntKind.i64.wrap (x0_w.a1 * x1_c.a1.Low)) < (IntKind.i64.wrap (x0_w.a1 * x1_c.a1.High)) then (IntKind.i64.wrap (x0_w.a1 * x1_c.a1.High)) else (IntKind.i64.wrap (x0_w.a1 * x1_c.a1.Low)))), rfl, zjp hi3, zep hp3, rfl, (show 5 ≤ nx3 + 25 by omega), ?_, ?_, e15, e16, ?_, ?_, h⟩ <;> first | (simp only [ua, b20, e15, e16, e17, e18, d21, nm, seval] <;> rfl) | rfl⟩
  simp only [d19, hs] at h
  have b23 := And.intro g4 (And.intro n11 (And.intro H5 (And.intro H6 (And.intro d13 (And.intro w14 d19)))))
  simp only [vz, tyf, b23, e15, e16, e17, e18, (zhu d19), (zjw d19), nm, seval]
  exact ⟨p3, Nat.lt_succ_self _, by rw [hI3]; refine ⟨p3, c3_6 + 1, IntKind.i64.wrap (c3_5 + (if (IntKind.i64.wrap (x0_w.a0 * x1_c.a0.Low)) < (IntKind.i64.wrap (x0_w.a0 * x1_c.a0.High)) then (IntKind.i64.wrap (x0_w.a0 * x1_c.a0.High)) else (IntKind.i64.wrap (x0_w.a0 * x1_c.a0.Low)))), rfl, zjp hi3, zep hp3, rfl, (show 5 ≤ nx3 + 25 by omega), ?_, ?_, e15, e16, ?_, ?_, h⟩ <;> first | (simp only [ua, b23, e15, e16, e17, e18, nm, seval] <;> rfl) | rfl⟩
def zco (x1_a1 : Gi) (c2 : Int × Int) : List Gt → Int → Option (LOut (Bool) (Unit))
 | [], c1_9 => some (.go ())
 | e1 :: p1, c1_9 => Option.bind (zgg x1_a1 e1.pg) (fun r3 => cond (decide ((IntKind.i64.wrap (r3 + c2.2)) ≥ c2.1)) (some (.ret false)) (zco x1_a1 c2 p1 (c1_9 + 1)))
def zcb (x0_s : Gs) (x1_a1 : Gi) (r1 : Ga) : Nat → Int → Int → Int → Option (LOut (Bool) (Int × Int))
 | 0, c0_8, c0_6, c0_7 => some (.go (c0_6, c0_7))
 | k0 + 1, c0_8, c0_6, c0_7 => cond (c0_8 == 0) (zcb x0_s x1_a1 r1 k0 (c0_8 + 1) (IntKind.i64.wrap (c0_6 + (if (IntKind.i64.wrap (x1_a1.a0 * r1.a0.High)) < (IntKind.i64.wrap (x1_a1.a0 * r1.a0.Low)) then (IntKind.i64.wrap (x1_a1.a0 * r1.a0.High)) else (IntKind.i64.wrap (x1_a1.a0 * r1.a0.Low))))) (IntKind.i64.wrap (c0_7 + (IntKind.i64.wrap (x0_s.Off * (if x1_a1.a0 < (IntKind.i64.wrap (-x1_a1.a0)) then (IntKind.i64.wrap (-x1_a1.a0)) else x1_a1.a0)))))) (cond (c0_8 == 1) (zcb x0_s x1_a1 r1 k0 (c0_8 + 1) (IntKind.i64.wrap (c0_6 + (if (IntKind.i64.wrap (x1_a1.a1 * r1.a1.High)) < (IntKind.i64.wrap (x1_a1.a1 * r1.a1.Low)) then (IntKind.i64.wrap (x1_a1.a1 * r1.a1.High)) else (IntKind.i64.wrap (x1_a1.a1 * r1.a1.Low))))) (IntKind.i64.wrap (c0_7 + (IntKind.i64.wrap (x0_s.Off * (if x1_a1.a1 < (IntKind.i64.wrap (-x1_a1.a1)) then (IntKind.i64.wrap (-x1_a1.a1)) else x1_a1.a1)))))) (cond (c0_8 == 2) (zcb x0_s x1_a1 r1 k0 (c0_8 + 1) (IntKind.i64.wrap (c0_6 + (if (IntKind.i64.wrap (x1_a1.a2 * r1.a2.High)) < (IntKind.i64.wrap (x1_a1.a2 * r1.a2.Low)) then (IntKind.i64.wrap (x1_a1.a2 * r1.a2.High)) else (IntKind.i64.wrap (x1_a1.a2 * r1.a2.Low))))) (IntKind.i64.wrap (c0_7 + (IntKind.i64.wrap (x0_s.Off * (if x1_a1.a2 < (IntKind.i64.wrap (-x1_a1.a2)) then (IntKind.i64.wrap (-x1_a1.a2)) else x1_a1.a2)))))) (none)))
def zex (x0_s : Gs) (x1_a1 : Gi) : Option (Bool) := Option.bind (zgx x0_s) (fun r1 => cond (boundOk 3) (lbind (zcb x0_s x1_a1 r1 (Int.toNat (3 - 0)) 0 0 0) (fun r6 => some r6) (fun c2 => cond (lenOk x0_s.Tins) (lbind (zco x1_a1 c2 x0_s.Tins 0) (fun r5 => some r5) (fun c4 => some true) (fun _ _ => none)) none) (fun _ _ => none)) none)
theorem zli (x0_s : Gs) (x1_a1 : Gi) (R : Bool) (h : zex x0_s x1_a1 = some R) : VPure Tryz.prog G0 40 [.agg (cGs x0_s), .agg (cGi x1_a1)] (.tree (.lit (.bool R))) := by
 refine VPure.runR mixed Tryz.call40 Tryz.func40 rfl (by simp [Tryz.ntmps40]; kernel_rfl) ?_
 obtain ⟨KF, h, kF, kN⟩ := zan h
 simp only [zex] at h
 obtain ⟨r7, o8, h⟩ := optI h kN
 try simp only [hs] at h
 simp only [vz, qr, tyf, nm, seval]
 refine ktA (zpu _ _ o8) ?_
 refine zaf (fun tm => tm 2 = .ptr 0 0 ∧ tm 3 = .ptr 1 0 ∧ tm 11 = .agg (cGa r7) ∧ True) (by refine ⟨?_, ?_, ?_, trivial⟩ <;> first | (simp only [ua, nm, seval] <;> rfl) | rfl) ?_
 rintro tm ⟨e9, e10, e11, _⟩
 cases g13 : (boundOk 3)
 ·simp only [g13, hs] at h
  exact absurd h kN
 simp only [g13, hs] at h
 simp only [vz, qr, tyf, e9, e10, e11, g13, nm, seval]
 obtain ⟨K12, h, kR12, kG12, kB12, kN12⟩ := zax h kN
 obtain ⟨f12, hf12, h⟩ := call4 h
 obtain ⟨I12, hI12⟩ : ∃ I : Nat → St → Prop, I = (fun m st => ∃ (p12 : Nat) (c12_8 : Int) (c12_6 : Int) (c12_7 : Int), p12 = m ∧ loOk c12_8 = true ∧ Int.toNat (3 - c12_8) = p12 ∧ st.df = [] ∧ 10 ≤ st.nx ∧ st.H 0 = some (.cells (some 28) (cGs x0_s)) ∧ st.H 1 = some (.cells (some 22) (cGi x1_a1)) ∧ st.H 5 = some (.cells (some 25) (cGa r7)) ∧ st.tm 2 = .ptr 0 0 ∧ st.tm 3 = .ptr 1 0 ∧ st.tm 5 = .ptr 5 0 ∧ st.tm 6 = .lit (.int .i64 c12_6) ∧ st.tm 7 = .lit (.int .i64 c12_7) ∧ st.tm 8 = .lit (.int .i64 c12_8) ∧ K12 (f12 p12 c12_8 c12_6 c12_7)) := ⟨_, rfl⟩
 refine loopK mixed (by kernel_rfl) I12 (Int.toNat (3 - 0)) (by rw [hI12]; refine ⟨Int.toNat (3 - 0), 0, 0, 0, rfl, (by rfl), rfl, rfl, (show 10 ≤ 10 by omega), ?_, ?_, ?_, e9, e10, ?_, ?_, ?_, ?_, h⟩ <;> first | (simp only [ua, e9, e10, e11, nm, seval] <;> rfl) | rfl) ?_
 rintro m ⟨tm, H, nx12, df⟩ hinv
 rw [hI12] at hinv
 obtain ⟨p12, c12_8, c12_6, c12_7, rfl, hi12, hp12, hdf, hn12, H14, H15, H16, e17, e18, e19, e20, e21, e22, h⟩ := hinv
 simp only at hdf hn12 H14 H15 H16 e17 e18 e19 e20 e21 e22
 have n23 := zct (m := 10) (b := nx12) (by omega)
 subst hdf hf12
 cases p12 with
 | zero =>
  have d24 : (decide (c12_8 < 3)) = false := zhx hp12
  simp only [zcb, hs, reduceCtorEq] at h
  replace h := kG12 _ h
  try dsimp only at h
  try simp only [hs] at h
  cases g26 : (lenOk x0_s.Tins)
  ·simp only [g26, hs] at h
   exact absurd h kN
  simp only [g26, hs] at h
  simp only [vz, qr, tyf, g13, n23, e17, e18, e19, e20, e21, e22, H14, H15, H16, d24, g26, nm, seval]
  obtain ⟨K25, h, kR25, kG25, kB25, kN25⟩ := zax h kN
  obtain ⟨f25, hf25, h⟩ := call2 h
  obtain ⟨I25, hI25⟩ : ∃ I : Nat → St → Prop, I = (fun m st => ∃ (p25 : List Gt) (c25_9 : Int), m = List.length p25 ∧ 0 ≤ c25_9 ∧ List.drop (Int.toNat c25_9) x0_s.Tins = p25 ∧ st.df = [] ∧ nx12 + 3 ≤ st.nx ∧ st.H 0 = some (.cells (some 28) (cGs x0_s)) ∧ st.H 1 = some (.cells (some 22) (cGi x1_a1)) ∧ st.tm 2 = .ptr 0 0 ∧ st.tm 3 = .ptr 1 0 ∧ st.tm 6 = .lit (.int .i64 c12_6) ∧ st.tm 7 = .lit (.int .i64 c12_7) ∧ st.tm 9 = .lit (.int .i64 c25_9) ∧ K25 (f25 p25 c25_9)) := ⟨_, rfl⟩
  refine loopK mixed (by kernel_rfl) I25 (List.length x0_s.Tins) (by rw [hI25]; refine ⟨x0_s.Tins, 0, rfl, Int.le_refl _, rfl, rfl, (show nx12 + 3 ≤ nx12 + 3 by omega), ?_, ?_, e17, e18, e20, e21, ?_, h⟩ <;> first | (simp only [ua, n23, e17, e18, e19, e20, e21, e22, H14, H15, H16, d24, nm, seval] <;> rfl) | rfl) ?_
  rintro m ⟨tm, H, nx25, df⟩ hinv
  rw [hI25] at hinv
  obtain ⟨p25, c25_9, rfl, hi25, hp25, hdf, hn25, H27, H28, e29, e30, e31, e32, e33, h⟩ := hinv
  simp only at hdf hn25 H27 H28 e29 e30 e31 e32 e33
  have n34 := zct (m := 10) (b := nx25) (by omega)
  have n35 := znd (a := nx12) (m := 3) (b := nx25) (by omega)
  subst hdf hf25
  cases p25 with
  | nil =>
   have d36 : (decide (c25_9 < (List.length x0_s.Tins : Int))) = false := zaw hi25 hp25
   simp only [zco, hs, reduceCtorEq] at h
   replace h := kG25 _ h
   try dsimp only at h
   try simp only [hs] at h
   try simp only [vz, qr, tyf, g13, n23, d24, g26, n34, n35, e29, e30, e31, e32, e33, H27, H28, d36, nm, seval]
   obtain rfl := kF _ h
   exact zaj Tryz.results40 rfl
  | cons e25 p25 =>
   have d37 : (decide (c25_9 < (List.length x0_s.Tins : Int))) = true := zcj hi25 hp25
   have o39 := zba hi25 hp25
   have w38 := zdf hi25 hp25 g26
   simp only [zco, hs, reduceCtorEq] at h
   simp only [vz, qr, tyf, g13, n23, d24, g26, n34, n35, e29, e30, e31, e32, e33, H27, H28, d37, (ix26 o39), w38, nm, seval]
   refine zds (fun tm => tm 2 = .ptr 0 0 ∧ tm 3 = .ptr 1 0 ∧ tm 6 = .lit (.int .i64 c12_6) ∧ tm 7 = .lit (.int .i64 c12_7) ∧ tm 9 = .lit (.int .i64 c25_9) ∧ True) (by refine ⟨e29, e30, e31, e32, e33, trivial⟩ <;> first | (simp only [ua, n23, d24, n34, n35, e29, e30, e31, e32, e33, H27, H28, d37, w38, nm, seval] <;> rfl) | rfl) ?_
   rintro tm ⟨e40, e41, e42, e43, e44, _⟩
   have b45 := And.intro g13 (And.intro n23 (And.intro d24 (And.intro g26 (And.intro n34 (And.intro n35 (And.intro H27 (And.intro H28 (And.intro d37 w38))))))))
   obtain ⟨r46, o47, h⟩ := optI h kN25
   try simp only [hs] at h
   simp only [vz, qr, tyf, b45, (ix26 o39), e40, e41, e42, e43, e44, nm, seval]
   refine dktA (zmk _ _ _ o47) ?_
   refine zaf (fun tm => tm 2 = .ptr 0 0 ∧ tm 3 = .ptr 1 0 ∧ tm 6 = .lit (.int .i64 c12_6) ∧ tm 7 = .lit (.int .i64 c12_7) ∧ tm 9 = .lit (.int .i64 c25_9) ∧ tm 62 = .lit (.int .i64 r46) ∧ True) (by refine ⟨e40, e41, e42, e43, e44, ?_, trivial⟩ <;> first | (simp only [ua, b45, e40, e41, e42, e43, e44, nm, seval] <;> rfl) | rfl) ?_
   rintro tm ⟨e48, e49, e50, e51, e52, e53, _⟩
   cases d54 : (decide ((IntKind.i64.wrap (r46 + c12_7)) ≥ c12_6))
   ·simp only [d54, hs] at h
    simp only [vz, qr, tyf, b45, (ix26 o39), e48, e49, e50, e51, e52, e53, d54, nm, seval]
    exact ⟨List.length p25, Nat.lt_succ_self _, by rw [hI25]; refine ⟨p25, c25_9 + 1, rfl, Int.le_trans hi25 (Int.le_add_one (Int.le_refl _)), zbt hi25 hp25, rfl, (show nx12 + 3 ≤ nx25 + 20 by omega), ?_, ?_, e48, e49, e50, e51, ?_, h⟩ <;> first | (simp only [ua, b45, e48, e49, e50, e51, e52, e53, d54, nm, seval] <;> rfl) | rfl⟩
   simp only [d54, hs] at h
   try simp only [vz, qr, tyf, b45, (ix26 o39), e48, e49, e50, e51, e52, e53, d54, nm, seval]
   replace h := kR25 _ h
   try dsimp only at h
   obtain rfl := kF _ h
   exact zaj Tryz.results40 rfl
 | succ p12 =>
  have d55 : (decide (c12_8 < 3)) = true := zabl hp12
  have w56 := zmo hi12 hp12 g13
  simp only [zcb, hs, reduceCtorEq] at h
  simp only [vz, qr, tyf, g13, n23, e17, e18, e19, e20, e21, e22, H14, H15, H16, d55, w56, nm, seval]
  refine zds (fun tm => tm 2 = .ptr 0 0 ∧ tm 3 = .ptr 1 0 ∧ tm 5 = .ptr 5 0 ∧ tm 6 = .lit (.int .i64 c12_6) ∧ tm 7 = .lit (.int .i64 c12_7) ∧ tm 8 = .lit (.int .i64 c12_8) ∧ True) (by refine ⟨e17, e18, e19, e20, e21, e22, trivial⟩ <;> first | (simp only [ua, n23, e17, e18, e19, e20, e21, e22, H14, H15, H16, d55, w56, nm, seval] <;> rfl) | rfl) ?_
  rintro tm ⟨e57, e58, e59, e60, e61, e62, _⟩
  have b63 := And.intro g13 (And.intro n23 (And.intro H14 (And.intro H15 (And.intro H16 (And.intro d55 w56)))))
  cases d64 : (c12_8 == 0)
  ·simp only [d64, hs] at h
   cases d65 : (c12_8 == 1)
   ·simp only [d65, hs] at h
    cases d66 : (c12_8 == 2)
    ·simp only [d66, hs] at h
     exact absurd h kN12
    simp only [d66, hs] at h
    simp only [vz, qr, tyf, b63, e57, e58, e59, e60, e61, e62, d64, d65, d66, (zhs d66), (zjz d66), nm, seval]
    refine zds (fun tm => tm 2 = .ptr 0 0 ∧ tm 3 = .ptr 1 0 ∧ tm 5 = .ptr 5 0 ∧ tm 6 = .lit (.int .i64 (IntKind.i64.wrap (c12_6 + (if (IntKind.i64.wrap (x1_a1.a2 * r7.a2.High)) < (IntKind.i64.wrap (x1_a1.a2 * r7.a2.Low)) then (IntKind.i64.wrap (x1_a1.a2 * r7.a2.High)) else (IntKind.i64.wrap (x1_a1.a2 * r7.a2.Low)))))) ∧ tm 7 = .lit (.int .i64 c12_7) ∧ tm 8 = .lit (.int .i64 c12_8) ∧ True) (by refine ⟨e57, e58, e59, ?_, e61, e62, trivial⟩ <;> first | (simp only [ua, b63, e57, e58, e59, e60, e61, e62, d64, d65, d66, nm, seval] <;> rfl) | rfl) ?_
    rintro tm ⟨e67, e68, e69, e70, e71, e72, _⟩
    simp only [vz, qr, tyf, b63, d64, d65, d66, (zhs d66), (zjz d66), e67, e68, e69, e70, e71, e72, nm, seval]
    exact ⟨p12, Nat.lt_succ_self _, by rw [hI12]; refine ⟨p12, c12_8 + 1, IntKind.i64.wrap (c12_6 + (if (IntKind.i64.wrap (x1_a1.a2 * r7.a2.High)) < (IntKind.i64.wrap (x1_a1.a2 * r7.a2.Low)) then (IntKind.i64.wrap (x1_a1.a2 * r7.a2.High)) else (IntKind.i64.wrap (x1_a1.a2 * r7.a2.Low)))), IntKind.i64.wrap (c12_7 + (IntKind.i64.wrap (x0_s.Off * (if x1_a1.a2 < (IntKind.i64.wrap (-x1_a1.a2)) then (IntKind.i64.wrap (-x1_a1.a2)) else x1_a1.a2)))), rfl, zjp hi12, zep hp12, rfl, (show 10 ≤ nx12 + 39 by omega), ?_, ?_, ?_, e67, e68, e69, e70, ?_, ?_, h⟩ <;> first | (simp only [ua, b63, d64, d65, d66, e67, e68, e69, e70, e71, e72, nm, seval] <;> rfl) | rfl⟩
   simp only [d65, hs] at h
   simp only [vz, qr, tyf, b63, e57, e58, e59, e60, e61, e62, d64, d65, (zht d65), (zjy d65), nm, seval]
   refine zds (fun tm => tm 2 = .ptr 0 0 ∧ tm 3 = .ptr 1 0 ∧ tm 5 = .ptr 5 0 ∧ tm 6 = .lit (.int .i64 (IntKind.i64.wrap (c12_6 + (if (IntKind.i64.wrap (x1_a1.a1 * r7.a1.High)) < (IntKind.i64.wrap (x1_a1.a1 * r7.a1.Low)) then (IntKind.i64.wrap (x1_a1.a1 * r7.a1.High)) else (IntKind.i64.wrap (x1_a1.a1 * r7.a1.Low)))))) ∧ tm 7 = .lit (.int .i64 c12_7) ∧ tm 8 = .lit (.int .i64 c12_8) ∧ True) (by refine ⟨e57, e58, e59, ?_, e61, e62, trivial⟩ <;> first | (simp only [ua, b63, e57, e58, e59, e60, e61, e62, d64, d65, nm, seval] <;> rfl) | rfl) ?_
   rintro tm ⟨e73, e74, e75, e76, e77, e78, _⟩
   simp only [vz, qr, tyf, b63, d64, d65, (zht d65), (zjy d65), e73, e74, e75, e76, e77, e78, nm, seval]
   exact ⟨p12, Nat.lt_succ_self _, by rw [hI12]; refine ⟨p12, c12_8 + 1, IntKind.i64.wrap (c12_6 + (if (IntKind.i64.wrap (x1_a1.a1 * r7.a1.High)) < (IntKind.i64.wrap (x1_a1.a1 * r7.a1.Low)) then (IntKind.i64.wrap (x1_a1.a1 * r7.a1.High)) else (IntKind.i64.wrap (x1_a1.a1 * r7.a1.Low)))), IntKind.i64.wrap (c12_7 + (IntKind.i64.wrap (x0_s.Off * (if x1_a1.a1 < (IntKind.i64.wrap (-x1_a1.a1)) then (IntKind.i64.wrap (-x1_a1.a1)) else x1_a1.a1)))), rfl, zjp hi12, zep hp12, rfl, (show 10 ≤ nx12 + 39 by omega), ?_, ?_, ?_, e73, e74, e75, e76, ?_, ?_, h⟩ <;> first | (simp only [ua, b63, d64, d65, e73, e74, e75, e76, e77, e78, nm, seval] <;> rfl) | rfl⟩
  simp only [d64, hs] at h
  simp only [vz, qr, tyf, b63, e57, e58, e59, e60, e61, e62, d64, (zhu d64), (zjw d64), nm, seval]
  refine zds (fun tm => tm 2 = .ptr 0 0 ∧ tm 3 = .ptr 1 0 ∧ tm 5 = .ptr 5 0 ∧ tm 6 = .lit (.int .i64 (IntKind.i64.wrap (c12_6 + (if (IntKind.i64.wrap (x1_a1.a0 * r7.a0.High)) < (IntKind.i64.wrap (x1_a1.a0 * r7.a0.Low)) then (IntKind.i64.wrap (x1_a1.a0 * r7.a0.High)) else (IntKind.i64.wrap (x1_a1.a0 * r7.a0.Low)))))) ∧ tm 7 = .lit (.int .i64 c12_7) ∧ tm 8 = .lit (.int .i64 c12_8) ∧ True) (by refine ⟨e57, e58, e59, ?_, e61, e62, trivial⟩ <;> first | (simp only [ua, b63, e57, e58, e59, e60, e61, e62, d64, nm, seval] <;> rfl) | rfl) ?_
  rintro tm ⟨e79, e80, e81, e82, e83, e84, _⟩
  simp only [vz, qr, tyf, b63, d64, (zhu d64), (zjw d64), e79, e80, e81, e82, e83, e84, nm, seval]
  exact ⟨p12, Nat.lt_succ_self _, by rw [hI12]; refine ⟨p12, c12_8 + 1, IntKind.i64.wrap (c12_6 + (if (IntKind.i64.wrap (x1_a1.a0 * r7.a0.High)) < (IntKind.i64.wrap (x1_a1.a0 * r7.a0.Low)) then (IntKind.i64.wrap (x1_a1.a0 * r7.a0.High)) else (IntKind.i64.wrap (x1_a1.a0 * r7.a0.Low)))), IntKind.i64.wrap (c12_7 + (IntKind.i64.wrap (x0_s.Off * (if x1_a1.a0 < (IntKind.i64.wrap (-x1_a1.a0)) then (IntKind.i64.wrap (-x1_a1.a0)) else x1_a1.a0)))), rfl, zjp hi12, zep hp12, rfl, (show 10 ≤ nx12 + 39 by omega), ?_, ?_, ?_, e79, e80, e81, e82, ?_, ?_, h⟩ <;> first | (simp only [ua, b63, d64, e79, e80, e81, e82, e83, e84, nm, seval] <;> rfl) | rfl⟩
def zbu (x0_s : Gs) (c0_4 : Int) (c1_5 : Int) : Nat → Int → Option (LOut (Gi × Bool) (Int))
 | 0, _ => none
 | k2 + 1, c2_6 => cond (decide (c2_6 ≤ 2)) (Option.bind (zgb (Gi.mk c0_4 c1_5 c2_6)) (fun r1 => cond (r1) (Option.bind (zex x0_s (Gi.mk c0_4 c1_5 c2_6)) (fun r2 => cond (r2) (some (.ret ((Gi.mk c0_4 c1_5 c2_6), true))) (zbu x0_s c0_4 c1_5 k2 (IntKind.i64.wrap (c2_6 + 1))))) (zbu x0_s c0_4 c1_5 k2 (IntKind.i64.wrap (c2_6 + 1))))) (some (.go c2_6))
def zcm (x0_s : Gs) (c0_4 : Int) : Nat → Int → Option (LOut (Gi × Bool) (Int))
 | 0, _ => none
 | k1 + 1, c1_5 => cond (decide (c1_5 ≤ 2)) (lbind (zbu x0_s c0_4 c1_5 1000000 (-2)) (fun r4 => some (.ret r4)) (fun c3 => zcm x0_s c0_4 k1 (IntKind.i64.wrap (c1_5 + 1))) (fun _ _ => none)) (some (.go c1_5))
def zci (x0_s : Gs) : Nat → Int → Option (LOut (Gi × Bool) (Int))
 | 0, _ => none
 | k0 + 1, c0_4 => cond (decide (c0_4 ≤ 2)) (lbind (zcm x0_s c0_4 1000000 (-2)) (fun r6 => some (.ret r6)) (fun c5 => zci x0_s k0 (IntKind.i64.wrap (c0_4 + 1))) (fun _ _ => none)) (some (.go c0_4))
def zfi (x0_s : Gs) : Option (Gi × Bool) := lbind (zci x0_s 1000000 (-2)) (fun r8 => some r8) (fun c7 => some ((Gi.mk 0 0 0), false)) (fun _ _ => none)
theorem znh (x0_s : Gs) (R : Gi × Bool) (h : zfi x0_s = some R) : VPure Tryz.prog G0 38 [.agg (cGs x0_s)] (.tree (.tup [.agg (cGi R.1), .lit (.bool R.2)])) := by
 refine VPure.runR mixed Tryz.call38 Tryz.func38 rfl (by simp [Tryz.ntmps38]; kernel_rfl) ?_
 obtain ⟨KF, h, kF, kN⟩ := zan h
 simp only [zfi] at h
 simp only [vz, tyf, nm, seval]
 obtain ⟨K9, h, kR9, kG9, kB9, kN9⟩ := zax h kN
 obtain ⟨f9, hf9, h⟩ := call2 h
 obtain ⟨I9, hI9⟩ : ∃ I : Nat → St → Prop, I = (fun m st => ∃ (p9 : Nat) (c9_4 : Int), p9 = m ∧ st.df = [] ∧ 4 ≤ st.nx ∧ st.H 0 = some (.cells (some 28) (cGs x0_s)) ∧ st.H 1 = some (.cells (some 22) ([.lit (.int .i64 0)] ++ [.lit (.int .i64 0)] ++ [.lit (.int .i64 0)])) ∧ st.tm 1 = .ptr 0 0 ∧ st.tm 2 = .ptr 1 0 ∧ st.tm 4 = .lit (.int .i64 c9_4) ∧ K9 (f9 p9 c9_4)) := ⟨_, rfl⟩
 refine loopK mixed (by kernel_rfl) I9 1000000 (by rw [hI9]; refine ⟨1000000, (-2), rfl, rfl, (show 4 ≤ 4 by omega), ?_, ?_, ?_, ?_, ?_, h⟩ <;> first | (simp only [ua, nm, seval] <;> rfl) | rfl) ?_
 rintro m ⟨tm, H, nx9, df⟩ hinv
 rw [hI9] at hinv
 obtain ⟨p9, c9_4, rfl, hdf, hn9, H10, H11, e12, e13, e14, h⟩ := hinv
 simp only at hdf hn9 H10 H11 e12 e13 e14
 have n15 := zct (m := 4) (b := nx9) (by omega)
 subst hdf hf9
 cases p9 with
 | zero =>
  simp only [zci, hs, reduceCtorEq] at h
  exact absurd h kN9
 | succ p9 =>
  simp only [zci, hs, reduceCtorEq] at h
  cases d16 : (decide (c9_4 ≤ 2))
  ·simp only [d16, hs] at h
   replace h := kG9 _ h
   try dsimp only at h
   try simp only [hs] at h
   try simp only [vz, tyf, n15, e12, e13, e14, H10, H11, d16, nm, seval]
   refine zap (x := (.tup [.agg ([.lit (.int .i64 0)] ++ [.lit (.int .i64 0)] ++ [.lit (.int .i64 0)]), .lit (.bool false)])) (by first | (simp only [Tryz.results38, resV, resL, resV1, zat, zbq, uw, cr, tyf, n15, e12, e13, e14, H10, H11, d16, nm, seval] <;> rfl) | rfl) ?_
   obtain rfl := kF _ h
   refine zas ?_ ?_
   ·simp only [tre, tytre, Bool.and_self]
   ·first | (simp only [outV, uw, zah, cr, tyf, nrm, tynrm, n15, e12, e13, e14, H10, H11, d16, nm, seval] <;> rfl) | rfl
  simp only [d16, hs] at h
  simp only [vz, tyf, n15, e12, e13, e14, H10, H11, d16, nm, seval]
  obtain ⟨K17, h, kR17, kG17, kB17, kN17⟩ := zax h kN9
  obtain ⟨f17, hf17, h⟩ := call2 h
  obtain ⟨I17, hI17⟩ : ∃ I : Nat → St → Prop, I = (fun m st => ∃ (p17 : Nat) (c17_5 : Int), p17 = m ∧ st.df = [] ∧ nx9 + 3 ≤ st.nx ∧ st.H 0 = some (.cells (some 28) (cGs x0_s)) ∧ st.H 1 = some (.cells (some 22) ([.lit (.int .i64 0)] ++ [.lit (.int .i64 0)] ++ [.lit (.int .i64 0)])) ∧ st.tm 1 = .ptr 0 0 ∧ st.tm 2 = .ptr 1 0 ∧ st.tm 4 = .lit (.int .i64 c9_4) ∧ st.tm 5 = .lit (.int .i64 c17_5) ∧ K17 (f17 p17 c17_5)) := ⟨_, rfl⟩
  refine loopK mixed (by kernel_rfl) I17 1000000 (by rw [hI17]; refine ⟨1000000, (-2), rfl, rfl, (show nx9 + 3 ≤ nx9 + 3 by omega), ?_, ?_, e12, e13, e14, ?_, h⟩ <;> first | (simp only [ua, n15, e12, e13, e14, H10, H11, d16, nm, seval] <;> rfl) | rfl) ?_
  rintro m ⟨tm, H, nx17, df⟩ hinv
  rw [hI17] at hinv
  obtain ⟨p17, c17_5, rfl, hdf, hn17, H18, H19, e20, e21, e22, e23, h⟩ := hinv
  simp only at hdf hn17 H18 H19 e20 e21 e22 e23
  have n24 := zct (m := 4) (b := nx17) (by omega)
  have n25 := znd (a := nx9) (m := 3) (b := nx17) (by omega)
  subst hdf hf17
  cases p17 with
  | zero =>
   simp only [zcm, hs, reduceCtorEq] at h
   exact absurd h kN17
  | succ p17 =>
   simp only [zcm, hs, reduceCtorEq] at h
   cases d26 : (decide (c17_5 ≤ 2))
   ·simp only [d26, hs] at h
    have b27 := And.intro n15 (And.intro d16 (And.intro n24 (And.intro n25 (And.intro H18 (And.intro H19 d26)))))
    replace h := kG17 _ h
    try dsimp only at h
    try simp only [hs] at h
    simp only [vz, tyf, b27, e20, e21, e22, e23, nm, seval]
    exact ⟨p9, Nat.lt_succ_self _, by rw [hI9]; refine ⟨p9, IntKind.i64.wrap (c9_4 + 1), rfl, rfl, (show 4 ≤ nx17 + 5 by omega), ?_, ?_, e20, e21, ?_, h⟩ <;> first | (simp only [ua, b27, e20, e21, e22, e23, nm, seval] <;> rfl) | rfl⟩
   simp only [d26, hs] at h
   have b28 := And.intro n15 (And.intro d16 (And.intro n24 (And.intro n25 (And.intro H18 (And.intro H19 d26)))))
   simp only [vz, tyf, b28, e20, e21, e22, e23, nm, seval]
   obtain ⟨K29, h, kR29, kG29, kB29, kN29⟩ := zax h kN17
   obtain ⟨f29, hf29, h⟩ := call2 h
   obtain ⟨I29, hI29⟩ : ∃ I : Nat → St → Prop, I = (fun m st => ∃ (p29 : Nat) (c29_6 : Int), p29 = m ∧ st.df = [] ∧ nx17 + 3 ≤ st.nx ∧ st.H 0 = some (.cells (some 28) (cGs x0_s)) ∧ st.H 1 = some (.cells (some 22) ([.lit (.int .i64 0)] ++ [.lit (.int .i64 0)] ++ [.lit (.int .i64 0)])) ∧ st.tm 1 = .ptr 0 0 ∧ st.tm 2 = .ptr 1 0 ∧ st.tm 4 = .lit (.int .i64 c9_4) ∧ st.tm 5 = .lit (.int .i64 c17_5) ∧ st.tm 6 = .lit (.int .i64 c29_6) ∧ K29 (f29 p29 c29_6)) := ⟨_, rfl⟩
   refine loopK mixed (by kernel_rfl) I29 1000000 (by rw [hI29]; refine ⟨1000000, (-2), rfl, rfl, (show nx17 + 3 ≤ nx17 + 3 by omega), ?_, ?_, e20, e21, e22, e23, ?_, h⟩ <;> first | (simp only [ua, b28, e20, e21, e22, e23, nm, seval] <;> rfl) | rfl) ?_
   rintro m ⟨tm, H, nx29, df⟩ hinv
   rw [hI29] at hinv
   obtain ⟨p29, c29_6, rfl, hdf, hn29, H30, H31, e32, e33, e34, e35, e36, h⟩ := hinv
   simp only at hdf hn29 H30 H31 e32 e33 e34 e35 e36
   have n37 := zct (m := 4) (b := nx29) (by omega)
   have n38 := znd (a := nx9) (m := 3) (b := nx29) (by omega)
   have n39 := znd (a := nx17) (m := 3) (b := nx29) (by omega)
   subst hdf hf29
   cases p29 with
   | zero =>
    simp only [zbu, hs, reduceCtorEq] at h
    exact absurd h kN29
   | succ p29 =>
    simp only [zbu, hs, reduceCtorEq] at h
    cases d40 : (decide (c29_6 ≤ 2))
    ·simp only [d40, hs] at h
     have b41 := And.intro b28 (And.intro n37 (And.intro n38 (And.intro n39 (And.intro H30 (And.intro H31 d40)))))
     replace h := kG29 _ h
     try dsimp only at h
     try simp only [hs] at h
     simp only [vz, tyf, b41, e32, e33, e34, e35, e36, nm, seval]
     exact ⟨p17, Nat.lt_succ_self _, by rw [hI17]; refine ⟨p17, IntKind.i64.wrap (c17_5 + 1), rfl, rfl, (show nx9 + 3 ≤ nx29 + 5 by omega), ?_, ?_, e32, e33, e34, ?_, h⟩ <;> first | (simp only [ua, b41, e32, e33, e34, e35, e36, nm, seval] <;> rfl) | rfl⟩
    simp only [d40, hs] at h
    have b42 := And.intro b28 (And.intro n37 (And.intro n38 (And.intro n39 (And.intro H30 (And.intro H31 d40)))))
    obtain ⟨r43, o44, h⟩ := optI h kN29
    try simp only [hs] at h
    simp only [vz, tyf, b42, e32, e33, e34, e35, e36, nm, seval]
    refine ktA (znp _ _ o44) ?_
    refine zaf (fun tm => tm 1 = .ptr 0 0 ∧ tm 2 = .ptr 1 0 ∧ tm 4 = .lit (.int .i64 c9_4) ∧ tm 5 = .lit (.int .i64 c17_5) ∧ tm 6 = .lit (.int .i64 c29_6) ∧ tm 7 = .ptr (nx29 + 6) 0 ∧ tm 25 = .lit (.bool r43) ∧ True) (by refine ⟨e32, e33, e34, e35, e36, ?_, ?_, trivial⟩ <;> first | (simp only [ua, b42, e32, e33, e34, e35, e36, nm, seval] <;> rfl) | rfl) ?_
    rintro tm ⟨e45, e46, e47, e48, e49, e50, e51, _⟩
    cases d52 : (r43)
    ·simp only [d52, hs] at h
     simp only [vz, tyf, b42, e45, e46, e47, e48, e49, e50, e51, d52, nm, seval]
     exact ⟨p29, Nat.lt_succ_self _, by rw [hI29]; refine ⟨p29, IntKind.i64.wrap (c29_6 + 1), rfl, rfl, (show nx17 + 3 ≤ nx29 + 18 by omega), ?_, ?_, e45, e46, e47, e48, ?_, h⟩ <;> first | (simp only [ua, b42, e45, e46, e47, e48, e49, e50, e51, d52, nm, seval] <;> rfl) | rfl⟩
    simp only [d52, hs] at h
    obtain ⟨r53, o54, h⟩ := optI h kN29
    try simp only [hs] at h
    simp only [vz, tyf, b42, e45, e46, e47, e48, e49, e50, e51, d52, nm, seval]
    refine ktA (zli _ _ _ o54) ?_
    refine zaf (fun tm => tm 1 = .ptr 0 0 ∧ tm 2 = .ptr 1 0 ∧ tm 4 = .lit (.int .i64 c9_4) ∧ tm 5 = .lit (.int .i64 c17_5) ∧ tm 6 = .lit (.int .i64 c29_6) ∧ tm 7 = .ptr (nx29 + 6) 0 ∧ tm 26 = .lit (.bool true) ∧ tm 29 = .lit (.bool r53) ∧ True) (by refine ⟨e45, e46, e47, e48, e49, e50, ?_, ?_, trivial⟩ <;> first | (simp only [ua, b42, e45, e46, e47, e48, e49, e50, e51, d52, nm, seval] <;> rfl) | rfl) ?_
    rintro tm ⟨e55, e56, e57, e58, e59, e60, e61, e62, _⟩
    cases d63 : (r53)
    ·simp only [d63, hs] at h
     simp only [vz, tyf, b42, d52, e55, e56, e57, e58, e59, e60, e61, e62, d63, nm, seval]
     exact ⟨p29, Nat.lt_succ_self _, by rw [hI29]; refine ⟨p29, IntKind.i64.wrap (c29_6 + 1), rfl, rfl, (show nx17 + 3 ≤ nx29 + 18 by omega), ?_, ?_, e55, e56, e57, e58, ?_, h⟩ <;> first | (simp only [ua, b42, d52, e55, e56, e57, e58, e59, e60, e61, e62, d63, nm, seval] <;> rfl) | rfl⟩
    simp only [d63, hs] at h
    try simp only [vz, tyf, b42, d52, e55, e56, e57, e58, e59, e60, e61, e62, d63, nm, seval]
    refine zap (x := (.tup [.agg ([.lit (.int .i64 c9_4)] ++ [.lit (.int .i64 c17_5)] ++ [.lit (.int .i64 c29_6)]), .lit (.bool true)])) (by first | (simp only [Tryz.results38, resV, resL, resV1, zat, zbq, uw, cr, tyf, b42, d52, e55, e56, e57, e58, e59, e60, e61, e62, d63, nm, seval] <;> rfl) | rfl) ?_
    replace h := kR29 _ h
    try dsimp only at h
    replace h := kR17 _ h
    try dsimp only at h
    replace h := kR9 _ h
    try dsimp only at h
    obtain rfl := kF _ h
    refine zas ?_ ?_
    ·simp only [tre, tytre, Bool.and_self]
    ·first | (simp only [outV, uw, zah, cr, tyf, nrm, tynrm, b42, d52, e55, e56, e57, e58, e59, e60, e61, e62, d63, nm, seval] <;> rfl) | rfl
theorem hmix : Tryz.prog.follows .mixedOrders = true := by kernel_rfl
def kA : VV := (VV.agg [(.lit (.int .i64 (.ofNat 60))), (.lit (.int .i64 (.ofNat 40))), (.lit (.int .i64 (.ofNat 20))), (.lit (.int .i64 (.ofNat 1))), (.lit (.int .i64 (.ofNat 2))), (.lit (.int .i64 (.ofNat 1))), (.lit (.int .i64 (.ofNat 1))), (.lit (.int .i64 (.ofNat 0))), (.lit (.int .i64 (.ofNat 0))), (.lit (.int .i64 (.ofNat 5))), (.lit (.int .i64 (.ofNat 5))), (.lit (.int .i64 (.ofNat 5))), (VV.sl [(.lit (.int .i64 (.ofNat 80))), (.lit (.int .i64 (.ofNat 82))), (.lit (.int .i64 (.ofNat 20))), (.lit (.int .i64 (.ofNat 20))), (.lit (.int .i64 (.ofNat 0))), (.lit (.int .i64 (.ofNat 2))), (.lit (.int .i64 (.ofNat 20))), (.lit (.int .i64 (.ofNat 22))), (.lit (.int .i64 (.ofNat 60))), (.lit (.int .i64 (.ofNat 60))), (.lit (.int .i64 (.ofNat 40))), (.lit (.int .i64 (.ofNat 40))), (.lit (.int .i64 (.ofNat 50))), (.lit (.int .i64 (.ofNat 50))), (.lit (.int .i64 (.ofNat 10))), (.lit (.int .i64 (.ofNat 12))), (.lit (.int .i64 (.ofNat 30))), (.lit (.int .i64 (.ofNat 30)))] 3 Bool.false)])
def kB : VV := (VV.agg [(.lit (.int .i64 (.ofNat 60))), (.lit (.int .i64 (.ofNat 40))), (.lit (.int .i64 (.ofNat 20))), (.lit (.int .i64 (.ofNat 1))), (.lit (.int .i64 (.ofNat 2))), (.lit (.int .i64 (.ofNat 1))), (.lit (.int .i64 (.ofNat 1))), (.lit (.int .i64 (.ofNat 0))), (.lit (.int .i64 (.ofNat 0))), (.lit (.int .i64 (.ofNat 5))), (.lit (.int .i64 (.ofNat 5))), (.lit (.int .i64 (.ofNat 5))), (VV.sl [(.lit (.int .i64 (.ofNat 20))), (.lit (.int .i64 (.ofNat 22))), (.lit (.int .i64 (.ofNat 60))), (.lit (.int .i64 (.ofNat 60))), (.lit (.int .i64 (.ofNat 40))), (.lit (.int .i64 (.ofNat 40))), (.lit (.int .i64 (.ofNat 50))), (.lit (.int .i64 (.ofNat 50))), (.lit (.int .i64 (.ofNat 10))), (.lit (.int .i64 (.ofNat 12))), (.lit (.int .i64 (.ofNat 30))), (.lit (.int .i64 (.ofNat 30)))] 2 Bool.false)])
def kD : VV := (VV.agg [(.lit (.int .i64 (.ofNat 60))), (.lit (.int .i64 (.ofNat 40))), (.lit (.int .i64 (.ofNat 20))), (.lit (.int .i64 (.ofNat 1))), (.lit (.int .i64 (.ofNat 2))), (.lit (.int .i64 (.ofNat 1))), (.lit (.int .i64 (.ofNat 1))), (.lit (.int .i64 (.ofNat 0))), (.lit (.int .i64 (.ofNat 0))), (.lit (.int .i64 (.ofNat 2))), (.lit (.int .i64 (.ofNat 9))), (.lit (.int .i64 (.ofNat 5))), (VV.sl [(.lit (.int .i64 (.ofNat 80))), (.lit (.int .i64 (.ofNat 82))), (.lit (.int .i64 (.ofNat 20))), (.lit (.int .i64 (.ofNat 20))), (.lit (.int .i64 (.ofNat 0))), (.lit (.int .i64 (.ofNat 2))), (.lit (.int .i64 (.ofNat 20))), (.lit (.int .i64 (.ofNat 22))), (.lit (.int .i64 (.ofNat 60))), (.lit (.int .i64 (.ofNat 60))), (.lit (.int .i64 (.ofNat 40))), (.lit (.int .i64 (.ofNat 40))), (.lit (.int .i64 (.ofNat 50))), (.lit (.int .i64 (.ofNat 50))), (.lit (.int .i64 (.ofNat 10))), (.lit (.int .i64 (.ofNat 12))), (.lit (.int .i64 (.ofNat 30))), (.lit (.int .i64 (.ofNat 30)))] 3 Bool.false)])
def kAim : VV := (VV.tup [(VV.agg [(.lit (.int .i64 (.ofNat 42))), (.lit (.int .i64 (.ofNat 58))), (.lit (.int .i64 (.ofNat 31))), (.lit (.int .i64 (.ofNat 38))), (.lit (.int .i64 (.ofNat 20))), (.lit (.int .i64 (.ofNat 20)))]), (.lit (.int .i64 (.ofNat 0)))])
def kSums : VV := (VV.tup [(VV.agg [(.lit (.int .i64 (.ofNat 100))), (.lit (.int .i64 (.ofNat 104))), (.lit (.int .i64 (.ofNat 80))), (.lit (.int .i64 (.ofNat 80))), (.lit (.int .i64 (.ofNat 40))), (.lit (.int .i64 (.ofNat 42)))]), (.lit (.int .i64 (.ofNat 0)))])
def kTrue : VV := (VV.tup [(VV.lit (Value.bool Bool.true)), (.lit (.int .i64 (.ofNat 0)))])
def kWord : VV := (VV.tup [(.lit (.int .i64 (.ofNat 2))), (.lit (.int .i64 (.ofNat 0)))])
def kYears : VV := (VV.tup [(VV.agg [(.lit (.int .i64 (.ofNat 2))), (.lit (.int .i64 (.ofNat 5)))]), (.lit (.int .i64 (.ofNat 0)))])
def kRead : VV := (VV.tup [(VV.agg [(.lit (.int .i64 (.ofNat 1))), (.lit (.int .i64 (.ofNat 2))), (.lit (.int .i64 (.ofNat 3))), (.lit (.int .i64 (.ofNat 0))), (.lit (.int .i64 (.ofNat 0))), (.lit (.int .i64 (.ofNat 0))), (.lit (.int .i64 (.ofNat 0))), (.lit (.int .i64 (.ofNat 0))), (.lit (.int .i64 (.ofNat 0))), (.lit (.int .i64 (.ofNat 0))), (.lit (.int .i64 (.ofNat 0))), (.lit (.int .i64 (.ofNat 1))), (VV.sl [(.lit (.int .i64 (.ofNat 1))), (.lit (.int .i64 (.ofNat 1))), (.lit (.int .i64 (.ofNat 2))), (.lit (.int .i64 (.ofNat 2))), (.lit (.int .i64 (.ofNat 3))), (.lit (.int .i64 (.ofNat 3)))] 1 Bool.false)]), (.lit (.int .i64 (.ofNat 0)))])
def kCount : VV := .tup [.lit (.int .i64 9), .lit (.int .i64 0)]
def kNear : VV := .tup [.sl [.lit (.int .i64 1), .lit (.int .i64 1), .lit (.int .i64 0)] 3 false, .lit (.int .i64 5), .lit (.int .i64 0)]
def kNeeds : VV := .tup [.sl [.lit (.int .i64 0), .lit (.int .i64 1)] 2 false, .lit (.int .i64 0)]
def kProof : VV := .tup [.agg [.lit (.int .i64 0), .lit (.int .i64 0), .lit (.int .i64 (-2))], .lit (.int .i64 0)]
def kFirst : VV := .tup [.sl [.lit (.int .i64 1), .lit (.int .i64 1), .lit (.int .i64 0)] 3 false, .lit (.int .i64 0)]
def kMay : VV := .tup [.sl [.lit (.int .i64 1), .lit (.int .i64 1), .lit (.int .i64 0)] 3 false, .lit (.int .i64 0)]
theorem pA : VPure Tryz.prog G0 54 [] (.tree kA) := VPure.closedB hmix 1000 (by kernel_rfl)
theorem pB : VPure Tryz.prog G0 56 [] (.tree kB) := VPure.closedB hmix 1000 (by kernel_rfl)
theorem pD : VPure Tryz.prog G0 53 [] (.tree kD) := VPure.closedB hmix 1000 (by kernel_rfl)
theorem pAim : VPure Tryz.prog G0 18 [kD] (.tree kAim) := VPure.closedB hmix 1000 (by kernel_rfl)
theorem pSums : VPure Tryz.prog G0 19 [kA, .sl [.lit (.int .i64 (1)), .lit (.int .i64 (1)), .lit (.int .i64 (0))] 3 false] (.tree kSums) := VPure.closedB hmix 1000 (by kernel_rfl)
theorem pWord : VPure Tryz.prog G0 27 [kA, .sl [.lit (.int .i64 (3)), .lit (.int .i64 (2)), .lit (.int .i64 (0))] 3 false] (.tree kWord) := VPure.closedB hmix 1000 (by kernel_rfl)
theorem pTrue : VPure Tryz.prog G0 24 [kA, .sl [.lit (.int .i64 (1)), .lit (.int .i64 (1)), .lit (.int .i64 (0))] 3 false, .agg [.sl [.lit (.int .i64 80),.lit (.int .i64 20),.lit (.int .i64 0),.lit (.int .i64 20),.lit (.int .i64 60),.lit (.int .i64 40),.lit (.int .i64 50),.lit (.int .i64 10),.lit (.int .i64 30)] 3 false,.lit (.int .i64 5),.lit (.int .i64 2),.lit (.int .i64 1),.lit (.int .i64 0)]] (.tree kTrue) := VPure.closedB hmix 1000 (by kernel_rfl)
theorem pYears : VPure Tryz.prog G0 28 [kD, .sl [.lit (.int .i64 (1)), .lit (.int .i64 (1)), .lit (.int .i64 (0))] 3 false] (.tree kYears) := VPure.closedB hmix 1000 (by kernel_rfl)
theorem pRead : VPure Tryz.prog G0 57 [.lit (.string ⟨⟨[98, 111, 97, 114, 100, 32, 49, 32, 50, 32, 51, 32, 48, 32, 48, 32, 49, 10, 102, 97, 100, 101, 32, 48, 32, 48, 32, 48, 32, 48, 32, 48, 32, 48, 10, 116, 105, 110, 32, 49, 32, 49, 32, 50, 32, 50, 32, 51, 32, 51, 10, 101, 110, 100, 32, 49, 54, 52, 10]⟩⟩)] (.tree kRead) := VPure.closedB hmix 1000 (by kernel_rfl)
abbrev sM (x : Gm) : VV := .agg (cGm x)
def mixtO (s : Gs) : Nat → Nat → Option (List Gm)
 | 0, _ => some []
 | k + 1, c => Option.bind (zpq (List.length s.Tins) ((c + 1 : Nat) : Int)) fun L => Option.bind (mixtO s k (c + 1)) fun r => some (L.map (Gm.mk s) ++ r)
def zhd (s : Gs) : Option (List Gm) := mixtO s 8 0
def itX (s : Gs) : VV := .fn (.func 109) [] [.tp (cGs s)]
theorem zlv {s : Gs} : (itX s).tree = true := by
 have h : treeL (cGs s) = true := zag.tree s
 simp [itX, VV.tree, treeL, h]
theorem zahp {H : Nat → Option VObj} {f : FuncId} {el : Option TypeId} {cs : List VV} (hH : H 0 = some (.cells el cs)) (h : treeL cs = true) (hl : cs.length < 40) : sealV H 50 (.fn (.func f) [] [.ptr 0 0]) = some (.fn (.func f) [] [.tp cs]) := by
 have e0 : (VV.ptr 0 0).tree = false := rfl
 have e : sealV H 48 (.ptr 0 0) = some (.tp cs) := by
  show sealV H (47 + 1) _ = _
  simp only [sealV, e0, hH, Nat.zero_le, if_true, List.drop_zero]
  rw [zhp _ 47 h (by omega)]
  rfl
 have e1 : sealL H 49 [.ptr 0 0] = some [.tp cs] := by
  show sealL H (48 + 1) _ = _
  simp only [sealL, e]
 have e2 : sealL H 49 [] = some [] := by
  show sealL H (48 + 1) _ = _
  simp only [sealL]
 show sealV H (49 + 1) _ = _
 have e3 : (VV.fn (.func f) [] [.ptr 0 0]).tree = false := rfl
 simp only [sealV, e3, e1, e2]
 rfl
theorem zow (s : Gs) : VPure Tryz.prog G0 79 [.agg (cGs s)] (.tree (itX s)) := by
 refine VPure.run mixed Tryz.call79 Tryz.func79 rfl (by simp [Tryz.ntmps79]; kernel_rfl) ?_
 simp only [vz, tyf, seval, ua, rg]
 refine ⟨rfl, .fn (.func 109) [] [.ptr 0 0], by simp [Tryz.results79, resV, resL, resV1, upd], 50, ?_⟩
 have h : treeL (cGs s) = true := zag.tree s
 exact zahp (cs := cGs s) (el := some 28) (by simp only [zaa, seval] <;> rfl) h (by simp [cGs])
theorem zra {P : Program} {G : Glob} {fn : Func} {R Rp : VV → (Nat → Option VObj) → Nat → Prop} {tm : Nat → VV} {nx : Nat} : ∀ (ds : List Nat) (H : Nat → Option VObj), ds.Nodup → (∀ d ∈ ds, H d = some (.deferred (some []))) → (∀ H2, (∀ γ, γ ∉ ds → H2 γ = H γ) → OpenPostD P G fn R Rp .normal ⟨tm, H2, nx, []⟩) → OpenPostD P G fn R Rp .normal ⟨tm, H, nx, ds.map VDef.coll⟩
 | [], H, _, _, h => h H fun _ _ => rfl
 | d :: ds, H, hn, hd, h => by
  rw [List.nodup_cons] at hn
  refine zpt (hd d (List.mem_cons_self ..)) (zra ds _ hn.2 (fun e he => ?_) fun H2 h2 => h H2 fun γ hγ => ?_)
  ·have hne : e ≠ d := fun hh => hn.1 (hh ▸ he)
   simp only [updH]
   rw [if_neg hne]
   exact hd e (List.mem_cons_of_mem _ he)
  ·simp only [List.mem_cons, not_or] at hγ
   rw [h2 γ hγ.2]
   simp only [updH]
   rw [if_neg hγ.1]
theorem zur {P : Program} {G : Glob} {fn : Func} {R Rp : VV → (Nat → Option VObj) → Nat → Prop} {tm : Nat → VV} {nx : Nat} : ∀ (ds : List Nat) (H : Nat → Option VObj), ds.Nodup → (∀ d ∈ ds, H d = some (.deferred (some []))) → (∀ H2, (∀ γ, γ ∉ ds → H2 γ = H γ) → OpenPostD P G fn R Rp .ret ⟨tm, H2, nx, []⟩) → OpenPostD P G fn R Rp .ret ⟨tm, H, nx, ds.map VDef.coll⟩
 | [], H, _, _, h => h H fun _ _ => rfl
 | d :: ds, H, hn, hd, h => by
  rw [List.nodup_cons] at hn
  refine zgn (hd d (List.mem_cons_self ..)) (zur ds _ hn.2 (fun e he => ?_) fun H2 h2 => h H2 fun γ hγ => ?_)
  ·have hne : e ≠ d := fun hh => hn.1 (hh ▸ he)
   simp only [updH]
   rw [if_neg hne]
   exact hd e (List.mem_cons_of_mem _ he)
  ·simp only [List.mem_cons, not_or] at hγ
   rw [h2 γ hγ.2]
   simp only [updH]
   rw [if_neg hγ.1]
theorem zamu {Fr : Nat → Prop} {H : Nat → Option VObj} {nx : Nat} {ds : List Nat} (h : ∀ d ∈ ds, d < nx ∧ ¬ Fr d ∧ H d = some (.deferred (some []))) : Own (ds.map fun d => (d, VObj.deferred (some []))) Fr H nx := by
 intro q hq
 obtain ⟨d, hd, rfl⟩ := List.mem_map.1 hq
 exact h d hd
theorem zyc {Fr : Nat → Prop} {H : Nat → Option VObj} {nx : Nat} {ds : List Nat} (h : Own (ds.map fun d => (d, VObj.deferred (some []))) Fr H nx) : ∀ d ∈ ds, d < nx ∧ ¬ Fr d ∧ H d = some (.deferred (some [])) := fun d hd => h (d, _) (List.mem_map.2 ⟨d, hd, rfl⟩)
theorem zkw (s : Gs) (R : List Gm) (h : zhd s = some R) : Iter Tryz.prog G0 (itX s) (R.map sM) := by
 refine ⟨109, [], _, rfl, fun β I hst hr H nx hβ hI => ?_⟩
 refine VOpen.run mixed Tryz.call109 Tryz.func109 rfl (by simp [Tryz.ntmps109]; kernel_rfl) ?_
 simp only [List.nil_append, List.cons_append, argsTm2, vz, tyf, seval, ua, rg]
 obtain ⟨J0, hJ0⟩ : ∃ J : Nat → St → Prop, J = (fun m st => ∃ (c : Nat) (ds : List Nat), c + m = 8 ∧ st.df = ds.map VDef.coll ∧ ds.Nodup ∧ (∀ d ∈ ds, nx < d ∧ d < st.nx ∧ st.H d = some (.deferred (some []))) ∧ nx < st.nx ∧ st.H nx = some (.cells (some 144) [.yl β]) ∧
   st.tm 1 = .tp (cGs s) ∧ st.tm 2 = .ptr nx 0 ∧ st.tm 5 = .lit (.int .i64 (c : Int)) ∧ ∃ L, mixtO s m c = some L ∧ I (some (L.map sM)) (fun γ => γ = nx ∨ γ ∈ ds) st.H st.nx) := ⟨_, rfl⟩
 refine loopK mixed (by kernel_rfl) J0 8 (by
  rw [hJ0]
  refine ⟨0, [], rfl, rfl, List.nodup_nil, fun d hd => (by cases hd), (by show nx < nx + 2; omega), ?_, ?_, ?_, ?_, R, h, ?_⟩
  ·simp [updH]
  ·rfl
  ·rfl
  ·rfl
  ·refine hst _ _ _ _ _ _ _ hI ?_ (by show nx ≤ nx + 2; omega) ?_
   ·intro γ hγ _
    simp only [updH]
    rw [if_neg (by omega)]
   ·rintro γ (rfl | hγ)
    ·right; show γ ≤ γ ∧ γ < γ + 2; omega
    ·cases hγ) ?_
 rintro m ⟨tm, H1, nx1, df⟩ hinv
 rw [hJ0] at hinv
 obtain ⟨c, ds, hc, hdf, hnd, hds, hnx, Hy, e1, e2, e5, L, hL, hI1⟩ := hinv
 simp only at hdf hds hnx Hy e1 e2 e5 hI1
 subst hdf
 cases m with
 | zero =>
  have hd1 : decide ((c : Int) < 8) = false := by simp; omega
  simp only [vz, tyf, seval, ua, e5, hd1]
  refine zra ds _ hnd (fun d hd => (hds d hd).2.2) fun H2 h2 => ?_
  refine zhw (x := .tup []) (by simp [Tryz.results109, resV, resL]) (.inl ?_)
  simp only [mixtO, Option.some.injEq] at hL
  subst hL
  refine hst _ _ _ _ _ _ _ hI1 ?_ (by show nx1 ≤ nx1 + 1; omega) (fun γ h => h.elim)
  intro γ _ hn
  exact h2 γ fun hh => hn (.inr hh)
 | succ m =>
  have hd1 : decide ((c : Int) < 8) = true := by simp; omega
  have hw : IntKind.i64.wrap ((c : Int) + 1) = ((c + 1 : Nat) : Int) := by rw [IntWalk.i64_in _ (by omega)]; simp
  rw [mixtO] at hL
  rcases hLa : zpq (List.length s.Tins) ((c + 1 : Nat) : Int) with _ | La
  ·rw [hLa] at hL; cases hL
  rw [hLa, Option.bind_some] at hL
  rcases hLr : mixtO s m (c + 1) with _ | Lr
  ·rw [hLr] at hL; cases hL
  rw [hLr, Option.bind_some, Option.some.injEq] at hL
  subst hL
  obtain ⟨hp, hi⟩ := zwf _ _ _ hLa
  simp only [vz, tyf, seval, ua, e1, e2, e5, hd1, hw]
  refine ktA hp ?_
  simp only [vz, tyf, seval, ua, rg]
  refine zkj (fun tm => tm 13 = itM (List.length s.Tins) ((c + 1 : Nat) : Int) ∧ tm 1 = .tp (cGs s) ∧ tm 2 = .ptr nx 0 ∧ tm 5 = .lit (.int .i64 (c : Int))) (by refine ⟨?_, ?_, ?_, ?_⟩ <;> simp only [ua, seval, e1, e2, e5] <;> rfl) ?_
  clear e1 e2 e5 tm
  rintro tm ⟨e13, e1, e2, e5⟩
  refine zfy hi (by first | (simp only [zmm, zil, e13, zem, seval] <;> rfl) | rfl) ?_
  intro LO hLO
  obtain ⟨hp0, hhp0⟩ : ∃ hp0 : List (Nat × VObj), hp0 = (nx, VObj.cells (some 144) [.yl β]) :: ds.map (fun d => (d, VObj.deferred (some []))) := ⟨_, rfl⟩
  obtain ⟨J, hJ⟩ : ∃ J : Option (List VV) → Option (List VV) → List (Nat × VObj) → Prop, J = (fun o o' hp => match o with
   | some l => ∃ p : List (List Int), l = p.map sI ∧ o' = some ((p.map (Gm.mk s) ++ Lr).map sM) ∧ hp = (nx1 + 9, .deferred (some [])) :: (nx1 + 10, LO) :: hp0
   | none => ∃ LD : Code → VObj, (∃ tml ps az bo d, LD = fun c => VObj.loop .done (some c) tml ps az bo d) ∧ o' = none ∧ hp = (nx1 + 9, .deferred (some [])) :: (nx1 + 10, LD .ret) :: hp0) := ⟨_, rfl⟩
  have hfr : ∀ (O : VObj) γ, (∃ q ∈ (nx1 + 9, VObj.deferred (some [])) :: (nx1 + 10, O) :: hp0, (q : Nat × VObj).1 = γ) ↔ γ = nx1 + 9 ∨ γ = nx1 + 10 ∨ γ = nx ∨ γ ∈ ds := by
   intro O γ
   rw [hhp0]
   constructor
   ·rintro ⟨q, hq, rfl⟩
    simp only [List.mem_cons, List.mem_map] at hq
    rcases hq with rfl | rfl | rfl | ⟨d, hd, rfl⟩
    ·exact .inl rfl
    ·exact .inr (.inl rfl)
    ·exact .inr (.inr (.inl rfl))
    ·exact .inr (.inr (.inr hd))
   ·rintro (rfl | rfl | rfl | hd)
    ·exact ⟨_, List.mem_cons_self .., rfl⟩
    ·exact ⟨_, List.mem_cons_of_mem _ (List.mem_cons_self ..), rfl⟩
    ·exact ⟨_, List.mem_cons_of_mem _ (List.mem_cons_of_mem _ (List.mem_cons_self ..)), rfl⟩
    ·exact ⟨(γ, _), List.mem_cons_of_mem _ (List.mem_cons_of_mem _ (List.mem_cons_of_mem _ (List.mem_map.2 ⟨γ, hd, rfl⟩))), rfl⟩
  refine ⟨ownI2 I J, zjn hst, ?_, ?_, ?_⟩
  ·rintro v rest Fr H2 nx2 hFr ⟨hp, o', hown, hj, hi⟩
   rw [hJ] at hj
   obtain ⟨p, hl, rfl, rfl⟩ := hj
   cases p with
   | nil => cases hl
   | cons e p =>
   simp only [List.map_cons, List.cons.injEq] at hl
   obtain ⟨rfl, rfl⟩ := hl
   obtain ⟨la, na, Ha⟩ := hown.head
   obtain ⟨lb, nb, Hb⟩ := hown.tail.head
   have hown0 := hown.tail.tail
   rw [hhp0] at hown0
   obtain ⟨lc, nc, Hc⟩ := hown0.head
   have hod := zyc hown0.tail
   simp only [hfr] at hi
   refine zfb mixed (psl := [14]) hLO Hb zge rfl (by kernel_rfl) (by kernel_rfl) ?_
   intro LB LD hLB hLD
   refine zhh (fun tm => tm 14 = sI e ∧ tm 1 = .tp (cGs s) ∧ tm 2 = .ptr nx 0) (by refine ⟨?_, ?_, ?_⟩ <;> simp only [zjh, zhf, Tryz.ntmps109, e1, e2, seval]) ?_
   clear e13 e1 e2 e5
   rintro tm ⟨e14, e1, e2⟩
   have hne : (nx = nx1 + 10) = False := by simp; omega
   simp only [vz, tyf, seval, ua, nm, rg, RStart, e14, e1, e2, Hb, Hc, hne]
   have hi2 : I (some (sM (Gm.mk s e) :: (p.map (Gm.mk s) ++ Lr).map sM)) (fun γ => Fr γ ∨ γ = nx1 + 9 ∨ γ = nx1 + 10 ∨ γ = nx ∨ γ ∈ ds) (updH H2 (nx1 + 10) LB) (nx2 + 7) := by
    refine hst _ _ _ _ _ _ _ hi ?_ (by omega) (fun γ h => .inl h)
    intro γ _ hn
    have g3 : γ ≠ nx1 + 10 := fun e => hn (.inr (.inr (.inl e)))
    simp only [updH]
    rw [if_neg g3]
   refine (hr (sM (Gm.mk s e)) ((p.map (Gm.mk s) ++ Lr).map sM) _ _ _ ?_ hi2) (some (some (nx1 + 10))) _ _ _ rfl rfl ?_
   ·rintro γ (hγ | rfl | rfl | rfl | hγ)
    ·have := hFr γ hγ; omega
    ·omega
    ·omega
    ·omega
    ·have := (hod γ hγ).1; omega
   rintro b H3 nx3 ⟨q1, q2, q3⟩
   have Ka : H3 (nx1 + 9) = some (.deferred (some [])) := by
    rw [q2 _ (.inr (.inl rfl))]
    simp only [updH]
    rw [if_neg (by omega)]
    exact Ha
   have Kb : H3 (nx1 + 10) = some LB := by
    rw [q2 _ (.inr (.inr (.inl rfl)))]
    simp only [zaa, seval]
   have Kc : H3 nx = some (.cells (some 144) [.yl β]) := by
    rw [q2 nx (.inr (.inr (.inr (.inl rfl))))]
    simp only [updH]
    rw [if_neg (by omega)]
    exact Hc
   have Kd : ∀ d ∈ ds, H3 d = some (.deferred (some [])) := by
    intro d hd
    have := hds d hd
    rw [q2 d (.inr (.inr (.inr (.inr hd))))]
    simp only [updH]
    rw [if_neg (by omega)]
    exact (hod d hd).2.2
   have KF : ∀ γ, Fr γ → H3 γ = H2 γ := by
    intro γ hγ
    have g3 : γ ≠ nx1 + 10 := fun e => nb (e ▸ hγ)
    rw [q2 γ (.inl hγ)]
    simp only [updH]
    rw [if_neg g3]
   have KO : ∀ (O : VObj), Own ((nx1 + 9, .deferred (some [])) :: (nx1 + 10, O) :: hp0) Fr (updH H3 (nx1 + 10) O) nx3 := by
    intro O
    refine Own.cons (show nx1 + 9 < nx3 by omega) na ?_ (Own.cons (show nx1 + 10 < nx3 by omega) nb ?_ ?_)
    ·simp only [updH]
     rw [if_neg (by omega)]
     exact Ka
    ·simp only [zaa, seval]
    ·rw [hhp0]
     refine Own.cons (show nx < nx3 by omega) nc ?_ (zamu fun d hd => ⟨?_, (hod d hd).2.1, ?_⟩)
     ·simp only [updH]
      rw [if_neg (by omega)]
      exact Kc
     ·have := (hod d hd).1; omega
     ·have := hds d hd
      simp only [updH]
      rw [if_neg (by omega)]
      exact Kd d hd
   cases b with
   | true =>
    simp only [vz, tyf, seval, ua, nm, rg, Bool.not_true]
    refine ⟨Kb, (show nx2 ≤ nx3 by omega), fun γ hγ => ?_, ?_⟩
    ·have g3 : γ ≠ nx1 + 10 := fun e => nb (e ▸ hγ)
     simp only [updH]
     rw [if_neg g3]
     exact KF γ hγ
    ·simp only [if_true] at q3 ⊢
     refine ⟨_, _, KO LO, by rw [hJ]; exact ⟨p, rfl, rfl, rfl⟩, ?_⟩
     simp only [hfr]
     refine hst _ _ _ _ _ _ _ q3 ?_ (by omega) (fun γ h => .inl h)
     intro γ _ hn
     have g3 : γ ≠ nx1 + 10 := fun e => hn (.inr (.inr (.inl e)))
     simp only [updH]
     rw [if_neg g3]
   | false =>
    simp only [vz, tyf, seval, ua, nm, rg, Bool.not_false]
    refine ⟨Kb, (show nx2 ≤ nx3 by omega), fun γ hγ => ?_, ?_⟩
    ·have g3 : γ ≠ nx1 + 10 := fun e => nb (e ▸ hγ)
     simp only [updH]
     rw [if_neg g3]
     exact KF γ hγ
    ·simp only [Bool.false_eq_true, if_false] at q3 ⊢
     refine ⟨_, _, KO (LD .ret), by rw [hJ]; exact ⟨LD, ⟨_, _, _, _, _, hLD⟩, rfl, rfl⟩, ?_⟩
     simp only [hfr]
     refine hst _ _ _ _ _ _ _ q3 ?_ (by omega) (fun γ h => .inl h)
     intro γ _ hn
     have g3 : γ ≠ nx1 + 10 := fun e => hn (.inr (.inr (.inl e)))
     simp only [updH]
     rw [if_neg g3]
  ·refine ⟨_, _, ?_, by rw [hJ]; exact ⟨La, rfl, rfl, rfl⟩, ?_⟩
   ·refine Own.cons (show nx1 + 9 < nx1 + 9 + 2 by omega) (fun h => h) ?_ (Own.cons (show nx1 + 10 < nx1 + 9 + 2 by omega) (fun h => h) ?_ ?_)
    ·simp only [updH]
     rw [if_neg (by omega)]
     simp
    ·simp only [updH]
     simp
    ·rw [hhp0]
     refine Own.cons (show nx < nx1 + 9 + 2 by omega) (fun h => h) ?_ (zamu fun d hd => ⟨?_, fun h => h, ?_⟩)
     ·simp only [updH]
      rw [if_neg (by omega), if_neg (by omega)]
      exact Hy
     ·have := (hds d hd).2.1; omega
     ·have := hds d hd
      simp only [updH]
      rw [if_neg (by omega), if_neg (by omega)]
      exact this.2.2
   ·simp only [hfr]
    refine hst _ _ _ _ _ _ _ hI1 ?_ (by omega) ?_
    ·intro γ hγ _
     simp only [updH]
     rw [if_neg (by omega), if_neg (by omega)]
    ·rintro γ (h | rfl | rfl | rfl | h)
     ·exact h.elim
     ·right; omega
     ·right; omega
     ·exact .inl (.inl rfl)
     ·exact .inl (.inr h)
  ·rintro H' nx' (⟨hp, o', hown, hj, hi⟩ | ⟨hp, o', hown, hj, hi⟩)
   ·rw [hJ] at hj
    obtain ⟨p, hl, rfl, rfl⟩ := hj
    cases p with
    | cons e p => cases hl
    | nil =>
    obtain ⟨la, na, Ha⟩ := hown.head
    obtain ⟨lb, nb, Hb⟩ := hown.tail.head
    have hown0 := hown.tail.tail
    rw [hhp0] at hown0
    obtain ⟨lc, nc, Hc⟩ := hown0.head
    have hod := zyc hown0.tail
    simp only [hfr] at hi
    refine zes hLO Hb ?_
    intro LX
    simp only [vz, tyf, seval, ua, nm, rg, e1, e2, e5, hw]
    refine ⟨m, Nat.lt_succ_self _, ?_⟩
    rw [hJ0]
    refine ⟨c + 1, (nx1 + 9) :: ds, by omega, rfl, ?_, ?_, ?_, ?_, ?_, ?_, ?_, Lr, hLr, ?_⟩
    ·exact List.nodup_cons.2 ⟨fun hh => by have := hds _ hh; omega, hnd⟩
    ·intro d hd
     rcases List.mem_cons.1 hd with rfl | hd
     ·refine ⟨by omega, by show nx1 + 9 < nx' + 2; omega, ?_⟩
      show updH H' (nx1 + 10) LX (nx1 + 9) = _
      simp only [updH]
      rw [if_neg (by omega)]
      exact Ha
     ·have h1 := hds d hd
      have h2 := hod d hd
      refine ⟨h1.1, by show d < nx' + 2; omega, ?_⟩
      show updH H' (nx1 + 10) LX d = _
      simp only [updH]
      rw [if_neg (by omega)]
      exact h2.2.2
    ·show nx < nx' + 2
     omega
    ·show updH H' (nx1 + 10) LX nx = _
     simp only [updH]
     rw [if_neg (by omega)]
     exact Hc
    ·simp only [ua, seval, e1]
    ·simp only [ua, seval, e2]
    ·simp only [ua, seval]
    ·show I (some (Lr.map sM)) (fun γ => γ = nx ∨ γ ∈ (nx1 + 9) :: ds) (updH H' (nx1 + 10) LX) (nx' + 2)
     refine hst _ _ _ _ _ _ _ hi ?_ (by omega) ?_
     ·intro γ _ hn
      have g3 : γ ≠ nx1 + 10 := fun e => hn (.inr (.inr (.inl e)))
      simp only [updH]
      rw [if_neg g3]
     ·rintro γ (rfl | hγ)
      ·exact .inl (.inr (.inr (.inr (.inl rfl))))
      ·rcases List.mem_cons.1 hγ with rfl | hγ
       ·exact .inl (.inr (.inl rfl))
       ·exact .inl (.inr (.inr (.inr (.inr hγ))))
   ·rw [hJ] at hj
    obtain ⟨LD, ⟨tml, ps, az, bo, d, hLD⟩, rfl, rfl⟩ := hj
    obtain ⟨la, na, Ha⟩ := hown.head
    obtain ⟨lb, nb, Hb⟩ := hown.tail.head
    have hown0 := hown.tail.tail
    rw [hhp0] at hown0
    obtain ⟨lc, nc, Hc⟩ := hown0.head
    have hod := zyc hown0.tail
    simp only [hfr] at hi
    refine zfv hLD Hb ?_
    intro LX
    simp only [vz, tyf, seval, ua, nm, rg]
    refine zur ((nx1 + 9) :: ds) _ (List.nodup_cons.2 ⟨fun hh => by have := hds _ hh; omega, hnd⟩) ?_ fun H2 h2 => ?_
    ·intro d hd
     rcases List.mem_cons.1 hd with rfl | hd
     ·simp only [updH]
      rw [if_neg (by omega)]
      exact Ha
     ·have h1 := hds d hd
      simp only [updH]
      rw [if_neg (by omega)]
      exact (hod d hd).2.2
    ·refine zap (x := .tup []) (by simp [Tryz.results109, resV, resL]) (.inr ?_)
     refine hst _ _ _ _ _ _ _ hi ?_ (Nat.le_refl _) (fun γ h => h.elim)
     intro γ _ hn
     have g3 : γ ≠ nx1 + 10 := fun e => hn (.inr (.inr (.inl e)))
     rw [h2 γ (fun hh => by
      rcases List.mem_cons.1 hh with rfl | hh
      ·exact hn (.inr (.inl rfl))
      ·exact hn (.inr (.inr (.inr (.inr hh)))))]
     simp only [updH]
     rw [if_neg g3]
def filterO (f : Gm → Option Bool) : List Gm → Option (List Gm)
 | [] => some []
 | x :: L => Option.bind (f x) fun t => Option.bind (filterO f L) fun r => some (cond t (x :: r) r)
theorem zaij {itv : VV} {mc : List VV} {bf : Nat} {L : List VV} (hit : Iter Tryz.prog G0 itv L) (hti : itv.tree = true) (htm : treeL mc = true) : VPure Tryz.prog G0 107 [itv, .fn (.func bf) [] mc] (.tree (.fn (.func 126) [] [.tp [itv], .tp [.fn (.func bf) [] mc]])) := by
 obtain ⟨f, fi, ca, rfl, _⟩ := hit
 refine VPure.run mixed Tryz.call107 Tryz.func107 rfl (by simp [Tryz.ntmps107]; kernel_rfl) ?_
 simp only [vz, tyf, seval, ua, rg]
 refine ⟨rfl, .fn (.func 126) [] [.ptr 0 0, .ptr 1 0], by simp [Tryz.results107, resV, resL, resV1, upd], 20, ?_⟩
 have hti' : (treeL fi && treeL ca) = true := hti
 simp [sealV, sealL, VV.tree, treeL, updH, htm, hti']
theorem zyx {itv : VV} {bf : Nat} {mc : List VV} {L L' : List Gm} (hit : Iter Tryz.prog G0 itv (L.map sM)) (hmt : treeL mc = true) {f : Gm → Option Bool}
  (hb : ∀ a t, f a = some t → VPure Tryz.prog G0 bf (sM a :: mc) (.tree (.lit (.bool t)))) (h : filterO f L = some L') :
  Iter Tryz.prog G0 (.fn (.func 126) [] [.tp [itv], .tp [.fn (.func bf) [] mc]]) (L'.map sM) := by
 refine ⟨126, [], _, rfl, fun β I hst hr H nx hβ hI => ?_⟩
 refine VOpen.run mixed Tryz.call126 Tryz.func126 rfl (by simp [Tryz.ntmps126]; kernel_rfl) ?_
 simp only [List.nil_append, List.cons_append, argsTm3, vz, tyf, seval, ua, rg]
 refine zkj (fun tm => tm 5 = itv ∧ tm 2 = .tp [.fn (.func bf) [] mc] ∧ tm 3 = .ptr nx 0) (by refine ⟨?_, ?_, ?_⟩ <;> simp only [ua, seval, Nat.add_zero]) ?_
 rintro tm ⟨e5, e2, e3⟩
 refine zfy hit (by first | (simp only [zmm, zil, e5, zem, seval] <;> rfl) | rfl) ?_
 intro LO hLO
 obtain ⟨J, hJ⟩ : ∃ J : Option (List VV) → Option (List VV) → List (Nat × VObj) → Prop, J = (fun o o' hp => match o with
  | some l => ∃ (p L2 : List Gm), l = p.map sM ∧ filterO f p = some L2 ∧ o' = some (L2.map sM) ∧ hp = [(nx, .cells (some 144) [.yl β]), (nx + 2, .deferred (some [])), (nx + 3, LO)]
  | none => ∃ LD : Code → VObj, (∃ tml ps az bo d, LD = fun c => VObj.loop .done (some c) tml ps az bo d) ∧ o' = none ∧ hp = [(nx, .cells (some 144) [.yl β]), (nx + 2, .deferred (some [])), (nx + 3, LD .ret)]) := ⟨_, rfl⟩
 refine ⟨ownI2 I J, zjn hst, ?_, ?_, ?_⟩
 ·rintro v rest Fr H1 nx1 hFr ⟨hp, o', hown, hj, hi⟩
  rw [hJ] at hj
  obtain ⟨p, L2, hl, hf, rfl, rfl⟩ := hj
  cases p with
  | nil => cases hl
  | cons e p =>
  simp only [List.map_cons, List.cons.injEq] at hl
  obtain ⟨rfl, rfl⟩ := hl
  obtain ⟨la, na, Ha⟩ := hown.head
  obtain ⟨lb, nb, Hb⟩ := hown.tail.head
  obtain ⟨lc, nc, Hc⟩ := hown.tail.tail.head
  have hfr : ∀ γ, (∃ q ∈ [(nx, .cells (some 144) [.yl β]), (nx + 2, .deferred (some [])), (nx + 3, LO)], (q : Nat × VObj).1 = γ) ↔ γ = nx ∨ γ = nx + 2 ∨ γ = nx + 3 := by
   intro γ
   simp [eq_comm]
  simp only [hfr] at hi
  unfold filterO at hf
  rcases ht : f e with _ | t
  ·rw [ht] at hf; cases hf
  rw [ht, Option.bind_some] at hf
  rcases hf2 : filterO f p with _ | L3
  ·rw [hf2] at hf; cases hf
  rw [hf2, Option.bind_some, Option.some.injEq] at hf
  refine zfb mixed (psl := [6]) hLO Hc zge rfl (by kernel_rfl) (by kernel_rfl) ?_
  intro LB LD hLB hLD
  refine zhh (fun tm => tm 6 = sM e ∧ tm 2 = .tp [.fn (.func bf) [] mc] ∧ tm 3 = .ptr nx 0) (by refine ⟨?_, ?_, ?_⟩ <;> simp only [zjh, zhf, Tryz.ntmps126, e2, e3, seval]) ?_
  clear e5 e2 e3
  rintro tm ⟨e6, e2, e3⟩
  have hne : (nx = nx + 3) = False := by simp
  have hm1 : (nx + 3 = nx1) = False := by simp; omega
  have hm2 : (nx1 = nx + 3) = False := by simp; omega
  have hm3 : (nx = nx1) = False := by simp; omega
  have hm5 : (nx + 2 = nx1) = False := by simp; omega
  have hm6 : (nx1 = nx + 2) = False := by simp; omega
  have hm4 : (nx1 = nx) = False := by simp; omega
  simp only [vz, tyf, seval, ua, nm, rg, RStart, e6, e2, e3, Ha, Hc, Nat.add_zero, hne, hm1, hm2, hm3, hm4, hm5, hm6]
  refine ktreeR ?_ (hb e t ht) ?_
  ·have h1 : treeL (cGm e) = true := zau.tree e
   show (treeL (cGm e) && treeL mc) = true
   rw [h1, hmt]
   rfl
  cases t with
  | false =>
   simp only [cond_false] at hf
   subst hf
   simp only [vz, tyf, seval, ua, nm, rg, RStart, e6, e2, e3, Ha, Hc, Nat.add_zero, hne, hm1, hm2, hm3, hm4, hm5, hm6]
   refine ⟨by simp only [zaa, seval], (show nx1 ≤ nx1 + 11 by omega), fun γ hγ => ?_, ?_⟩
   ·have g3 : γ ≠ nx + 3 := fun e => nc (e ▸ hγ)
    have g4 := hFr γ hγ
    simp only [updH]
    repeat rw [if_neg (by first | assumption | omega)]
   ·simp only [if_true]
    refine ⟨[(nx, .cells (some 144) [.yl β]), (nx + 2, .deferred (some [])), (nx + 3, LO)], some (L3.map sM), Own.cons (show nx < nx1 + 11 by omega) na ?_ (Own.cons (show nx + 2 < nx1 + 11 by omega) nb ?_ (Own.cons (show nx + 3 < nx1 + 11 by omega) nc ?_ Own.nil)), ?_, ?_⟩
    ·simp only [zaa, Nat.add_zero, hne, hm1, hm2, hm3, hm4, seval, Ha]
    ·simp only [updH]
     repeat rw [if_neg (by omega)]
     exact Hb
    ·simp only [zaa, seval]
    ·rw [hJ]
     exact ⟨p, L3, rfl, hf2, rfl, rfl⟩
    ·simp only [hfr]
     refine hst _ _ _ _ _ _ _ hi ?_ (by omega) (fun γ h => .inl h)
     intro γ hγ hn
     have g3 : γ ≠ nx + 3 := fun e => hn (.inr (.inr (.inr e)))
     simp only [updH]
     repeat rw [if_neg (by first | assumption | omega)]
  | true =>
   simp only [cond_true] at hf
   subst hf
   simp only [vz, tyf, seval, ua, nm, rg, RStart, e6, e2, e3, Ha, Hc, Nat.add_zero, hne, hm1, hm2, hm3, hm4, hm5, hm6]
   refine (hr (sM e) (L3.map sM) (fun γ => Fr γ ∨ γ = nx ∨ γ = nx + 2 ∨ γ = nx + 3) _ (nx1 + 11) ?_ ?_) (some (some (nx + 3))) _ _ _ rfl rfl ?_
   ·rintro γ (hγ | rfl | rfl | rfl)
    ·have := hFr γ hγ; omega
    ·omega
    ·omega
    ·omega
   ·refine hst _ _ _ _ _ _ _ hi ?_ (by show nx1 ≤ nx1 + 11; omega) (fun γ h => .inl h)
    intro γ hγ hn
    have g3 : γ ≠ nx + 3 := fun e => hn (.inr (.inr (.inr e)))
    simp only [updH]
    repeat rw [if_neg (by first | assumption | omega)]
   rintro b H2 nx2 ⟨q1, q2, q3⟩
   have Ka : H2 nx = some (.cells (some 144) [.yl β]) := by rw [q2 nx (.inr (.inl rfl))]; simp only [zaa, Nat.add_zero, hne, hm1, hm2, hm3, hm4, seval, Ha]
   have Kb : H2 (nx + 2) = some (.deferred (some [])) := by rw [q2 _ (.inr (.inr (.inl rfl)))]; simp only [zaa, Nat.add_zero, nm, hm5, hm6, seval, Hb]
   have Kc : H2 (nx + 3) = some LB := by rw [q2 _ (.inr (.inr (.inr rfl)))]; simp only [zaa, Nat.add_zero, hm1, hm2, seval]
   have KF : ∀ γ, Fr γ → H2 γ = H1 γ := by
    intro γ hγ
    have g3 : γ ≠ nx + 3 := fun e => nc (e ▸ hγ)
    have g4 := hFr γ hγ
    rw [q2 γ (.inl hγ)]
    simp only [updH]
    repeat rw [if_neg (by first | assumption | omega)]
   cases b with
   | true =>
    simp only [vz, tyf, seval, ua, nm, rg, Bool.not_true]
    refine ⟨Kc, (show nx1 ≤ nx2 by omega), fun γ hγ => ?_, ?_⟩
    ·have g3 : γ ≠ nx + 3 := fun e => nc (e ▸ hγ)
     simp only [updH]
     rw [if_neg g3]
     exact KF γ hγ
    ·simp only [if_true] at q3 ⊢
     refine ⟨[(nx, .cells (some 144) [.yl β]), (nx + 2, .deferred (some [])), (nx + 3, LO)], some (L3.map sM), Own.cons (show nx < nx2 by omega) na ?_ (Own.cons (show nx + 2 < nx2 by omega) nb ?_ (Own.cons (show nx + 3 < nx2 by omega) nc ?_ Own.nil)), ?_, ?_⟩
     ·simp only [zaa, seval, hne, Ka]
     ·simp only [zaa, nm, seval, Kb]
     ·simp only [zaa, seval]
     ·rw [hJ]
      exact ⟨p, L3, rfl, hf2, rfl, rfl⟩
     ·simp only [hfr]
      refine hst _ _ _ _ _ _ _ q3 ?_ (by omega) (fun γ h => .inl h)
      intro γ _ hn
      have g3 : γ ≠ nx + 3 := fun e => hn (.inr (.inr (.inr e)))
      simp only [updH]
      rw [if_neg g3]
   | false =>
    simp only [vz, tyf, seval, ua, nm, rg, Bool.not_false]
    refine ⟨Kc, (show nx1 ≤ nx2 by omega), fun γ hγ => ?_, ?_⟩
    ·have g3 : γ ≠ nx + 3 := fun e => nc (e ▸ hγ)
     simp only [updH]
     rw [if_neg g3]
     exact KF γ hγ
    ·simp only [Bool.false_eq_true, if_false] at q3 ⊢
     have hfr2 : ∀ γ, (∃ q ∈ [(nx, .cells (some 144) [.yl β]), (nx + 2, .deferred (some [])), (nx + 3, LD .ret)], (q : Nat × VObj).1 = γ) ↔ γ = nx ∨ γ = nx + 2 ∨ γ = nx + 3 := by
      intro γ
      simp [eq_comm]
     refine ⟨[(nx, .cells (some 144) [.yl β]), (nx + 2, .deferred (some [])), (nx + 3, LD .ret)], none, Own.cons (show nx < nx2 by omega) na ?_ (Own.cons (show nx + 2 < nx2 by omega) nb ?_ (Own.cons (show nx + 3 < nx2 by omega) nc ?_ Own.nil)), ?_, ?_⟩
     ·simp only [zaa, seval, hne, Ka]
     ·simp only [zaa, nm, seval, Kb]
     ·simp only [zaa, seval]
     ·rw [hJ]
      exact ⟨LD, ⟨_, _, _, _, _, hLD⟩, rfl, rfl⟩
     ·simp only [hfr2]
      refine hst _ _ _ _ _ _ _ q3 ?_ (by omega) (fun γ h => .inl h)
      intro γ _ hn
      have g3 : γ ≠ nx + 3 := fun e => hn (.inr (.inr (.inr e)))
      simp only [updH]
      rw [if_neg g3]
 ·have hfr : ∀ γ, (∃ q ∈ [(nx, .cells (some 144) [.yl β]), (nx + 2, .deferred (some [])), (nx + 3, LO)], (q : Nat × VObj).1 = γ) ↔ γ = nx ∨ γ = nx + 2 ∨ γ = nx + 3 := by
   intro γ
   simp [eq_comm]
  refine ⟨[(nx, .cells (some 144) [.yl β]), (nx + 2, .deferred (some [])), (nx + 3, LO)], some (L'.map sM), Own.cons (show nx < nx + 4 by omega) (fun h => h) ?_ (Own.cons (show nx + 2 < nx + 4 by omega) (fun h => h) ?_ (Own.cons (show nx + 3 < nx + 4 by omega) (fun h => h) ?_ Own.nil)), ?_, ?_⟩
  ·simp only [updH]
   rw [if_neg (by omega), if_neg (by omega), if_pos (by omega)]
  ·simp only [updH]
   simp
  ·simp only [updH]
   simp
  ·rw [hJ]
   exact ⟨L, L', rfl, h, rfl, rfl⟩
  ·simp only [hfr]
   refine hst _ _ _ _ _ _ _ hI ?_ (by omega) ?_
   ·intro γ hγ _
    simp only [updH]
    repeat rw [if_neg (by omega)]
   ·rintro γ (h | rfl | rfl | rfl)
    ·exact h.elim
    ·right; omega
    ·right; omega
    ·right; omega
 ·rintro H' nx' (⟨hp, o', hown, hj, hi⟩ | ⟨hp, o', hown, hj, hi⟩)
  ·rw [hJ] at hj
   obtain ⟨p, L2, hl, hf, rfl, rfl⟩ := hj
   cases p with
   | cons e p => cases hl
   | nil =>
   simp only [filterO, Option.some.injEq] at hf
   subst hf
   obtain ⟨la, na, Ha⟩ := hown.head
   obtain ⟨lb, nb, Hb⟩ := hown.tail.head
   obtain ⟨lc, nc, Hc⟩ := hown.tail.tail.head
   have hfr : ∀ γ, (∃ q ∈ [(nx, .cells (some 144) [.yl β]), (nx + 2, .deferred (some [])), (nx + 3, LO)], (q : Nat × VObj).1 = γ) ↔ γ = nx ∨ γ = nx + 2 ∨ γ = nx + 3 := by
    intro γ
    simp [eq_comm]
   simp only [hfr] at hi
   refine zes hLO Hc ?_
   intro LX
   simp only [vz, tyf, seval, ua, nm, rg]
   refine zpt (by simp only [zaa, nm, seval, Hb]) ?_
   refine zhw (x := .tup []) (by simp [Tryz.results126, resV, resL]) (.inl ?_)
   refine hst _ _ _ _ _ _ _ hi ?_ (Nat.le_refl _) (fun γ h => h.elim)
   intro γ _ hn
   have g2 : γ ≠ nx + 2 := fun e => hn (.inr (.inr (.inl e)))
   have g3 : γ ≠ nx + 3 := fun e => hn (.inr (.inr (.inr e)))
   simp only [updH]
   repeat rw [if_neg (by first | assumption | omega)]
  ·rw [hJ] at hj
   obtain ⟨LD, ⟨tml, ps, az, bo, d, hLD⟩, rfl, rfl⟩ := hj
   obtain ⟨la, na, Ha⟩ := hown.head
   obtain ⟨lb, nb, Hb⟩ := hown.tail.head
   obtain ⟨lc, nc, Hc⟩ := hown.tail.tail.head
   have hfr : ∀ γ, (∃ q ∈ [(nx, .cells (some 144) [.yl β]), (nx + 2, .deferred (some [])), (nx + 3, LD .ret)], (q : Nat × VObj).1 = γ) ↔ γ = nx ∨ γ = nx + 2 ∨ γ = nx + 3 := by
    intro γ
    simp [eq_comm]
   simp only [hfr] at hi
   refine zfv hLD Hc ?_
   intro LX
   simp only [vz, tyf, seval, ua, nm, rg]
   refine zgn (by simp only [zaa, nm, seval, Hb]) ?_
   refine zap (x := .tup []) (by simp [Tryz.results126, resV, resL]) (.inr ?_)
   refine hst _ _ _ _ _ _ _ hi ?_ (Nat.le_refl _) (fun γ h => h.elim)
   intro γ _ hn
   have g2 : γ ≠ nx + 2 := fun e => hn (.inr (.inr (.inl e)))
   have g3 : γ ≠ nx + 3 := fun e => hn (.inr (.inr (.inr e)))
   simp only [updH]
   repeat rw [if_neg (by first | assumption | omega)]
def zbn (x0_x : Gm) (xpg : Int) : Option (Int) := Option.bind (zfk x0_x) (fun r1 => cond (xpg == 0) (Option.bind (zev x0_x.sh) (fun r2 => Option.bind (zde x0_x) (fun r3 => cond ((r3 != 0)) (some (IntKind.i64.wrap (Int.tdiv (IntKind.i64.wrap ((IntKind.i64.wrap ((if (IntKind.i64.wrap (r1.a0.High - (IntKind.i64.wrap (r3 * r2.a0.Low)))) < (IntKind.i64.wrap ((IntKind.i64.wrap (r3 * r2.a0.High)) - r1.a0.Low)) then (IntKind.i64.wrap ((IntKind.i64.wrap (r3 * r2.a0.High)) - r1.a0.Low)) else (IntKind.i64.wrap (r1.a0.High - (IntKind.i64.wrap (r3 * r2.a0.Low))))) + r3)) - 1)) r3))) none))) (cond (xpg == 1) (Option.bind (zev x0_x.sh) (fun r4 => Option.bind (zde x0_x) (fun r5 => cond ((r5 != 0)) (some (IntKind.i64.wrap (Int.tdiv (IntKind.i64.wrap ((IntKind.i64.wrap ((if (IntKind.i64.wrap (r1.a1.High - (IntKind.i64.wrap (r5 * r4.a1.Low)))) < (IntKind.i64.wrap ((IntKind.i64.wrap (r5 * r4.a1.High)) - r1.a1.Low)) then (IntKind.i64.wrap ((IntKind.i64.wrap (r5 * r4.a1.High)) - r1.a1.Low)) else (IntKind.i64.wrap (r1.a1.High - (IntKind.i64.wrap (r5 * r4.a1.Low))))) + r5)) - 1)) r5))) none))) (cond (xpg == 2) (Option.bind (zev x0_x.sh) (fun r6 => Option.bind (zde x0_x) (fun r7 => cond ((r7 != 0)) (some (IntKind.i64.wrap (Int.tdiv (IntKind.i64.wrap ((IntKind.i64.wrap ((if (IntKind.i64.wrap (r1.a2.High - (IntKind.i64.wrap (r7 * r6.a2.Low)))) < (IntKind.i64.wrap ((IntKind.i64.wrap (r7 * r6.a2.High)) - r1.a2.Low)) then (IntKind.i64.wrap ((IntKind.i64.wrap (r7 * r6.a2.High)) - r1.a2.Low)) else (IntKind.i64.wrap (r1.a2.High - (IntKind.i64.wrap (r7 * r6.a2.Low))))) + r7)) - 1)) r7))) none))) (none))))
theorem zcd (x0_x : Gm) (xpg : Int) (R : Int) (h : zbn x0_x xpg = some R) : VPure Tryz.prog G0 111 [.agg (cGm x0_x), .lit (.int .i64 xpg)] (.tree (.lit (.int .i64 R))) := by
 refine VPure.runR mixed Tryz.call111 Tryz.func111 rfl (by simp [Tryz.ntmps111]; kernel_rfl) ?_
 obtain ⟨KF, h, kF, kN⟩ := zan h
 simp only [zbn] at h
 simp only [vz, qr, tyf, nm, seval]
 refine zea (fun tm => tm 1 = .lit (.int .i64 xpg) ∧ tm 2 = .ptr 0 0 ∧ True) (by refine ⟨?_, ?_, trivial⟩ <;> first | (simp only [ua, nm, seval] <;> rfl) | rfl) ?_
 rintro tm ⟨e8, e9, _⟩
 obtain ⟨r10, o11, h⟩ := optI h kN
 try simp only [hs] at h
 simp only [vz, qr, tyf, e8, e9, nm, seval]
 refine dktA (zji _ _ o11) ?_
 refine zaf (fun tm => tm 1 = .lit (.int .i64 xpg) ∧ tm 2 = .ptr 0 0 ∧ tm 10 = .agg (cGa r10) ∧ True) (by refine ⟨e8, e9, ?_, trivial⟩ <;> first | (simp only [ua, e8, e9, nm, seval] <;> rfl) | rfl) ?_
 rintro tm ⟨e12, e13, e14, _⟩
 cases d15 : (xpg == 0)
 ·simp only [d15, hs] at h
  cases d16 : (xpg == 1)
  ·simp only [d16, hs] at h
   cases d17 : (xpg == 2)
   ·simp only [d17, hs] at h
    exact absurd h kN
   simp only [d17, hs] at h
   obtain ⟨r18, o19, h⟩ := optI h kN
   try simp only [hs] at h
   simp only [vz, qr, tyf, e12, e13, e14, d15, d16, d17, (zwn d17), nm, seval]
   refine dktA (zgm _ _ o19) ?_
   refine zaf (fun tm => tm 1 = .lit (.int .i64 xpg) ∧ tm 2 = .ptr 0 0 ∧ tm 12 = .agg (cGSpan r10.a2) ∧ tm 15 = .agg (cGa r18) ∧ True) (by refine ⟨e12, e13, ?_, ?_, trivial⟩ <;> first | (simp only [ua, e12, e13, e14, d15, d16, d17, nm, seval] <;> rfl) | rfl) ?_
   rintro tm ⟨e20, e21, e22, e23, _⟩
   obtain ⟨r24, o25, h⟩ := optI h kN
   try simp only [hs] at h
   simp only [vz, qr, tyf, d15, d16, d17, (zwn d17), e20, e21, e22, e23, nm, seval]
   refine dktA (zeh _ _ o25) ?_
   refine zaf (fun tm => tm 12 = .agg (cGSpan r10.a2) ∧ tm 17 = .agg (cGSpan r18.a2) ∧ tm 19 = .lit (.int .i64 r24) ∧ True) (by refine ⟨e22, ?_, ?_, trivial⟩ <;> first | (simp only [ua, d15, d16, d17, e20, e21, e22, e23, nm, seval] <;> rfl) | rfl) ?_
   rintro tm ⟨e26, e27, e28, _⟩
   simp only [vz, qr, tyf, d15, d16, d17, (zwn d17), e26, e27, e28, nm, seval]
   refine zcr ⟨?_, ?_⟩
   ·simp only [zbl, zbv, zam, zdy, and_true, true_and]
    repeat' (first | exact trivial | refine And.intro ?_ ?_ | rw [zam] | rw [zcs] | exact Or.inl (by decide +kernel) | exact Or.inl (by dsimp only; decide +kernel) | (refine Or.inr ⟨?_, ?_⟩ <;> simp; done) | (refine Or.inr ⟨?_, ?_⟩ <;> simp <;> omega) | (refine Or.inr ⟨?_, ?_⟩ <;> simp [VEff.wr] <;> omega))
   cases g29 : ((r24 != 0))
   ·simp only [g29, hs] at h
    exact absurd h kN
   simp only [g29, hs] at h
   try simp only [vz, qr, tyf, d15, d16, d17, (zwn d17), e26, e27, e28, g29, nm, seval]
   refine zap (x := (.lit (.int .i64 (IntKind.i64.wrap (Int.tdiv (IntKind.i64.wrap ((IntKind.i64.wrap ((if (IntKind.i64.wrap (r10.a2.High - (IntKind.i64.wrap (r24 * r18.a2.Low)))) < (IntKind.i64.wrap ((IntKind.i64.wrap (r24 * r18.a2.High)) - r10.a2.Low)) then (IntKind.i64.wrap ((IntKind.i64.wrap (r24 * r18.a2.High)) - r10.a2.Low)) else (IntKind.i64.wrap (r10.a2.High - (IntKind.i64.wrap (r24 * r18.a2.Low))))) + r24)) - 1)) r24))))) (by first | (simp only [Tryz.results111, resV, resL, resV1, zat, zbq, uw, cr, tyf, d15, d16, d17, (zwn d17), g29, nm, seval] <;> rfl) | rfl) ?_
   obtain rfl := kF _ h
   refine zas ?_ ?_
   ·simp only [tre, tytre, Bool.and_self]
   ·first | (simp only [outV, uw, zah, cr, tyf, nrm, tynrm, d15, d16, d17, (zwn d17), e26, e27, e28, g29, nm, seval] <;> rfl) | rfl
  simp only [d16, hs] at h
  obtain ⟨r30, o31, h⟩ := optI h kN
  try simp only [hs] at h
  simp only [vz, qr, tyf, e12, e13, e14, d15, d16, (zwm d16), nm, seval]
  refine dktA (zgm _ _ o31) ?_
  refine zaf (fun tm => tm 1 = .lit (.int .i64 xpg) ∧ tm 2 = .ptr 0 0 ∧ tm 12 = .agg (cGSpan r10.a1) ∧ tm 15 = .agg (cGa r30) ∧ True) (by refine ⟨e12, e13, ?_, ?_, trivial⟩ <;> first | (simp only [ua, e12, e13, e14, d15, d16, nm, seval] <;> rfl) | rfl) ?_
  rintro tm ⟨e32, e33, e34, e35, _⟩
  obtain ⟨r36, o37, h⟩ := optI h kN
  try simp only [hs] at h
  simp only [vz, qr, tyf, d15, d16, (zwm d16), e32, e33, e34, e35, nm, seval]
  refine dktA (zeh _ _ o37) ?_
  refine zaf (fun tm => tm 12 = .agg (cGSpan r10.a1) ∧ tm 17 = .agg (cGSpan r30.a1) ∧ tm 19 = .lit (.int .i64 r36) ∧ True) (by refine ⟨e34, ?_, ?_, trivial⟩ <;> first | (simp only [ua, d15, d16, e32, e33, e34, e35, nm, seval] <;> rfl) | rfl) ?_
  rintro tm ⟨e38, e39, e40, _⟩
  simp only [vz, qr, tyf, d15, d16, (zwm d16), e38, e39, e40, nm, seval]
  refine zcr ⟨?_, ?_⟩
  ·simp only [zbl, zbv, zam, zdy, and_true, true_and]
   repeat' (first | exact trivial | refine And.intro ?_ ?_ | rw [zam] | rw [zcs] | exact Or.inl (by decide +kernel) | exact Or.inl (by dsimp only; decide +kernel) | (refine Or.inr ⟨?_, ?_⟩ <;> simp; done) | (refine Or.inr ⟨?_, ?_⟩ <;> simp <;> omega) | (refine Or.inr ⟨?_, ?_⟩ <;> simp [VEff.wr] <;> omega))
  cases g41 : ((r36 != 0))
  ·simp only [g41, hs] at h
   exact absurd h kN
  simp only [g41, hs] at h
  try simp only [vz, qr, tyf, d15, d16, (zwm d16), e38, e39, e40, g41, nm, seval]
  refine zap (x := (.lit (.int .i64 (IntKind.i64.wrap (Int.tdiv (IntKind.i64.wrap ((IntKind.i64.wrap ((if (IntKind.i64.wrap (r10.a1.High - (IntKind.i64.wrap (r36 * r30.a1.Low)))) < (IntKind.i64.wrap ((IntKind.i64.wrap (r36 * r30.a1.High)) - r10.a1.Low)) then (IntKind.i64.wrap ((IntKind.i64.wrap (r36 * r30.a1.High)) - r10.a1.Low)) else (IntKind.i64.wrap (r10.a1.High - (IntKind.i64.wrap (r36 * r30.a1.Low))))) + r36)) - 1)) r36))))) (by first | (simp only [Tryz.results111, resV, resL, resV1, zat, zbq, uw, cr, tyf, d15, d16, (zwm d16), g41, nm, seval] <;> rfl) | rfl) ?_
  obtain rfl := kF _ h
  refine zas ?_ ?_
  ·simp only [tre, tytre, Bool.and_self]
  ·first | (simp only [outV, uw, zah, cr, tyf, nrm, tynrm, d15, d16, (zwm d16), e38, e39, e40, g41, nm, seval] <;> rfl) | rfl
 simp only [d15, hs] at h
 obtain ⟨r42, o43, h⟩ := optI h kN
 try simp only [hs] at h
 simp only [vz, qr, tyf, e12, e13, e14, d15, (zwp d15), nm, seval]
 refine dktA (zgm _ _ o43) ?_
 refine zaf (fun tm => tm 1 = .lit (.int .i64 xpg) ∧ tm 2 = .ptr 0 0 ∧ tm 12 = .agg (cGSpan r10.a0) ∧ tm 15 = .agg (cGa r42) ∧ True) (by refine ⟨e12, e13, ?_, ?_, trivial⟩ <;> first | (simp only [ua, e12, e13, e14, d15, nm, seval] <;> rfl) | rfl) ?_
 rintro tm ⟨e44, e45, e46, e47, _⟩
 obtain ⟨r48, o49, h⟩ := optI h kN
 try simp only [hs] at h
 simp only [vz, qr, tyf, d15, (zwp d15), e44, e45, e46, e47, nm, seval]
 refine dktA (zeh _ _ o49) ?_
 refine zaf (fun tm => tm 12 = .agg (cGSpan r10.a0) ∧ tm 17 = .agg (cGSpan r42.a0) ∧ tm 19 = .lit (.int .i64 r48) ∧ True) (by refine ⟨e46, ?_, ?_, trivial⟩ <;> first | (simp only [ua, d15, e44, e45, e46, e47, nm, seval] <;> rfl) | rfl) ?_
 rintro tm ⟨e50, e51, e52, _⟩
 simp only [vz, qr, tyf, d15, (zwp d15), e50, e51, e52, nm, seval]
 refine zcr ⟨?_, ?_⟩
 ·simp only [zbl, zbv, zam, zdy, and_true, true_and]
  repeat' (first | exact trivial | refine And.intro ?_ ?_ | rw [zam] | rw [zcs] | exact Or.inl (by decide +kernel) | exact Or.inl (by dsimp only; decide +kernel) | (refine Or.inr ⟨?_, ?_⟩ <;> simp; done) | (refine Or.inr ⟨?_, ?_⟩ <;> simp <;> omega) | (refine Or.inr ⟨?_, ?_⟩ <;> simp [VEff.wr] <;> omega))
 cases g53 : ((r48 != 0))
 ·simp only [g53, hs] at h
  exact absurd h kN
 simp only [g53, hs] at h
 try simp only [vz, qr, tyf, d15, (zwp d15), e50, e51, e52, g53, nm, seval]
 refine zap (x := (.lit (.int .i64 (IntKind.i64.wrap (Int.tdiv (IntKind.i64.wrap ((IntKind.i64.wrap ((if (IntKind.i64.wrap (r10.a0.High - (IntKind.i64.wrap (r48 * r42.a0.Low)))) < (IntKind.i64.wrap ((IntKind.i64.wrap (r48 * r42.a0.High)) - r10.a0.Low)) then (IntKind.i64.wrap ((IntKind.i64.wrap (r48 * r42.a0.High)) - r10.a0.Low)) else (IntKind.i64.wrap (r10.a0.High - (IntKind.i64.wrap (r48 * r42.a0.Low))))) + r48)) - 1)) r48))))) (by first | (simp only [Tryz.results111, resV, resL, resV1, zat, zbq, uw, cr, tyf, d15, (zwp d15), g53, nm, seval] <;> rfl) | rfl) ?_
 obtain rfl := kF _ h
 refine zas ?_ ?_
 ·simp only [tre, tytre, Bool.and_self]
 ·first | (simp only [outV, uw, zah, cr, tyf, nrm, tynrm, d15, (zwp d15), e50, e51, e52, g53, nm, seval] <;> rfl) | rfl
end Go.V
end
