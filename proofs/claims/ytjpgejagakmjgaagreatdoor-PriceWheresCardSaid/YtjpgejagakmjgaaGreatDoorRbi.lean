/- Part of a proof. -/
import Derived.Test.YtjpgejagakmjgaaGreatDoorRbg
set_option linter.all false
set_option maxRecDepth 4000
set_option maxHeartbeats 40000000
section
namespace Go.V
open Go Go.Proofs
def zbq  : List GPriceBoard → Int → (List Int) → (List Int) → Option (LOut ((List Int) × (List Int)) ((List Int) × (List Int)))
 | [], c0_8, c0_2, c0_3 => some (.go (c0_2, c0_3))
 | e0 :: p0, c0_8, c0_2, c0_3 => cond (roomOk 8 (List.length (c0_2 ++ [e0.Hours.Low]))) (cond (roomOk 8 (List.length (c0_3 ++ [e0.Hours.High]))) (zbq p0 (c0_8 + 1) (c0_2 ++ [e0.Hours.Low]) (c0_3 ++ [e0.Hours.High])) none) none
def zii (x0_boards : List GPriceBoard) : Option ((List Int) × (List Int)) := cond (lenOk x0_boards) (lbind (zbq x0_boards 0 ([] : List Int) ([] : List Int)) (fun r2 => some r2) (fun c1 => some (c1.1, c1.2)) (fun _ _ => none)) none
theorem zqh (x0_boards : List GPriceBoard) (R : (List Int) × (List Int)) (h : zii x0_boards = some R) : VPure Tryz.prog G0 65 [.sl (cellsL cGPriceBoard x0_boards) (List.length x0_boards) false] (.tree (.tup [.sl (cellsL eI R.1) (List.length R.1) false, .sl (cellsL eI R.2) (List.length R.2) false])) := by
 refine VPure.runR mixed Tryz.call65 Tryz.func65 rfl (by simp [Tryz.ntmps65]; kernel_rfl) ?_
 obtain ⟨KF, h, kF, kN⟩ := zal h
 simp only [zii] at h
 cases g4 : (lenOk x0_boards)
 ·simp only [g4, hs] at h
  exact absurd h kN
 simp only [g4, hs] at h
 simp only [vz, tyf, g4, nm, seval]
 obtain ⟨K3, h, kR3, kG3, kB3, kN3⟩ := zbl h kN
 obtain ⟨f3, hf3, h⟩ := call4 h
 obtain ⟨I3, hI3⟩ : ∃ I : Nat → St → Prop, I = (fun m st => ∃ (p3 : List GPriceBoard) (c3_8 : Int) (c3_2 : List Int) (c3_3 : List Int) (y3_0 : VV) (y3_1 : VV), m = List.length p3 ∧ 0 ≤ c3_8 ∧ List.drop (Int.toNat c3_8) x0_boards = p3 ∧ st.df = [] ∧ 5 ≤ st.nx ∧ st.tm 6 = .sl (cellsL cGPriceBoard x0_boards) (List.length x0_boards) false ∧ st.tm 7 = .lit (.int .i64 (List.length x0_boards : Int)) ∧ st.tm 2 = y3_0 ∧ st.tm 3 = y3_1 ∧ st.tm 8 = .lit (.int .i64 c3_8) ∧ ((∃ (β : Nat) (el : Option TypeId), y3_0 = .ref β 0 (List.length c3_2) 1 (List.length c3_2) ∧ β < st.nx ∧ st.H β = some (.cells el (cellsL eI c3_2))) ∨ (y3_0 = .lit (.slice none 0 0) ∧ c3_2 = [])) ∧ ((∃ (β : Nat) (el : Option TypeId), y3_1 = .ref β 0 (List.length c3_3) 1 (List.length c3_3) ∧ β < st.nx ∧ st.H β = some (.cells el (cellsL eI c3_3))) ∨ (y3_1 = .lit (.slice none 0 0) ∧ c3_3 = [])) ∧ NeR y3_0 y3_1 ∧ K3 (f3 p3 c3_8 c3_2 c3_3)) := ⟨_, rfl⟩
 refine loopK mixed (by kernel_rfl) I3 (List.length x0_boards) (by rw [hI3]; refine ⟨x0_boards, 0, ([] : List Int), ([] : List Int), .lit (.slice none 0 0), .lit (.slice none 0 0), rfl, Int.le_refl _, rfl, rfl, (show 5 ≤ 5 by omega), ?_, ?_, ?_, ?_, ?_, Or.inr ⟨rfl, rfl⟩, Or.inr ⟨rfl, rfl⟩, (by first | trivial | (show _ ≠ _; first | omega | (intro hh; simp only [reduceCtorEq] at hh))), h⟩ <;> first | (simp only [ua, nm, seval] <;> rfl) | rfl) ?_
 rintro m ⟨tm, H, nx3, df⟩ hinv
 rw [hI3] at hinv
 obtain ⟨p3, c3_8, c3_2, c3_3, y3_0, y3_1, rfl, hi3, hp3, hdf, hn3, e5, e6, e7, e8, e9, ow3_0, ow3_1, nr3_0_1, h⟩ := hinv
 simp only at hdf hn3 e5 e6 e7 e8 e9 ow3_0 ow3_1
 have n10 := zdv (m := 5) (b := nx3) (by omega)
 subst hdf hf3
 rcases ow3_0 with ⟨b3_0, el3_0, rfl, lq12, H11⟩ | ⟨rfl, rfl⟩
 ·have q12 := zlf lq12
  rcases ow3_1 with ⟨b3_1, el3_1, rfl, lq14, H13⟩ | ⟨rfl, rfl⟩
  ·have q14 := zlf lq14
   have qnr3_0_1 := ne_f (show b3_0 ≠ b3_1 from nr3_0_1)
   cases p3 with
   | nil =>
    have d15 : (decide (c3_8 < (List.length x0_boards : Int))) = false := zap hi3 hp3
    simp only [zbq, hs, reduceCtorEq] at h
    replace h := kG3 _ h
    try dsimp only at h
    try simp only [hs] at h
    try simp only [vz, tyf, g4, n10, e5, e6, e7, e8, e9, q12, H11, q14, H13, qnr3_0_1, d15, nm, seval]
    refine zao (x := (.tup [.ref b3_0 0 (List.length c3_2) 1 (List.length c3_2), .ref b3_1 0 (List.length c3_3) 1 (List.length c3_3)])) (by first | (simp only [Tryz.results65, resV, resL, resV1, zan, zbd, uw, cr, tyf, g4, n10, q12, H11, q14, H13, qnr3_0_1, d15, nm, seval] <;> rfl) | rfl) ?_
    obtain rfl := kF _ h
    refine zaz ?_ ?_
    ·simp only [tre, tytre, Bool.and_self]
    ·first | (simp only [outV, uw, zai, cr, tyf, nrm, tynrm, g4, n10, e5, e6, e7, e8, e9, q12, H11, q14, H13, qnr3_0_1, d15, nm, seval] <;> rfl) | rfl
   | cons e3 p3 =>
    have d16 : (decide (c3_8 < (List.length x0_boards : Int))) = true := zbg hi3 hp3
    have o18 := zam hi3 hp3
    have w17 := zbu hi3 hp3 g4
    simp only [zbq, hs, reduceCtorEq] at h
    simp only [vz, tyf, g4, n10, e5, e6, e7, e8, e9, q12, H11, q14, H13, qnr3_0_1, d16, (ix23 o18), w17, nm, seval]
    refine zcr (fun tm => tm 2 = .ref b3_0 0 (List.length c3_2) 1 (List.length c3_2) ∧ tm 3 = .ref b3_1 0 (List.length c3_3) 1 (List.length c3_3) ∧ tm 5 = .ptr (nx3 + 3) 0 ∧ tm 6 = .sl (cellsL cGPriceBoard x0_boards) (List.length x0_boards) false ∧ tm 7 = .lit (.int .i64 (List.length x0_boards : Int)) ∧ tm 8 = .lit (.int .i64 c3_8) ∧ True) (by refine ⟨e7, e8, ?_, e5, e6, e9, trivial⟩ <;> first | (simp only [ua, n10, e5, e6, e7, e8, e9, q12, H11, q14, H13, d16, w17, nm, seval] <;> rfl) | rfl) ?_
    rintro tm ⟨e19, e20, e21, e22, e23, e24, _⟩
    have b25 := And.intro g4 (And.intro n10 (And.intro q12 (And.intro H11 (And.intro q14 (And.intro H13 (And.intro qnr3_0_1 (And.intro d16 w17)))))))
    cases g26 : (roomOk 8 (List.length (c3_2 ++ [e3.Hours.Low])))
    ·simp only [g26, hs] at h
     exact absurd h kN3
    simp only [g26, hs] at h
    simp only [vz, tyf, b25, (ix23 o18), e19, e20, e21, e22, e23, e24, g26, nm, seval]
    refine k_app (w := 1) (enc := eI) (xs := c3_2) (ys := ([e3.Hours.Low])) (el := el3_0) (el2 := (some 3)) (fun _ => rfl) lf22 ao22 Tryz.underlying22 (by first | rfl | assumption | (simp only [zad, zab, et22, b25, nm, seval] <;> rfl) | (simp only [zad, zab, zaw, zbc, zfu, zdf, tyf, b25, (ix23 o18), e19, e20, e21, e22, e23, e24, g26, nm, seval]; done)) (by first | rfl | assumption | (simp only [zad, zab, et22, b25, nm, seval] <;> rfl) | (simp only [zad, zab, zaw, zbc, zfu, zdf, tyf, b25, (ix23 o18), e19, e20, e21, e22, e23, e24, g26, nm, seval]; done)) (Nat.zero_lt_succ _) g26 ?_
    cases g27 : (roomOk 8 (List.length (c3_3 ++ [e3.Hours.High])))
    ·simp only [g27, hs] at h
     exact absurd h kN3
    simp only [g27, hs] at h
    simp only [vz, tyf, b25, (ix23 o18), e19, e20, e21, e22, e23, e24, g26, g27, nm, seval]
    refine k_app (w := 1) (enc := eI) (xs := c3_3) (ys := ([e3.Hours.High])) (el := el3_1) (el2 := (some 3)) (fun _ => rfl) lf22 ao22 Tryz.underlying22 (by first | rfl | assumption | (simp only [zad, zab, et22, b25, nm, seval] <;> rfl) | (simp only [zad, zab, zaw, zbc, zfu, zdf, tyf, b25, (ix23 o18), e19, e20, e21, e22, e23, e24, g26, g27, nm, seval]; done)) (by first | rfl | assumption | (simp only [zad, zab, et22, b25, nm, seval] <;> rfl) | (simp only [zad, zab, zaw, zbc, zfu, zdf, tyf, b25, (ix23 o18), e19, e20, e21, e22, e23, e24, g26, g27, nm, seval]; done)) (Nat.zero_lt_succ _) g27 ?_
    simp only [vz, tyf, b25, (ix23 o18), e19, e20, e21, e22, e23, e24, g26, g27, nm, seval]
    refine zdn ⟨?_, ?_⟩
    ·simp only [zca, zct, zay, zeo, and_true, true_and]
     repeat' (first | exact trivial | refine And.intro ?_ ?_ | rw [zay] | rw [zdm] | exact Or.inl (by decide +kernel) | exact Or.inl (by dsimp only; decide +kernel) | (refine Or.inr ⟨?_, ?_⟩ <;> simp; done) | (refine Or.inr ⟨?_, ?_⟩ <;> simp <;> omega) | (refine Or.inr ⟨?_, ?_⟩ <;> simp [VEff.wr] <;> omega))
    simp only [vz, tyf, b25, (ix23 o18), e19, e20, e21, e22, e23, e24, g26, g27, nm, seval]
    exact ⟨List.length p3, Nat.lt_succ_self _, by rw [hI3]; refine ⟨p3, c3_8 + 1, (c3_2 ++ [e3.Hours.Low]), (c3_3 ++ [e3.Hours.High]), .ref (nx3 + 10) 0 (List.length (c3_2 ++ [e3.Hours.Low])) 1 (List.length (c3_2 ++ [e3.Hours.Low])), .ref (nx3 + 16) 0 (List.length (c3_3 ++ [e3.Hours.High])) 1 (List.length (c3_3 ++ [e3.Hours.High])), rfl, Int.le_trans hi3 (Int.le_add_one (Int.le_refl _)), zba hi3 hp3, rfl, (show 5 ≤ nx3 + 21 by omega), e22, e23, ?_, ?_, ?_, Or.inl ⟨nx3 + 10, (sameEl el3_0 3), rfl, (by first | omega | (simp only [nm, seval]; omega)), ?_⟩, Or.inl ⟨nx3 + 16, (sameEl el3_1 3), rfl, (by first | omega | (simp only [nm, seval]; omega)), ?_⟩, (by first | trivial | (show _ ≠ _; first | omega | (intro hh; simp only [b25, reduceCtorEq] at hh))), (by first | exact h | (simp only [b25]; exact h))⟩ <;> first | (simp only [ua, b25, e19, e20, e21, e22, e23, e24, nm, seval] <;> rfl) | rfl⟩
  ·cases p3 with
   | nil =>
    have d28 : (decide (c3_8 < (List.length x0_boards : Int))) = false := zap hi3 hp3
    simp only [zbq, hs, reduceCtorEq] at h
    replace h := kG3 _ h
    try dsimp only at h
    try simp only [hs] at h
    try simp only [vz, tyf, g4, n10, e5, e6, e7, e8, e9, q12, H11, d28, nm, seval]
    refine zao (x := (.tup [.ref b3_0 0 (List.length c3_2) 1 (List.length c3_2), .lit (.slice none 0 0)])) (by first | (simp only [Tryz.results65, resV, resL, resV1, zan, zbd, uw, cr, tyf, g4, n10, q12, H11, d28, nm, seval] <;> rfl) | rfl) ?_
    obtain rfl := kF _ h
    refine zaz ?_ ?_
    ·simp only [tre, tytre, Bool.and_self]
    ·first | (simp only [outV, uw, zai, cr, tyf, nrm, tynrm, g4, n10, e5, e6, e7, e8, e9, q12, H11, d28, nm, seval] <;> rfl) | rfl
   | cons e3 p3 =>
    have d29 : (decide (c3_8 < (List.length x0_boards : Int))) = true := zbg hi3 hp3
    have o31 := zam hi3 hp3
    have w30 := zbu hi3 hp3 g4
    simp only [zbq, hs, reduceCtorEq] at h
    simp only [vz, tyf, g4, n10, e5, e6, e7, e8, e9, q12, H11, d29, (ix23 o31), w30, nm, seval]
    refine zcr (fun tm => tm 2 = .ref b3_0 0 (List.length c3_2) 1 (List.length c3_2) ∧ tm 3 = .lit (.slice none 0 0) ∧ tm 5 = .ptr (nx3 + 3) 0 ∧ tm 6 = .sl (cellsL cGPriceBoard x0_boards) (List.length x0_boards) false ∧ tm 7 = .lit (.int .i64 (List.length x0_boards : Int)) ∧ tm 8 = .lit (.int .i64 c3_8) ∧ True) (by refine ⟨e7, e8, ?_, e5, e6, e9, trivial⟩ <;> first | (simp only [ua, n10, e5, e6, e7, e8, e9, q12, H11, d29, w30, nm, seval] <;> rfl) | rfl) ?_
    rintro tm ⟨e32, e33, e34, e35, e36, e37, _⟩
    cases g38 : (roomOk 8 (List.length (c3_2 ++ [e3.Hours.Low])))
    ·simp only [g38, hs] at h
     exact absurd h kN3
    simp only [g38, hs] at h
    simp only [vz, tyf, g4, n10, q12, H11, d29, (ix23 o31), w30, e32, e33, e34, e35, e36, e37, g38, nm, seval]
    refine k_app (w := 1) (enc := eI) (xs := c3_2) (ys := ([e3.Hours.Low])) (el := el3_0) (el2 := (some 3)) (fun _ => rfl) lf22 ao22 Tryz.underlying22 (by first | rfl | assumption | (simp only [zad, zab, et22, n10, q12, H11, nm, seval] <;> rfl) | (simp only [zad, zab, zaw, zbc, zfu, zdf, tyf, g4, n10, q12, H11, d29, (ix23 o31), w30, e32, e33, e34, e35, e36, e37, g38, nm, seval]; done)) (by first | rfl | assumption | (simp only [zad, zab, et22, n10, q12, H11, nm, seval] <;> rfl) | (simp only [zad, zab, zaw, zbc, zfu, zdf, tyf, g4, n10, q12, H11, d29, (ix23 o31), w30, e32, e33, e34, e35, e36, e37, g38, nm, seval]; done)) (Nat.zero_lt_succ _) g38 ?_
    cases g39 : (roomOk 8 (List.length (([] : List Int) ++ [e3.Hours.High])))
    ·simp only [g39, hs] at h
     exact absurd h kN3
    simp only [g39, hs] at h
    simp only [vz, tyf, g4, n10, q12, H11, d29, (ix23 o31), w30, e32, e33, e34, e35, e36, e37, g38, g39, nm, seval]
    refine zoi (w := 1) (enc := eI) (ys := ([e3.Hours.High])) (el2 := (some 3)) (fun _ => rfl) lf22 ao22 Tryz.underlying22 (by first | rfl | assumption | (simp only [zad, zab, et22, n10, q12, H11, nm, seval] <;> rfl) | (simp only [zad, zab, zaw, zbc, zfu, zdf, tyf, g4, n10, q12, H11, d29, (ix23 o31), w30, e32, e33, e34, e35, e36, e37, g38, g39, nm, seval]; done)) (Nat.zero_lt_succ _) g39 ?_
    simp only [vz, tyf, g4, n10, q12, H11, d29, (ix23 o31), w30, e32, e33, e34, e35, e36, e37, g38, g39, nm, seval]
    refine zdn ⟨?_, ?_⟩
    ·simp only [zca, zct, zay, zeo, and_true, true_and]
     repeat' (first | exact trivial | refine And.intro ?_ ?_ | rw [zay] | rw [zdm] | exact Or.inl (by decide +kernel) | exact Or.inl (by dsimp only; decide +kernel) | (refine Or.inr ⟨?_, ?_⟩ <;> simp; done) | (refine Or.inr ⟨?_, ?_⟩ <;> simp <;> omega) | (refine Or.inr ⟨?_, ?_⟩ <;> simp [VEff.wr] <;> omega))
    simp only [vz, tyf, g4, n10, q12, H11, d29, (ix23 o31), w30, e32, e33, e34, e35, e36, e37, g38, g39, nm, seval]
    exact ⟨List.length p3, Nat.lt_succ_self _, by rw [hI3]; refine ⟨p3, c3_8 + 1, (c3_2 ++ [e3.Hours.Low]), (([] : List Int) ++ [e3.Hours.High]), .ref (nx3 + 10) 0 (List.length (c3_2 ++ [e3.Hours.Low])) 1 (List.length (c3_2 ++ [e3.Hours.Low])), .ref (nx3 + 16) 0 (List.length (([] : List Int) ++ [e3.Hours.High])) 1 (List.length (([] : List Int) ++ [e3.Hours.High])), rfl, Int.le_trans hi3 (Int.le_add_one (Int.le_refl _)), zba hi3 hp3, rfl, (show 5 ≤ nx3 + 21 by omega), e35, e36, ?_, ?_, ?_, Or.inl ⟨nx3 + 10, (sameEl el3_0 3), rfl, (by first | omega | (simp only [nm, seval]; omega)), ?_⟩, Or.inl ⟨nx3 + 16, (some 3), rfl, (by first | omega | (simp only [nm, seval]; omega)), ?_⟩, (by first | trivial | (show _ ≠ _; first | omega | (intro hh; simp only [n10, q12, reduceCtorEq] at hh))), (by first | exact h | (simp only [d29]; exact h))⟩ <;> first | (simp only [ua, n10, q12, H11, d29, w30, e32, e33, e34, e35, e36, e37, nm, seval] <;> rfl) | rfl⟩
 ·rcases ow3_1 with ⟨b3_1, el3_1, rfl, lq41, H40⟩ | ⟨rfl, rfl⟩
  ·have q41 := zlf lq41
   cases p3 with
   | nil =>
    have d42 : (decide (c3_8 < (List.length x0_boards : Int))) = false := zap hi3 hp3
    simp only [zbq, hs, reduceCtorEq] at h
    replace h := kG3 _ h
    try dsimp only at h
    try simp only [hs] at h
    try simp only [vz, tyf, g4, n10, e5, e6, e7, e8, e9, q41, H40, d42, nm, seval]
    refine zao (x := (.tup [.lit (.slice none 0 0), .ref b3_1 0 (List.length c3_3) 1 (List.length c3_3)])) (by first | (simp only [Tryz.results65, resV, resL, resV1, zan, zbd, uw, cr, tyf, g4, n10, q41, H40, d42, nm, seval] <;> rfl) | rfl) ?_
    obtain rfl := kF _ h
    refine zaz ?_ ?_
    ·simp only [tre, tytre, Bool.and_self]
    ·first | (simp only [outV, uw, zai, cr, tyf, nrm, tynrm, g4, n10, e5, e6, e7, e8, e9, q41, H40, d42, nm, seval] <;> rfl) | rfl
   | cons e3 p3 =>
    have d43 : (decide (c3_8 < (List.length x0_boards : Int))) = true := zbg hi3 hp3
    have o45 := zam hi3 hp3
    have w44 := zbu hi3 hp3 g4
    simp only [zbq, hs, reduceCtorEq] at h
    simp only [vz, tyf, g4, n10, e5, e6, e7, e8, e9, q41, H40, d43, (ix23 o45), w44, nm, seval]
    refine zcr (fun tm => tm 2 = .lit (.slice none 0 0) ∧ tm 3 = .ref b3_1 0 (List.length c3_3) 1 (List.length c3_3) ∧ tm 5 = .ptr (nx3 + 3) 0 ∧ tm 6 = .sl (cellsL cGPriceBoard x0_boards) (List.length x0_boards) false ∧ tm 7 = .lit (.int .i64 (List.length x0_boards : Int)) ∧ tm 8 = .lit (.int .i64 c3_8) ∧ True) (by refine ⟨e7, e8, ?_, e5, e6, e9, trivial⟩ <;> first | (simp only [ua, n10, e5, e6, e7, e8, e9, q41, H40, d43, w44, nm, seval] <;> rfl) | rfl) ?_
    rintro tm ⟨e46, e47, e48, e49, e50, e51, _⟩
    cases g52 : (roomOk 8 (List.length (([] : List Int) ++ [e3.Hours.Low])))
    ·simp only [g52, hs] at h
     exact absurd h kN3
    simp only [g52, hs] at h
    simp only [vz, tyf, g4, n10, q41, H40, d43, (ix23 o45), w44, e46, e47, e48, e49, e50, e51, g52, nm, seval]
    refine zoi (w := 1) (enc := eI) (ys := ([e3.Hours.Low])) (el2 := (some 3)) (fun _ => rfl) lf22 ao22 Tryz.underlying22 (by first | rfl | assumption | (simp only [zad, zab, et22, n10, q41, H40, nm, seval] <;> rfl) | (simp only [zad, zab, zaw, zbc, zfu, zdf, tyf, g4, n10, q41, H40, d43, (ix23 o45), w44, e46, e47, e48, e49, e50, e51, g52, nm, seval]; done)) (Nat.zero_lt_succ _) g52 ?_
    cases g53 : (roomOk 8 (List.length (c3_3 ++ [e3.Hours.High])))
    ·simp only [g53, hs] at h
     exact absurd h kN3
    simp only [g53, hs] at h
    simp only [vz, tyf, g4, n10, q41, H40, d43, (ix23 o45), w44, e46, e47, e48, e49, e50, e51, g52, g53, nm, seval]
    refine k_app (w := 1) (enc := eI) (xs := c3_3) (ys := ([e3.Hours.High])) (el := el3_1) (el2 := (some 3)) (fun _ => rfl) lf22 ao22 Tryz.underlying22 (by first | rfl | assumption | (simp only [zad, zab, et22, n10, q41, H40, nm, seval] <;> rfl) | (simp only [zad, zab, zaw, zbc, zfu, zdf, tyf, g4, n10, q41, H40, d43, (ix23 o45), w44, e46, e47, e48, e49, e50, e51, g52, g53, nm, seval]; done)) (by first | rfl | assumption | (simp only [zad, zab, et22, n10, q41, H40, nm, seval] <;> rfl) | (simp only [zad, zab, zaw, zbc, zfu, zdf, tyf, g4, n10, q41, H40, d43, (ix23 o45), w44, e46, e47, e48, e49, e50, e51, g52, g53, nm, seval]; done)) (Nat.zero_lt_succ _) g53 ?_
    simp only [vz, tyf, g4, n10, q41, H40, d43, (ix23 o45), w44, e46, e47, e48, e49, e50, e51, g52, g53, nm, seval]
    refine zdn ⟨?_, ?_⟩
    ·simp only [zca, zct, zay, zeo, and_true, true_and]
     repeat' (first | exact trivial | refine And.intro ?_ ?_ | rw [zay] | rw [zdm] | exact Or.inl (by decide +kernel) | exact Or.inl (by dsimp only; decide +kernel) | (refine Or.inr ⟨?_, ?_⟩ <;> simp; done) | (refine Or.inr ⟨?_, ?_⟩ <;> simp <;> omega) | (refine Or.inr ⟨?_, ?_⟩ <;> simp [VEff.wr] <;> omega))
    simp only [vz, tyf, g4, n10, q41, H40, d43, (ix23 o45), w44, e46, e47, e48, e49, e50, e51, g52, g53, nm, seval]
    exact ⟨List.length p3, Nat.lt_succ_self _, by rw [hI3]; refine ⟨p3, c3_8 + 1, (([] : List Int) ++ [e3.Hours.Low]), (c3_3 ++ [e3.Hours.High]), .ref (nx3 + 10) 0 (List.length (([] : List Int) ++ [e3.Hours.Low])) 1 (List.length (([] : List Int) ++ [e3.Hours.Low])), .ref (nx3 + 16) 0 (List.length (c3_3 ++ [e3.Hours.High])) 1 (List.length (c3_3 ++ [e3.Hours.High])), rfl, Int.le_trans hi3 (Int.le_add_one (Int.le_refl _)), zba hi3 hp3, rfl, (show 5 ≤ nx3 + 21 by omega), e49, e50, ?_, ?_, ?_, Or.inl ⟨nx3 + 10, (some 3), rfl, (by first | omega | (simp only [nm, seval]; omega)), ?_⟩, Or.inl ⟨nx3 + 16, (sameEl el3_1 3), rfl, (by first | omega | (simp only [nm, seval]; omega)), ?_⟩, (by first | trivial | (show _ ≠ _; first | omega | (intro hh; simp only [n10, q41, reduceCtorEq] at hh))), (by first | exact h | (simp only [d43]; exact h))⟩ <;> first | (simp only [ua, n10, q41, H40, d43, w44, e46, e47, e48, e49, e50, e51, nm, seval] <;> rfl) | rfl⟩
  ·cases p3 with
   | nil =>
    have d54 : (decide (c3_8 < (List.length x0_boards : Int))) = false := zap hi3 hp3
    simp only [zbq, hs, reduceCtorEq] at h
    replace h := kG3 _ h
    try dsimp only at h
    try simp only [hs] at h
    try simp only [vz, tyf, g4, n10, e5, e6, e7, e8, e9, d54, nm, seval]
    refine zao (x := (.tup [.lit (.slice none 0 0), .lit (.slice none 0 0)])) (by first | (simp only [Tryz.results65, resV, resL, resV1, zan, zbd, uw, cr, tyf, g4, n10, d54, nm, seval] <;> rfl) | rfl) ?_
    obtain rfl := kF _ h
    refine zaz ?_ ?_
    ·simp only [tre, tytre, Bool.and_self]
    ·first | (simp only [outV, uw, zai, cr, tyf, nrm, tynrm, g4, n10, e5, e6, e7, e8, e9, d54, nm, seval] <;> rfl) | rfl
   | cons e3 p3 =>
    have d55 : (decide (c3_8 < (List.length x0_boards : Int))) = true := zbg hi3 hp3
    have o57 := zam hi3 hp3
    have w56 := zbu hi3 hp3 g4
    simp only [zbq, hs, reduceCtorEq] at h
    simp only [vz, tyf, g4, n10, e5, e6, e7, e8, e9, d55, (ix23 o57), w56, nm, seval]
    refine zcr (fun tm => tm 2 = .lit (.slice none 0 0) ∧ tm 3 = .lit (.slice none 0 0) ∧ tm 5 = .ptr (nx3 + 3) 0 ∧ tm 6 = .sl (cellsL cGPriceBoard x0_boards) (List.length x0_boards) false ∧ tm 7 = .lit (.int .i64 (List.length x0_boards : Int)) ∧ tm 8 = .lit (.int .i64 c3_8) ∧ True) (by refine ⟨e7, e8, ?_, e5, e6, e9, trivial⟩ <;> first | (simp only [ua, n10, e5, e6, e7, e8, e9, d55, w56, nm, seval] <;> rfl) | rfl) ?_
    rintro tm ⟨e58, e59, e60, e61, e62, e63, _⟩
    cases g64 : (roomOk 8 (List.length (([] : List Int) ++ [e3.Hours.Low])))
    ·simp only [g64, hs] at h
     exact absurd h kN3
    simp only [g64, hs] at h
    simp only [vz, tyf, g4, n10, d55, (ix23 o57), w56, e58, e59, e60, e61, e62, e63, g64, nm, seval]
    refine zoi (w := 1) (enc := eI) (ys := ([e3.Hours.Low])) (el2 := (some 3)) (fun _ => rfl) lf22 ao22 Tryz.underlying22 (by first | rfl | assumption | (simp only [zad, zab, et22, n10, nm, seval] <;> rfl) | (simp only [zad, zab, zaw, zbc, zfu, zdf, tyf, g4, n10, d55, (ix23 o57), w56, e58, e59, e60, e61, e62, e63, g64, nm, seval]; done)) (Nat.zero_lt_succ _) g64 ?_
    cases g65 : (roomOk 8 (List.length (([] : List Int) ++ [e3.Hours.High])))
    ·simp only [g65, hs] at h
     exact absurd h kN3
    simp only [g65, hs] at h
    simp only [vz, tyf, g4, n10, d55, (ix23 o57), w56, e58, e59, e60, e61, e62, e63, g64, g65, nm, seval]
    refine zoi (w := 1) (enc := eI) (ys := ([e3.Hours.High])) (el2 := (some 3)) (fun _ => rfl) lf22 ao22 Tryz.underlying22 (by first | rfl | assumption | (simp only [zad, zab, et22, n10, nm, seval] <;> rfl) | (simp only [zad, zab, zaw, zbc, zfu, zdf, tyf, g4, n10, d55, (ix23 o57), w56, e58, e59, e60, e61, e62, e63, g64, g65, nm, seval]; done)) (Nat.zero_lt_succ _) g65 ?_
    simp only [vz, tyf, g4, n10, d55, (ix23 o57), w56, e58, e59, e60, e61, e62, e63, g64, g65, nm, seval]
    refine zdn ⟨?_, ?_⟩
    ·simp only [zca, zct, zay, zeo, and_true, true_and]
     repeat' (first | exact trivial | refine And.intro ?_ ?_ | rw [zay] | rw [zdm] | exact Or.inl (by decide +kernel) | exact Or.inl (by dsimp only; decide +kernel) | (refine Or.inr ⟨?_, ?_⟩ <;> simp; done) | (refine Or.inr ⟨?_, ?_⟩ <;> simp <;> omega) | (refine Or.inr ⟨?_, ?_⟩ <;> simp [VEff.wr] <;> omega))
    simp only [vz, tyf, g4, n10, d55, (ix23 o57), w56, e58, e59, e60, e61, e62, e63, g64, g65, nm, seval]
    exact ⟨List.length p3, Nat.lt_succ_self _, by rw [hI3]; refine ⟨p3, c3_8 + 1, (([] : List Int) ++ [e3.Hours.Low]), (([] : List Int) ++ [e3.Hours.High]), .ref (nx3 + 10) 0 (List.length (([] : List Int) ++ [e3.Hours.Low])) 1 (List.length (([] : List Int) ++ [e3.Hours.Low])), .ref (nx3 + 16) 0 (List.length (([] : List Int) ++ [e3.Hours.High])) 1 (List.length (([] : List Int) ++ [e3.Hours.High])), rfl, Int.le_trans hi3 (Int.le_add_one (Int.le_refl _)), zba hi3 hp3, rfl, (show 5 ≤ nx3 + 21 by omega), e61, e62, ?_, ?_, ?_, Or.inl ⟨nx3 + 10, (some 3), rfl, (by first | omega | (simp only [nm, seval]; omega)), ?_⟩, Or.inl ⟨nx3 + 16, (some 3), rfl, (by first | omega | (simp only [nm, seval]; omega)), ?_⟩, (by first | trivial | (show _ ≠ _; first | omega | (intro hh; simp only [n10, reduceCtorEq] at hh))), (by first | exact h | (simp only [d55]; exact h))⟩ <;> first | (simp only [ua, n10, d55, w56, e58, e59, e60, e61, e62, e63, nm, seval] <;> rfl) | rfl⟩
def zdx (x0_x_PriceSheet : GPriceSheet) (x0_x_tariff : GPriceTariff) (x0_x_hours : List Int) (x1_hours : List Int) : Option (GPriceSheet × GPriceTariff × (List Int)) := some (x0_x_PriceSheet, x0_x_tariff, x1_hours)
theorem zjh (x0_x_PriceSheet : GPriceSheet) (x0_x_tariff : GPriceTariff) (x0_x_hours : List Int) (x1_hours : List Int) (b : Nat) (R : GPriceSheet × GPriceTariff × (List Int)) (h : zdx x0_x_PriceSheet x0_x_tariff x0_x_hours x1_hours = some R) : VPure Tryz.prog G0 68 [.agg [.sl (cellsL eI x0_x_PriceSheet.Offs) (List.length x0_x_PriceSheet.Offs) false, .sl (cellsL cGPriceBoard x0_x_PriceSheet.Boards) (List.length x0_x_PriceSheet.Boards) false, .sl (cellsL cGPriceTariff x0_x_PriceSheet.Tariffs) (List.length x0_x_PriceSheet.Tariffs) false, .lit (.int .i64 x0_x_tariff.Kind), .lit (.int .i64 x0_x_tariff.Coins), .lit (.int .i64 x0_x_tariff.Units), .lit (.int .i64 x0_x_tariff.Rule), .lit (.bool x0_x_tariff.Each), .sl (cellsL eI x0_x_hours) (List.length x0_x_hours) false, .lit (.map (some b))], .sl (cellsL eI x1_hours) (List.length x1_hours) false] (.tree (.agg [.sl (cellsL eI R.1.Offs) (List.length R.1.Offs) false, .sl (cellsL cGPriceBoard R.1.Boards) (List.length R.1.Boards) false, .sl (cellsL cGPriceTariff R.1.Tariffs) (List.length R.1.Tariffs) false, .lit (.int .i64 R.2.1.Kind), .lit (.int .i64 R.2.1.Coins), .lit (.int .i64 R.2.1.Units), .lit (.int .i64 R.2.1.Rule), .lit (.bool R.2.1.Each), .sl (cellsL eI R.2.2) (List.length R.2.2) false, .lit (.map (some b))])) := by
 refine VPure.runR mixed Tryz.call68 Tryz.func68 rfl (by simp [Tryz.ntmps68]; kernel_rfl) ?_
 obtain ⟨KF, h, kF, kN⟩ := zal h
 simp only [zdx] at h
 try simp only [vz, vsi, tyf, nm, seval]
 refine zao (x := (.agg ((cGPriceSheet x0_x_PriceSheet) ++ (cGPriceTariff x0_x_tariff) ++ [.sl (cellsL eI x1_hours) (List.length x1_hours) false] ++ [.lit (.map (some b))]))) (by first | (simp only [Tryz.results68, resV, resL, resV1, zan, zbd, uw, cr, tyf, nm, seval] <;> rfl) | rfl) ?_
 obtain rfl := kF _ h
 refine zaz ?_ ?_
 ·simp only [tre, tytre, Bool.and_self]
 ·first | (simp only [outV, uw, zai, cr, tyf, nrm, tynrm, nm, seval] <;> rfl) | rfl
def zgk (x0_s : GPriceSheet) (x1_tariff : Int) : Option (GSpan × Int) := Option.bind (zcm x0_s) (fun r1 => cond (r1) (Option.bind (zbp x0_s x1_tariff) (fun r2 => cond (r2) (Option.bind (zii x0_s.Boards) (fun r3 => Option.bind (getI x0_s.Tariffs x1_tariff) (fun x4 => Option.bind (zbj x0_s x4 r3.1 ([] : List (Gpricebill × Int))) (fun r5 => Option.bind (zdx x0_s x4 r3.1 r3.2) (fun r6 => Option.bind (zbj r6.1 r6.2.1 r6.2.2 r5.2) (fun r7 => some ((GSpan.mk r5.1 r7.1), 0))))))) (some ((GSpan.mk 0 0), 2)))) (some ((GSpan.mk 0 0), 2)))
theorem ziy (x0_s : GPriceSheet) (x1_tariff : Int) (R : GSpan × Int) (h : zgk x0_s x1_tariff = some R) : VPure Tryz.prog G0 23 [.agg (cGPriceSheet x0_s), .lit (.int .i64 x1_tariff)] (.tree (.tup [.agg (cGSpan R.1), .lit (.int .i64 R.2)])) := by
 refine VPure.runR mixed Tryz.call23 Tryz.func23 rfl (by simp [Tryz.ntmps23]; kernel_rfl) ?_
 obtain ⟨KF, h, kF, kN⟩ := zal h
 simp only [zgk] at h
 obtain ⟨r8, o9, h⟩ := optI h kN
 try simp only [hs] at h
 simp only [vz, mq, mqm, vsi, tyf, mqt, nm, seval]
 refine ktree (args0 := [.agg (cGPriceSheet x0_s)]) (by first | (simp only [nrm, tynrm, @zav] <;> rfl) | rfl) (by simp only [tre, tytre, mqr, Bool.and_self]) (zdq _ _ o9) ?_
 refine zah (fun tm => tm 1 = .lit (.int .i64 x1_tariff) ∧ tm 2 = .ptr 0 0 ∧ tm 4 = .ptr 1 0 ∧ tm 10 = .lit (.bool r8) ∧ True) (by refine ⟨?_, ?_, ?_, ?_, trivial⟩ <;> first | (simp only [ua, zaq, nm, seval] <;> rfl) | rfl) ?_
 rintro tm ⟨e10, e11, e12, e13, _⟩
 cases d14 : (r8)
 ·simp only [d14, hs] at h
  try simp only [vz, mq, mqm, vsi, tyf, mqt, e10, e11, e12, e13, d14, nm, seval]
  refine zao (x := (.tup [.agg ([.lit (.int .i64 0)] ++ [.lit (.int .i64 0)]), .lit (.int .i64 2)])) (by first | (simp only [Tryz.results23, resV, resL, resV1, zan, zbd, uw, cr, tyf, mqt, e10, e11, e12, e13, d14, nm, seval] <;> rfl) | rfl) ?_
  obtain rfl := kF _ h
  refine zaz ?_ ?_
  ·simp only [tre, tytre, mqr, Bool.and_self]
  ·first | (simp only [outV, uw, zai, cr, tyf, mqt, nrm, tynrm, e10, e11, e12, e13, d14, nm, seval] <;> rfl) | rfl
 simp only [d14, hs] at h
 obtain ⟨r15, o16, h⟩ := optI h kN
 try simp only [hs] at h
 simp only [vz, mq, mqm, vsi, tyf, mqt, e10, e11, e12, e13, d14, nm, seval]
 refine ktree (args0 := [.agg (cGPriceSheet x0_s), .lit (.int .i64 x1_tariff)]) (by first | (simp only [nrm, tynrm, @zav] <;> rfl) | rfl) (by simp only [tre, tytre, mqr, Bool.and_self]) (zcu _ _ _ o16) ?_
 refine zah (fun tm => tm 1 = .lit (.int .i64 x1_tariff) ∧ tm 2 = .ptr 0 0 ∧ tm 4 = .ptr 1 0 ∧ tm 12 = .lit (.bool false) ∧ tm 15 = .lit (.bool r15) ∧ True) (by refine ⟨e10, e11, e12, ?_, ?_, trivial⟩ <;> first | (simp only [ua, zaq, e10, e11, e12, e13, d14, nm, seval] <;> rfl) | rfl) ?_
 rintro tm ⟨e17, e18, e19, e20, e21, _⟩
 cases d22 : (r15)
 ·simp only [d22, hs] at h
  try simp only [vz, mq, mqm, vsi, tyf, mqt, d14, e17, e18, e19, e20, e21, d22, nm, seval]
  refine zao (x := (.tup [.agg ([.lit (.int .i64 0)] ++ [.lit (.int .i64 0)]), .lit (.int .i64 2)])) (by first | (simp only [Tryz.results23, resV, resL, resV1, zan, zbd, uw, cr, tyf, mqt, d14, e17, e18, e19, e20, e21, d22, nm, seval] <;> rfl) | rfl) ?_
  obtain rfl := kF _ h
  refine zaz ?_ ?_
  ·simp only [tre, tytre, mqr, Bool.and_self]
  ·first | (simp only [outV, uw, zai, cr, tyf, mqt, nrm, tynrm, d14, e17, e18, e19, e20, e21, d22, nm, seval] <;> rfl) | rfl
 simp only [d22, hs] at h
 obtain ⟨r23, o24, h⟩ := optI h kN
 try simp only [hs] at h
 simp only [vz, mq, mqm, vsi, tyf, mqt, d14, e17, e18, e19, e20, e21, d22, nm, seval]
 refine ktree (args0 := [.sl (cellsL cGPriceBoard x0_s.Boards) (List.length x0_s.Boards) false]) (by first | (simp only [nrm, tynrm, @zav] <;> rfl) | rfl) (by simp only [tre, tytre, mqr, Bool.and_self]) (zqh _ _ o24) ?_
 refine zah (fun tm => tm 1 = .lit (.int .i64 x1_tariff) ∧ tm 2 = .ptr 0 0 ∧ tm 4 = .ptr 1 0 ∧ tm 22 = .tup [.sl (cellsL eI r23.1) (List.length r23.1) false, .sl (cellsL eI r23.2) (List.length r23.2) false] ∧ True) (by refine ⟨e17, e18, e19, ?_, trivial⟩ <;> first | (simp only [ua, zaq, d14, e17, e18, e19, e20, e21, d22, nm, seval] <;> rfl) | rfl) ?_
 rintro tm ⟨e25, e26, e27, e28, _⟩
 try simp only [vz, mq, mqm, vsi, tyf, mqt, d14, d22, e25, e26, e27, e28, nm, seval]
 refine kopen ?_
 rw [zhq]
 refine VOpen.run mixed Tryz.call66 Tryz.func66 rfl (by simp [Tryz.ntmps66]; kernel_rfl) ?_
 simp only [vz, mq, mqm, vsi, tyf, mqt, d14, d22, nm, seval]
 refine zcr (fun tm => tm 1 = .lit (.int .i64 x1_tariff) ∧ tm 2 = .sl (cellsL eI r23.1) (List.length r23.1) false ∧ tm 3 = .ptr 26 0 ∧ tm 6 = .ptr 27 0 ∧ True) (by refine ⟨?_, ?_, ?_, ?_, trivial⟩ <;> first | (simp only [ua, zaq, d14, d22, nm, seval] <;> rfl) | rfl) ?_
 rintro tm ⟨e29, e30, e31, e32, _⟩
 obtain ⟨x33, o34, h⟩ := optI h kN
 try simp only [hs] at h
 simp only [vz, mq, mqm, vsi, tyf, mqt, d14, d22, e29, e30, e31, e32, (ix24 o34), nm, seval]
 refine zdn ⟨?_, ?_⟩
 ·simp only [zca, zct, zay, zeo, and_true, true_and]
  repeat' (first | exact trivial | refine And.intro ?_ ?_ | rw [zay] | rw [zdm] | exact Or.inl (by decide +kernel) | exact Or.inl (by dsimp only; decide +kernel) | (refine Or.inr ⟨?_, ?_⟩ <;> simp; done) | (refine Or.inr ⟨?_, ?_⟩ <;> simp <;> omega) | (refine Or.inr ⟨?_, ?_⟩ <;> simp [VEff.wr] <;> omega))
 try simp only [vz, mq, mqm, vsi, tyf, mqt, d14, d22, e29, e30, e31, e32, (ix24 o34), nm, seval]
 refine zao (x := (.agg ((cGPriceSheet x0_s) ++ (cGPriceTariff x33) ++ [.sl (cellsL eI r23.1) (List.length r23.1) false] ++ [.mp 35]))) (by first | (simp only [Tryz.results66, resV, resL, resV1, zan, zbd, uw, cr, tyf, mqt, d14, d22, e29, e30, e31, e32, (ix24 o34), nm, seval] <;> rfl) | rfl) ?_
 simp only [vz, mq, mqm, vsi, tyf, mqt, d14, d22, (ix24 o34), e25, e26, e27, e28, nm, seval]
 refine zcr (fun tm => tm 4 = .ptr 1 0 ∧ tm 7 = .sl (cellsL eI r23.2) (List.length r23.2) false ∧ tm 8 = .ptr 24 0 ∧ True) (by refine ⟨e27, ?_, ?_, trivial⟩ <;> first | (simp only [ua, zaq, d14, d22, e25, e26, e27, e28, nm, seval] <;> rfl) | rfl) ?_
 rintro tm ⟨e35, e36, e37, _⟩
 obtain ⟨r38, o39, h⟩ := optI h kN
 try simp only [hs] at h
 simp only [vz, mq, mqm, vsi, tyf, mqt, d14, d22, (ix24 o34), e35, e36, e37, nm, seval]
 refine dkupd (VUpd.at (β := 35) (y := (fun _ => .lit (.int .i64 r38.1))) (zbz _ _ _ _ _ o39) (by omega) (by first | rfl | assumption | (simp only [zad, zab, nm, seval] <;> rfl)) (by first | rfl | (simp only [nrm, tynrm, @zav, @zgc] <;> rfl)) (zfi (fun _ => rfl) _)) ?_
 refine zgb (fun tm => tm 4 = .ptr 1 0 ∧ tm 7 = .sl (cellsL eI r23.2) (List.length r23.2) false ∧ tm 8 = .ptr 24 0 ∧ tm 30 = .lit (.int .i64 r38.1) ∧ True) (by refine ⟨e35, e36, e37, ?_, trivial⟩ <;> first | (simp only [ua, zaq, d14, d22, e35, e36, e37, nm, seval] <;> rfl) | rfl) ?_
 rintro tm ⟨e40, e41, e42, e43, _⟩
 obtain ⟨r44, o45, h⟩ := optI h kN
 try simp only [hs] at h
 simp only [vz, mq, mqm, vsi, tyf, mqt, d14, d22, (ix24 o34), e40, e41, e42, e43, nm, seval]
 refine dkupd (VUpd.at (β := 35) (es := encM kv146 ev3 r38.2) (y := (fun β => .agg [.sl (cellsL eI r44.1.Offs) (List.length r44.1.Offs) false, .sl (cellsL cGPriceBoard r44.1.Boards) (List.length r44.1.Boards) false, .sl (cellsL cGPriceTariff r44.1.Tariffs) (List.length r44.1.Tariffs) false, .lit (.int .i64 r44.2.1.Kind), .lit (.int .i64 r44.2.1.Coins), .lit (.int .i64 r44.2.1.Units), .lit (.int .i64 r44.2.1.Rule), .lit (.bool r44.2.1.Each), .sl (cellsL eI r44.2.2) (List.length r44.2.2) false, .mp β])) (VUpd.of_lit (A := fun β => [.agg [.sl (cellsL eI x0_s.Offs) (List.length x0_s.Offs) false, .sl (cellsL cGPriceBoard x0_s.Boards) (List.length x0_s.Boards) false, .sl (cellsL cGPriceTariff x0_s.Tariffs) (List.length x0_s.Tariffs) false, .lit (.int .i64 x33.Kind), .lit (.int .i64 x33.Coins), .lit (.int .i64 x33.Units), .lit (.int .i64 x33.Rule), .lit (.bool x33.Each), .sl (cellsL eI r23.1) (List.length r23.1) false, .mp β], .sl (cellsL eI r23.2) (List.length r23.2) false]) (A0 := fun _ b => [.agg [.sl (cellsL eI x0_s.Offs) (List.length x0_s.Offs) false, .sl (cellsL cGPriceBoard x0_s.Boards) (List.length x0_s.Boards) false, .sl (cellsL cGPriceTariff x0_s.Tariffs) (List.length x0_s.Tariffs) false, .lit (.int .i64 x33.Kind), .lit (.int .i64 x33.Coins), .lit (.int .i64 x33.Units), .lit (.int .i64 x33.Rule), .lit (.bool x33.Each), .sl (cellsL eI r23.1) (List.length r23.1) false, .lit (.map (some b))], .sl (cellsL eI r23.2) (List.length r23.2) false]) (fun β b => by first | rfl | (simp only [List.map_cons, List.map_nil, vlt, if_true, nrm, tynrm, @zav, tyf, mqt] <;> rfl)) (fun β b => by simp only [List.map_cons, List.map_nil, vlt, if_true, tre, tytre, tyf, mqt, Bool.and_self]) (fun β b => by first | rfl | (simp only [vlt, List.map_cons, List.map_nil, if_true] <;> rfl)) (fun _ => (fun b => zjh _ _ _ _ b _ o45)) (fun β M H h1 h2 => sp_mp (cs := [.sl (cellsL eI r44.1.Offs) (List.length r44.1.Offs) false, .sl (cellsL cGPriceBoard r44.1.Boards) (List.length r44.1.Boards) false, .sl (cellsL cGPriceTariff r44.1.Tariffs) (List.length r44.1.Tariffs) false, .lit (.int .i64 r44.2.1.Kind), .lit (.int .i64 r44.2.1.Coins), .lit (.int .i64 r44.2.1.Units), .lit (.int .i64 r44.2.1.Rule), .lit (.bool r44.2.1.Each), .sl (cellsL eI r44.2.2) (List.length r44.2.2) false]) (by simp only [tre, tytre, tyf, mqt, Bool.and_self]) h1 h2)) (by omega) (by first | rfl | assumption | (simp only [zad, zab, nm, seval] <;> rfl)) (by first | rfl | (simp only [nrm, tynrm, @zav, @zgc] <;> rfl)) (zfi (fun _ => rfl) _)) ?_
 refine zgb (fun tm => tm 4 = .ptr 1 0 ∧ tm 30 = .lit (.int .i64 r38.1) ∧ tm 33 = .agg ((cGPriceSheet r44.1) ++ (cGPriceTariff r44.2.1) ++ [.sl (cellsL eI r44.2.2) (List.length r44.2.2) false] ++ [.mp 35]) ∧ True) (by refine ⟨e40, e43, ?_, trivial⟩ <;> first | (simp only [ua, zaq, d14, d22, e40, e41, e42, e43, nm, seval] <;> rfl) | rfl) ?_
 rintro tm ⟨e46, e47, e48, _⟩
 obtain ⟨r49, o50, h⟩ := optI h kN
 try simp only [hs] at h
 simp only [vz, mq, mqm, vsi, tyf, mqt, d14, d22, (ix24 o34), e46, e47, e48, nm, seval]
 refine dkupd (VUpd.at (β := 35) (y := (fun _ => .lit (.int .i64 r49.1))) (zbz _ _ _ _ _ o50) (by omega) (by first | rfl | assumption | (simp only [zad, zab, nm, seval] <;> rfl)) (by first | rfl | (simp only [nrm, tynrm, @zav, @zgc] <;> rfl)) (zfi (fun _ => rfl) _)) ?_
 refine zgb (fun tm => tm 4 = .ptr 1 0 ∧ tm 30 = .lit (.int .i64 r38.1) ∧ tm 34 = .lit (.int .i64 r49.1) ∧ True) (by refine ⟨e46, e47, ?_, trivial⟩ <;> first | (simp only [ua, zaq, d14, d22, e46, e47, e48, nm, seval] <;> rfl) | rfl) ?_
 rintro tm ⟨e51, e52, e53, _⟩
 simp only [vz, mq, mqm, vsi, tyf, mqt, d14, d22, (ix24 o34), e51, e52, e53, nm, seval]
 refine zdn ⟨?_, ?_⟩
 ·simp only [zca, zct, zay, zeo, and_true, true_and]
  repeat' (first | exact trivial | refine And.intro ?_ ?_ | rw [zay] | rw [zdm] | exact Or.inl (by decide +kernel) | exact Or.inl (by dsimp only; decide +kernel) | (refine Or.inr ⟨?_, ?_⟩ <;> simp; done) | (refine Or.inr ⟨?_, ?_⟩ <;> simp <;> omega) | (refine Or.inr ⟨?_, ?_⟩ <;> simp [VEff.wr] <;> omega))
 try simp only [vz, mq, mqm, vsi, tyf, mqt, d14, d22, (ix24 o34), e51, e52, e53, nm, seval]
 refine zao (x := (.tup [.agg ([.lit (.int .i64 r38.1)] ++ [.lit (.int .i64 r49.1)]), .lit (.int .i64 0)])) (by first | (simp only [Tryz.results23, resV, resL, resV1, zan, zbd, uw, cr, tyf, mqt, d14, d22, (ix24 o34), e51, e52, e53, nm, seval] <;> rfl) | rfl) ?_
 obtain rfl := kF _ h
 refine zaz ?_ ?_
 ·simp only [tre, tytre, mqr, Bool.and_self]
 ·first | (simp only [outV, uw, zai, cr, tyf, mqt, nrm, tynrm, d14, d22, (ix24 o34), e51, e52, e53, nm, seval] <;> rfl) | rfl
def zdu (x0_s : GPriceSheet) (x1_tariff : Int) (x2_hours : List Int) : Option ((List Int) × Int) := Option.bind (zcm x0_s) (fun r1 => cond (r1) (Option.bind (zbp x0_s x1_tariff) (fun r2 => cond (r2) (Option.bind (zbw x0_s x2_hours) (fun r3 => cond (r3) (Option.bind (getI x0_s.Tariffs x1_tariff) (fun x4 => Option.bind (zbh x0_s x4 x2_hours ([] : List (Gpricebill × Int))) (fun r5 => some (r5.1, 0)))) (some (([] : List Int), 2)))) (some (([] : List Int), 2)))) (some (([] : List Int), 2)))
theorem zik (x0_s : GPriceSheet) (x1_tariff : Int) (x2_hours : List Int) (R : (List Int) × Int) (h : zdu x0_s x1_tariff x2_hours = some R) : VPure Tryz.prog G0 33 [.agg (cGPriceSheet x0_s), .lit (.int .i64 x1_tariff), .sl (cellsL eI x2_hours) (List.length x2_hours) false] (.tree (.tup [.sl (cellsL eI R.1) (List.length R.1) false, .lit (.int .i64 R.2)])) := by
 refine VPure.runR mixed Tryz.call33 Tryz.func33 rfl (by simp [Tryz.ntmps33]; kernel_rfl) ?_
 obtain ⟨KF, h, kF, kN⟩ := zal h
 simp only [zdu] at h
 try simp only [vz, mq, mqm, vsi, tyf, mqt, nm, seval]
 refine kopen ?_
 rw [zhq]
 refine VOpen.run mixed Tryz.call75 Tryz.func75 rfl (by simp [Tryz.ntmps75]; kernel_rfl) ?_
 obtain ⟨r6, o7, h⟩ := optI h kN
 try simp only [hs] at h
 simp only [vz, mq, mqm, vsi, tyf, mqt, nm, seval]
 refine ktree (args0 := [.agg (cGPriceSheet x0_s)]) (by first | (simp only [nrm, tynrm, @zav] <;> rfl) | rfl) (by simp only [tre, tytre, mqr, Bool.and_self]) (zdq _ _ o7) ?_
 refine zah (fun tm => tm 1 = .lit (.int .i64 x1_tariff) ∧ tm 2 = .sl (cellsL eI x2_hours) (List.length x2_hours) false ∧ tm 3 = VV.fn (Fn.func 76) [] [] ∧ tm 4 = .ptr 11 0 ∧ tm 11 = .lit (.bool r6) ∧ True) (by refine ⟨?_, ?_, ?_, ?_, ?_, trivial⟩ <;> first | (simp only [ua, zaq, nm, seval] <;> rfl) | rfl) ?_
 rintro tm ⟨e8, e9, e10, e11, e12, _⟩
 cases d13 : (r6)
 ·simp only [d13, hs] at h
  try simp only [vz, mq, mqm, vsi, tyf, mqt, e8, e9, e10, e11, e12, d13, nm, seval]
  refine zao (x := (.tup [.lit (.slice none 0 0), .lit (.int .i64 2)])) (by first | (simp only [Tryz.results75, resV, resL, resV1, zan, zbd, uw, cr, tyf, mqt, d13, nm, seval] <;> rfl) | rfl) ?_
  try simp only [vz, mq, mqm, vsi, tyf, mqt, d13, nm, seval]
  refine zao (x := (.tup [.lit (.slice none 0 0), .lit (.int .i64 2)])) (by first | (simp only [Tryz.results33, resV, resL, resV1, zan, zbd, uw, cr, tyf, mqt, d13, nm, seval] <;> rfl) | rfl) ?_
  obtain rfl := kF _ h
  refine zaz ?_ ?_
  ·simp only [tre, tytre, mqr, Bool.and_self]
  ·first | (simp only [outV, uw, zai, cr, tyf, mqt, nrm, tynrm, d13, nm, seval] <;> rfl) | rfl
 simp only [d13, hs] at h
 obtain ⟨r14, o15, h⟩ := optI h kN
 try simp only [hs] at h
 simp only [vz, mq, mqm, vsi, tyf, mqt, e8, e9, e10, e11, e12, d13, nm, seval]
 refine ktree (args0 := [.agg (cGPriceSheet x0_s), .lit (.int .i64 x1_tariff)]) (by first | (simp only [nrm, tynrm, @zav] <;> rfl) | rfl) (by simp only [tre, tytre, mqr, Bool.and_self]) (zcu _ _ _ o15) ?_
 refine zah (fun tm => tm 1 = .lit (.int .i64 x1_tariff) ∧ tm 2 = .sl (cellsL eI x2_hours) (List.length x2_hours) false ∧ tm 3 = VV.fn (Fn.func 76) [] [] ∧ tm 4 = .ptr 11 0 ∧ tm 13 = .lit (.bool false) ∧ tm 16 = .lit (.bool r14) ∧ True) (by refine ⟨e8, e9, e10, e11, ?_, ?_, trivial⟩ <;> first | (simp only [ua, zaq, e8, e9, e10, e11, e12, d13, nm, seval] <;> rfl) | rfl) ?_
 rintro tm ⟨e16, e17, e18, e19, e20, e21, _⟩
 cases d22 : (r14)
 ·simp only [d22, hs] at h
  try simp only [vz, mq, mqm, vsi, tyf, mqt, d13, e16, e17, e18, e19, e20, e21, d22, nm, seval]
  refine zao (x := (.tup [.lit (.slice none 0 0), .lit (.int .i64 2)])) (by first | (simp only [Tryz.results75, resV, resL, resV1, zan, zbd, uw, cr, tyf, mqt, d13, d22, nm, seval] <;> rfl) | rfl) ?_
  try simp only [vz, mq, mqm, vsi, tyf, mqt, d13, d22, nm, seval]
  refine zao (x := (.tup [.lit (.slice none 0 0), .lit (.int .i64 2)])) (by first | (simp only [Tryz.results33, resV, resL, resV1, zan, zbd, uw, cr, tyf, mqt, d13, d22, nm, seval] <;> rfl) | rfl) ?_
  obtain rfl := kF _ h
  refine zaz ?_ ?_
  ·simp only [tre, tytre, mqr, Bool.and_self]
  ·first | (simp only [outV, uw, zai, cr, tyf, mqt, nrm, tynrm, d13, d22, nm, seval] <;> rfl) | rfl
 simp only [d22, hs] at h
 obtain ⟨r23, o24, h⟩ := optI h kN
 try simp only [hs] at h
 simp only [vz, mq, mqm, vsi, tyf, mqt, d13, e16, e17, e18, e19, e20, e21, d22, nm, seval]
 refine ktree (args0 := [.agg (cGPriceSheet x0_s), .sl (cellsL eI x2_hours) (List.length x2_hours) false]) (by first | (simp only [nrm, tynrm, @zav] <;> rfl) | rfl) (by simp only [tre, tytre, mqr, Bool.and_self]) (zdl _ _ _ o24) ?_
 refine zah (fun tm => tm 1 = .lit (.int .i64 x1_tariff) ∧ tm 2 = .sl (cellsL eI x2_hours) (List.length x2_hours) false ∧ tm 3 = VV.fn (Fn.func 76) [] [] ∧ tm 4 = .ptr 11 0 ∧ tm 19 = .lit (.bool false) ∧ tm 22 = .lit (.bool r23) ∧ True) (by refine ⟨e16, e17, e18, e19, ?_, ?_, trivial⟩ <;> first | (simp only [ua, zaq, d13, e16, e17, e18, e19, e20, e21, d22, nm, seval] <;> rfl) | rfl) ?_
 rintro tm ⟨e25, e26, e27, e28, e29, e30, _⟩
 cases d31 : (r23)
 ·simp only [d31, hs] at h
  try simp only [vz, mq, mqm, vsi, tyf, mqt, d13, d22, e25, e26, e27, e28, e29, e30, d31, nm, seval]
  refine zao (x := (.tup [.lit (.slice none 0 0), .lit (.int .i64 2)])) (by first | (simp only [Tryz.results75, resV, resL, resV1, zan, zbd, uw, cr, tyf, mqt, d13, d22, d31, nm, seval] <;> rfl) | rfl) ?_
  try simp only [vz, mq, mqm, vsi, tyf, mqt, d13, d22, d31, nm, seval]
  refine zao (x := (.tup [.lit (.slice none 0 0), .lit (.int .i64 2)])) (by first | (simp only [Tryz.results33, resV, resL, resV1, zan, zbd, uw, cr, tyf, mqt, d13, d22, d31, nm, seval] <;> rfl) | rfl) ?_
  obtain rfl := kF _ h
  refine zaz ?_ ?_
  ·simp only [tre, tytre, mqr, Bool.and_self]
  ·first | (simp only [outV, uw, zai, cr, tyf, mqt, nrm, tynrm, d13, d22, d31, nm, seval] <;> rfl) | rfl
 simp only [d31, hs] at h
 try simp only [vz, mq, mqm, vsi, tyf, mqt, d13, d22, e25, e26, e27, e28, e29, e30, d31, nm, seval]
 refine kopen ?_
 rw [zhq]
 refine VOpen.run mixed Tryz.call66 Tryz.func66 rfl (by simp [Tryz.ntmps66]; kernel_rfl) ?_
 simp only [vz, mq, mqm, vsi, tyf, mqt, d13, d22, d31, nm, seval]
 refine zcr (fun tm => tm 1 = .lit (.int .i64 x1_tariff) ∧ tm 2 = .sl (cellsL eI x2_hours) (List.length x2_hours) false ∧ tm 3 = .ptr 37 0 ∧ tm 6 = .ptr 38 0 ∧ True) (by refine ⟨?_, ?_, ?_, ?_, trivial⟩ <;> first | (simp only [ua, zaq, d13, d22, d31, nm, seval] <;> rfl) | rfl) ?_
 rintro tm ⟨e32, e33, e34, e35, _⟩
 obtain ⟨x36, o37, h⟩ := optI h kN
 try simp only [hs] at h
 simp only [vz, mq, mqm, vsi, tyf, mqt, d13, d22, d31, e32, e33, e34, e35, (ix24 o37), nm, seval]
 refine zdn ⟨?_, ?_⟩
 ·simp only [zca, zct, zay, zeo, and_true, true_and]
  repeat' (first | exact trivial | refine And.intro ?_ ?_ | rw [zay] | rw [zdm] | exact Or.inl (by decide +kernel) | exact Or.inl (by dsimp only; decide +kernel) | (refine Or.inr ⟨?_, ?_⟩ <;> simp; done) | (refine Or.inr ⟨?_, ?_⟩ <;> simp <;> omega) | (refine Or.inr ⟨?_, ?_⟩ <;> simp [VEff.wr] <;> omega))
 try simp only [vz, mq, mqm, vsi, tyf, mqt, d13, d22, d31, e32, e33, e34, e35, (ix24 o37), nm, seval]
 refine zao (x := (.agg ((cGPriceSheet x0_s) ++ (cGPriceTariff x36) ++ [.sl (cellsL eI x2_hours) (List.length x2_hours) false] ++ [.mp 46]))) (by first | (simp only [Tryz.results66, resV, resL, resV1, zan, zbd, uw, cr, tyf, mqt, d13, d22, d31, e32, e33, e34, e35, (ix24 o37), nm, seval] <;> rfl) | rfl) ?_
 obtain ⟨r38, o39, h⟩ := optI h kN
 try simp only [hs] at h
 simp only [vz, mq, mqm, vsi, tyf, mqt, d13, d22, d31, (ix24 o37), e25, e26, e27, e28, e29, e30, nm, seval]
 refine kupd (VUpd.at (β := 46) (y := (fun _ => .sl (cellsL eI r38.1) (List.length r38.1) false)) (zdc _ _ _ _ _ o39) (by omega) (by first | rfl | assumption | (simp only [zad, zab, nm, seval] <;> rfl)) (by first | rfl | (simp only [nrm, tynrm, @zav, @zgc] <;> rfl)) (zfi (fun _ => rfl) _)) ?_
 refine zgb (fun tm => tm 30 = .sl (cellsL eI r38.1) (List.length r38.1) false ∧ True) (by refine ⟨?_, trivial⟩ <;> first | (simp only [ua, zaq, d13, d22, d31, e25, e26, e27, e28, e29, e30, nm, seval] <;> rfl) | rfl) ?_
 rintro tm ⟨e40, _⟩
 try simp only [vz, mq, mqm, vsi, tyf, mqt, d13, d22, d31, (ix24 o37), e40, nm, seval]
 refine zao (x := (.tup [.sl (cellsL eI r38.1) (List.length r38.1) false, .lit (.int .i64 0)])) (by first | (simp only [Tryz.results75, resV, resL, resV1, zan, zbd, uw, cr, tyf, mqt, d13, d22, d31, (ix24 o37), nm, seval] <;> rfl) | rfl) ?_
 try simp only [vz, mq, mqm, vsi, tyf, mqt, d13, d22, d31, (ix24 o37), nm, seval]
 refine zao (x := (.tup [.sl (cellsL eI r38.1) (List.length r38.1) false, .lit (.int .i64 0)])) (by first | (simp only [Tryz.results33, resV, resL, resV1, zan, zbd, uw, cr, tyf, mqt, d13, d22, d31, (ix24 o37), nm, seval] <;> rfl) | rfl) ?_
 obtain rfl := kF _ h
 refine zaz ?_ ?_
 ·simp only [tre, tytre, mqr, Bool.and_self]
 ·first | (simp only [outV, uw, zai, cr, tyf, mqt, nrm, tynrm, d13, d22, d31, (ix24 o37), nm, seval] <;> rfl) | rfl
def zee (r5 : (List Int) × List (Gpricebill × Int)) : List Int → Int → Option (LOut (Int × Int) (Unit))
 | [], c0_40 => some (.go ())
 | e0 :: p0, c0_40 => Option.bind (getI r5.1 c0_40) (fun x8 => cond (e0 != x8) (some (.ret (c0_40, 0))) (zee r5 p0 (c0_40 + 1)))
def zej (x0_s : GPriceSheet) (x1_one : Int) (x2_other : Int) (x3_hours : List Int) : Option (Int × Int) := Option.bind (zcm x0_s) (fun r1 => cond (r1) (Option.bind (zft x0_s x1_one x2_other) (fun r2 => cond (r2) (Option.bind (zbw x0_s x3_hours) (fun r3 => cond (r3) (Option.bind (getI x0_s.Tariffs x2_other) (fun x4 => Option.bind (zbh x0_s x4 x3_hours ([] : List (Gpricebill × Int))) (fun r5 => Option.bind (getI x0_s.Tariffs x1_one) (fun x6 => Option.bind (zbh x0_s x6 x3_hours ([] : List (Gpricebill × Int))) (fun r7 => cond (lenOk r7.1) (lbind (zee r5 r7.1 0) (fun r10 => some r10) (fun c9 => some (0, 5)) (fun _ _ => none)) none))))) (some (0, 2)))) (some (0, 2)))) (some (0, 2)))
theorem zjs (x0_s : GPriceSheet) (x1_one : Int) (x2_other : Int) (x3_hours : List Int) (R : Int × Int) (h : zej x0_s x1_one x2_other x3_hours = some R) : VPure Tryz.prog G0 44 [.agg (cGPriceSheet x0_s), .lit (.int .i64 x1_one), .lit (.int .i64 x2_other), .sl (cellsL eI x3_hours) (List.length x3_hours) false] (.tree (.tup [.lit (.int .i64 R.1), .lit (.int .i64 R.2)])) := by
 refine VPure.runR mixed Tryz.call44 Tryz.func44 rfl (by simp [Tryz.ntmps44]; kernel_rfl) ?_
 obtain ⟨KF, h, kF, kN⟩ := zal h
 simp only [zej] at h
 obtain ⟨r11, o12, h⟩ := optI h kN
 try simp only [hs] at h
 simp only [vz, mq, mqm, vsi, tyf, mqt, nm, seval]
 refine ktree (args0 := [.agg (cGPriceSheet x0_s)]) (by first | (simp only [nrm, tynrm, @zav] <;> rfl) | rfl) (by simp only [tre, tytre, mqr, Bool.and_self]) (zdq _ _ o12) ?_
 refine zah (fun tm => tm 1 = .lit (.int .i64 x1_one) ∧ tm 2 = .lit (.int .i64 x2_other) ∧ tm 3 = .sl (cellsL eI x3_hours) (List.length x3_hours) false ∧ tm 4 = .ptr 0 0 ∧ tm 14 = .lit (.bool r11) ∧ True) (by refine ⟨?_, ?_, ?_, ?_, ?_, trivial⟩ <;> first | (simp only [ua, zaq, nm, seval] <;> rfl) | rfl) ?_
 rintro tm ⟨e13, e14, e15, e16, e17, _⟩
 cases d18 : (r11)
 ·simp only [d18, hs] at h
  try simp only [vz, mq, mqm, vsi, tyf, mqt, e13, e14, e15, e16, e17, d18, nm, seval]
  refine zao (x := (.tup [.lit (.int .i64 0), .lit (.int .i64 2)])) (by first | (simp only [Tryz.results44, resV, resL, resV1, zan, zbd, uw, cr, tyf, mqt, d18, nm, seval] <;> rfl) | rfl) ?_
  obtain rfl := kF _ h
  refine zaz ?_ ?_
  ·simp only [tre, tytre, mqr, Bool.and_self]
  ·first | (simp only [outV, uw, zai, cr, tyf, mqt, nrm, tynrm, e13, e14, e15, e16, e17, d18, nm, seval] <;> rfl) | rfl
 simp only [d18, hs] at h
 obtain ⟨r19, o20, h⟩ := optI h kN
 try simp only [hs] at h
 simp only [vz, mq, mqm, vsi, tyf, mqt, e13, e14, e15, e16, e17, d18, nm, seval]
 refine ktree (args0 := [.agg (cGPriceSheet x0_s), .lit (.int .i64 x1_one), .lit (.int .i64 x2_other)]) (by first | (simp only [nrm, tynrm, @zav] <;> rfl) | rfl) (by simp only [tre, tytre, mqr, Bool.and_self]) (zls _ _ _ _ o20) ?_
 refine zah (fun tm => tm 1 = .lit (.int .i64 x1_one) ∧ tm 2 = .lit (.int .i64 x2_other) ∧ tm 3 = .sl (cellsL eI x3_hours) (List.length x3_hours) false ∧ tm 4 = .ptr 0 0 ∧ tm 16 = .lit (.bool false) ∧ tm 20 = .lit (.bool r19) ∧ True) (by refine ⟨e13, e14, e15, e16, ?_, ?_, trivial⟩ <;> first | (simp only [ua, zaq, e13, e14, e15, e16, e17, d18, nm, seval] <;> rfl) | rfl) ?_
 rintro tm ⟨e21, e22, e23, e24, e25, e26, _⟩
 cases d27 : (r19)
 ·simp only [d27, hs] at h
  try simp only [vz, mq, mqm, vsi, tyf, mqt, d18, e21, e22, e23, e24, e25, e26, d27, nm, seval]
  refine zao (x := (.tup [.lit (.int .i64 0), .lit (.int .i64 2)])) (by first | (simp only [Tryz.results44, resV, resL, resV1, zan, zbd, uw, cr, tyf, mqt, d18, d27, nm, seval] <;> rfl) | rfl) ?_
  obtain rfl := kF _ h
  refine zaz ?_ ?_
  ·simp only [tre, tytre, mqr, Bool.and_self]
  ·first | (simp only [outV, uw, zai, cr, tyf, mqt, nrm, tynrm, d18, e21, e22, e23, e24, e25, e26, d27, nm, seval] <;> rfl) | rfl
 simp only [d27, hs] at h
 obtain ⟨r28, o29, h⟩ := optI h kN
 try simp only [hs] at h
 simp only [vz, mq, mqm, vsi, tyf, mqt, d18, e21, e22, e23, e24, e25, e26, d27, nm, seval]
 refine ktree (args0 := [.agg (cGPriceSheet x0_s), .sl (cellsL eI x3_hours) (List.length x3_hours) false]) (by first | (simp only [nrm, tynrm, @zav] <;> rfl) | rfl) (by simp only [tre, tytre, mqr, Bool.and_self]) (zdl _ _ _ o29) ?_
 refine zah (fun tm => tm 1 = .lit (.int .i64 x1_one) ∧ tm 2 = .lit (.int .i64 x2_other) ∧ tm 3 = .sl (cellsL eI x3_hours) (List.length x3_hours) false ∧ tm 4 = .ptr 0 0 ∧ tm 23 = .lit (.bool false) ∧ tm 26 = .lit (.bool r28) ∧ True) (by refine ⟨e21, e22, e23, e24, ?_, ?_, trivial⟩ <;> first | (simp only [ua, zaq, d18, e21, e22, e23, e24, e25, e26, d27, nm, seval] <;> rfl) | rfl) ?_
 rintro tm ⟨e30, e31, e32, e33, e34, e35, _⟩
 cases d36 : (r28)
 ·simp only [d36, hs] at h
  try simp only [vz, mq, mqm, vsi, tyf, mqt, d18, d27, e30, e31, e32, e33, e34, e35, d36, nm, seval]
  refine zao (x := (.tup [.lit (.int .i64 0), .lit (.int .i64 2)])) (by first | (simp only [Tryz.results44, resV, resL, resV1, zan, zbd, uw, cr, tyf, mqt, d18, d27, d36, nm, seval] <;> rfl) | rfl) ?_
  obtain rfl := kF _ h
  refine zaz ?_ ?_
  ·simp only [tre, tytre, mqr, Bool.and_self]
  ·first | (simp only [outV, uw, zai, cr, tyf, mqt, nrm, tynrm, d18, d27, e30, e31, e32, e33, e34, e35, d36, nm, seval] <;> rfl) | rfl
 simp only [d36, hs] at h
 try simp only [vz, mq, mqm, vsi, tyf, mqt, d18, d27, e30, e31, e32, e33, e34, e35, d36, nm, seval]
 refine kopen ?_
 rw [zhq]
 refine VOpen.run mixed Tryz.call66 Tryz.func66 rfl (by simp [Tryz.ntmps66]; kernel_rfl) ?_
 simp only [vz, mq, mqm, vsi, tyf, mqt, d18, d27, d36, nm, seval]
 refine zcr (fun tm => tm 1 = .lit (.int .i64 x2_other) ∧ tm 2 = .sl (cellsL eI x3_hours) (List.length x3_hours) false ∧ tm 3 = .ptr 25 0 ∧ tm 6 = .ptr 26 0 ∧ True) (by refine ⟨?_, ?_, ?_, ?_, trivial⟩ <;> first | (simp only [ua, zaq, d18, d27, d36, nm, seval] <;> rfl) | rfl) ?_
 rintro tm ⟨e37, e38, e39, e40, _⟩
 obtain ⟨x41, o42, h⟩ := optI h kN
 try simp only [hs] at h
 simp only [vz, mq, mqm, vsi, tyf, mqt, d18, d27, d36, e37, e38, e39, e40, (ix24 o42), nm, seval]
 refine zdn ⟨?_, ?_⟩
 ·simp only [zca, zct, zay, zeo, and_true, true_and]
  repeat' (first | exact trivial | refine And.intro ?_ ?_ | rw [zay] | rw [zdm] | exact Or.inl (by decide +kernel) | exact Or.inl (by dsimp only; decide +kernel) | (refine Or.inr ⟨?_, ?_⟩ <;> simp; done) | (refine Or.inr ⟨?_, ?_⟩ <;> simp <;> omega) | (refine Or.inr ⟨?_, ?_⟩ <;> simp [VEff.wr] <;> omega))
 try simp only [vz, mq, mqm, vsi, tyf, mqt, d18, d27, d36, e37, e38, e39, e40, (ix24 o42), nm, seval]
 refine zao (x := (.agg ((cGPriceSheet x0_s) ++ (cGPriceTariff x41) ++ [.sl (cellsL eI x3_hours) (List.length x3_hours) false] ++ [.mp 34]))) (by first | (simp only [Tryz.results66, resV, resL, resV1, zan, zbd, uw, cr, tyf, mqt, d18, d27, d36, e37, e38, e39, e40, (ix24 o42), nm, seval] <;> rfl) | rfl) ?_
 obtain ⟨r43, o44, h⟩ := optI h kN
 try simp only [hs] at h
 simp only [vz, mq, mqm, vsi, tyf, mqt, d18, d27, d36, (ix24 o42), e30, e31, e32, e33, e34, e35, nm, seval]
 refine kupd (VUpd.at (β := 34) (y := (fun _ => .sl (cellsL eI r43.1) (List.length r43.1) false)) (zdc _ _ _ _ _ o44) (by omega) (by first | rfl | assumption | (simp only [zad, zab, nm, seval] <;> rfl)) (by first | rfl | (simp only [nrm, tynrm, @zav, @zgc] <;> rfl)) (zfi (fun _ => rfl) _)) ?_
 refine zgb (fun tm => tm 1 = .lit (.int .i64 x1_one) ∧ tm 3 = .sl (cellsL eI x3_hours) (List.length x3_hours) false ∧ tm 4 = .ptr 0 0 ∧ tm 33 = .sl (cellsL eI r43.1) (List.length r43.1) false ∧ True) (by refine ⟨e30, e32, e33, ?_, trivial⟩ <;> first | (simp only [ua, zaq, d18, d27, d36, e30, e31, e32, e33, e34, e35, nm, seval] <;> rfl) | rfl) ?_
 rintro tm ⟨e45, e46, e47, e48, _⟩
 try simp only [vz, mq, mqm, vsi, tyf, mqt, d18, d27, d36, (ix24 o42), e45, e46, e47, e48, nm, seval]
 refine kopen ?_
 rw [zhq]
 refine VOpen.run mixed Tryz.call66 Tryz.func66 rfl (by simp [Tryz.ntmps66]; kernel_rfl) ?_
 simp only [vz, mq, mqm, vsi, tyf, mqt, d18, d27, d36, (ix24 o42), nm, seval]
 refine zcr (fun tm => tm 1 = .lit (.int .i64 x1_one) ∧ tm 2 = .sl (cellsL eI x3_hours) (List.length x3_hours) false ∧ tm 3 = .ptr 44 0 ∧ tm 6 = .ptr 45 0 ∧ True) (by refine ⟨?_, ?_, ?_, ?_, trivial⟩ <;> first | (simp only [ua, zaq, d18, d27, d36, nm, seval] <;> rfl) | rfl) ?_
 rintro tm ⟨e49, e50, e51, e52, _⟩
 obtain ⟨x53, o54, h⟩ := optI h kN
 try simp only [hs] at h
 simp only [vz, mq, mqm, vsi, tyf, mqt, d18, d27, d36, (ix24 o42), e49, e50, e51, e52, (ix24 o54), nm, seval]
 refine zdn ⟨?_, ?_⟩
 ·simp only [zca, zct, zay, zeo, and_true, true_and]
  repeat' (first | exact trivial | refine And.intro ?_ ?_ | rw [zay] | rw [zdm] | exact Or.inl (by decide +kernel) | exact Or.inl (by dsimp only; decide +kernel) | (refine Or.inr ⟨?_, ?_⟩ <;> simp; done) | (refine Or.inr ⟨?_, ?_⟩ <;> simp <;> omega) | (refine Or.inr ⟨?_, ?_⟩ <;> simp [VEff.wr] <;> omega))
 try simp only [vz, mq, mqm, vsi, tyf, mqt, d18, d27, d36, (ix24 o42), e49, e50, e51, e52, (ix24 o54), nm, seval]
 refine zao (x := (.agg ((cGPriceSheet x0_s) ++ (cGPriceTariff x53) ++ [.sl (cellsL eI x3_hours) (List.length x3_hours) false] ++ [.mp 53]))) (by first | (simp only [Tryz.results66, resV, resL, resV1, zan, zbd, uw, cr, tyf, mqt, d18, d27, d36, (ix24 o42), e49, e50, e51, e52, (ix24 o54), nm, seval] <;> rfl) | rfl) ?_
 obtain ⟨r55, o56, h⟩ := optI h kN
 try simp only [hs] at h
 simp only [vz, mq, mqm, vsi, tyf, mqt, d18, d27, d36, (ix24 o42), (ix24 o54), e45, e46, e47, e48, nm, seval]
 refine kupd (VUpd.at (β := 53) (y := (fun _ => .sl (cellsL eI r55.1) (List.length r55.1) false)) (zdc _ _ _ _ _ o56) (by omega) (by first | rfl | assumption | (simp only [zad, zab, nm, seval] <;> rfl)) (by first | rfl | (simp only [nrm, tynrm, @zav, @zgc] <;> rfl)) (zfi (fun _ => rfl) _)) ?_
 refine zgb (fun tm => tm 10 = .sl (cellsL eI r43.1) (List.length r43.1) false ∧ tm 38 = .sl (cellsL eI r55.1) (List.length r55.1) false ∧ True) (by refine ⟨?_, ?_, trivial⟩ <;> first | (simp only [ua, zaq, d18, d27, d36, e45, e46, e47, e48, nm, seval] <;> rfl) | rfl) ?_
 rintro tm ⟨e57, e58, _⟩
 cases g60 : (lenOk r55.1)
 ·simp only [g60, hs] at h
  exact absurd h kN
 simp only [g60, hs] at h
 simp only [vz, mq, mqm, vsi, tyf, mqt, d18, d27, d36, (ix24 o42), (ix24 o54), e57, e58, g60, nm, seval]
 obtain ⟨K59, h, kR59, kG59, kB59, kN59⟩ := zbl h kN
 obtain ⟨f59, hf59, h⟩ := call2 h
 obtain ⟨I59, hI59⟩ : ∃ I : Nat → St → Prop, I = (fun m st => ∃ (p59 : List Int) (c59_40 : Int), m = List.length p59 ∧ 0 ≤ c59_40 ∧ List.drop (Int.toNat c59_40) r55.1 = p59 ∧ st.df = [] ∧ 56 ≤ st.nx ∧ st.tm 10 = .sl (cellsL eI r43.1) (List.length r43.1) false ∧ st.tm 38 = .sl (cellsL eI r55.1) (List.length r55.1) false ∧ st.tm 39 = .lit (.int .i64 (List.length r55.1 : Int)) ∧ st.tm 40 = .lit (.int .i64 c59_40) ∧ K59 (f59 p59 c59_40)) := ⟨_, rfl⟩
 refine loopK mixed (by kernel_rfl) I59 (List.length r55.1) (by rw [hI59]; refine ⟨r55.1, 0, rfl, Int.le_refl _, rfl, rfl, (show 56 ≤ 56 by omega), e57, e58, ?_, ?_, h⟩ <;> first | (simp only [ua, zaq, d18, d27, d36, e57, e58, nm, seval] <;> rfl) | rfl) ?_
 rintro m ⟨tm, H, nx59, df⟩ hinv
 rw [hI59] at hinv
 obtain ⟨p59, c59_40, rfl, hi59, hp59, hdf, hn59, e61, e62, e63, e64, h⟩ := hinv
 simp only at hdf hn59 e61 e62 e63 e64
 have n65 := zdv (m := 56) (b := nx59) (by omega)
 subst hdf hf59
 cases p59 with
 | nil =>
  have d66 : (decide (c59_40 < (List.length r55.1 : Int))) = false := zap hi59 hp59
  simp only [zee, hs, reduceCtorEq] at h
  replace h := kG59 _ h
  try dsimp only at h
  try simp only [hs] at h
  try simp only [vz, mq, mqm, vsi, tyf, mqt, d18, d27, d36, (ix24 o42), (ix24 o54), g60, n65, e61, e62, e63, e64, d66, nm, seval]
  refine zao (x := (.tup [.lit (.int .i64 0), .lit (.int .i64 5)])) (by first | (simp only [Tryz.results44, resV, resL, resV1, zan, zbd, uw, cr, tyf, mqt, d18, d27, d36, (ix24 o42), (ix24 o54), g60, n65, d66, nm, seval] <;> rfl) | rfl) ?_
  obtain rfl := kF _ h
  refine zaz ?_ ?_
  ·simp only [tre, tytre, mqr, Bool.and_self]
  ·first | (simp only [outV, uw, zai, cr, tyf, mqt, nrm, tynrm, d18, d27, d36, (ix24 o42), (ix24 o54), g60, n65, e61, e62, e63, e64, d66, nm, seval] <;> rfl) | rfl
 | cons e59 p59 =>
  have d67 : (decide (c59_40 < (List.length r55.1 : Int))) = true := zbg hi59 hp59
  have o69 := zam hi59 hp59
  have w68 := zbu hi59 hp59 g60
  simp only [zee, hs, reduceCtorEq] at h
  obtain ⟨x70, o71, h⟩ := optI h kN59
  try simp only [hs] at h
  cases d72 : (e59 != x70)
  ·simp only [d72, hs] at h
   have b73 := And.intro d18 (And.intro d27 (And.intro d36 (And.intro g60 (And.intro n65 (And.intro d67 (And.intro w68 d72))))))
   simp only [vz, mq, mqm, vsi, tyf, mqt, b73, (ix24 o42), (ix24 o54), e61, e62, e63, e64, (ix22 o69), (ix22 o71), nm, seval]
   exact ⟨List.length p59, Nat.lt_succ_self _, by rw [hI59]; refine ⟨p59, c59_40 + 1, rfl, Int.le_trans hi59 (Int.le_add_one (Int.le_refl _)), zba hi59 hp59, rfl, (show 56 ≤ nx59 + 14 by omega), e61, e62, e63, ?_, (by first | exact h | (simp only [b73]; exact h))⟩ <;> first | (simp only [ua, zaq, b73, e61, e62, e63, e64, nm, seval] <;> rfl) | rfl⟩
  simp only [d72, hs] at h
  have b74 := And.intro d18 (And.intro d27 (And.intro d36 (And.intro g60 (And.intro n65 (And.intro d67 (And.intro w68 d72))))))
  try simp only [vz, mq, mqm, vsi, tyf, mqt, b74, (ix24 o42), (ix24 o54), e61, e62, e63, e64, (ix22 o69), (ix22 o71), nm, seval]
  refine zao (x := (.tup [.lit (.int .i64 c59_40), .lit (.int .i64 0)])) (by first | (simp only [Tryz.results44, resV, resL, resV1, zan, zbd, uw, cr, tyf, mqt, b74, (ix24 o42), (ix24 o54), (ix22 o69), (ix22 o71), nm, seval] <;> rfl) | rfl) ?_
  replace h := kR59 _ h
  try dsimp only at h
  obtain rfl := kF _ h
  refine zaz ?_ ?_
  ·simp only [tre, tytre, mqr, Bool.and_self]
  ·first | (simp only [outV, uw, zai, cr, tyf, mqt, nrm, tynrm, b74, (ix24 o42), (ix24 o54), e61, e62, e63, e64, (ix22 o69), (ix22 o71), nm, seval] <;> rfl) | rfl
end Go.V
end
