/- Part of a proof. -/
import Derived.Test.YtjpgejagakmjgaaGreatDoorTbk
set_option linter.all false
set_option maxRecDepth 4000
set_option maxHeartbeats 40000000
section
namespace Go.V
open Go Go.Proofs
def zbe  : List GPriceBoard → Int → (List Int) → (List Int) → Option (LOut ((List Int) × (List Int)) ((List Int) × (List Int)))
 | [], c0_8, c0_2, c0_3 => some (.go (c0_2, c0_3))
 | e0 :: p0, c0_8, c0_2, c0_3 => cond (roomOk 8 (List.length (c0_2 ++ [e0.Hours.Low]))) (cond (roomOk 8 (List.length (c0_3 ++ [e0.Hours.High]))) (zbe p0 (c0_8 + 1) (c0_2 ++ [e0.Hours.Low]) (c0_3 ++ [e0.Hours.High])) none) none
def zgc (x0_boards : List GPriceBoard) : Option ((List Int) × (List Int)) := cond (lenOk x0_boards) (lbind (zbe x0_boards 0 ([] : List Int) ([] : List Int)) (fun r2 => some r2) (fun c1 => some (c1.1, c1.2)) (fun _ _ => none)) none
theorem znk (x0_boards : List GPriceBoard) (R : (List Int) × (List Int)) (h : zgc x0_boards = some R) : VPure Tryz.prog G0 65 [.sl (cellsL cGPriceBoard x0_boards) (List.length x0_boards) false] (.tree (.tup [.sl (cellsL eI R.1) (List.length R.1) false, .sl (cellsL eI R.2) (List.length R.2) false])) := by
 refine VPure.runR mixed Tryz.call65 Tryz.func65 rfl (by simp [Tryz.ntmps65]; kernel_rfl) ?_
 obtain ⟨KF, h, kF, kN⟩ := zaq h
 simp only [zgc] at h
 cases g4 : (lenOk x0_boards)
 ·simp only [g4, hs] at h
  exact absurd h kN
 simp only [g4, hs] at h
 simp only [vz, tyf, g4, nm, seval]
 obtain ⟨K3, h, kR3, kG3, kB3, kN3⟩ := zbf h kN
 obtain ⟨f3, hf3, h⟩ := call4 h
 obtain ⟨I3, hI3⟩ : ∃ I : Nat → St → Prop, I = (fun m st => ∃ (p3 : List GPriceBoard) (c3_8 : Int) (c3_2 : List Int) (c3_3 : List Int) (y3_0 : VV) (y3_1 : VV), m = List.length p3 ∧ 0 ≤ c3_8 ∧ List.drop (Int.toNat c3_8) x0_boards = p3 ∧ st.df = [] ∧ 5 ≤ st.nx ∧ st.tm 6 = .sl (cellsL cGPriceBoard x0_boards) (List.length x0_boards) false ∧ st.tm 7 = .lit (.int .i64 (List.length x0_boards : Int)) ∧ st.tm 2 = y3_0 ∧ st.tm 3 = y3_1 ∧ st.tm 8 = .lit (.int .i64 c3_8) ∧ ((∃ (β : Nat) (el : Option TypeId), y3_0 = .ref β 0 (List.length c3_2) 1 (List.length c3_2) ∧ β < st.nx ∧ st.H β = some (.cells el (cellsL eI c3_2))) ∨ (y3_0 = .lit (.slice none 0 0) ∧ c3_2 = [])) ∧ ((∃ (β : Nat) (el : Option TypeId), y3_1 = .ref β 0 (List.length c3_3) 1 (List.length c3_3) ∧ β < st.nx ∧ st.H β = some (.cells el (cellsL eI c3_3))) ∨ (y3_1 = .lit (.slice none 0 0) ∧ c3_3 = [])) ∧ NeR y3_0 y3_1 ∧ K3 (f3 p3 c3_8 c3_2 c3_3)) := ⟨_, rfl⟩
 refine loopK mixed (by kernel_rfl) I3 (List.length x0_boards) (by rw [hI3]; refine ⟨x0_boards, 0, ([] : List Int), ([] : List Int), .lit (.slice none 0 0), .lit (.slice none 0 0), rfl, Int.le_refl _, rfl, rfl, (show 5 ≤ 5 by omega), ?_, ?_, ?_, ?_, ?_, Or.inr ⟨rfl, rfl⟩, Or.inr ⟨rfl, rfl⟩, (by first | trivial | (show _ ≠ _; first | omega | (intro hh; simp only [reduceCtorEq] at hh))), h⟩ <;> first | (simp only [ua, nm, seval] <;> rfl) | rfl) ?_
 rintro m ⟨tm, H, nx3, df⟩ hinv
 rw [hI3] at hinv
 obtain ⟨p3, c3_8, c3_2, c3_3, y3_0, y3_1, rfl, hi3, hp3, hdf, hn3, e5, e6, e7, e8, e9, ow3_0, ow3_1, nr3_0_1, h⟩ := hinv
 simp only at hdf hn3 e5 e6 e7 e8 e9 ow3_0 ow3_1
 have n10 := zda (m := 5) (b := nx3) (by omega)
 subst hdf hf3
 rcases ow3_0 with ⟨b3_0, el3_0, rfl, lq12, H11⟩ | ⟨rfl, rfl⟩
 ·have q12 := zhn lq12
  rcases ow3_1 with ⟨b3_1, el3_1, rfl, lq14, H13⟩ | ⟨rfl, rfl⟩
  ·have q14 := zhn lq14
   have qnr3_0_1 := ne_f (show b3_0 ≠ b3_1 from nr3_0_1)
   cases p3 with
   | nil =>
    have d15 : (decide (c3_8 < (List.length x0_boards : Int))) = false := zaj hi3 hp3
    simp only [zbe, hs, reduceCtorEq] at h
    replace h := kG3 _ h
    try dsimp only at h
    try simp only [hs] at h
    try simp only [vz, tyf, g4, n10, e5, e6, e7, e8, e9, q12, H11, q14, H13, qnr3_0_1, d15, nm, seval]
    refine zau (x := (.tup [.ref b3_0 0 (List.length c3_2) 1 (List.length c3_2), .ref b3_1 0 (List.length c3_3) 1 (List.length c3_3)])) (by first | (simp only [Tryz.results65, resV, resL, resV1, zat, zbu, uw, cr, tyf, g4, n10, q12, H11, q14, H13, qnr3_0_1, d15, nm, seval] <;> rfl) | rfl) ?_
    obtain rfl := kF _ h
    refine zbc ?_ ?_
    ·simp only [tre, tytre, Bool.and_self]
    ·first | (simp only [outV, uw, zan, cr, tyf, nrm, tynrm, g4, n10, e5, e6, e7, e8, e9, q12, H11, q14, H13, qnr3_0_1, d15, nm, seval] <;> rfl) | rfl
   | cons e3 p3 =>
    have d16 : (decide (c3_8 < (List.length x0_boards : Int))) = true := zaw hi3 hp3
    have o18 := zak hi3 hp3
    have w17 := zbj hi3 hp3 g4
    simp only [zbe, hs, reduceCtorEq] at h
    simp only [vz, tyf, g4, n10, e5, e6, e7, e8, e9, q12, H11, q14, H13, qnr3_0_1, d16, (ix23 o18), w17, nm, seval]
    refine zdb (fun tm => tm 2 = .ref b3_0 0 (List.length c3_2) 1 (List.length c3_2) ∧ tm 3 = .ref b3_1 0 (List.length c3_3) 1 (List.length c3_3) ∧ tm 5 = .ptr (nx3 + 3) 0 ∧ tm 6 = .sl (cellsL cGPriceBoard x0_boards) (List.length x0_boards) false ∧ tm 7 = .lit (.int .i64 (List.length x0_boards : Int)) ∧ tm 8 = .lit (.int .i64 c3_8) ∧ True) (by refine ⟨e7, e8, ?_, e5, e6, e9, trivial⟩ <;> first | (simp only [ua, n10, e5, e6, e7, e8, e9, q12, H11, q14, H13, d16, w17, nm, seval] <;> rfl) | rfl) ?_
    rintro tm ⟨e19, e20, e21, e22, e23, e24, _⟩
    have b25 := And.intro g4 (And.intro n10 (And.intro q12 (And.intro H11 (And.intro q14 (And.intro H13 (And.intro qnr3_0_1 (And.intro d16 w17)))))))
    cases g26 : (roomOk 8 (List.length (c3_2 ++ [e3.Hours.Low])))
    ·simp only [g26, hs] at h
     exact absurd h kN3
    simp only [g26, hs] at h
    simp only [vz, tyf, b25, (ix23 o18), e19, e20, e21, e22, e23, e24, g26, nm, seval]
    refine k_app (w := 1) (enc := eI) (xs := c3_2) (ys := ([e3.Hours.Low])) (el := el3_0) (el2 := (some 3)) (fun _ => rfl) lf22 ao22 Tryz.underlying22 (by first | rfl | assumption | (simp only [zab, zaa, et22, b25, nm, seval] <;> rfl) | (simp only [zab, zaa, zac, zad, zcn, zbl, tyf, b25, (ix23 o18), e19, e20, e21, e22, e23, e24, g26, nm, seval]; done)) (by first | rfl | assumption | (simp only [zab, zaa, et22, b25, nm, seval] <;> rfl) | (simp only [zab, zaa, zac, zad, zcn, zbl, tyf, b25, (ix23 o18), e19, e20, e21, e22, e23, e24, g26, nm, seval]; done)) (Nat.zero_lt_succ _) g26 ?_
    cases g27 : (roomOk 8 (List.length (c3_3 ++ [e3.Hours.High])))
    ·simp only [g27, hs] at h
     exact absurd h kN3
    simp only [g27, hs] at h
    simp only [vz, tyf, b25, (ix23 o18), e19, e20, e21, e22, e23, e24, g26, g27, nm, seval]
    refine k_app (w := 1) (enc := eI) (xs := c3_3) (ys := ([e3.Hours.High])) (el := el3_1) (el2 := (some 3)) (fun _ => rfl) lf22 ao22 Tryz.underlying22 (by first | rfl | assumption | (simp only [zab, zaa, et22, b25, nm, seval] <;> rfl) | (simp only [zab, zaa, zac, zad, zcn, zbl, tyf, b25, (ix23 o18), e19, e20, e21, e22, e23, e24, g26, g27, nm, seval]; done)) (by first | rfl | assumption | (simp only [zab, zaa, et22, b25, nm, seval] <;> rfl) | (simp only [zab, zaa, zac, zad, zcn, zbl, tyf, b25, (ix23 o18), e19, e20, e21, e22, e23, e24, g26, g27, nm, seval]; done)) (Nat.zero_lt_succ _) g27 ?_
    simp only [vz, tyf, b25, (ix23 o18), e19, e20, e21, e22, e23, e24, g26, g27, nm, seval]
    refine zee ⟨?_, ?_⟩
    ·simp only [zcl, zde, zbb, zfc, and_true, true_and]
     repeat' (first | exact trivial | refine And.intro ?_ ?_ | rw [zbb] | rw [zeb] | exact Or.inl (by decide +kernel) | exact Or.inl (by dsimp only; decide +kernel) | (refine Or.inr ⟨?_, ?_⟩ <;> simp; done) | (refine Or.inr ⟨?_, ?_⟩ <;> simp <;> omega) | (refine Or.inr ⟨?_, ?_⟩ <;> simp [VEff.wr] <;> omega))
    simp only [vz, tyf, b25, (ix23 o18), e19, e20, e21, e22, e23, e24, g26, g27, nm, seval]
    exact ⟨List.length p3, Nat.lt_succ_self _, by rw [hI3]; refine ⟨p3, c3_8 + 1, (c3_2 ++ [e3.Hours.Low]), (c3_3 ++ [e3.Hours.High]), .ref (nx3 + 10) 0 (List.length (c3_2 ++ [e3.Hours.Low])) 1 (List.length (c3_2 ++ [e3.Hours.Low])), .ref (nx3 + 16) 0 (List.length (c3_3 ++ [e3.Hours.High])) 1 (List.length (c3_3 ++ [e3.Hours.High])), rfl, Int.le_trans hi3 (Int.le_add_one (Int.le_refl _)), zax hi3 hp3, rfl, (show 5 ≤ nx3 + 21 by omega), e22, e23, ?_, ?_, ?_, Or.inl ⟨nx3 + 10, (sameEl el3_0 3), rfl, (by first | omega | (simp only [nm, seval]; done) | (simp only [nm, seval]; omega)), ?_⟩, Or.inl ⟨nx3 + 16, (sameEl el3_1 3), rfl, (by first | omega | (simp only [nm, seval]; done) | (simp only [nm, seval]; omega)), ?_⟩, (by first | trivial | (show _ ≠ _; first | omega | (intro hh; simp only [b25, reduceCtorEq] at hh))), (by first | exact h | (simp only [b25]; exact h))⟩ <;> first | (simp only [ua, b25, e19, e20, e21, e22, e23, e24, nm, seval] <;> rfl) | rfl⟩
  ·cases p3 with
   | nil =>
    have d28 : (decide (c3_8 < (List.length x0_boards : Int))) = false := zaj hi3 hp3
    simp only [zbe, hs, reduceCtorEq] at h
    replace h := kG3 _ h
    try dsimp only at h
    try simp only [hs] at h
    try simp only [vz, tyf, g4, n10, e5, e6, e7, e8, e9, q12, H11, d28, nm, seval]
    refine zau (x := (.tup [.ref b3_0 0 (List.length c3_2) 1 (List.length c3_2), .lit (.slice none 0 0)])) (by first | (simp only [Tryz.results65, resV, resL, resV1, zat, zbu, uw, cr, tyf, g4, n10, q12, H11, d28, nm, seval] <;> rfl) | rfl) ?_
    obtain rfl := kF _ h
    refine zbc ?_ ?_
    ·simp only [tre, tytre, Bool.and_self]
    ·first | (simp only [outV, uw, zan, cr, tyf, nrm, tynrm, g4, n10, e5, e6, e7, e8, e9, q12, H11, d28, nm, seval] <;> rfl) | rfl
   | cons e3 p3 =>
    have d29 : (decide (c3_8 < (List.length x0_boards : Int))) = true := zaw hi3 hp3
    have o31 := zak hi3 hp3
    have w30 := zbj hi3 hp3 g4
    simp only [zbe, hs, reduceCtorEq] at h
    simp only [vz, tyf, g4, n10, e5, e6, e7, e8, e9, q12, H11, d29, (ix23 o31), w30, nm, seval]
    refine zdb (fun tm => tm 2 = .ref b3_0 0 (List.length c3_2) 1 (List.length c3_2) ∧ tm 3 = .lit (.slice none 0 0) ∧ tm 5 = .ptr (nx3 + 3) 0 ∧ tm 6 = .sl (cellsL cGPriceBoard x0_boards) (List.length x0_boards) false ∧ tm 7 = .lit (.int .i64 (List.length x0_boards : Int)) ∧ tm 8 = .lit (.int .i64 c3_8) ∧ True) (by refine ⟨e7, e8, ?_, e5, e6, e9, trivial⟩ <;> first | (simp only [ua, n10, e5, e6, e7, e8, e9, q12, H11, d29, w30, nm, seval] <;> rfl) | rfl) ?_
    rintro tm ⟨e32, e33, e34, e35, e36, e37, _⟩
    cases g38 : (roomOk 8 (List.length (c3_2 ++ [e3.Hours.Low])))
    ·simp only [g38, hs] at h
     exact absurd h kN3
    simp only [g38, hs] at h
    simp only [vz, tyf, g4, n10, q12, H11, d29, (ix23 o31), w30, e32, e33, e34, e35, e36, e37, g38, nm, seval]
    refine k_app (w := 1) (enc := eI) (xs := c3_2) (ys := ([e3.Hours.Low])) (el := el3_0) (el2 := (some 3)) (fun _ => rfl) lf22 ao22 Tryz.underlying22 (by first | rfl | assumption | (simp only [zab, zaa, et22, n10, q12, H11, nm, seval] <;> rfl) | (simp only [zab, zaa, zac, zad, zcn, zbl, tyf, g4, n10, q12, H11, d29, (ix23 o31), w30, e32, e33, e34, e35, e36, e37, g38, nm, seval]; done)) (by first | rfl | assumption | (simp only [zab, zaa, et22, n10, q12, H11, nm, seval] <;> rfl) | (simp only [zab, zaa, zac, zad, zcn, zbl, tyf, g4, n10, q12, H11, d29, (ix23 o31), w30, e32, e33, e34, e35, e36, e37, g38, nm, seval]; done)) (Nat.zero_lt_succ _) g38 ?_
    cases g39 : (roomOk 8 (List.length (([] : List Int) ++ [e3.Hours.High])))
    ·simp only [g39, hs] at h
     exact absurd h kN3
    simp only [g39, hs] at h
    simp only [vz, tyf, g4, n10, q12, H11, d29, (ix23 o31), w30, e32, e33, e34, e35, e36, e37, g38, g39, nm, seval]
    refine zmp (w := 1) (enc := eI) (ys := ([e3.Hours.High])) (el2 := (some 3)) (fun _ => rfl) lf22 ao22 Tryz.underlying22 (by first | rfl | assumption | (simp only [zab, zaa, et22, n10, q12, H11, nm, seval] <;> rfl) | (simp only [zab, zaa, zac, zad, zcn, zbl, tyf, g4, n10, q12, H11, d29, (ix23 o31), w30, e32, e33, e34, e35, e36, e37, g38, g39, nm, seval]; done)) (Nat.zero_lt_succ _) g39 ?_
    simp only [vz, tyf, g4, n10, q12, H11, d29, (ix23 o31), w30, e32, e33, e34, e35, e36, e37, g38, g39, nm, seval]
    refine zee ⟨?_, ?_⟩
    ·simp only [zcl, zde, zbb, zfc, and_true, true_and]
     repeat' (first | exact trivial | refine And.intro ?_ ?_ | rw [zbb] | rw [zeb] | exact Or.inl (by decide +kernel) | exact Or.inl (by dsimp only; decide +kernel) | (refine Or.inr ⟨?_, ?_⟩ <;> simp; done) | (refine Or.inr ⟨?_, ?_⟩ <;> simp <;> omega) | (refine Or.inr ⟨?_, ?_⟩ <;> simp [VEff.wr] <;> omega))
    simp only [vz, tyf, g4, n10, q12, H11, d29, (ix23 o31), w30, e32, e33, e34, e35, e36, e37, g38, g39, nm, seval]
    exact ⟨List.length p3, Nat.lt_succ_self _, by rw [hI3]; refine ⟨p3, c3_8 + 1, (c3_2 ++ [e3.Hours.Low]), (([] : List Int) ++ [e3.Hours.High]), .ref (nx3 + 10) 0 (List.length (c3_2 ++ [e3.Hours.Low])) 1 (List.length (c3_2 ++ [e3.Hours.Low])), .ref (nx3 + 16) 0 (List.length (([] : List Int) ++ [e3.Hours.High])) 1 (List.length (([] : List Int) ++ [e3.Hours.High])), rfl, Int.le_trans hi3 (Int.le_add_one (Int.le_refl _)), zax hi3 hp3, rfl, (show 5 ≤ nx3 + 21 by omega), e35, e36, ?_, ?_, ?_, Or.inl ⟨nx3 + 10, (sameEl el3_0 3), rfl, (by first | omega | (simp only [nm, seval]; done) | (simp only [nm, seval]; omega)), ?_⟩, Or.inl ⟨nx3 + 16, (some 3), rfl, (by first | omega | (simp only [nm, seval]; done) | (simp only [nm, seval]; omega)), ?_⟩, (by first | trivial | (show _ ≠ _; first | omega | (intro hh; simp only [n10, q12, reduceCtorEq] at hh))), (by first | exact h | (simp only [d29]; exact h))⟩ <;> first | (simp only [ua, n10, q12, H11, d29, w30, e32, e33, e34, e35, e36, e37, nm, seval] <;> rfl) | rfl⟩
 ·rcases ow3_1 with ⟨b3_1, el3_1, rfl, lq41, H40⟩ | ⟨rfl, rfl⟩
  ·have q41 := zhn lq41
   cases p3 with
   | nil =>
    have d42 : (decide (c3_8 < (List.length x0_boards : Int))) = false := zaj hi3 hp3
    simp only [zbe, hs, reduceCtorEq] at h
    replace h := kG3 _ h
    try dsimp only at h
    try simp only [hs] at h
    try simp only [vz, tyf, g4, n10, e5, e6, e7, e8, e9, q41, H40, d42, nm, seval]
    refine zau (x := (.tup [.lit (.slice none 0 0), .ref b3_1 0 (List.length c3_3) 1 (List.length c3_3)])) (by first | (simp only [Tryz.results65, resV, resL, resV1, zat, zbu, uw, cr, tyf, g4, n10, q41, H40, d42, nm, seval] <;> rfl) | rfl) ?_
    obtain rfl := kF _ h
    refine zbc ?_ ?_
    ·simp only [tre, tytre, Bool.and_self]
    ·first | (simp only [outV, uw, zan, cr, tyf, nrm, tynrm, g4, n10, e5, e6, e7, e8, e9, q41, H40, d42, nm, seval] <;> rfl) | rfl
   | cons e3 p3 =>
    have d43 : (decide (c3_8 < (List.length x0_boards : Int))) = true := zaw hi3 hp3
    have o45 := zak hi3 hp3
    have w44 := zbj hi3 hp3 g4
    simp only [zbe, hs, reduceCtorEq] at h
    simp only [vz, tyf, g4, n10, e5, e6, e7, e8, e9, q41, H40, d43, (ix23 o45), w44, nm, seval]
    refine zdb (fun tm => tm 2 = .lit (.slice none 0 0) ∧ tm 3 = .ref b3_1 0 (List.length c3_3) 1 (List.length c3_3) ∧ tm 5 = .ptr (nx3 + 3) 0 ∧ tm 6 = .sl (cellsL cGPriceBoard x0_boards) (List.length x0_boards) false ∧ tm 7 = .lit (.int .i64 (List.length x0_boards : Int)) ∧ tm 8 = .lit (.int .i64 c3_8) ∧ True) (by refine ⟨e7, e8, ?_, e5, e6, e9, trivial⟩ <;> first | (simp only [ua, n10, e5, e6, e7, e8, e9, q41, H40, d43, w44, nm, seval] <;> rfl) | rfl) ?_
    rintro tm ⟨e46, e47, e48, e49, e50, e51, _⟩
    cases g52 : (roomOk 8 (List.length (([] : List Int) ++ [e3.Hours.Low])))
    ·simp only [g52, hs] at h
     exact absurd h kN3
    simp only [g52, hs] at h
    simp only [vz, tyf, g4, n10, q41, H40, d43, (ix23 o45), w44, e46, e47, e48, e49, e50, e51, g52, nm, seval]
    refine zmp (w := 1) (enc := eI) (ys := ([e3.Hours.Low])) (el2 := (some 3)) (fun _ => rfl) lf22 ao22 Tryz.underlying22 (by first | rfl | assumption | (simp only [zab, zaa, et22, n10, q41, H40, nm, seval] <;> rfl) | (simp only [zab, zaa, zac, zad, zcn, zbl, tyf, g4, n10, q41, H40, d43, (ix23 o45), w44, e46, e47, e48, e49, e50, e51, g52, nm, seval]; done)) (Nat.zero_lt_succ _) g52 ?_
    cases g53 : (roomOk 8 (List.length (c3_3 ++ [e3.Hours.High])))
    ·simp only [g53, hs] at h
     exact absurd h kN3
    simp only [g53, hs] at h
    simp only [vz, tyf, g4, n10, q41, H40, d43, (ix23 o45), w44, e46, e47, e48, e49, e50, e51, g52, g53, nm, seval]
    refine k_app (w := 1) (enc := eI) (xs := c3_3) (ys := ([e3.Hours.High])) (el := el3_1) (el2 := (some 3)) (fun _ => rfl) lf22 ao22 Tryz.underlying22 (by first | rfl | assumption | (simp only [zab, zaa, et22, n10, q41, H40, nm, seval] <;> rfl) | (simp only [zab, zaa, zac, zad, zcn, zbl, tyf, g4, n10, q41, H40, d43, (ix23 o45), w44, e46, e47, e48, e49, e50, e51, g52, g53, nm, seval]; done)) (by first | rfl | assumption | (simp only [zab, zaa, et22, n10, q41, H40, nm, seval] <;> rfl) | (simp only [zab, zaa, zac, zad, zcn, zbl, tyf, g4, n10, q41, H40, d43, (ix23 o45), w44, e46, e47, e48, e49, e50, e51, g52, g53, nm, seval]; done)) (Nat.zero_lt_succ _) g53 ?_
    simp only [vz, tyf, g4, n10, q41, H40, d43, (ix23 o45), w44, e46, e47, e48, e49, e50, e51, g52, g53, nm, seval]
    refine zee ⟨?_, ?_⟩
    ·simp only [zcl, zde, zbb, zfc, and_true, true_and]
     repeat' (first | exact trivial | refine And.intro ?_ ?_ | rw [zbb] | rw [zeb] | exact Or.inl (by decide +kernel) | exact Or.inl (by dsimp only; decide +kernel) | (refine Or.inr ⟨?_, ?_⟩ <;> simp; done) | (refine Or.inr ⟨?_, ?_⟩ <;> simp <;> omega) | (refine Or.inr ⟨?_, ?_⟩ <;> simp [VEff.wr] <;> omega))
    simp only [vz, tyf, g4, n10, q41, H40, d43, (ix23 o45), w44, e46, e47, e48, e49, e50, e51, g52, g53, nm, seval]
    exact ⟨List.length p3, Nat.lt_succ_self _, by rw [hI3]; refine ⟨p3, c3_8 + 1, (([] : List Int) ++ [e3.Hours.Low]), (c3_3 ++ [e3.Hours.High]), .ref (nx3 + 10) 0 (List.length (([] : List Int) ++ [e3.Hours.Low])) 1 (List.length (([] : List Int) ++ [e3.Hours.Low])), .ref (nx3 + 16) 0 (List.length (c3_3 ++ [e3.Hours.High])) 1 (List.length (c3_3 ++ [e3.Hours.High])), rfl, Int.le_trans hi3 (Int.le_add_one (Int.le_refl _)), zax hi3 hp3, rfl, (show 5 ≤ nx3 + 21 by omega), e49, e50, ?_, ?_, ?_, Or.inl ⟨nx3 + 10, (some 3), rfl, (by first | omega | (simp only [nm, seval]; done) | (simp only [nm, seval]; omega)), ?_⟩, Or.inl ⟨nx3 + 16, (sameEl el3_1 3), rfl, (by first | omega | (simp only [nm, seval]; done) | (simp only [nm, seval]; omega)), ?_⟩, (by first | trivial | (show _ ≠ _; first | omega | (intro hh; simp only [n10, q41, reduceCtorEq] at hh))), (by first | exact h | (simp only [d43]; exact h))⟩ <;> first | (simp only [ua, n10, q41, H40, d43, w44, e46, e47, e48, e49, e50, e51, nm, seval] <;> rfl) | rfl⟩
  ·cases p3 with
   | nil =>
    have d54 : (decide (c3_8 < (List.length x0_boards : Int))) = false := zaj hi3 hp3
    simp only [zbe, hs, reduceCtorEq] at h
    replace h := kG3 _ h
    try dsimp only at h
    try simp only [hs] at h
    try simp only [vz, tyf, g4, n10, e5, e6, e7, e8, e9, d54, nm, seval]
    refine zau (x := (.tup [.lit (.slice none 0 0), .lit (.slice none 0 0)])) (by first | (simp only [Tryz.results65, resV, resL, resV1, zat, zbu, uw, cr, tyf, g4, n10, d54, nm, seval] <;> rfl) | rfl) ?_
    obtain rfl := kF _ h
    refine zbc ?_ ?_
    ·simp only [tre, tytre, Bool.and_self]
    ·first | (simp only [outV, uw, zan, cr, tyf, nrm, tynrm, g4, n10, e5, e6, e7, e8, e9, d54, nm, seval] <;> rfl) | rfl
   | cons e3 p3 =>
    have d55 : (decide (c3_8 < (List.length x0_boards : Int))) = true := zaw hi3 hp3
    have o57 := zak hi3 hp3
    have w56 := zbj hi3 hp3 g4
    simp only [zbe, hs, reduceCtorEq] at h
    simp only [vz, tyf, g4, n10, e5, e6, e7, e8, e9, d55, (ix23 o57), w56, nm, seval]
    refine zdb (fun tm => tm 2 = .lit (.slice none 0 0) ∧ tm 3 = .lit (.slice none 0 0) ∧ tm 5 = .ptr (nx3 + 3) 0 ∧ tm 6 = .sl (cellsL cGPriceBoard x0_boards) (List.length x0_boards) false ∧ tm 7 = .lit (.int .i64 (List.length x0_boards : Int)) ∧ tm 8 = .lit (.int .i64 c3_8) ∧ True) (by refine ⟨e7, e8, ?_, e5, e6, e9, trivial⟩ <;> first | (simp only [ua, n10, e5, e6, e7, e8, e9, d55, w56, nm, seval] <;> rfl) | rfl) ?_
    rintro tm ⟨e58, e59, e60, e61, e62, e63, _⟩
    cases g64 : (roomOk 8 (List.length (([] : List Int) ++ [e3.Hours.Low])))
    ·simp only [g64, hs] at h
     exact absurd h kN3
    simp only [g64, hs] at h
    simp only [vz, tyf, g4, n10, d55, (ix23 o57), w56, e58, e59, e60, e61, e62, e63, g64, nm, seval]
    refine zmp (w := 1) (enc := eI) (ys := ([e3.Hours.Low])) (el2 := (some 3)) (fun _ => rfl) lf22 ao22 Tryz.underlying22 (by first | rfl | assumption | (simp only [zab, zaa, et22, n10, nm, seval] <;> rfl) | (simp only [zab, zaa, zac, zad, zcn, zbl, tyf, g4, n10, d55, (ix23 o57), w56, e58, e59, e60, e61, e62, e63, g64, nm, seval]; done)) (Nat.zero_lt_succ _) g64 ?_
    cases g65 : (roomOk 8 (List.length (([] : List Int) ++ [e3.Hours.High])))
    ·simp only [g65, hs] at h
     exact absurd h kN3
    simp only [g65, hs] at h
    simp only [vz, tyf, g4, n10, d55, (ix23 o57), w56, e58, e59, e60, e61, e62, e63, g64, g65, nm, seval]
    refine zmp (w := 1) (enc := eI) (ys := ([e3.Hours.High])) (el2 := (some 3)) (fun _ => rfl) lf22 ao22 Tryz.underlying22 (by first | rfl | assumption | (simp only [zab, zaa, et22, n10, nm, seval] <;> rfl) | (simp only [zab, zaa, zac, zad, zcn, zbl, tyf, g4, n10, d55, (ix23 o57), w56, e58, e59, e60, e61, e62, e63, g64, g65, nm, seval]; done)) (Nat.zero_lt_succ _) g65 ?_
    simp only [vz, tyf, g4, n10, d55, (ix23 o57), w56, e58, e59, e60, e61, e62, e63, g64, g65, nm, seval]
    refine zee ⟨?_, ?_⟩
    ·simp only [zcl, zde, zbb, zfc, and_true, true_and]
     repeat' (first | exact trivial | refine And.intro ?_ ?_ | rw [zbb] | rw [zeb] | exact Or.inl (by decide +kernel) | exact Or.inl (by dsimp only; decide +kernel) | (refine Or.inr ⟨?_, ?_⟩ <;> simp; done) | (refine Or.inr ⟨?_, ?_⟩ <;> simp <;> omega) | (refine Or.inr ⟨?_, ?_⟩ <;> simp [VEff.wr] <;> omega))
    simp only [vz, tyf, g4, n10, d55, (ix23 o57), w56, e58, e59, e60, e61, e62, e63, g64, g65, nm, seval]
    exact ⟨List.length p3, Nat.lt_succ_self _, by rw [hI3]; refine ⟨p3, c3_8 + 1, (([] : List Int) ++ [e3.Hours.Low]), (([] : List Int) ++ [e3.Hours.High]), .ref (nx3 + 10) 0 (List.length (([] : List Int) ++ [e3.Hours.Low])) 1 (List.length (([] : List Int) ++ [e3.Hours.Low])), .ref (nx3 + 16) 0 (List.length (([] : List Int) ++ [e3.Hours.High])) 1 (List.length (([] : List Int) ++ [e3.Hours.High])), rfl, Int.le_trans hi3 (Int.le_add_one (Int.le_refl _)), zax hi3 hp3, rfl, (show 5 ≤ nx3 + 21 by omega), e61, e62, ?_, ?_, ?_, Or.inl ⟨nx3 + 10, (some 3), rfl, (by first | omega | (simp only [nm, seval]; done) | (simp only [nm, seval]; omega)), ?_⟩, Or.inl ⟨nx3 + 16, (some 3), rfl, (by first | omega | (simp only [nm, seval]; done) | (simp only [nm, seval]; omega)), ?_⟩, (by first | trivial | (show _ ≠ _; first | omega | (intro hh; simp only [n10, reduceCtorEq] at hh))), (by first | exact h | (simp only [d55]; exact h))⟩ <;> first | (simp only [ua, n10, d55, w56, e58, e59, e60, e61, e62, e63, nm, seval] <;> rfl) | rfl⟩
def zel (x0_s : GPriceSheet) (x1_tariff : Int) : Option (GSpan × Int) := Option.bind (zcq x0_s) (fun r1 => cond (r1) (Option.bind (zck x0_s x1_tariff) (fun r2 => cond (r2) (Option.bind (zgc x0_s.Boards) (fun r3 => Option.bind (getI x0_s.Tariffs x1_tariff) (fun x4 => Option.bind (zbp x0_s x4 r3.1 ([] : List (Gpricebill × Int))) (fun r5 => Option.bind (zcr x0_s x4 r3.1 r3.2) (fun r6 => Option.bind (zbp r6.1 r6.2.1 r6.2.2 r5.2) (fun r7 => some ((GSpan.mk r5.1 r7.1), 0))))))) (some ((GSpan.mk 0 0), 2)))) (some ((GSpan.mk 0 0), 2)))
theorem znt (x0_s : GPriceSheet) (x1_tariff : Int) (R : GSpan × Int) (h : zel x0_s x1_tariff = some R) : VPure Tryz.prog G0 23 [.agg (cGPriceSheet x0_s), .lit (.int .i64 x1_tariff)] (.tree (.tup [.agg (cGSpan R.1), .lit (.int .i64 R.2)])) := by
 refine VPure.runR mixed Tryz.call23 Tryz.func23 rfl (by simp [Tryz.ntmps23]; kernel_rfl) ?_
 obtain ⟨KF, h, kF, kN⟩ := zaq h
 simp only [zel] at h
 obtain ⟨r8, o9, h⟩ := optI h kN
 try simp only [hs] at h
 simp only [vz, mq, mqm, vsi, tyf, mqt, nm, seval]
 refine ktree (args0 := [.agg (cGPriceSheet x0_s)]) (by first | (simp only [nrm, tynrm, @zbh] <;> rfl) | rfl) (by simp only [tre, tytre, mqr, Bool.and_self]) (zff _ _ o9) ?_
 refine zar (fun tm => tm 1 = .lit (.int .i64 x1_tariff) ∧ tm 2 = .ptr 0 0 ∧ tm 4 = .ptr 1 0 ∧ tm 10 = .lit (.bool r8) ∧ True) (by refine ⟨?_, ?_, ?_, ?_, trivial⟩ <;> first | (simp only [ua, zbk, nm, seval] <;> rfl) | rfl) ?_
 rintro tm ⟨e10, e11, e12, e13, _⟩
 cases d14 : (r8)
 ·simp only [d14, hs] at h
  try simp only [vz, mq, mqm, vsi, tyf, mqt, e10, e11, e12, e13, d14, nm, seval]
  refine zau (x := (.tup [.agg ([.lit (.int .i64 0)] ++ [.lit (.int .i64 0)]), .lit (.int .i64 2)])) (by first | (simp only [Tryz.results23, resV, resL, resV1, zat, zbu, uw, cr, tyf, mqt, e10, e11, e12, e13, d14, nm, seval] <;> rfl) | rfl) ?_
  obtain rfl := kF _ h
  refine zbc ?_ ?_
  ·simp only [tre, tytre, mqr, Bool.and_self]
  ·first | (simp only [outV, uw, zan, cr, tyf, mqt, nrm, tynrm, e10, e11, e12, e13, d14, nm, seval] <;> rfl) | rfl
 simp only [d14, hs] at h
 obtain ⟨r15, o16, h⟩ := optI h kN
 try simp only [hs] at h
 simp only [vz, mq, mqm, vsi, tyf, mqt, e10, e11, e12, e13, d14, nm, seval]
 refine ktree (args0 := [.agg (cGPriceSheet x0_s), .lit (.int .i64 x1_tariff)]) (by first | (simp only [nrm, tynrm, @zbh] <;> rfl) | rfl) (by simp only [tre, tytre, mqr, Bool.and_self]) (zfs _ _ _ o16) ?_
 refine zar (fun tm => tm 1 = .lit (.int .i64 x1_tariff) ∧ tm 2 = .ptr 0 0 ∧ tm 4 = .ptr 1 0 ∧ tm 12 = .lit (.bool false) ∧ tm 15 = .lit (.bool r15) ∧ True) (by refine ⟨e10, e11, e12, ?_, ?_, trivial⟩ <;> first | (simp only [ua, zbk, e10, e11, e12, e13, d14, nm, seval] <;> rfl) | rfl) ?_
 rintro tm ⟨e17, e18, e19, e20, e21, _⟩
 cases d22 : (r15)
 ·simp only [d22, hs] at h
  try simp only [vz, mq, mqm, vsi, tyf, mqt, d14, e17, e18, e19, e20, e21, d22, nm, seval]
  refine zau (x := (.tup [.agg ([.lit (.int .i64 0)] ++ [.lit (.int .i64 0)]), .lit (.int .i64 2)])) (by first | (simp only [Tryz.results23, resV, resL, resV1, zat, zbu, uw, cr, tyf, mqt, d14, e17, e18, e19, e20, e21, d22, nm, seval] <;> rfl) | rfl) ?_
  obtain rfl := kF _ h
  refine zbc ?_ ?_
  ·simp only [tre, tytre, mqr, Bool.and_self]
  ·first | (simp only [outV, uw, zan, cr, tyf, mqt, nrm, tynrm, d14, e17, e18, e19, e20, e21, d22, nm, seval] <;> rfl) | rfl
 simp only [d22, hs] at h
 obtain ⟨r23, o24, h⟩ := optI h kN
 try simp only [hs] at h
 simp only [vz, mq, mqm, vsi, tyf, mqt, d14, e17, e18, e19, e20, e21, d22, nm, seval]
 refine ktree (args0 := [.sl (cellsL cGPriceBoard x0_s.Boards) (List.length x0_s.Boards) false]) (by first | (simp only [nrm, tynrm, @zbh] <;> rfl) | rfl) (by simp only [tre, tytre, mqr, Bool.and_self]) (znk _ _ o24) ?_
 refine zar (fun tm => tm 1 = .lit (.int .i64 x1_tariff) ∧ tm 2 = .ptr 0 0 ∧ tm 4 = .ptr 1 0 ∧ tm 22 = .tup [.sl (cellsL eI r23.1) (List.length r23.1) false, .sl (cellsL eI r23.2) (List.length r23.2) false] ∧ True) (by refine ⟨e17, e18, e19, ?_, trivial⟩ <;> first | (simp only [ua, zbk, d14, e17, e18, e19, e20, e21, d22, nm, seval] <;> rfl) | rfl) ?_
 rintro tm ⟨e25, e26, e27, e28, _⟩
 try simp only [vz, mq, mqm, vsi, tyf, mqt, d14, d22, e25, e26, e27, e28, nm, seval]
 refine kopen ?_
 rw [zacu]
 refine VOpen.run mixed Tryz.call66 Tryz.func66 rfl (by simp [Tryz.ntmps66]; kernel_rfl) ?_
 simp only [vz, mq, mqm, vsi, tyf, mqt, d14, d22, nm, seval]
 refine zdb (fun tm => tm 1 = .lit (.int .i64 x1_tariff) ∧ tm 2 = .sl (cellsL eI r23.1) (List.length r23.1) false ∧ tm 3 = .ptr 26 0 ∧ tm 6 = .ptr 27 0 ∧ True) (by refine ⟨?_, ?_, ?_, ?_, trivial⟩ <;> first | (simp only [ua, zbk, d14, d22, nm, seval] <;> rfl) | rfl) ?_
 rintro tm ⟨e29, e30, e31, e32, _⟩
 obtain ⟨x33, o34, h⟩ := optI h kN
 try simp only [hs] at h
 simp only [vz, mq, mqm, vsi, tyf, mqt, d14, d22, e29, e30, e31, e32, (ix24 o34), nm, seval]
 refine zee ⟨?_, ?_⟩
 ·simp only [zcl, zde, zbb, zfc, and_true, true_and]
  repeat' (first | exact trivial | refine And.intro ?_ ?_ | rw [zbb] | rw [zeb] | exact Or.inl (by decide +kernel) | exact Or.inl (by dsimp only; decide +kernel) | (refine Or.inr ⟨?_, ?_⟩ <;> simp; done) | (refine Or.inr ⟨?_, ?_⟩ <;> simp <;> omega) | (refine Or.inr ⟨?_, ?_⟩ <;> simp [VEff.wr] <;> omega))
 try simp only [vz, mq, mqm, vsi, tyf, mqt, d14, d22, e29, e30, e31, e32, (ix24 o34), nm, seval]
 refine zau (x := (.agg ((cGPriceSheet x0_s) ++ (cGPriceTariff x33) ++ [.sl (cellsL eI r23.1) (List.length r23.1) false] ++ [.mp 35]))) (by first | (simp only [Tryz.results66, resV, resL, resV1, zat, zbu, uw, cr, tyf, mqt, d14, d22, e29, e30, e31, e32, (ix24 o34), nm, seval] <;> rfl) | rfl) ?_
 simp only [vz, mq, mqm, vsi, tyf, mqt, d14, d22, (ix24 o34), e25, e26, e27, e28, nm, seval]
 refine zdb (fun tm => tm 4 = .ptr 1 0 ∧ tm 7 = .sl (cellsL eI r23.2) (List.length r23.2) false ∧ tm 8 = .ptr 24 0 ∧ True) (by refine ⟨e27, ?_, ?_, trivial⟩ <;> first | (simp only [ua, zbk, d14, d22, e25, e26, e27, e28, nm, seval] <;> rfl) | rfl) ?_
 rintro tm ⟨e35, e36, e37, _⟩
 obtain ⟨r38, o39, h⟩ := optI h kN
 try simp only [hs] at h
 simp only [vz, mq, mqm, vsi, tyf, mqt, d14, d22, (ix24 o34), e35, e36, e37, nm, seval]
 refine dkupd (VUpd.at (β := 35) (y := (fun _ => .lit (.int .i64 r38.1))) (zdh _ _ _ _ _ o39) (by omega) (by first | rfl | assumption | (simp only [zab, zaa, nm, seval] <;> rfl)) (by first | rfl | (simp only [nrm, tynrm, @zbh, @zhc] <;> rfl)) (zgs (fun _ => rfl) _)) ?_
 refine zhi (fun tm => tm 4 = .ptr 1 0 ∧ tm 7 = .sl (cellsL eI r23.2) (List.length r23.2) false ∧ tm 8 = .ptr 24 0 ∧ tm 30 = .lit (.int .i64 r38.1) ∧ True) (by refine ⟨e35, e36, e37, ?_, trivial⟩ <;> first | (simp only [ua, zbk, d14, d22, e35, e36, e37, nm, seval] <;> rfl) | rfl) ?_
 rintro tm ⟨e40, e41, e42, e43, _⟩
 obtain ⟨r44, o45, h⟩ := optI h kN
 try simp only [hs] at h
 simp only [vz, mq, mqm, vsi, tyf, mqt, d14, d22, (ix24 o34), e40, e41, e42, e43, nm, seval]
 refine dkupd (VUpd.at (β := 35) (es := encM kv146 ev3 r38.2) (y := (fun β => .agg [.sl (cellsL eI r44.1.Offs) (List.length r44.1.Offs) false, .sl (cellsL cGPriceBoard r44.1.Boards) (List.length r44.1.Boards) false, .sl (cellsL cGPriceTariff r44.1.Tariffs) (List.length r44.1.Tariffs) false, .lit (.int .i64 r44.2.1.Kind), .lit (.int .i64 r44.2.1.Coins), .lit (.int .i64 r44.2.1.Units), .lit (.int .i64 r44.2.1.Rule), .lit (.bool r44.2.1.Each), .sl (cellsL eI r44.2.2) (List.length r44.2.2) false, .mp β])) (VUpd.of_lit (A := fun β => [.agg [.sl (cellsL eI x0_s.Offs) (List.length x0_s.Offs) false, .sl (cellsL cGPriceBoard x0_s.Boards) (List.length x0_s.Boards) false, .sl (cellsL cGPriceTariff x0_s.Tariffs) (List.length x0_s.Tariffs) false, .lit (.int .i64 x33.Kind), .lit (.int .i64 x33.Coins), .lit (.int .i64 x33.Units), .lit (.int .i64 x33.Rule), .lit (.bool x33.Each), .sl (cellsL eI r23.1) (List.length r23.1) false, .mp β], .sl (cellsL eI r23.2) (List.length r23.2) false]) (A0 := fun _ b => [.agg [.sl (cellsL eI x0_s.Offs) (List.length x0_s.Offs) false, .sl (cellsL cGPriceBoard x0_s.Boards) (List.length x0_s.Boards) false, .sl (cellsL cGPriceTariff x0_s.Tariffs) (List.length x0_s.Tariffs) false, .lit (.int .i64 x33.Kind), .lit (.int .i64 x33.Coins), .lit (.int .i64 x33.Units), .lit (.int .i64 x33.Rule), .lit (.bool x33.Each), .sl (cellsL eI r23.1) (List.length r23.1) false, .lit (.map (some b))], .sl (cellsL eI r23.2) (List.length r23.2) false]) (fun β b => by first | rfl | (simp only [List.map_cons, List.map_nil, vlt, if_true, nrm, tynrm, @zbh, tyf, mqt] <;> rfl)) (fun β b => by simp only [List.map_cons, List.map_nil, vlt, if_true, tre, tytre, tyf, mqt, Bool.and_self]) (fun β b => by first | rfl | (simp only [vlt, List.map_cons, List.map_nil, if_true] <;> rfl)) (fun _ => (fun b => zhk _ _ _ _ b _ o45)) (fun β M H h1 h2 => sp_mp (cs := [.sl (cellsL eI r44.1.Offs) (List.length r44.1.Offs) false, .sl (cellsL cGPriceBoard r44.1.Boards) (List.length r44.1.Boards) false, .sl (cellsL cGPriceTariff r44.1.Tariffs) (List.length r44.1.Tariffs) false, .lit (.int .i64 r44.2.1.Kind), .lit (.int .i64 r44.2.1.Coins), .lit (.int .i64 r44.2.1.Units), .lit (.int .i64 r44.2.1.Rule), .lit (.bool r44.2.1.Each), .sl (cellsL eI r44.2.2) (List.length r44.2.2) false]) (by simp only [tre, tytre, tyf, mqt, Bool.and_self]) h1 h2)) (by omega) (by first | rfl | assumption | (simp only [zab, zaa, nm, seval] <;> rfl)) (by first | rfl | (simp only [nrm, tynrm, @zbh, @zhc] <;> rfl)) (zgs (fun _ => rfl) _)) ?_
 refine zhi (fun tm => tm 4 = .ptr 1 0 ∧ tm 30 = .lit (.int .i64 r38.1) ∧ tm 33 = .agg ((cGPriceSheet r44.1) ++ (cGPriceTariff r44.2.1) ++ [.sl (cellsL eI r44.2.2) (List.length r44.2.2) false] ++ [.mp 35]) ∧ True) (by refine ⟨e40, e43, ?_, trivial⟩ <;> first | (simp only [ua, zbk, d14, d22, e40, e41, e42, e43, nm, seval] <;> rfl) | rfl) ?_
 rintro tm ⟨e46, e47, e48, _⟩
 obtain ⟨r49, o50, h⟩ := optI h kN
 try simp only [hs] at h
 simp only [vz, mq, mqm, vsi, tyf, mqt, d14, d22, (ix24 o34), e46, e47, e48, nm, seval]
 refine dkupd (VUpd.at (β := 35) (y := (fun _ => .lit (.int .i64 r49.1))) (zdh _ _ _ _ _ o50) (by omega) (by first | rfl | assumption | (simp only [zab, zaa, nm, seval] <;> rfl)) (by first | rfl | (simp only [nrm, tynrm, @zbh, @zhc] <;> rfl)) (zgs (fun _ => rfl) _)) ?_
 refine zhi (fun tm => tm 4 = .ptr 1 0 ∧ tm 30 = .lit (.int .i64 r38.1) ∧ tm 34 = .lit (.int .i64 r49.1) ∧ True) (by refine ⟨e46, e47, ?_, trivial⟩ <;> first | (simp only [ua, zbk, d14, d22, e46, e47, e48, nm, seval] <;> rfl) | rfl) ?_
 rintro tm ⟨e51, e52, e53, _⟩
 simp only [vz, mq, mqm, vsi, tyf, mqt, d14, d22, (ix24 o34), e51, e52, e53, nm, seval]
 refine zee ⟨?_, ?_⟩
 ·simp only [zcl, zde, zbb, zfc, and_true, true_and]
  repeat' (first | exact trivial | refine And.intro ?_ ?_ | rw [zbb] | rw [zeb] | exact Or.inl (by decide +kernel) | exact Or.inl (by dsimp only; decide +kernel) | (refine Or.inr ⟨?_, ?_⟩ <;> simp; done) | (refine Or.inr ⟨?_, ?_⟩ <;> simp <;> omega) | (refine Or.inr ⟨?_, ?_⟩ <;> simp [VEff.wr] <;> omega))
 try simp only [vz, mq, mqm, vsi, tyf, mqt, d14, d22, (ix24 o34), e51, e52, e53, nm, seval]
 refine zau (x := (.tup [.agg ([.lit (.int .i64 r38.1)] ++ [.lit (.int .i64 r49.1)]), .lit (.int .i64 0)])) (by first | (simp only [Tryz.results23, resV, resL, resV1, zat, zbu, uw, cr, tyf, mqt, d14, d22, (ix24 o34), e51, e52, e53, nm, seval] <;> rfl) | rfl) ?_
 obtain rfl := kF _ h
 refine zbc ?_ ?_
 ·simp only [tre, tytre, mqr, Bool.and_self]
 ·first | (simp only [outV, uw, zan, cr, tyf, mqt, nrm, tynrm, d14, d22, (ix24 o34), e51, e52, e53, nm, seval] <;> rfl) | rfl





end Go.V
end
section
namespace Go.V
open Go
theorem zagc {s : GPriceSheet} (h : sheetB s = true) : ∀ t ∈ s.Tariffs, TOk t := by
 simp only [sheetB, Bool.and_eq_true, List.all_eq_true] at h
 exact fun t ht => zasm (h.2.2.2 t ht)
theorem zwd {s : GPriceSheet} (h : sheetB s = true) : (1 ≤ s.Boards.length ∧ s.Boards.length ≤ 4) ∧ (1 ≤ s.Tariffs.length ∧ s.Tariffs.length ≤ 3) := by
 simp only [sheetB, Bool.and_eq_true, zgy] at h
 omega
theorem zzn {s : GPriceSheet} (h : sheetB s = true) : ∀ b ∈ s.Boards, boardB b = true := by
 simp only [sheetB, Bool.and_eq_true, List.all_eq_true, ownB] at h
 exact fun b hb => (h.2.1.2 b hb).1
structure BOk (b : GPriceBoard) : Prop where
 l : 0 ≤ b.Letters ∧ b.Letters ≤ 60
 f : 0 ≤ b.Feet ∧ b.Feet ≤ 40
 h : 0 ≤ b.Hours.Low ∧ b.Hours.Low ≤ b.Hours.High ∧ b.Hours.High ≤ 40
theorem zale {b : GPriceBoard} (h : boardB b = true) : BOk b := by
 simp only [boardB, Bool.and_eq_true, zgy] at h
 obtain ⟨h1, h2, h3, h4, h5⟩ := h
 refine ⟨h1, h2, h3.1, h4, ?_⟩
 split at h5 <;> omega
theorem qty_b {b : GPriceBoard} (h : BOk b) (k : Int) {n : Int} (hn : 0 ≤ n ∧ n ≤ 40) : 0 ≤ qtyP k b n ∧ qtyP k b n ≤ 60 := by
 have := h.l; have := h.f
 unfold qtyP
 repeat' split
 all_goals omega
theorem qs_b : ∀ {bs : List GPriceBoard} {hs : List Int}, (∀ b ∈ bs, BOk b) → hrsB bs hs = true → ∀ k, ∀ q ∈ qsP k bs hs, 0 ≤ q ∧ q ≤ 60
 | [], [], _, _, k, q, hq => by cases hq
 | b :: bs, h :: hs, hb, hh, k, q, hq => by
  simp only [hrsB, Bool.and_eq_true, zgy] at hh
  have b1 := hb b (List.mem_cons_self ..)
  rcases List.mem_cons.1 hq with rfl | hq
  ·have := b1.h
   exact qty_b b1 k (by omega)
  ·exact qs_b (fun b h => hb b (List.mem_cons_of_mem _ h)) hh.2 k q hq
theorem znu {s : GPriceSheet} (h : sheetB s = true) {hs : List Int} (hh : hrsB s.Boards hs = true) : Fit s.Boards hs :=
 ⟨ztr hh, (zwd h).1.2, qs_b (fun b hb => zale (zzn h b hb)) hh⟩
theorem zajt {s : GPriceSheet} (h : sheetB s = true) {n : Int} (hn : tarB s n = true) : ∃ t, getI s.Tariffs n = some t ∧ t ∈ s.Tariffs ∧ TOk t := by
 simp only [tarB, zgy] at hn
 obtain ⟨t, h1, h2⟩ := zafb (xs := s.Tariffs) hn.1 (by omega)
 exact ⟨t, h1, h2, zagc h t h2⟩
theorem zaip {s : GPriceSheet} {n : Int} {hs : List Int} (a : Asked s n hs) {t : GPriceTariff} (ht : getI s.Tariffs n = some t) (hk : TOk t) : zdt s n hs = some (paidP t s.Boards hs, 0) := by
 unfold zdt
 obtain ⟨l, e, _⟩ := zzr (s := s) hk (znu a.sheet a.hrs) InvM.nil
 rw [zhr a.ok, a.sheet, zgm a.ok, a.tar, zku a.ok, a.hrs]
 simp only [Option.bind_some, cond_true, ht, e]
theorem ztk {s : GPriceSheet} (ok : OkS s) {n : Int} {hs : List Int} (h : (sheetB s && (tarB s n && hrsB s.Boards hs)) = false) : zdt s n hs = some (0, 2) := by
 unfold zdt
 rw [zhr ok, zgm ok, zku ok]
 revert h
 cases sheetB s <;> cases tarB s n <;> cases hrsB s.Boards hs <;> intro h <;> first | rfl | cases h
def lows (bs : List GPriceBoard) : List Int := bs.map (·.Hours.Low)
def highs (bs : List GPriceBoard) : List Int := bs.map (·.Hours.High)
theorem zahl : ∀ (bs : List GPriceBoard) (i : Int) (a b : List Int), a.length + bs.length ≤ 1000 → b.length + bs.length ≤ 1000 → zbe bs i a b = some (.go (a ++ lows bs, b ++ highs bs))
 | [], i, a, b, _, _ => by simp [zbe, lows, highs]
 | e :: bs, i, a, b, h1, h2 => by
  simp only [List.length_cons] at h1 h2
  simp only [zbe]
  rw [zgn (by simp; omega), zgn (by simp; omega), cond_true, cond_true, zahl bs (i + 1) _ _ (by simp; omega) (by simp; omega)]
  simp [lows, highs]
theorem zapp {bs : List GPriceBoard} (h : bs.length ≤ 4) : zgc bs = some (lows bs, highs bs) := by
 unfold zgc
 rw [zgj (by omega), zahl bs 0 [] [] (by simp; omega) (by simp; omega)]
 rfl
theorem zpc : ∀ {bs : List GPriceBoard}, (∀ b ∈ bs, BOk b) → hrsB bs (lows bs) = true
 | [], _ => rfl
 | b :: bs, h => by
  have := (h b (List.mem_cons_self ..)).h
  have ih := zpc fun b hb => h b (List.mem_cons_of_mem _ hb)
  simp only [lows, List.map_cons, hrsB, Bool.and_eq_true, zgy]
  exact ⟨by omega, ih⟩
theorem zli : ∀ {bs : List GPriceBoard}, (∀ b ∈ bs, BOk b) → hrsB bs (highs bs) = true
 | [], _ => rfl
 | b :: bs, h => by
  have := (h b (List.mem_cons_self ..)).h
  have ih := zli fun b hb => h b (List.mem_cons_of_mem _ hb)
  simp only [highs, List.map_cons, hrsB, Bool.and_eq_true, zgy]
  exact ⟨by omega, ih⟩
theorem zia {s : GPriceSheet} (h : sheetB s = true) : ∀ b ∈ s.Boards, BOk b := fun b hb => zale (zzn h b hb)
theorem Asked.lows {s : GPriceSheet} {n : Int} {hs : List Int} (a : Asked s n hs) : Asked s n (lows s.Boards) := ⟨a.ok, a.sheet, a.tar, zpc (zia a.sheet)⟩
theorem Asked.highs {s : GPriceSheet} {n : Int} {hs : List Int} (a : Asked s n hs) : Asked s n (highs s.Boards) := ⟨a.ok, a.sheet, a.tar, zli (zia a.sheet)⟩
theorem zajy {s : GPriceSheet} (ok : OkS s) (h : sheetB s = true) {n : Int} (hn : tarB s n = true) {t : GPriceTariff} (ht : getI s.Tariffs n = some t) (hk : TOk t) : zel s n = some (⟨paidP t s.Boards (lows s.Boards), paidP t s.Boards (highs s.Boards)⟩, 0) := by
 unfold zel
 obtain ⟨l, e, hl⟩ := zzr (s := s) hk (znu h (zpc (zia h))) InvM.nil
 obtain ⟨l2, e2, _⟩ := zzr (s := s) hk (znu h (zli (zia h))) hl
 rw [zhr ok, h, zgm ok, hn]
 simp only [Option.bind_some, cond_true, zapp (zwd h).1.2, ht, e, zcr, e2]
theorem zabf {s : GPriceSheet} (ok : OkS s) {n : Int} (h : (sheetB s && tarB s n) = false) : zel s n = some (⟨0, 0⟩, 2) := by
 unfold zel
 rw [zhr ok, zgm ok]
 revert h
 cases sheetB s <;> cases tarB s n <;> intro h <;> first | rfl | cases h
def leL : List Int → List Int → Prop
 | [], [] => True
 | a :: l, b :: m => a ≤ b ∧ leL l m
 | _, _ => False
theorem zabt : ∀ {l m : List Int}, leL l m → sumL l ≤ sumL m
 | [], [], _ => Int.le_refl _
 | a :: l, b :: m, h => by
  have := zabt h.2
  have := h.1
  simp only [sumL]; omega
theorem zagu {f g : Int → Int} : ∀ {l m : List Int}, leL l m → (∀ a ∈ l, ∀ b, a ≤ b → b ∈ m → f a ≤ g b) → leL (l.map f) (m.map g)
 | [], [], _, _ => trivial
 | a :: l, b :: m, h, hf => ⟨hf a (List.mem_cons_self ..) b h.1 (List.mem_cons_self ..), zagu h.2 fun a ha b hab hb => hf a (List.mem_cons_of_mem _ ha) b hab (List.mem_cons_of_mem _ hb)⟩
theorem zahe : ∀ {bs : List GPriceBoard} {hs : List Int}, hrsB bs hs = true → leL (lows bs) hs
 | [], [], _ => trivial
 | b :: bs, h :: hs, e => by
  simp only [hrsB, Bool.and_eq_true, zgy] at e
  exact ⟨e.1.1, zahe e.2⟩
theorem zzk : ∀ {bs : List GPriceBoard} {hs : List Int}, hrsB bs hs = true → leL hs (highs bs)
 | [], [], _ => trivial
 | b :: bs, h :: hs, e => by
  simp only [hrsB, Bool.and_eq_true, zgy] at e
  exact ⟨e.1.2, zzk e.2⟩
theorem zahs (k : Int) : ∀ {bs : List GPriceBoard} {hs gs : List Int}, leL hs gs → leL (qsP k bs hs) (qsP k bs gs)
 | [], [], [], _ => trivial
 | [], _ :: _, _ :: _, _ => trivial
 | b :: bs, [], [], _ => trivial
 | b :: bs, h :: hs, g :: gs, e => by
  refine ⟨?_, zahs k e.2⟩
  have := e.1
  unfold qtyP
  repeat' split
  all_goals omega
theorem zwo {t : GPriceTariff} (ht : TOk t) {bs : List GPriceBoard} {hs gs : List Int} (h : Fit bs hs) (g : Fit bs gs) (e : leL hs gs) : paidP t bs hs ≤ paidP t bs gs := by
 have hq := zahs t.Kind (bs := bs) e
 unfold paidP partsP
 cases t.Each with
 | true =>
  simp only [if_true]
  exact zabt (zagu hq fun a ha b hab hb => zacl ht (h.q _ a ha).1 hab)
 | false =>
  simp only [Bool.false_eq_true, if_false]
  exact zacl ht (zaig h).1 (zabt hq)
end Go.V
end
section
namespace Go.V
open Go
theorem zzd {y : VV} (hy : nilS y = .sl [] 0 true) (P : Program) (H : Nat → Option VObj) (t : TypeId) : vlen P H t y = vlen P H t (.lit (.slice none 0 0)) := by
 rcases zwr hy with rfl | rfl
 ·rfl
 ·unfold vlen
  cases P.underlying t with
  | none => rfl
  | some d => cases d <;> simp [sls]
end Go.V
namespace Go.V
theorem len0 {α : Type} : ((([] : List α).length : Nat) : Int) = 0 := rfl
end Go.V
namespace Go.V
open Go
end Go.V
end
section
namespace Go.V
open Go
theorem But.self (W : World) (b : Nat) : But W W b := ⟨fun _ _ _ => rfl, Nat.le_refl _, rfl, rfl, rfl⟩
theorem zpy : ∀ cs : List VV, (normL cs).length = cs.length
 | [] => rfl
 | x :: cs => by rw [zfn, List.length_cons, List.length_cons, zpy cs]
theorem VWp.normO {P : Program} {G : Glob} {n : Nat} {code : Code} {Q : VExit → St → Prop} {tm : Nat → VV} {H : Nat → Option VObj} {nx : Nat} {df : List VDef} {β : Nat} {el : Option TypeId} {cs cs' : List VV} (hβ : H β = some (.cells el cs)) (hn : normL cs = cs')
  (h : VWp P G n code Q ⟨tm, updH H β (.cells el cs'), nx, df⟩) : VWp P G n code Q ⟨tm, H, nx, df⟩ := by
 subst hn
 intro ro c W a hro s hr hsz
 have hc : c.H β = some (.cells el cs) := by rw [hr.H]; exact hβ
 have hl : c.live β := by simp [Ctx.live, hc]
 have he : Ext c W (c.upd β (.cells el (normL cs))) W := Ext.upd hl (But.self W _)
 have ab := he.abides s
 have hs : Sim (c.upd β (.cells el (normL cs))) W := by
  refine Sim.upd s hl (But.self W _) (fun ⟨ds, hd⟩ => by rw [hc] at hd; cases hd) ?_
  obtain ⟨arr, e, a1, a2, a3, a4, a5⟩ := s.obj β _ hc
  exact ⟨arr, e, a1, a2, by rw [zpy]; exact a3, by rw [zpy]; exact zif _ (RepL.abides ab _ a4), a5⟩
 refine wpIn_mono (h ro _ W a (hro.ext he) hs ⟨?_, fun t => Rep.abides ab _ (hr.tm t), hr.nx, hr.df.abides ab, hr.G.abides ab⟩ hsz) fun _ _ _ hl => hl.of_ext he (fun β hb => .inl hb) (Nat.le_refl _)
 show updH c.H β _ = _
 rw [hr.H]
end Go.V
end
section
namespace Go.V
open Go
def Ghost (st st' : St) : Prop := (∀ β o', st'.H β = some o' → ∃ o, st.H β = some o ∧ FrozenO st.H st'.H o o') ∧ (∀ β, isDef st.H β → isDef st'.H β) ∧
 (∀ t, Frozen st.H st'.H (st.tm t) (st'.tm t)) ∧ st'.nx = st.nx ∧ st'.df = st.df
theorem Ghost.rep {G : Glob} {c : Ctx} {W : World} {st st' : St} {a : Act} (g : Ghost st st') (s : Sim c W) (hr : StRep G c W st a) :
  Ext c W (c.frz st'.H) W ∧ Sim (c.frz st'.H) W ∧ StRep G (c.frz st'.H) W st' a := by
 obtain ⟨ho, hdd, htm, hnx, hdf⟩ := g
 have ho' : ∀ β o', st'.H β = some o' → ∃ o, c.H β = some o ∧ FrozenO c.H st'.H o o' := by rw [hr.H]; exact ho
 have hl : ∀ β, (st'.H β).isSome = true → c.live β := by
  intro β h
  obtain ⟨o', h'⟩ := Option.isSome_iff_exists.1 h
  obtain ⟨o, h1, _⟩ := ho' β o' h'
  simp [Ctx.live, h1]
 have he : Ext c W (c.frz st'.H) W := zaaj hl
 have ab : Abides c W (c.frz st'.H) W := zhv hl
 have hloop : ∀ x s pe tm ps asg bo df, st'.H x = some (.loop s pe tm ps asg bo df) → isDef st'.H df := by
  intro x s1 pe tm ps asg bo df hx
  obtain ⟨o, h1, hf⟩ := ho x _ hx
  rcases hf with rfl | ⟨el, cs, cs', rfl, e, _⟩
  ·obtain ⟨l, fn, _, _, _, hd⟩ := s.obj x _ (show c.H x = _ by rw [hr.H]; exact h1)
   exact hdd df (by rw [← hr.H]; exact hd)
  ·cases e
 refine ⟨he, s.frz ho' hloop, rfl, fun t => zlz s hl (by rw [hr.H]; exact htm t) (hr.tm t), ?_, ?_, hr.G.abides ab⟩
 ·rw [hnx]; exact hr.nx
 ·rw [hdf]; exact hr.df.abides ab
theorem Ghost.refl (st : St) : Ghost st st := ⟨fun β o' h => ⟨o', h, .inl rfl⟩, fun _ h => h, fun _ => .inl rfl, rfl, rfl⟩
theorem FrozenL.snoc {H H' : Nat → Option VObj} {x y : VV} (h : Frozen H H' x y) : ∀ (cs : List VV), FrozenL H H' (cs ++ [x]) (cs ++ [y])
 | [] => ⟨h, trivial⟩
 | c :: cs => ⟨.inl rfl, FrozenL.snoc h cs⟩
theorem Ghost.snoc {tm : Nat → VV} {H : Nat → Option VObj} {nx : Nat} {df : List VDef} {γ ε n w cp : Nat} {e1 e2 : Option TypeId} {cs ys : List VV} (hγ : H γ = some (.cells e1 ys)) (hε : H ε = some (.cells e2 (cs ++ [.ref γ 0 n w cp]))) (hne : ε ≠ γ) (ht : treeL ys = true) (hl : ys.length = n * w) :
  Ghost ⟨tm, H, nx, df⟩ ⟨tm, updH (without H γ) ε (.cells e2 (cs ++ [.sl ys n false])), nx, df⟩ := by
 have hg : gone H (updH (without H γ) ε (.cells e2 (cs ++ [.sl ys n false]))) γ = some (.cells e1 ys) := by
  unfold gone
  rw [zab, if_neg (Ne.symm hne)]
  simp [without, hγ]
 have hfz : Frozen H (updH (without H γ) ε (.cells e2 (cs ++ [.sl ys n false]))) (.ref γ 0 n w cp) (.sl ys n false) := by
  refine .inr (.inr ⟨ys.length + 2, ?_⟩)
  unfold sealV
  have : (VV.ref γ 0 n w cp).tree = false := rfl
  rw [this]
  simp only [Bool.false_eq_true, if_false, hg, Nat.zero_le, if_true, List.drop_zero]
  rw [List.take_of_length_le (by omega), zlk ys _ ht (by omega)]
  rfl
 refine ⟨?_, ?_, fun _ => .inl rfl, rfl, rfl⟩
 ·intro β o' h
  simp only [zab] at h
  by_cases hb : β = ε
  ·subst hb
   rw [if_pos rfl] at h
   cases h
   exact ⟨_, hε, .inr ⟨e2, _, _, rfl, rfl, FrozenL.snoc hfz cs⟩⟩
  ·rw [if_neg hb] at h
   simp only [zaa] at h
   split at h
   ·cases h
   ·exact ⟨o', h, .inl rfl⟩
 ·rintro β ⟨ds, h⟩
  refine ⟨ds, ?_⟩
  have h : H β = some (.deferred ds) := h
  show updH (without H γ) ε _ β = _
  have b1 : β ≠ ε := by rintro rfl; rw [hε] at h; cases h
  have b2 : β ≠ γ := by rintro rfl; rw [hγ] at h; cases h
  rw [zab, if_neg b1, zaa, if_neg b2]
  exact h
section
variable {P : Program} {H : Nat → Option VObj} {γ : Nat} {k : VV → VEff → Prop} {t t2 e e2 β δ cx : Nat} {b : Nat} {el el2 : Option TypeId} {cs : List VV} {y : VV}
theorem zauh (ha : appOk P t = some (e, 1, b)) (hu2 : P.underlying t2 = some (.slice e2)) (hb : H β = some (.cells el cs)) (hd : H δ = some (.cells el2 [y])) (hy : y.leaf = true) (hr : roomOk b (cs.length + 1) = true)
  (h : k (.ref γ 0 (cs.length + 1) 1 (cs.length + 1)) (.mv β (sameEl el e) (cs ++ [y]))) : oeK (vappend P H γ t t2 (.ref β 0 cs.length 1 cs.length) (.ref δ 0 1 1 cx)) k := by
 obtain ⟨hu, inf, z, hi, hz, hs1, rfl, hs0, hb0, hzs⟩ := zgx ha
 have hr' : (cs.length + 1) * inf.bytes ≤ 140737488355328 := by simpa [roomOk] using hr
 have key : vappend P H γ t t2 (.ref β 0 cs.length 1 cs.length) (.ref δ 0 1 1 cx) = some (.ref γ 0 (cs.length + 1) 1 (cs.length + 1), .mv β (sameEl el e) (cs ++ [y])) := by
  simp only [vappend, nilS, vappend1, hu, hu2, hi, hz, srcV, sls, hd, Nat.zero_le, if_true, List.drop_zero, hs0, hb0, hzs, hb]
  simp [hs1, hy, hr']
 rw [key]
 exact h
theorem zwq (ha : appOk P t = some (e, 1, b)) (hu2 : P.underlying t2 = some (.slice e2)) (hd : H δ = some (.cells el2 [y])) (hy : y.leaf = true) (hr : roomOk b 1 = true)
  (h : k (.ref γ 0 1 1 1) (.new (.cells (some e) [y]))) : oeK (vappend P H γ t t2 (.lit (.slice none 0 0)) (.ref δ 0 1 1 cx)) k := by
 obtain ⟨hu, inf, z, hi, hz, hs1, rfl, hs0, hb0, hzs⟩ := zgx ha
 have hr' : inf.bytes ≤ 140737488355328 := by simpa [roomOk] using hr
 have key : vappend P H γ t t2 (.lit (.slice none 0 0)) (.ref δ 0 1 1 cx) = some (.ref γ 0 1 1 1, .new (.cells (some e) [y])) := by
  simp only [vappend, nilS, vappend1, hu, hu2, hi, hz, srcV, sls, hd, Nat.zero_le, if_true, List.drop_zero, hs0, hb0, hzs]
  simp [hs1, hy, hr']
 rw [key]
 exact h
end
theorem Ghost.snocL {tm : Nat → VV} {H : Nat → Option VObj} {nx : Nat} {df : List VDef} {γ ε cp : Nat} {e1 e2 : Option TypeId} {xs : List (List Int)} {ys : List Int} (hγ : H γ = some (.cells e1 (cellsL eI ys))) (hε : H ε = some (.cells e2 (cellsL (eSl eI) xs ++ [.ref γ 0 ys.length 1 cp]))) (hne : ε ≠ γ) :
  Ghost ⟨tm, H, nx, df⟩ ⟨tm, updH (without H γ) ε (.cells e2 (cellsL (eSl eI) (xs ++ [ys]))), nx, df⟩ := by
 rw [zgl]
 exact Ghost.snoc hγ hε hne (eI_ok.treeL _) (zca (w := 1) (enc := eI) (fun _ => rfl) _)
section
variable {P : Program} {H : Nat → Option VObj} {γ : Nat} {k : VV → VEff → Prop} {t t2 e e2 β δ cx : Nat} {b : Nat} {el el2 : Option TypeId} {y : VV} {α : Type} {enc : α → List VV} {xs : List α} {a : α}
theorem zxg (he : ∀ x, (enc x).length = 1) (ha : appOk P t = some (e, 1, b)) (hu2 : P.underlying t2 = some (.slice e2)) (hb : H β = some (.cells el (cellsL enc xs))) (hd : H δ = some (.cells el2 [y])) (hy : y.leaf = true) (hr : roomOk b (xs ++ [a]).length = true)
  (h : k (.ref γ 0 (xs ++ [a]).length 1 (xs ++ [a]).length) (.mv β (sameEl el e) (cellsL enc xs ++ [y]))) : oeK (vappend P H γ t t2 (.ref β 0 xs.length 1 xs.length) (.ref δ 0 1 1 cx)) k := by
 have hl : (cellsL enc xs).length = xs.length := by rw [zca he]; omega
 have h2 : (xs ++ [a]).length = (cellsL enc xs).length + 1 := by simp [hl]
 rw [← hl]
 rw [h2] at hr h
 exact zauh ha hu2 hb hd hy hr h
end
theorem loopKG {P : Program} {G : Glob} (hm : P.follows .mixedOrders = true) {n : Nat} {x : Code} {Q : VExit → St → Prop} {st : St} (ho : codeOk n x = true) (I : Nat → St → Prop) (m : Nat) (h0 : I m st)
  (round : ∀ m st, I m st → CWp P G n x (VExit.then (fun st' => ∃ m', m' < m ∧ ∃ s2, Ghost st' s2 ∧ I m' s2) Q) st) : CWp P G n (.loop x) Q st := by
 refine VWp.loop I h0 fun m st hI => ?_
 have h1 := zfk hm x _ st ho (round m st hI)
 intro ro c W a hro s hr hsz
 refine wpIn_mono (h1 ro c W a hro s hr hsz) ?_
 rintro e a' W' ⟨ve, c', st', he, hext, hs', hr', hsz', hu, hle, hq⟩
 cases ve with
 | normal =>
  obtain ⟨m', hlt, s2, g, hI2⟩ := hq
  obtain ⟨e2, h2, r2⟩ := g.rep hs' hr'
  exact ⟨.normal, c'.frz s2.H, s2, he, hext.trans e2, h2, r2, hsz', fun β hb => hu β hb, by rw [g.2.2.2.1]; exact hle, m', hlt, hI2⟩
 | exit id => exact ⟨_, c', st', he, hext, hs', hr', hsz', hu, hle, hq⟩
 | goto l => exact ⟨_, c', st', he, hext, hs', hr', hsz', hu, hle, hq⟩
 | ret => exact ⟨_, c', st', he, hext, hs', hr', hsz', hu, hle, hq⟩
 | panic x => exact ⟨_, c', st', he, hext, hs', hr', hsz', hu, hle, hq⟩
end Go.V
end
