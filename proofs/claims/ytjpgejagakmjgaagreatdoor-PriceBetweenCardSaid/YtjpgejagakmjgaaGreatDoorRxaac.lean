/- Part of a proof. -/
import Derived.Test.YtjpgejagakmjgaaGreatDoorRbj
set_option linter.all false
set_option maxRecDepth 4000
set_option maxHeartbeats 40000000
section
set_option maxRecDepth 100000
namespace Go.V
open Go Go.Proofs
def zbt (x : GPriceSheet) : Prop := lenOk x.Offs = true ∧ lenOk x.Boards = true ∧ lenOk x.Tariffs = true
section
variable {P : Program} (hu3 : P.underlying 3 = some (.int .i64)) (hu22 : P.underlying 22 = some (.slice 3)) {f33 : Array Field} (hu33 : P.underlying 33 = some (.struct f33)) (ht33 : f33.toList.map Field.type = [3, 3]) {f75 : Array Field} (hu75 : P.underlying 75 = some (.struct f75)) (ht75 : f75.toList.map Field.type = [3, 3, 33, 3]) (hu23 : P.underlying 23 = some (.slice 75)) (hu39 : P.underlying 39 = some (.int .i64)) (hu40 : P.underlying 40 = some (.int .i64)) (hu4 : P.underlying 4 = some (.bool)) {f42 : Array Field} (hu42 : P.underlying 42 = some (.struct f42)) (ht42 : f42.toList.map Field.type = [39, 3, 3, 40, 4]) (hu24 : P.underlying 24 = some (.slice 42)) {f26 : Array Field} (hu26 : P.underlying 26 = some (.struct f26)) (ht26 : f26.toList.map Field.type = [22, 23, 24])
include hu3 hu22 hu33 ht33 hu75 ht75 hu23 hu39 hu40 hu4 hu42 ht42 hu24 hu26 ht26
theorem gd_3 {n : Nat} : Dec P (n + 1) 3 eI (fun _ => True) := zil hu3
theorem gd_22 {n : Nat} : Dec P (n + 2) 22 (eSl eI) (fun l => lenOk l = true ∧ ∀ x ∈ l, True) := zer hu22 (gd_3 hu3 hu22 hu33 ht33 hu75 ht75 hu23 hu39 hu40 hu4 hu42 ht42 hu24 hu26 ht26 (n := n))
theorem gd_33 {n : Nat} : Dec P (n + 2) 33 cGSpan (fun _ => True) := by
 intro xs h
 obtain ⟨yss, hf, rfl⟩ := zcj (n := n + 1) (ts := [3, 3]) hu33 ht33 h
 match yss, hf with
 | [y0, y1], ⟨h0, h1, _⟩ =>
  obtain ⟨x0, r0, e0⟩ := gd_3 hu3 hu22 hu33 ht33 hu75 ht75 hu23 hu39 hu40 hu4 hu42 ht42 hu24 hu26 ht26 (n := n + 0) _ h0
  obtain ⟨x1, r1, e1⟩ := gd_3 hu3 hu22 hu33 ht33 hu75 ht75 hu23 hu39 hu40 hu4 hu42 ht42 hu24 hu26 ht26 (n := n + 0) _ h1
  exact ⟨⟨x0, x1⟩, trivial, by simp only [List.flatten_cons, List.flatten_nil, List.append_nil, zbe, e0, e1, eI, eU8, eB, eS, eSl, zfc, List.cons_append, List.nil_append]⟩
theorem gd_75 {n : Nat} : Dec P (n + 3) 75 cGPriceBoard (fun _ => True) := by
 intro xs h
 obtain ⟨yss, hf, rfl⟩ := zcj (n := n + 2) (ts := [3, 3, 33, 3]) hu75 ht75 h
 match yss, hf with
 | [y0, y1, y2, y3], ⟨h0, h1, h2, h3, _⟩ =>
  obtain ⟨x0, r0, e0⟩ := gd_3 hu3 hu22 hu33 ht33 hu75 ht75 hu23 hu39 hu40 hu4 hu42 ht42 hu24 hu26 ht26 (n := n + 1) _ h0
  obtain ⟨x1, r1, e1⟩ := gd_3 hu3 hu22 hu33 ht33 hu75 ht75 hu23 hu39 hu40 hu4 hu42 ht42 hu24 hu26 ht26 (n := n + 1) _ h1
  obtain ⟨x2, r2, e2⟩ := gd_33 hu3 hu22 hu33 ht33 hu75 ht75 hu23 hu39 hu40 hu4 hu42 ht42 hu24 hu26 ht26 (n := n + 0) _ h2
  obtain ⟨x3, r3, e3⟩ := gd_3 hu3 hu22 hu33 ht33 hu75 ht75 hu23 hu39 hu40 hu4 hu42 ht42 hu24 hu26 ht26 (n := n + 1) _ h3
  exact ⟨⟨x0, x1, x2, x3⟩, trivial, by simp only [List.flatten_cons, List.flatten_nil, List.append_nil, zbe, e0, e1, e2, e3, eI, eU8, eB, eS, eSl, zck, zfc, List.cons_append, List.nil_append]⟩
theorem gd_23 {n : Nat} : Dec P (n + 4) 23 (eSl cGPriceBoard) (fun l => lenOk l = true ∧ ∀ x ∈ l, True) := zer hu23 (gd_75 hu3 hu22 hu33 ht33 hu75 ht75 hu23 hu39 hu40 hu4 hu42 ht42 hu24 hu26 ht26 (n := n))
theorem gd_39 {n : Nat} : Dec P (n + 1) 39 eI (fun _ => True) := zil hu39
theorem gd_40 {n : Nat} : Dec P (n + 1) 40 eI (fun _ => True) := zil hu40
theorem gd_4 {n : Nat} : Dec P (n + 1) 4 eB (fun _ => True) := zqc hu4
theorem gd_42 {n : Nat} : Dec P (n + 2) 42 cGPriceTariff (fun _ => True) := by
 intro xs h
 obtain ⟨yss, hf, rfl⟩ := zcj (n := n + 1) (ts := [39, 3, 3, 40, 4]) hu42 ht42 h
 match yss, hf with
 | [y0, y1, y2, y3, y4], ⟨h0, h1, h2, h3, h4, _⟩ =>
  obtain ⟨x0, r0, e0⟩ := gd_39 hu3 hu22 hu33 ht33 hu75 ht75 hu23 hu39 hu40 hu4 hu42 ht42 hu24 hu26 ht26 (n := n + 0) _ h0
  obtain ⟨x1, r1, e1⟩ := gd_3 hu3 hu22 hu33 ht33 hu75 ht75 hu23 hu39 hu40 hu4 hu42 ht42 hu24 hu26 ht26 (n := n + 0) _ h1
  obtain ⟨x2, r2, e2⟩ := gd_3 hu3 hu22 hu33 ht33 hu75 ht75 hu23 hu39 hu40 hu4 hu42 ht42 hu24 hu26 ht26 (n := n + 0) _ h2
  obtain ⟨x3, r3, e3⟩ := gd_40 hu3 hu22 hu33 ht33 hu75 ht75 hu23 hu39 hu40 hu4 hu42 ht42 hu24 hu26 ht26 (n := n + 0) _ h3
  obtain ⟨x4, r4, e4⟩ := gd_4 hu3 hu22 hu33 ht33 hu75 ht75 hu23 hu39 hu40 hu4 hu42 ht42 hu24 hu26 ht26 (n := n + 0) _ h4
  exact ⟨⟨x0, x1, x2, x3, x4⟩, trivial, by simp only [List.flatten_cons, List.flatten_nil, List.append_nil, zbe, e0, e1, e2, e3, e4, eI, eU8, eB, eS, eSl, zce, List.cons_append, List.nil_append]⟩
theorem gd_24 {n : Nat} : Dec P (n + 3) 24 (eSl cGPriceTariff) (fun l => lenOk l = true ∧ ∀ x ∈ l, True) := zer hu24 (gd_42 hu3 hu22 hu33 ht33 hu75 ht75 hu23 hu39 hu40 hu4 hu42 ht42 hu24 hu26 ht26 (n := n))
theorem gd_26 {n : Nat} : Dec P (n + 5) 26 cGPriceSheet (zbt) := by
 intro xs h
 obtain ⟨yss, hf, rfl⟩ := zcj (n := n + 4) (ts := [22, 23, 24]) hu26 ht26 h
 match yss, hf with
 | [y0, y1, y2], ⟨h0, h1, h2, _⟩ =>
  obtain ⟨x0, r0, e0⟩ := gd_22 hu3 hu22 hu33 ht33 hu75 ht75 hu23 hu39 hu40 hu4 hu42 ht42 hu24 hu26 ht26 (n := n + 2) _ h0
  obtain ⟨x1, r1, e1⟩ := gd_23 hu3 hu22 hu33 ht33 hu75 ht75 hu23 hu39 hu40 hu4 hu42 ht42 hu24 hu26 ht26 (n := n + 0) _ h1
  obtain ⟨x2, r2, e2⟩ := gd_24 hu3 hu22 hu33 ht33 hu75 ht75 hu23 hu39 hu40 hu4 hu42 ht42 hu24 hu26 ht26 (n := n + 1) _ h2
  exact ⟨⟨x0, x1, x2⟩, ⟨r0.1, r1.1, r2.1⟩, by simp only [List.flatten_cons, List.flatten_nil, List.append_nil, zbe, e0, e1, e2, eI, eU8, eB, eS, eSl, zdd, List.cons_append, List.nil_append]⟩
end
theorem dec_3 {n : Nat} : Dec Tryz.prog (n + 1) 3 eI (fun _ => True) := gd_3 Tryz.underlying3 Tryz.underlying22 Tryz.underlying33 (by kernel_rfl) Tryz.underlying75 (by kernel_rfl) Tryz.underlying23 Tryz.underlying39 Tryz.underlying40 Tryz.underlying4 Tryz.underlying42 (by kernel_rfl) Tryz.underlying24 Tryz.underlying26 (by kernel_rfl)
theorem zsw {n : Nat} : Dec Tryz.prog (n + 2) 22 (eSl eI) (fun l => lenOk l = true ∧ ∀ x ∈ l, True) := gd_22 Tryz.underlying3 Tryz.underlying22 Tryz.underlying33 (by kernel_rfl) Tryz.underlying75 (by kernel_rfl) Tryz.underlying23 Tryz.underlying39 Tryz.underlying40 Tryz.underlying4 Tryz.underlying42 (by kernel_rfl) Tryz.underlying24 Tryz.underlying26 (by kernel_rfl)
theorem zsi {n : Nat} : Dec Tryz.prog (n + 5) 26 cGPriceSheet (zbt) := gd_26 Tryz.underlying3 Tryz.underlying22 Tryz.underlying33 (by kernel_rfl) Tryz.underlying75 (by kernel_rfl) Tryz.underlying23 Tryz.underlying39 Tryz.underlying40 Tryz.underlying4 Tryz.underlying42 (by kernel_rfl) Tryz.underlying24 Tryz.underlying26 (by kernel_rfl)
end Go.V
end
section
namespace Go.V
open Go Go.Proofs
def zcl (x1_high : Bool) : List GPriceBoard → Int → (List Int) → Option (LOut (List Int) ((List Int)))
 | [], c0_6, c0_5 => some (.go c0_5)
 | e0 :: p0, c0_6, c0_5 => cond (x1_high) (cond (roomOk 8 (List.length (c0_5 ++ [e0.Hours.High]))) (zcl x1_high p0 (c0_6 + 1) (c0_5 ++ [e0.Hours.High])) none) (cond (roomOk 8 (List.length (c0_5 ++ [e0.Hours.Low]))) (zcl x1_high p0 (c0_6 + 1) (c0_5 ++ [e0.Hours.Low])) none)
def zha (x0_s : GPriceSheet) (x1_high : Bool) : Option (List Int) := cond (lenOk x0_s.Boards) (lbind (zcl x1_high x0_s.Boards 0 ([] : List Int)) (fun r2 => some r2) (fun c1 => some c1) (fun _ _ => none)) none
theorem zkw (x0_s : GPriceSheet) (x1_high : Bool) (R : List Int) (h : zha x0_s x1_high = some R) : VPure Tryz.prog G0 31 [.agg (cGPriceSheet x0_s), .lit (.bool x1_high)] (.tree (.sl (cellsL eI R) (List.length R) false)) := by
 refine VPure.runR mixed Tryz.call31 Tryz.func31 rfl (by simp [Tryz.ntmps31]; kernel_rfl) ?_
 obtain ⟨KF, h, kF, kN⟩ := zal h
 simp only [zha] at h
 cases g4 : (lenOk x0_s.Boards)
 ·simp only [g4, hs] at h
  exact absurd h kN
 simp only [g4, hs] at h
 simp only [vz, tyf, g4, nm, seval]
 obtain ⟨K3, h, kR3, kG3, kB3, kN3⟩ := zbl h kN
 obtain ⟨f3, hf3, h⟩ := call3 h
 obtain ⟨I3, hI3⟩ : ∃ I : Nat → St → Prop, I = (fun m st => ∃ (p3 : List GPriceBoard) (c3_6 : Int) (c3_5 : List Int) (y3_0 : VV), m = List.length p3 ∧ 0 ≤ c3_6 ∧ List.drop (Int.toNat c3_6) x0_s.Boards = p3 ∧ st.df = [] ∧ 4 ≤ st.nx ∧ st.H 0 = some (.cells (some 26) (cGPriceSheet x0_s)) ∧ st.tm 1 = .lit (.bool x1_high) ∧ st.tm 2 = .ptr 0 0 ∧ st.tm 5 = y3_0 ∧ st.tm 6 = .lit (.int .i64 c3_6) ∧ ((∃ (β : Nat) (el : Option TypeId), y3_0 = .ref β 0 (List.length c3_5) 1 (List.length c3_5) ∧ β < st.nx ∧ β ≠ 0 ∧ st.H β = some (.cells el (cellsL eI c3_5))) ∨ (y3_0 = .lit (.slice none 0 0) ∧ c3_5 = [])) ∧ K3 (f3 p3 c3_6 c3_5)) := ⟨_, rfl⟩
 refine loopK mixed (by kernel_rfl) I3 (List.length x0_s.Boards) (by rw [hI3]; refine ⟨x0_s.Boards, 0, ([] : List Int), .lit (.slice none 0 0), rfl, Int.le_refl _, rfl, rfl, (show 4 ≤ 4 by omega), ?_, ?_, ?_, ?_, ?_, Or.inr ⟨rfl, rfl⟩, h⟩ <;> first | (simp only [ua, nm, seval] <;> rfl) | rfl) ?_
 rintro m ⟨tm, H, nx3, df⟩ hinv
 rw [hI3] at hinv
 obtain ⟨p3, c3_6, c3_5, y3_0, rfl, hi3, hp3, hdf, hn3, H5, e6, e7, e8, e9, ow3_0, h⟩ := hinv
 simp only at hdf hn3 H5 e6 e7 e8 e9 ow3_0
 have n10 := zdv (m := 4) (b := nx3) (by omega)
 subst hdf hf3
 rcases ow3_0 with ⟨b3_0, el3_0, rfl, lq12, lq13, H11⟩ | ⟨rfl, rfl⟩
 ·have q12 := zlf lq12
  have q13 := ne_f lq13
  cases p3 with
  | nil =>
   have d14 : (decide (c3_6 < (List.length x0_s.Boards : Int))) = false := zap hi3 hp3
   simp only [zcl, hs, reduceCtorEq] at h
   replace h := kG3 _ h
   try dsimp only at h
   try simp only [hs] at h
   try simp only [vz, tyf, g4, n10, e6, e7, e8, e9, H5, q12, H11, q13, d14, nm, seval]
   refine zao (x := (.ref b3_0 0 (List.length c3_5) 1 (List.length c3_5))) (by first | (simp only [Tryz.results31, resV, resL, resV1, zan, zbd, uw, cr, tyf, g4, n10, H5, q12, H11, q13, d14, nm, seval] <;> rfl) | rfl) ?_
   obtain rfl := kF _ h
   refine zaz ?_ ?_
   ·simp only [tre, tytre, Bool.and_self]
   ·first | (simp only [outV, uw, zai, cr, tyf, nrm, tynrm, g4, n10, e6, e7, e8, e9, H5, q12, H11, q13, d14, nm, seval] <;> rfl) | rfl
  | cons e3 p3 =>
   have d15 : (decide (c3_6 < (List.length x0_s.Boards : Int))) = true := zbg hi3 hp3
   have o17 := zam hi3 hp3
   have w16 := zbu hi3 hp3 g4
   simp only [zcl, hs, reduceCtorEq] at h
   cases d18 : (x1_high)
   ·simp only [d18, hs] at h
    have b19 := And.intro g4 (And.intro n10 (And.intro H5 (And.intro q12 (And.intro H11 (And.intro q13 (And.intro d15 (And.intro w16 d18)))))))
    cases g20 : (roomOk 8 (List.length (c3_5 ++ [e3.Hours.Low])))
    ·simp only [g20, hs] at h
     exact absurd h kN3
    simp only [g20, hs] at h
    simp only [vz, tyf, b19, e6, e7, e8, e9, (ix23 o17), g20, nm, seval]
    refine k_app (w := 1) (enc := eI) (xs := c3_5) (ys := ([e3.Hours.Low])) (el := el3_0) (el2 := (some 3)) (fun _ => rfl) lf22 ao22 Tryz.underlying22 (by first | rfl | assumption | (simp only [zad, zab, et22, b19, nm, seval] <;> rfl) | (simp only [zad, zab, zaw, zbc, zfu, zdf, tyf, b19, e6, e7, e8, e9, (ix23 o17), g20, nm, seval]; done)) (by first | rfl | assumption | (simp only [zad, zab, et22, b19, nm, seval] <;> rfl) | (simp only [zad, zab, zaw, zbc, zfu, zdf, tyf, b19, e6, e7, e8, e9, (ix23 o17), g20, nm, seval]; done)) (Nat.zero_lt_succ _) g20 ?_
    simp only [vz, tyf, b19, e6, e7, e8, e9, (ix23 o17), g20, nm, seval]
    exact ⟨List.length p3, Nat.lt_succ_self _, by rw [hI3]; refine ⟨p3, c3_6 + 1, (c3_5 ++ [e3.Hours.Low]), .ref (nx3 + 15) 0 (List.length (c3_5 ++ [e3.Hours.Low])) 1 (List.length (c3_5 ++ [e3.Hours.Low])), rfl, Int.le_trans hi3 (Int.le_add_one (Int.le_refl _)), zba hi3 hp3, rfl, (show 4 ≤ nx3 + 20 by omega), ?_, e6, e7, ?_, ?_, Or.inl ⟨nx3 + 15, (sameEl el3_0 3), rfl, (by first | omega | (simp only [nm, seval]; omega)), (by first | omega | (intro hh; simp only [b19, reduceCtorEq] at hh)), ?_⟩, (by first | exact h | (simp only [b19]; exact h))⟩ <;> first | (simp only [ua, b19, e6, e7, e8, e9, nm, seval] <;> rfl) | rfl⟩
   simp only [d18, hs] at h
   have b21 := And.intro g4 (And.intro n10 (And.intro H5 (And.intro q12 (And.intro H11 (And.intro q13 (And.intro d15 (And.intro w16 d18)))))))
   cases g22 : (roomOk 8 (List.length (c3_5 ++ [e3.Hours.High])))
   ·simp only [g22, hs] at h
    exact absurd h kN3
   simp only [g22, hs] at h
   simp only [vz, tyf, b21, e6, e7, e8, e9, (ix23 o17), g22, nm, seval]
   refine k_app (w := 1) (enc := eI) (xs := c3_5) (ys := ([e3.Hours.High])) (el := el3_0) (el2 := (some 3)) (fun _ => rfl) lf22 ao22 Tryz.underlying22 (by first | rfl | assumption | (simp only [zad, zab, et22, b21, nm, seval] <;> rfl) | (simp only [zad, zab, zaw, zbc, zfu, zdf, tyf, b21, e6, e7, e8, e9, (ix23 o17), g22, nm, seval]; done)) (by first | rfl | assumption | (simp only [zad, zab, et22, b21, nm, seval] <;> rfl) | (simp only [zad, zab, zaw, zbc, zfu, zdf, tyf, b21, e6, e7, e8, e9, (ix23 o17), g22, nm, seval]; done)) (Nat.zero_lt_succ _) g22 ?_
   simp only [vz, tyf, b21, e6, e7, e8, e9, (ix23 o17), g22, nm, seval]
   exact ⟨List.length p3, Nat.lt_succ_self _, by rw [hI3]; refine ⟨p3, c3_6 + 1, (c3_5 ++ [e3.Hours.High]), .ref (nx3 + 15) 0 (List.length (c3_5 ++ [e3.Hours.High])) 1 (List.length (c3_5 ++ [e3.Hours.High])), rfl, Int.le_trans hi3 (Int.le_add_one (Int.le_refl _)), zba hi3 hp3, rfl, (show 4 ≤ nx3 + 20 by omega), ?_, e6, e7, ?_, ?_, Or.inl ⟨nx3 + 15, (sameEl el3_0 3), rfl, (by first | omega | (simp only [nm, seval]; omega)), (by first | omega | (intro hh; simp only [b21, reduceCtorEq] at hh)), ?_⟩, (by first | exact h | (simp only [b21]; exact h))⟩ <;> first | (simp only [ua, b21, e6, e7, e8, e9, nm, seval] <;> rfl) | rfl⟩
 ·cases p3 with
  | nil =>
   have d23 : (decide (c3_6 < (List.length x0_s.Boards : Int))) = false := zap hi3 hp3
   simp only [zcl, hs, reduceCtorEq] at h
   replace h := kG3 _ h
   try dsimp only at h
   try simp only [hs] at h
   try simp only [vz, tyf, g4, n10, e6, e7, e8, e9, H5, d23, nm, seval]
   refine zao (x := (.lit (.slice none 0 0))) (by first | (simp only [Tryz.results31, resV, resL, resV1, zan, zbd, uw, cr, tyf, g4, n10, H5, d23, nm, seval] <;> rfl) | rfl) ?_
   obtain rfl := kF _ h
   refine zaz ?_ ?_
   ·simp only [tre, tytre, Bool.and_self]
   ·first | (simp only [outV, uw, zai, cr, tyf, nrm, tynrm, g4, n10, e6, e7, e8, e9, H5, d23, nm, seval] <;> rfl) | rfl
  | cons e3 p3 =>
   have d24 : (decide (c3_6 < (List.length x0_s.Boards : Int))) = true := zbg hi3 hp3
   have o26 := zam hi3 hp3
   have w25 := zbu hi3 hp3 g4
   simp only [zcl, hs, reduceCtorEq] at h
   cases d27 : (x1_high)
   ·simp only [d27, hs] at h
    cases g28 : (roomOk 8 (List.length (([] : List Int) ++ [e3.Hours.Low])))
    ·simp only [g28, hs] at h
     exact absurd h kN3
    simp only [g28, hs] at h
    simp only [vz, tyf, g4, n10, e6, e7, e8, e9, H5, d24, (ix23 o26), w25, d27, g28, nm, seval]
    refine zoi (w := 1) (enc := eI) (ys := ([e3.Hours.Low])) (el2 := (some 3)) (fun _ => rfl) lf22 ao22 Tryz.underlying22 (by first | rfl | assumption | (simp only [zad, zab, et22, n10, H5, nm, seval] <;> rfl) | (simp only [zad, zab, zaw, zbc, zfu, zdf, tyf, g4, n10, e6, e7, e8, e9, H5, d24, (ix23 o26), w25, d27, g28, nm, seval]; done)) (Nat.zero_lt_succ _) g28 ?_
    simp only [vz, tyf, g4, n10, e6, e7, e8, e9, H5, d24, (ix23 o26), w25, d27, g28, nm, seval]
    exact ⟨List.length p3, Nat.lt_succ_self _, by rw [hI3]; refine ⟨p3, c3_6 + 1, (([] : List Int) ++ [e3.Hours.Low]), .ref (nx3 + 15) 0 (List.length (([] : List Int) ++ [e3.Hours.Low])) 1 (List.length (([] : List Int) ++ [e3.Hours.Low])), rfl, Int.le_trans hi3 (Int.le_add_one (Int.le_refl _)), zba hi3 hp3, rfl, (show 4 ≤ nx3 + 20 by omega), ?_, e6, e7, ?_, ?_, Or.inl ⟨nx3 + 15, (some 3), rfl, (by first | omega | (simp only [nm, seval]; omega)), (by first | omega | (intro hh; simp only [n10, reduceCtorEq] at hh)), ?_⟩, (by first | exact h | (simp only [d24, d27]; exact h))⟩ <;> first | (simp only [ua, n10, e6, e7, e8, e9, H5, d24, w25, d27, nm, seval] <;> rfl) | rfl⟩
   simp only [d27, hs] at h
   cases g29 : (roomOk 8 (List.length (([] : List Int) ++ [e3.Hours.High])))
   ·simp only [g29, hs] at h
    exact absurd h kN3
   simp only [g29, hs] at h
   simp only [vz, tyf, g4, n10, e6, e7, e8, e9, H5, d24, (ix23 o26), w25, d27, g29, nm, seval]
   refine zoi (w := 1) (enc := eI) (ys := ([e3.Hours.High])) (el2 := (some 3)) (fun _ => rfl) lf22 ao22 Tryz.underlying22 (by first | rfl | assumption | (simp only [zad, zab, et22, n10, H5, nm, seval] <;> rfl) | (simp only [zad, zab, zaw, zbc, zfu, zdf, tyf, g4, n10, e6, e7, e8, e9, H5, d24, (ix23 o26), w25, d27, g29, nm, seval]; done)) (Nat.zero_lt_succ _) g29 ?_
   simp only [vz, tyf, g4, n10, e6, e7, e8, e9, H5, d24, (ix23 o26), w25, d27, g29, nm, seval]
   exact ⟨List.length p3, Nat.lt_succ_self _, by rw [hI3]; refine ⟨p3, c3_6 + 1, (([] : List Int) ++ [e3.Hours.High]), .ref (nx3 + 15) 0 (List.length (([] : List Int) ++ [e3.Hours.High])) 1 (List.length (([] : List Int) ++ [e3.Hours.High])), rfl, Int.le_trans hi3 (Int.le_add_one (Int.le_refl _)), zba hi3 hp3, rfl, (show 4 ≤ nx3 + 20 by omega), ?_, e6, e7, ?_, ?_, Or.inl ⟨nx3 + 15, (some 3), rfl, (by first | omega | (simp only [nm, seval]; omega)), (by first | omega | (intro hh; simp only [n10, reduceCtorEq] at hh)), ?_⟩, (by first | exact h | (simp only [d24, d27]; exact h))⟩ <;> first | (simp only [ua, n10, e6, e7, e8, e9, H5, d24, w25, d27, nm, seval] <;> rfl) | rfl⟩
def zep (x0_s : GPriceSheet) (x1_a1 : Int) (x2_a2 : List Int) : Option (Bool) := Option.bind (zel x0_s x1_a1 x2_a2) (fun r1 => cond (r1) (Option.bind (zgk x0_s x1_a1) (fun r2 => Option.bind (zcx x0_s x1_a1 x2_a2) (fun r3 => Option.bind (zha x0_s false) (fun r4 => Option.bind (zcx x0_s x1_a1 r4) (fun r5 => Option.bind (zha x0_s true) (fun r6 => Option.bind (zcx x0_s x1_a1 r6) (fun r7 => cond (r2.2 != 0) (some false) (cond (r3.2 != 0) (some false) (cond (r5.2 != 0) (some false) (cond (r7.2 != 0) (some false) (Option.bind (zgz r5.1 r7.1) (fun r8 => cond (r2.1.Low == r8.Low && (r2.1.High == r8.High)) (cond (decide (r5.1 ≥ 0)) (cond (decide (r3.1 ≥ r5.1)) (cond (decide (r3.1 ≤ r7.1)) (Option.bind (getI x0_s.Tariffs x1_a1) (fun x9 => cond (x9.Kind == 3) (some true) (cond (r5.1 == r7.1) (some true) (some false)))) (some false)) (some false)) (some false)) (some false))))))))))))) (some true))
theorem zjq (x0_s : GPriceSheet) (x1_a1 : Int) (x2_a2 : List Int) (R : Bool) (h : zep x0_s x1_a1 x2_a2 = some R) : VPure Tryz.prog G0 4 [.agg (cGPriceSheet x0_s), .lit (.int .i64 x1_a1), .sl (cellsL eI x2_a2) (List.length x2_a2) false] (.tree (.lit (.bool R))) := by
 refine VPure.runRQ mixed Tryz.call4 Tryz.func4 rfl (by simp [Tryz.ntmps4]; kernel_rfl) ?_
 obtain ⟨KF, h, kF, kN⟩ := zal h
 simp only [zep] at h
 obtain ⟨r10, o11, h⟩ := optI h kN
 try simp only [hs] at h
 simp only [vz, tyf, nm, seval]
 refine ktA (zif _ _ _ _ o11) ?_
 refine zah (fun tm => tm 1 = .lit (.int .i64 x1_a1) ∧ tm 2 = .sl (cellsL eI x2_a2) (List.length x2_a2) false ∧ tm 3 = .ptr 0 0 ∧ tm 18 = .lit (.bool r10) ∧ True) (by refine ⟨?_, ?_, ?_, ?_, trivial⟩ <;> first | (simp only [ua, nm, seval] <;> rfl) | rfl) ?_
 rintro tm ⟨e12, e13, e14, e15, _⟩
 cases d16 : (r10)
 ·simp only [d16, hs] at h
  simp only [vz, tyf, e12, e13, e14, e15, d16, nm, seval]
  refine ktree0 zaf ?_
  try simp only [vz, tyf, e12, e13, e14, e15, d16, nm, seval]
  obtain rfl := kF _ h
  exact zac Tryz.results4 rfl
 simp only [d16, hs] at h
 obtain ⟨r17, o18, h⟩ := optI h kN
 try simp only [hs] at h
 simp only [vz, tyf, e12, e13, e14, e15, d16, nm, seval]
 refine ktA (ziy _ _ _ o18) ?_
 refine zah (fun tm => tm 1 = .lit (.int .i64 x1_a1) ∧ tm 2 = .sl (cellsL eI x2_a2) (List.length x2_a2) false ∧ tm 3 = .ptr 0 0 ∧ tm 24 = .tup [.agg (cGSpan r17.1), .lit (.int .i64 r17.2)] ∧ True) (by refine ⟨e12, e13, e14, ?_, trivial⟩ <;> first | (simp only [ua, e12, e13, e14, e15, d16, nm, seval] <;> rfl) | rfl) ?_
 rintro tm ⟨e19, e20, e21, e22, _⟩
 obtain ⟨r23, o24, h⟩ := optI h kN
 try simp only [hs] at h
 simp only [vz, tyf, d16, e19, e20, e21, e22, nm, seval]
 refine ktA (zdg _ _ _ _ o24) ?_
 refine zah (fun tm => tm 1 = .lit (.int .i64 x1_a1) ∧ tm 3 = .ptr 0 0 ∧ tm 7 = .ptr 13 0 ∧ tm 8 = .lit (.int .i64 r17.2) ∧ tm 31 = .tup [.lit (.int .i64 r23.1), .lit (.int .i64 r23.2)] ∧ True) (by refine ⟨e19, e21, ?_, ?_, ?_, trivial⟩ <;> first | (simp only [ua, d16, e19, e20, e21, e22, nm, seval] <;> rfl) | rfl) ?_
 rintro tm ⟨e25, e26, e27, e28, e29, _⟩
 simp only [vz, tyf, d16, e25, e26, e27, e28, e29, nm, seval]
 refine zdt (fun tm => tm 1 = .lit (.int .i64 x1_a1) ∧ tm 3 = .ptr 0 0 ∧ tm 7 = .ptr 13 0 ∧ tm 8 = .lit (.int .i64 r17.2) ∧ tm 9 = .lit (.int .i64 r23.1) ∧ tm 10 = .lit (.int .i64 r23.2) ∧ True) (by refine ⟨e25, e26, e27, e28, ?_, ?_, trivial⟩ <;> first | (simp only [ua, d16, e25, e26, e27, e28, e29, nm, seval] <;> rfl) | rfl) ?_
 rintro tm ⟨e30, e31, e32, e33, e34, e35, _⟩
 obtain ⟨r36, o37, h⟩ := optI h kN
 try simp only [hs] at h
 simp only [vz, tyf, d16, e30, e31, e32, e33, e34, e35, nm, seval]
 refine dktA (zkw _ _ _ o37) ?_
 refine zah (fun tm => tm 1 = .lit (.int .i64 x1_a1) ∧ tm 3 = .ptr 0 0 ∧ tm 7 = .ptr 13 0 ∧ tm 8 = .lit (.int .i64 r17.2) ∧ tm 9 = .lit (.int .i64 r23.1) ∧ tm 10 = .lit (.int .i64 r23.2) ∧ tm 35 = .agg (cGPriceSheet x0_s) ∧ tm 36 = .lit (.int .i64 x1_a1) ∧ tm 38 = .sl (cellsL eI r36) (List.length r36) false ∧ True) (by refine ⟨e30, e31, e32, e33, e34, e35, ?_, ?_, ?_, trivial⟩ <;> first | (simp only [ua, d16, e30, e31, e32, e33, e34, e35, nm, seval] <;> rfl) | rfl) ?_
 rintro tm ⟨e38, e39, e40, e41, e42, e43, e44, e45, e46, _⟩
 obtain ⟨r47, o48, h⟩ := optI h kN
 try simp only [hs] at h
 simp only [vz, tyf, d16, e38, e39, e40, e41, e42, e43, e44, e45, e46, nm, seval]
 refine dktA (zdg _ _ _ _ o48) ?_
 refine zah (fun tm => tm 1 = .lit (.int .i64 x1_a1) ∧ tm 3 = .ptr 0 0 ∧ tm 7 = .ptr 13 0 ∧ tm 8 = .lit (.int .i64 r17.2) ∧ tm 9 = .lit (.int .i64 r23.1) ∧ tm 10 = .lit (.int .i64 r23.2) ∧ tm 39 = .tup [.lit (.int .i64 r47.1), .lit (.int .i64 r47.2)] ∧ True) (by refine ⟨e38, e39, e40, e41, e42, e43, ?_, trivial⟩ <;> first | (simp only [ua, d16, e38, e39, e40, e41, e42, e43, e44, e45, e46, nm, seval] <;> rfl) | rfl) ?_
 rintro tm ⟨e49, e50, e51, e52, e53, e54, e55, _⟩
 simp only [vz, tyf, d16, e49, e50, e51, e52, e53, e54, e55, nm, seval]
 refine zdt (fun tm => tm 1 = .lit (.int .i64 x1_a1) ∧ tm 3 = .ptr 0 0 ∧ tm 7 = .ptr 13 0 ∧ tm 8 = .lit (.int .i64 r17.2) ∧ tm 9 = .lit (.int .i64 r23.1) ∧ tm 10 = .lit (.int .i64 r23.2) ∧ tm 11 = .lit (.int .i64 r47.1) ∧ tm 12 = .lit (.int .i64 r47.2) ∧ True) (by refine ⟨e49, e50, e51, e52, e53, e54, ?_, ?_, trivial⟩ <;> first | (simp only [ua, d16, e49, e50, e51, e52, e53, e54, e55, nm, seval] <;> rfl) | rfl) ?_
 rintro tm ⟨e56, e57, e58, e59, e60, e61, e62, e63, _⟩
 obtain ⟨r64, o65, h⟩ := optI h kN
 try simp only [hs] at h
 simp only [vz, tyf, d16, e56, e57, e58, e59, e60, e61, e62, e63, nm, seval]
 refine dktA (zkw _ _ _ o65) ?_
 refine zah (fun tm => tm 1 = .lit (.int .i64 x1_a1) ∧ tm 3 = .ptr 0 0 ∧ tm 7 = .ptr 13 0 ∧ tm 8 = .lit (.int .i64 r17.2) ∧ tm 9 = .lit (.int .i64 r23.1) ∧ tm 10 = .lit (.int .i64 r23.2) ∧ tm 11 = .lit (.int .i64 r47.1) ∧ tm 12 = .lit (.int .i64 r47.2) ∧ tm 43 = .agg (cGPriceSheet x0_s) ∧ tm 44 = .lit (.int .i64 x1_a1) ∧ tm 46 = .sl (cellsL eI r64) (List.length r64) false ∧ True) (by refine ⟨e56, e57, e58, e59, e60, e61, e62, e63, ?_, ?_, ?_, trivial⟩ <;> first | (simp only [ua, d16, e56, e57, e58, e59, e60, e61, e62, e63, nm, seval] <;> rfl) | rfl) ?_
 rintro tm ⟨e66, e67, e68, e69, e70, e71, e72, e73, e74, e75, e76, _⟩
 obtain ⟨r77, o78, h⟩ := optI h kN
 try simp only [hs] at h
 simp only [vz, tyf, d16, e66, e67, e68, e69, e70, e71, e72, e73, e74, e75, e76, nm, seval]
 refine dktA (zdg _ _ _ _ o78) ?_
 refine zah (fun tm => tm 1 = .lit (.int .i64 x1_a1) ∧ tm 3 = .ptr 0 0 ∧ tm 7 = .ptr 13 0 ∧ tm 8 = .lit (.int .i64 r17.2) ∧ tm 9 = .lit (.int .i64 r23.1) ∧ tm 10 = .lit (.int .i64 r23.2) ∧ tm 11 = .lit (.int .i64 r47.1) ∧ tm 12 = .lit (.int .i64 r47.2) ∧ tm 47 = .tup [.lit (.int .i64 r77.1), .lit (.int .i64 r77.2)] ∧ True) (by refine ⟨e66, e67, e68, e69, e70, e71, e72, e73, ?_, trivial⟩ <;> first | (simp only [ua, d16, e66, e67, e68, e69, e70, e71, e72, e73, e74, e75, e76, nm, seval] <;> rfl) | rfl) ?_
 rintro tm ⟨e79, e80, e81, e82, e83, e84, e85, e86, e87, _⟩
 cases d88 : (r17.2 != 0)
 ·simp only [d88, hs] at h
  cases d89 : (r23.2 != 0)
  ·simp only [d89, hs] at h
   cases d90 : (r47.2 != 0)
   ·simp only [d90, hs] at h
    cases d91 : (r77.2 != 0)
    ·simp only [d91, hs] at h
     simp only [vz, tyf, d16, e79, e80, e81, e82, e83, e84, e85, e86, e87, d88, d89, d90, d91, nm, seval]
     refine zdt (fun tm => tm 1 = .lit (.int .i64 x1_a1) ∧ tm 3 = .ptr 0 0 ∧ tm 7 = .ptr 13 0 ∧ tm 9 = .lit (.int .i64 r23.1) ∧ tm 11 = .lit (.int .i64 r47.1) ∧ tm 13 = .lit (.int .i64 r77.1) ∧ True) (by refine ⟨e79, e80, e81, e83, e85, ?_, trivial⟩ <;> first | (simp only [ua, d16, e79, e80, e81, e82, e83, e84, e85, e86, e87, d88, d89, d90, d91, nm, seval] <;> rfl) | rfl) ?_
     rintro tm ⟨e92, e93, e94, e95, e96, e97, _⟩
     obtain ⟨r98, o99, h⟩ := optI h kN
     try simp only [hs] at h
     simp only [vz, tyf, d16, d88, d89, d90, d91, e92, e93, e94, e95, e96, e97, nm, seval]
     refine dktA (zkt _ _ _ o99) ?_
     refine zah (fun tm => tm 1 = .lit (.int .i64 x1_a1) ∧ tm 3 = .ptr 0 0 ∧ tm 9 = .lit (.int .i64 r23.1) ∧ tm 11 = .lit (.int .i64 r47.1) ∧ tm 13 = .lit (.int .i64 r77.1) ∧ tm 64 = .agg (cGSpan r17.1) ∧ tm 67 = .agg (cGSpan r98) ∧ True) (by refine ⟨e92, e93, e95, e96, e97, ?_, ?_, trivial⟩ <;> first | (simp only [ua, d16, d88, d89, d90, d91, e92, e93, e94, e95, e96, e97, nm, seval] <;> rfl) | rfl) ?_
     rintro tm ⟨e100, e101, e102, e103, e104, e105, e106, _⟩
     cases d107 : (r17.1.Low == r98.Low && (r17.1.High == r98.High))
     ·simp only [d107, hs] at h
      try simp only [vz, tyf, d16, d88, d89, d90, d91, e100, e101, e102, e103, e104, e105, e106, d107, nm, seval]
      obtain rfl := kF _ h
      exact zac Tryz.results4 rfl
     simp only [d107, hs] at h
     cases d108 : (decide (r47.1 ≥ 0))
     ·simp only [d108, hs] at h
      have b109 := And.intro d16 (And.intro d88 (And.intro d89 (And.intro d90 (And.intro d91 (And.intro d107 d108)))))
      try simp only [vz, tyf, b109, e100, e101, e102, e103, e104, e105, e106, nm, seval]
      obtain rfl := kF _ h
      exact zac Tryz.results4 rfl
     simp only [d108, hs] at h
     have b110 := And.intro d16 (And.intro d88 (And.intro d89 (And.intro d90 (And.intro d91 (And.intro d107 d108)))))
     cases d111 : (decide (r23.1 ≥ r47.1))
     ·simp only [d111, hs] at h
      try simp only [vz, tyf, b110, e100, e101, e102, e103, e104, e105, e106, d111, nm, seval]
      obtain rfl := kF _ h
      exact zac Tryz.results4 rfl
     simp only [d111, hs] at h
     cases d112 : (decide (r23.1 ≤ r77.1))
     ·simp only [d112, hs] at h
      try simp only [vz, tyf, b110, e100, e101, e102, e103, e104, e105, e106, d111, d112, nm, seval]
      obtain rfl := kF _ h
      exact zac Tryz.results4 rfl
     simp only [d112, hs] at h
     obtain ⟨x113, o114, h⟩ := optI h kN
     try simp only [hs] at h
     cases d115 : (x113.Kind == 3)
     ·simp only [d115, hs] at h
      cases d116 : (r47.1 == r77.1)
      ·simp only [d116, hs] at h
       try simp only [vz, tyf, b110, e100, e101, e102, e103, e104, e105, e106, d111, d112, (ix24 o114), d115, d116, nm, seval]
       obtain rfl := kF _ h
       exact zac Tryz.results4 rfl
      simp only [d116, hs] at h
      simp only [vz, tyf, b110, e100, e101, e102, e103, e104, e105, e106, d111, d112, (ix24 o114), d115, d116, nm, seval]
      refine dktree0 zaf ?_
      try simp only [vz, tyf, b110, e100, e101, e102, e103, e104, e105, e106, d111, d112, (ix24 o114), d115, d116, nm, seval]
      obtain rfl := kF _ h
      exact zac Tryz.results4 rfl
     simp only [d115, hs] at h
     simp only [vz, tyf, b110, e100, e101, e102, e103, e104, e105, e106, d111, d112, (ix24 o114), d115, nm, seval]
     refine dktree0 zaf ?_
     try simp only [vz, tyf, b110, e100, e101, e102, e103, e104, e105, e106, d111, d112, (ix24 o114), d115, nm, seval]
     obtain rfl := kF _ h
     exact zac Tryz.results4 rfl
    simp only [d91, hs] at h
    try simp only [vz, tyf, d16, e79, e80, e81, e82, e83, e84, e85, e86, e87, d88, d89, d90, d91, nm, seval]
    obtain rfl := kF _ h
    exact zac Tryz.results4 rfl
   simp only [d90, hs] at h
   try simp only [vz, tyf, d16, e79, e80, e81, e82, e83, e84, e85, e86, e87, d88, d89, d90, nm, seval]
   obtain rfl := kF _ h
   exact zac Tryz.results4 rfl
  simp only [d89, hs] at h
  try simp only [vz, tyf, d16, e79, e80, e81, e82, e83, e84, e85, e86, e87, d88, d89, nm, seval]
  obtain rfl := kF _ h
  exact zac Tryz.results4 rfl
 simp only [d88, hs] at h
 try simp only [vz, tyf, d16, e79, e80, e81, e82, e83, e84, e85, e86, e87, d88, nm, seval]
 obtain rfl := kF _ h
 exact zac Tryz.results4 rfl
end Go.V
end
section
namespace Go.V
open Go
theorem zxn (h : Bool) : ∀ (bs : List GPriceBoard) (i : Int) (a : List Int), a.length + bs.length ≤ 1000 → zcl h bs i a = some (.go (a ++ cond h (highs bs) (lows bs)))
 | [], i, a, _ => by cases h <;> simp [zcl, lows, highs]
 | e :: bs, i, a, h1 => by
  simp only [List.length_cons] at h1
  simp only [zcl]
  rw [zhg (by simp; omega), zhg (by simp; omega), zxn h bs (i + 1) _ (by simp; omega), zxn h bs (i + 1) _ (by simp; omega)]
  cases h <;> simp [lows, highs]
theorem zaml (s : GPriceSheet) (h : Bool) (hn : s.Boards.length ≤ 4) : zha s h = some (cond h (highs s.Boards) (lows s.Boards)) := by
 unfold zha
 rw [zez (by omega), zxn h s.Boards 0 [] (by simp; omega)]
 rfl
theorem znt (s : GPriceSheet) (n : Int) (hs : List Int) (ok : lenOk s.Offs = true ∧ lenOk s.Boards = true ∧ lenOk s.Tariffs = true) (hl : lenOk hs = true) : zep s n hs = some true := by
 unfold zep
 rcases zmr s n hs with h | ⟨h, a⟩
 ·rw [h]; rfl
 rw [h]
 obtain ⟨t, ht, _, ot⟩ := zld a.sheet a.tar
 have hn := (znl a.sheet).1.2
 have hf := zja a.sheet a.hrs
 have h1 := zja a.sheet a.lows.hrs
 have h2 := zja a.sheet a.highs.hrs
 have hm1 := zzc ot h1 hf (zalc a.hrs)
 have hm2 := zzc ot hf h2 (zafl a.hrs)
 have hb := zaqc ot h1
 simp only [Option.bind_some, cond_true, zwq a.ok a.sheet a.tar ht ot, zkz a ht ot, zaml s _ hn, cond_false, zkz a.lows ht ot, zkz a.highs ht ot, zgz, bne_self_eq_false, beq_self_eq_true, Bool.and_self, ht]
 rw [decide_eq_true (show paidP t s.Boards (lows s.Boards) ≥ 0 from hb.1), decide_eq_true (show paidP t s.Boards hs ≥ paidP t s.Boards (lows s.Boards) from hm1), decide_eq_true hm2]
 simp only [cond_true]
 by_cases hk : t.Kind = 3
 ·rw [hk]; rfl
 ·rw [zagz hk h1.len h2.len]
  simp
end Go.V
end
