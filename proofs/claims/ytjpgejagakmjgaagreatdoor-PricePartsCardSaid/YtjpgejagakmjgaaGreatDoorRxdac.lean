/- Part of a proof. -/
import Derived.Test.YtjpgejagakmjgaaGreatDoorRbj
set_option linter.all false
set_option maxRecDepth 4000
set_option maxHeartbeats 40000000
section
set_option maxRecDepth 100000
namespace Go.V
open Go Go.Proofs
def zbt (x : GPriceSheet) : Prop := lenOk x.Offs = true ∧ lenOk x.Boards = true ∧ lenOk x.Tariffs = true
section
variable {P : Program} (hu3 : P.underlying 3 = some (.int .i64)) (hu22 : P.underlying 22 = some (.slice 3)) {f33 : Array Field} (hu33 : P.underlying 33 = some (.struct f33)) (ht33 : f33.toList.map Field.type = [3, 3]) {f75 : Array Field} (hu75 : P.underlying 75 = some (.struct f75)) (ht75 : f75.toList.map Field.type = [3, 3, 33, 3]) (hu23 : P.underlying 23 = some (.slice 75)) (hu39 : P.underlying 39 = some (.int .i64)) (hu40 : P.underlying 40 = some (.int .i64)) (hu4 : P.underlying 4 = some (.bool)) {f42 : Array Field} (hu42 : P.underlying 42 = some (.struct f42)) (ht42 : f42.toList.map Field.type = [39, 3, 3, 40, 4]) (hu24 : P.underlying 24 = some (.slice 42)) {f26 : Array Field} (hu26 : P.underlying 26 = some (.struct f26)) (ht26 : f26.toList.map Field.type = [22, 23, 24])
include hu3 hu22 hu33 ht33 hu75 ht75 hu23 hu39 hu40 hu4 hu42 ht42 hu24 hu26 ht26
theorem gd_3 {n : Nat} : Dec P (n + 1) 3 eI (fun _ => True) := zil hu3
theorem gd_22 {n : Nat} : Dec P (n + 2) 22 (eSl eI) (fun l => lenOk l = true ∧ ∀ x ∈ l, True) := zer hu22 (gd_3 hu3 hu22 hu33 ht33 hu75 ht75 hu23 hu39 hu40 hu4 hu42 ht42 hu24 hu26 ht26 (n := n))
theorem gd_33 {n : Nat} : Dec P (n + 2) 33 cGSpan (fun _ => True) := by
 intro xs h
 obtain ⟨yss, hf, rfl⟩ := zcj (n := n + 1) (ts := [3, 3]) hu33 ht33 h
 match yss, hf with
 | [y0, y1], ⟨h0, h1, _⟩ =>
  obtain ⟨x0, r0, e0⟩ := gd_3 hu3 hu22 hu33 ht33 hu75 ht75 hu23 hu39 hu40 hu4 hu42 ht42 hu24 hu26 ht26 (n := n + 0) _ h0
  obtain ⟨x1, r1, e1⟩ := gd_3 hu3 hu22 hu33 ht33 hu75 ht75 hu23 hu39 hu40 hu4 hu42 ht42 hu24 hu26 ht26 (n := n + 0) _ h1
  exact ⟨⟨x0, x1⟩, trivial, by simp only [List.flatten_cons, List.flatten_nil, List.append_nil, zbe, e0, e1, eI, eU8, eB, eS, eSl, zfc, List.cons_append, List.nil_append]⟩
theorem gd_75 {n : Nat} : Dec P (n + 3) 75 cGPriceBoard (fun _ => True) := by
 intro xs h
 obtain ⟨yss, hf, rfl⟩ := zcj (n := n + 2) (ts := [3, 3, 33, 3]) hu75 ht75 h
 match yss, hf with
 | [y0, y1, y2, y3], ⟨h0, h1, h2, h3, _⟩ =>
  obtain ⟨x0, r0, e0⟩ := gd_3 hu3 hu22 hu33 ht33 hu75 ht75 hu23 hu39 hu40 hu4 hu42 ht42 hu24 hu26 ht26 (n := n + 1) _ h0
  obtain ⟨x1, r1, e1⟩ := gd_3 hu3 hu22 hu33 ht33 hu75 ht75 hu23 hu39 hu40 hu4 hu42 ht42 hu24 hu26 ht26 (n := n + 1) _ h1
  obtain ⟨x2, r2, e2⟩ := gd_33 hu3 hu22 hu33 ht33 hu75 ht75 hu23 hu39 hu40 hu4 hu42 ht42 hu24 hu26 ht26 (n := n + 0) _ h2
  obtain ⟨x3, r3, e3⟩ := gd_3 hu3 hu22 hu33 ht33 hu75 ht75 hu23 hu39 hu40 hu4 hu42 ht42 hu24 hu26 ht26 (n := n + 1) _ h3
  exact ⟨⟨x0, x1, x2, x3⟩, trivial, by simp only [List.flatten_cons, List.flatten_nil, List.append_nil, zbe, e0, e1, e2, e3, eI, eU8, eB, eS, eSl, zck, zfc, List.cons_append, List.nil_append]⟩
theorem gd_23 {n : Nat} : Dec P (n + 4) 23 (eSl cGPriceBoard) (fun l => lenOk l = true ∧ ∀ x ∈ l, True) := zer hu23 (gd_75 hu3 hu22 hu33 ht33 hu75 ht75 hu23 hu39 hu40 hu4 hu42 ht42 hu24 hu26 ht26 (n := n))
theorem gd_39 {n : Nat} : Dec P (n + 1) 39 eI (fun _ => True) := zil hu39
theorem gd_40 {n : Nat} : Dec P (n + 1) 40 eI (fun _ => True) := zil hu40
theorem gd_4 {n : Nat} : Dec P (n + 1) 4 eB (fun _ => True) := zqc hu4
theorem gd_42 {n : Nat} : Dec P (n + 2) 42 cGPriceTariff (fun _ => True) := by
 intro xs h
 obtain ⟨yss, hf, rfl⟩ := zcj (n := n + 1) (ts := [39, 3, 3, 40, 4]) hu42 ht42 h
 match yss, hf with
 | [y0, y1, y2, y3, y4], ⟨h0, h1, h2, h3, h4, _⟩ =>
  obtain ⟨x0, r0, e0⟩ := gd_39 hu3 hu22 hu33 ht33 hu75 ht75 hu23 hu39 hu40 hu4 hu42 ht42 hu24 hu26 ht26 (n := n + 0) _ h0
  obtain ⟨x1, r1, e1⟩ := gd_3 hu3 hu22 hu33 ht33 hu75 ht75 hu23 hu39 hu40 hu4 hu42 ht42 hu24 hu26 ht26 (n := n + 0) _ h1
  obtain ⟨x2, r2, e2⟩ := gd_3 hu3 hu22 hu33 ht33 hu75 ht75 hu23 hu39 hu40 hu4 hu42 ht42 hu24 hu26 ht26 (n := n + 0) _ h2
  obtain ⟨x3, r3, e3⟩ := gd_40 hu3 hu22 hu33 ht33 hu75 ht75 hu23 hu39 hu40 hu4 hu42 ht42 hu24 hu26 ht26 (n := n + 0) _ h3
  obtain ⟨x4, r4, e4⟩ := gd_4 hu3 hu22 hu33 ht33 hu75 ht75 hu23 hu39 hu40 hu4 hu42 ht42 hu24 hu26 ht26 (n := n + 0) _ h4
  exact ⟨⟨x0, x1, x2, x3, x4⟩, trivial, by simp only [List.flatten_cons, List.flatten_nil, List.append_nil, zbe, e0, e1, e2, e3, e4, eI, eU8, eB, eS, eSl, zce, List.cons_append, List.nil_append]⟩
theorem gd_24 {n : Nat} : Dec P (n + 3) 24 (eSl cGPriceTariff) (fun l => lenOk l = true ∧ ∀ x ∈ l, True) := zer hu24 (gd_42 hu3 hu22 hu33 ht33 hu75 ht75 hu23 hu39 hu40 hu4 hu42 ht42 hu24 hu26 ht26 (n := n))
theorem gd_26 {n : Nat} : Dec P (n + 5) 26 cGPriceSheet (zbt) := by
 intro xs h
 obtain ⟨yss, hf, rfl⟩ := zcj (n := n + 4) (ts := [22, 23, 24]) hu26 ht26 h
 match yss, hf with
 | [y0, y1, y2], ⟨h0, h1, h2, _⟩ =>
  obtain ⟨x0, r0, e0⟩ := gd_22 hu3 hu22 hu33 ht33 hu75 ht75 hu23 hu39 hu40 hu4 hu42 ht42 hu24 hu26 ht26 (n := n + 2) _ h0
  obtain ⟨x1, r1, e1⟩ := gd_23 hu3 hu22 hu33 ht33 hu75 ht75 hu23 hu39 hu40 hu4 hu42 ht42 hu24 hu26 ht26 (n := n + 0) _ h1
  obtain ⟨x2, r2, e2⟩ := gd_24 hu3 hu22 hu33 ht33 hu75 ht75 hu23 hu39 hu40 hu4 hu42 ht42 hu24 hu26 ht26 (n := n + 1) _ h2
  exact ⟨⟨x0, x1, x2⟩, ⟨r0.1, r1.1, r2.1⟩, by simp only [List.flatten_cons, List.flatten_nil, List.append_nil, zbe, e0, e1, e2, eI, eU8, eB, eS, eSl, zdd, List.cons_append, List.nil_append]⟩
end
theorem dec_3 {n : Nat} : Dec Tryz.prog (n + 1) 3 eI (fun _ => True) := gd_3 Tryz.underlying3 Tryz.underlying22 Tryz.underlying33 (by kernel_rfl) Tryz.underlying75 (by kernel_rfl) Tryz.underlying23 Tryz.underlying39 Tryz.underlying40 Tryz.underlying4 Tryz.underlying42 (by kernel_rfl) Tryz.underlying24 Tryz.underlying26 (by kernel_rfl)
theorem zsw {n : Nat} : Dec Tryz.prog (n + 2) 22 (eSl eI) (fun l => lenOk l = true ∧ ∀ x ∈ l, True) := gd_22 Tryz.underlying3 Tryz.underlying22 Tryz.underlying33 (by kernel_rfl) Tryz.underlying75 (by kernel_rfl) Tryz.underlying23 Tryz.underlying39 Tryz.underlying40 Tryz.underlying4 Tryz.underlying42 (by kernel_rfl) Tryz.underlying24 Tryz.underlying26 (by kernel_rfl)
theorem zsi {n : Nat} : Dec Tryz.prog (n + 5) 26 cGPriceSheet (zbt) := gd_26 Tryz.underlying3 Tryz.underlying22 Tryz.underlying33 (by kernel_rfl) Tryz.underlying75 (by kernel_rfl) Tryz.underlying23 Tryz.underlying39 Tryz.underlying40 Tryz.underlying4 Tryz.underlying42 (by kernel_rfl) Tryz.underlying24 Tryz.underlying26 (by kernel_rfl)
end Go.V
end
section
namespace Go.V
open Go Go.Proofs
def zff (x0_x_PriceSheet : GPriceSheet) (x0_x_tariff : GPriceTariff) (x0_x_hours : List Int) (x1_tariff : GPriceTariff) : Option (GPriceSheet × GPriceTariff × (List Int)) := some (x0_x_PriceSheet, x1_tariff, x0_x_hours)
theorem zhp (x0_x_PriceSheet : GPriceSheet) (x0_x_tariff : GPriceTariff) (x0_x_hours : List Int) (x1_tariff : GPriceTariff) (b : Nat) (R : GPriceSheet × GPriceTariff × (List Int)) (h : zff x0_x_PriceSheet x0_x_tariff x0_x_hours x1_tariff = some R) : VPure Tryz.prog G0 106 [.agg [.sl (cellsL eI x0_x_PriceSheet.Offs) (List.length x0_x_PriceSheet.Offs) false, .sl (cellsL cGPriceBoard x0_x_PriceSheet.Boards) (List.length x0_x_PriceSheet.Boards) false, .sl (cellsL cGPriceTariff x0_x_PriceSheet.Tariffs) (List.length x0_x_PriceSheet.Tariffs) false, .lit (.int .i64 x0_x_tariff.Kind), .lit (.int .i64 x0_x_tariff.Coins), .lit (.int .i64 x0_x_tariff.Units), .lit (.int .i64 x0_x_tariff.Rule), .lit (.bool x0_x_tariff.Each), .sl (cellsL eI x0_x_hours) (List.length x0_x_hours) false, .lit (.map (some b))], .agg (cGPriceTariff x1_tariff)] (.tree (.agg [.sl (cellsL eI R.1.Offs) (List.length R.1.Offs) false, .sl (cellsL cGPriceBoard R.1.Boards) (List.length R.1.Boards) false, .sl (cellsL cGPriceTariff R.1.Tariffs) (List.length R.1.Tariffs) false, .lit (.int .i64 R.2.1.Kind), .lit (.int .i64 R.2.1.Coins), .lit (.int .i64 R.2.1.Units), .lit (.int .i64 R.2.1.Rule), .lit (.bool R.2.1.Each), .sl (cellsL eI R.2.2) (List.length R.2.2) false, .lit (.map (some b))])) := by
 refine VPure.runR mixed Tryz.call106 Tryz.func106 rfl (by simp [Tryz.ntmps106]; kernel_rfl) ?_
 obtain ⟨KF, h, kF, kN⟩ := zal h
 simp only [zff] at h
 try simp only [vz, vsi, tyf, nm, seval]
 refine zao (x := (.agg ((cGPriceSheet x0_x_PriceSheet) ++ (cGPriceTariff x1_tariff) ++ [.sl (cellsL eI x0_x_hours) (List.length x0_x_hours) false] ++ [.lit (.map (some b))]))) (by first | (simp only [Tryz.results106, resV, resL, resV1, zan, zbd, uw, cr, tyf, nm, seval] <;> rfl) | rfl) ?_
 obtain rfl := kF _ h
 refine zaz ?_ ?_
 ·simp only [tre, tytre, Bool.and_self]
 ·first | (simp only [outV, uw, zai, cr, tyf, nrm, tynrm, nm, seval] <;> rfl) | rfl
def zat (x0_x_PriceSheet : GPriceSheet) (x0_x_tariff : GPriceTariff) (x0_x_hours : List Int) : Nat → (List Int) → Int → (List (Gpricebill × Int)) → Option (LOut ((List Int) × List (Gpricebill × Int)) ((List Int) × Int × (List (Gpricebill × Int))))
 | 0, _, _, _ => none
 | k0 + 1, c0_3, c0_4, c0_o0 => cond (decide (c0_4 ≤ 4)) (Option.bind (zff x0_x_PriceSheet x0_x_tariff x0_x_hours (GPriceTariff.mk x0_x_tariff.Kind x0_x_tariff.Coins x0_x_tariff.Units c0_4 x0_x_tariff.Each)) (fun r3 => Option.bind (zbj r3.1 r3.2.1 r3.2.2 c0_o0) (fun r4 => cond (roomOk 8 (List.length (c0_3 ++ [r4.1]))) (zat x0_x_PriceSheet x0_x_tariff x0_x_hours k0 (c0_3 ++ [r4.1]) (IntKind.i64.wrap (c0_4 + 1)) r4.2) none))) (some (.go (c0_3, c0_4, c0_o0)))
def zbv (x0_x_PriceSheet : GPriceSheet) (x0_x_tariff : GPriceTariff) (x0_x_hours : List Int) (l0 : List (Gpricebill × Int)) : Option ((List Int) × List (Gpricebill × Int)) := lbind (zat x0_x_PriceSheet x0_x_tariff x0_x_hours 1000000 ([] : List Int) 1 l0) (fun r6 => some r6) (fun c5 => some (c5.1, c5.2.2)) (fun _ _ => none)
theorem zhk (x0_x_PriceSheet : GPriceSheet) (x0_x_tariff : GPriceTariff) (x0_x_hours : List Int) (l0 : List (Gpricebill × Int)) (R : (List Int) × List (Gpricebill × Int)) (h : zbv x0_x_PriceSheet x0_x_tariff x0_x_hours l0 = some R) : VUpd Tryz.prog G0 77 (fun β => [.agg [.sl (cellsL eI x0_x_PriceSheet.Offs) (List.length x0_x_PriceSheet.Offs) false, .sl (cellsL cGPriceBoard x0_x_PriceSheet.Boards) (List.length x0_x_PriceSheet.Boards) false, .sl (cellsL cGPriceTariff x0_x_PriceSheet.Tariffs) (List.length x0_x_PriceSheet.Tariffs) false, .lit (.int .i64 x0_x_tariff.Kind), .lit (.int .i64 x0_x_tariff.Coins), .lit (.int .i64 x0_x_tariff.Units), .lit (.int .i64 x0_x_tariff.Rule), .lit (.bool x0_x_tariff.Each), .sl (cellsL eI x0_x_hours) (List.length x0_x_hours) false, .mp β]]) (encM kv146 ev3 l0) (encM kv146 ev3 R.2) (fun _ => .sl (cellsL eI R.1) (List.length R.1) false) := by
 intro b0_0 nx hlt
 have q00 := zlf (β := b0_0) (nx := nx) hlt
 refine VOpen.run mixed Tryz.call77 Tryz.func77 rfl (by simp [Tryz.ntmps77]; kernel_rfl) ?_
 obtain ⟨KF, h, kF, kN⟩ := zal h
 simp only [zbv] at h
 simp only [vz, mq, mqm, vsi, tyf, mqt, q00, nm, seval]
 obtain ⟨K7, h, kR7, kG7, kB7, kN7⟩ := zbl h kN
 obtain ⟨f7, hf7, h⟩ := call4 h
 obtain ⟨I7, hI7⟩ : ∃ I : Nat → St → Prop, I = (fun m st => ∃ (p7 : Nat) (c7_3 : List Int) (c7_4 : Int) (c7_o0 : List (Gpricebill × Int)) (y7_0 : VV), p7 = m ∧ st.df = [] ∧ nx + 4 ≤ st.nx ∧ st.H b0_0 = some (.map (encM kv146 ev3 c7_o0)) ∧ st.H nx = some (.cells (some 87) ((cGPriceSheet x0_x_PriceSheet) ++ (cGPriceTariff x0_x_tariff) ++ [.sl (cellsL eI x0_x_hours) (List.length x0_x_hours) false] ++ [.mp b0_0])) ∧ st.tm 1 = .ptr nx 0 ∧ st.tm 3 = y7_0 ∧ st.tm 4 = .lit (.int .i64 c7_4) ∧ ((∃ (β : Nat) (el : Option TypeId), y7_0 = .ref β 0 (List.length c7_3) 1 (List.length c7_3) ∧ β < st.nx ∧ β ≠ b0_0 ∧ β ≠ nx ∧ st.H β = some (.cells el (cellsL eI c7_3))) ∨ (y7_0 = .lit (.slice none 0 0) ∧ c7_3 = [])) ∧ K7 (f7 p7 c7_3 c7_4 c7_o0)) := ⟨_, rfl⟩
 refine loopK mixed (by kernel_rfl) I7 1000000 (by rw [hI7]; refine ⟨1000000, ([] : List Int), 1, l0, .lit (.slice none 0 0), rfl, rfl, (show nx + 4 ≤ nx + 4 by omega), ?_, ?_, ?_, ?_, ?_, Or.inr ⟨rfl, rfl⟩, h⟩ <;> first | (simp only [ua, zaq, q00, nm, seval] <;> rfl) | rfl) ?_
 rintro m ⟨tm, H, nx7, df⟩ hinv
 rw [hI7] at hinv
 obtain ⟨p7, c7_3, c7_4, c7_o0, y7_0, rfl, hdf, hn7, H8, H9, e10, e11, e12, ow7_0, h⟩ := hinv
 simp only at hdf hn7 H8 H9 e10 e11 e12 ow7_0
 have n13 := zui (a := nx) (m := 4) (b := nx7) (by omega)
 have n14 := zlf (β := b0_0) (nx := nx7) (by omega)
 subst hdf hf7
 rcases ow7_0 with ⟨b7_0, el7_0, rfl, lq16, lq17, lq18, H15⟩ | ⟨rfl, rfl⟩
 ·have q16 := zlf lq16
  have q17 := ne_f lq17
  have q18 := ne_f lq18
  cases p7 with
  | zero =>
   simp only [zat, hs, reduceCtorEq] at h
   exact absurd h kN7
  | succ p7 =>
   simp only [zat, hs, reduceCtorEq] at h
   cases d19 : (decide (c7_4 ≤ 4))
   ·simp only [d19, hs] at h
    have b20 := And.intro q00 (And.intro n13 (And.intro n14 (And.intro H8 (And.intro H9 (And.intro q16 (And.intro H15 (And.intro q17 (And.intro q18 d19))))))))
    replace h := kG7 _ h
    try dsimp only at h
    try simp only [hs] at h
    try simp only [vz, mq, mqm, vsi, tyf, mqt, b20, e10, e11, e12, nm, seval]
    refine zao (x := (.ref b7_0 0 (List.length c7_3) 1 (List.length c7_3))) (by first | (simp only [Tryz.results77, resV, resL, resV1, zan, zbd, uw, cr, tyf, mqt, b20, nm, seval] <;> rfl) | rfl) ?_
    obtain rfl := kF _ h
    refine ⟨(by first | rfl | assumption | (simp only [zad, zab, b20, nm, seval] <;> rfl)), ?_⟩
    exact zatc (by first | rfl | assumption | (simp only [zad, zab, b20, nm, seval] <;> rfl)) (by first | rfl | assumption | (simp only [zad, zab, b20, nm, seval] <;> rfl)) eI_ok (fun _ => rfl)
   simp only [d19, hs] at h
   have b21 := And.intro q00 (And.intro n13 (And.intro n14 (And.intro H8 (And.intro H9 (And.intro q16 (And.intro H15 (And.intro q17 (And.intro q18 d19))))))))
   obtain ⟨r22, o23, h⟩ := optI h kN7
   try simp only [hs] at h
   simp only [vz, mq, mqm, vsi, tyf, mqt, b21, e10, e11, e12, nm, seval]
   refine kmap (β := (b0_0)) (es := encM kv146 ev3 c7_o0) (args0 := fun b => [.agg [.sl (cellsL eI x0_x_PriceSheet.Offs) (List.length x0_x_PriceSheet.Offs) false, .sl (cellsL cGPriceBoard x0_x_PriceSheet.Boards) (List.length x0_x_PriceSheet.Boards) false, .sl (cellsL cGPriceTariff x0_x_PriceSheet.Tariffs) (List.length x0_x_PriceSheet.Tariffs) false, .lit (.int .i64 x0_x_tariff.Kind), .lit (.int .i64 x0_x_tariff.Coins), .lit (.int .i64 x0_x_tariff.Units), .lit (.int .i64 x0_x_tariff.Rule), .lit (.bool x0_x_tariff.Each), .sl (cellsL eI x0_x_hours) (List.length x0_x_hours) false, .lit (.map (some b))], .agg (cGPriceTariff (GPriceTariff.mk x0_x_tariff.Kind x0_x_tariff.Coins x0_x_tariff.Units c7_4 x0_x_tariff.Each))]) (y := .agg [.sl (cellsL eI r22.1.Offs) (List.length r22.1.Offs) false, .sl (cellsL cGPriceBoard r22.1.Boards) (List.length r22.1.Boards) false, .sl (cellsL cGPriceTariff r22.1.Tariffs) (List.length r22.1.Tariffs) false, .lit (.int .i64 r22.2.1.Kind), .lit (.int .i64 r22.2.1.Coins), .lit (.int .i64 r22.2.1.Units), .lit (.int .i64 r22.2.1.Rule), .lit (.bool r22.2.1.Each), .sl (cellsL eI r22.2.2) (List.length r22.2.2) false, .mp b0_0]) (by first | rfl | assumption | (simp only [zad, zab, b21, nm, seval] <;> rfl)) (fun b => by first | rfl | (simp only [List.map_cons, List.map_nil, vlt, if_true, nrm, tynrm, @zav, tyf, mqt] <;> rfl)) (fun b => by simp only [List.map_cons, List.map_nil, vlt, if_true, tre, tytre, tyf, mqt, Bool.and_self]) (fun b => by first | rfl | (simp only [vlt, List.map_cons, List.map_nil, if_true] <;> rfl)) (fun b => zhp _ _ _ _ b _ o23) ?_
   refine zah (fun tm => tm 1 = .ptr nx 0 ∧ tm 4 = .lit (.int .i64 c7_4) ∧ tm 14 = .ref b7_0 0 (List.length c7_3) 1 (List.length c7_3) ∧ tm 17 = .agg ((cGPriceSheet r22.1) ++ (cGPriceTariff r22.2.1) ++ [.sl (cellsL eI r22.2.2) (List.length r22.2.2) false] ++ [.mp b0_0]) ∧ True) (by refine ⟨e10, e12, ?_, ?_, trivial⟩ <;> first | (simp only [ua, zaq, b21, e10, e11, e12, nm, seval] <;> rfl) | rfl) ?_
   rintro tm ⟨e24, e25, e26, e27, _⟩
   obtain ⟨r28, o29, h⟩ := optI h kN7
   try simp only [hs] at h
   simp only [vz, mq, mqm, vsi, tyf, mqt, b21, e24, e25, e26, e27, nm, seval]
   refine kupd (VUpd.at (β := b0_0) (y := (fun _ => .lit (.int .i64 r28.1))) (zbz _ _ _ _ _ o29) (by omega) (by first | rfl | assumption | (simp only [zad, zab, b21, nm, seval] <;> rfl)) (by first | rfl | (simp only [nrm, tynrm, @zav, @zgc] <;> rfl)) (zfi (fun _ => rfl) _)) ?_
   refine zgb (fun tm => tm 1 = .ptr nx 0 ∧ tm 4 = .lit (.int .i64 c7_4) ∧ tm 14 = .ref b7_0 0 (List.length c7_3) 1 (List.length c7_3) ∧ tm 18 = .lit (.int .i64 r28.1) ∧ True) (by refine ⟨e24, e25, e26, ?_, trivial⟩ <;> first | (simp only [ua, zaq, b21, e24, e25, e26, e27, nm, seval] <;> rfl) | rfl) ?_
   rintro tm ⟨e30, e31, e32, e33, _⟩
   cases g34 : (roomOk 8 (List.length (c7_3 ++ [r28.1])))
   ·simp only [g34, hs] at h
    exact absurd h kN7
   simp only [g34, hs] at h
   simp only [vz, mq, mqm, vsi, tyf, mqt, b21, e30, e31, e32, e33, g34, nm, seval]
   refine k_app (w := 1) (enc := eI) (xs := c7_3) (ys := ([r28.1])) (el := el7_0) (el2 := (some 3)) (fun _ => rfl) lf22 ao22 Tryz.underlying22 (by first | rfl | assumption | (simp only [zad, zab, et22, b21, nm, seval] <;> rfl) | (simp only [zad, zab, zaw, zbc, zfu, zdf, tyf, mqt, b21, e30, e31, e32, e33, g34, nm, seval]; done)) (by first | rfl | assumption | (simp only [zad, zab, et22, b21, nm, seval] <;> rfl) | (simp only [zad, zab, zaw, zbc, zfu, zdf, tyf, mqt, b21, e30, e31, e32, e33, g34, nm, seval]; done)) (Nat.zero_lt_succ _) g34 ?_
   simp only [vz, mq, mqm, vsi, tyf, mqt, b21, e30, e31, e32, e33, g34, nm, seval]
   exact ⟨p7, Nat.lt_succ_self _, by rw [hI7]; refine ⟨p7, (c7_3 ++ [r28.1]), IntKind.i64.wrap (c7_4 + 1), r28.2, .ref (nx7 + 15) 0 (List.length (c7_3 ++ [r28.1])) 1 (List.length (c7_3 ++ [r28.1])), rfl, rfl, (show nx + 4 ≤ nx7 + 20 by omega), ?_, ?_, e30, ?_, ?_, Or.inl ⟨nx7 + 15, (sameEl el7_0 3), rfl, (by first | omega | (simp only [nm, seval]; omega)), (by first | omega | (intro hh; simp only [b21, reduceCtorEq] at hh)), (by first | omega | (intro hh; simp only [b21, reduceCtorEq] at hh)), ?_⟩, (by first | exact h | (simp only [b21]; exact h))⟩ <;> first | (simp only [ua, zaq, b21, e30, e31, e32, e33, nm, seval] <;> rfl) | rfl⟩
 ·cases p7 with
  | zero =>
   simp only [zat, hs, reduceCtorEq] at h
   exact absurd h kN7
  | succ p7 =>
   simp only [zat, hs, reduceCtorEq] at h
   cases d35 : (decide (c7_4 ≤ 4))
   ·simp only [d35, hs] at h
    replace h := kG7 _ h
    try dsimp only at h
    try simp only [hs] at h
    try simp only [vz, mq, mqm, vsi, tyf, mqt, q00, n13, n14, e10, e11, e12, H8, H9, d35, nm, seval]
    refine zao (x := (.lit (.slice none 0 0))) (by first | (simp only [Tryz.results77, resV, resL, resV1, zan, zbd, uw, cr, tyf, mqt, q00, n13, n14, H8, H9, d35, nm, seval] <;> rfl) | rfl) ?_
    obtain rfl := kF _ h
    refine ⟨(by first | rfl | assumption | (simp only [zad, zab, q00, n13, n14, H8, H9, nm, seval] <;> rfl)), ?_⟩
    exact sq_of zasx
   simp only [d35, hs] at h
   obtain ⟨r36, o37, h⟩ := optI h kN7
   try simp only [hs] at h
   simp only [vz, mq, mqm, vsi, tyf, mqt, q00, n13, n14, e10, e11, e12, H8, H9, d35, nm, seval]
   refine kmap (β := (b0_0)) (es := encM kv146 ev3 c7_o0) (args0 := fun b => [.agg [.sl (cellsL eI x0_x_PriceSheet.Offs) (List.length x0_x_PriceSheet.Offs) false, .sl (cellsL cGPriceBoard x0_x_PriceSheet.Boards) (List.length x0_x_PriceSheet.Boards) false, .sl (cellsL cGPriceTariff x0_x_PriceSheet.Tariffs) (List.length x0_x_PriceSheet.Tariffs) false, .lit (.int .i64 x0_x_tariff.Kind), .lit (.int .i64 x0_x_tariff.Coins), .lit (.int .i64 x0_x_tariff.Units), .lit (.int .i64 x0_x_tariff.Rule), .lit (.bool x0_x_tariff.Each), .sl (cellsL eI x0_x_hours) (List.length x0_x_hours) false, .lit (.map (some b))], .agg (cGPriceTariff (GPriceTariff.mk x0_x_tariff.Kind x0_x_tariff.Coins x0_x_tariff.Units c7_4 x0_x_tariff.Each))]) (y := .agg [.sl (cellsL eI r36.1.Offs) (List.length r36.1.Offs) false, .sl (cellsL cGPriceBoard r36.1.Boards) (List.length r36.1.Boards) false, .sl (cellsL cGPriceTariff r36.1.Tariffs) (List.length r36.1.Tariffs) false, .lit (.int .i64 r36.2.1.Kind), .lit (.int .i64 r36.2.1.Coins), .lit (.int .i64 r36.2.1.Units), .lit (.int .i64 r36.2.1.Rule), .lit (.bool r36.2.1.Each), .sl (cellsL eI r36.2.2) (List.length r36.2.2) false, .mp b0_0]) (by first | rfl | assumption | (simp only [zad, zab, q00, n13, n14, H8, H9, nm, seval] <;> rfl)) (fun b => by first | rfl | (simp only [List.map_cons, List.map_nil, vlt, if_true, nrm, tynrm, @zav, tyf, mqt] <;> rfl)) (fun b => by simp only [List.map_cons, List.map_nil, vlt, if_true, tre, tytre, tyf, mqt, Bool.and_self]) (fun b => by first | rfl | (simp only [vlt, List.map_cons, List.map_nil, if_true] <;> rfl)) (fun b => zhp _ _ _ _ b _ o37) ?_
   refine zah (fun tm => tm 1 = .ptr nx 0 ∧ tm 4 = .lit (.int .i64 c7_4) ∧ tm 14 = .lit (.slice none 0 0) ∧ tm 17 = .agg ((cGPriceSheet r36.1) ++ (cGPriceTariff r36.2.1) ++ [.sl (cellsL eI r36.2.2) (List.length r36.2.2) false] ++ [.mp b0_0]) ∧ True) (by refine ⟨e10, e12, ?_, ?_, trivial⟩ <;> first | (simp only [ua, zaq, q00, n13, n14, e10, e11, e12, H8, H9, d35, nm, seval] <;> rfl) | rfl) ?_
   rintro tm ⟨e38, e39, e40, e41, _⟩
   obtain ⟨r42, o43, h⟩ := optI h kN7
   try simp only [hs] at h
   simp only [vz, mq, mqm, vsi, tyf, mqt, q00, n13, n14, H8, H9, d35, e38, e39, e40, e41, nm, seval]
   refine kupd (VUpd.at (β := b0_0) (y := (fun _ => .lit (.int .i64 r42.1))) (zbz _ _ _ _ _ o43) (by omega) (by first | rfl | assumption | (simp only [zad, zab, q00, n13, n14, H8, H9, nm, seval] <;> rfl)) (by first | rfl | (simp only [nrm, tynrm, @zav, @zgc] <;> rfl)) (zfi (fun _ => rfl) _)) ?_
   refine zgb (fun tm => tm 1 = .ptr nx 0 ∧ tm 4 = .lit (.int .i64 c7_4) ∧ tm 14 = .lit (.slice none 0 0) ∧ tm 18 = .lit (.int .i64 r42.1) ∧ True) (by refine ⟨e38, e39, e40, ?_, trivial⟩ <;> first | (simp only [ua, zaq, q00, n13, n14, H8, H9, d35, e38, e39, e40, e41, nm, seval] <;> rfl) | rfl) ?_
   rintro tm ⟨e44, e45, e46, e47, _⟩
   cases g48 : (roomOk 8 (List.length (([] : List Int) ++ [r42.1])))
   ·simp only [g48, hs] at h
    exact absurd h kN7
   simp only [g48, hs] at h
   simp only [vz, mq, mqm, vsi, tyf, mqt, q00, n13, n14, H8, H9, d35, e44, e45, e46, e47, g48, nm, seval]
   refine zoi (w := 1) (enc := eI) (ys := ([r42.1])) (el2 := (some 3)) (fun _ => rfl) lf22 ao22 Tryz.underlying22 (by first | rfl | assumption | (simp only [zad, zab, et22, q00, n13, n14, H8, H9, nm, seval] <;> rfl) | (simp only [zad, zab, zaw, zbc, zfu, zdf, tyf, mqt, q00, n13, n14, H8, H9, d35, e44, e45, e46, e47, g48, nm, seval]; done)) (Nat.zero_lt_succ _) g48 ?_
   simp only [vz, mq, mqm, vsi, tyf, mqt, q00, n13, n14, H8, H9, d35, e44, e45, e46, e47, g48, nm, seval]
   exact ⟨p7, Nat.lt_succ_self _, by rw [hI7]; refine ⟨p7, (([] : List Int) ++ [r42.1]), IntKind.i64.wrap (c7_4 + 1), r42.2, .ref (nx7 + 15) 0 (List.length (([] : List Int) ++ [r42.1])) 1 (List.length (([] : List Int) ++ [r42.1])), rfl, rfl, (show nx + 4 ≤ nx7 + 20 by omega), ?_, ?_, e44, ?_, ?_, Or.inl ⟨nx7 + 15, (some 3), rfl, (by first | omega | (simp only [nm, seval]; omega)), (by first | omega | (intro hh; simp only [q00, n13, n14, reduceCtorEq] at hh)), (by first | omega | (intro hh; simp only [q00, n13, n14, reduceCtorEq] at hh)), ?_⟩, (by first | exact h | (simp only [d35]; exact h))⟩ <;> first | (simp only [ua, zaq, q00, n13, n14, H8, H9, d35, e44, e45, e46, e47, nm, seval] <;> rfl) | rfl⟩
def zfj (x0_s : GPriceSheet) (x1_tariff : Int) (x2_hours : List Int) : Option ((List Int) × Int) := Option.bind (zcm x0_s) (fun r1 => cond (r1) (Option.bind (zbp x0_s x1_tariff) (fun r2 => cond (r2) (Option.bind (zbw x0_s x2_hours) (fun r3 => cond (r3) (Option.bind (getI x0_s.Tariffs x1_tariff) (fun x4 => Option.bind (zbv x0_s x4 x2_hours ([] : List (Gpricebill × Int))) (fun r5 => some (r5.1, 0)))) (some (([] : List Int), 2)))) (some (([] : List Int), 2)))) (some (([] : List Int), 2)))
theorem zot (x0_s : GPriceSheet) (x1_tariff : Int) (x2_hours : List Int) (R : (List Int) × Int) (h : zfj x0_s x1_tariff x2_hours = some R) : VPure Tryz.prog G0 34 [.agg (cGPriceSheet x0_s), .lit (.int .i64 x1_tariff), .sl (cellsL eI x2_hours) (List.length x2_hours) false] (.tree (.tup [.sl (cellsL eI R.1) (List.length R.1) false, .lit (.int .i64 R.2)])) := by
 refine VPure.runR mixed Tryz.call34 Tryz.func34 rfl (by simp [Tryz.ntmps34]; kernel_rfl) ?_
 obtain ⟨KF, h, kF, kN⟩ := zal h
 simp only [zfj] at h
 try simp only [vz, mq, mqm, vsi, tyf, mqt, nm, seval]
 refine kopen ?_
 rw [zhq]
 refine VOpen.run mixed Tryz.call75 Tryz.func75 rfl (by simp [Tryz.ntmps75]; kernel_rfl) ?_
 obtain ⟨r6, o7, h⟩ := optI h kN
 try simp only [hs] at h
 simp only [vz, mq, mqm, vsi, tyf, mqt, nm, seval]
 refine ktree (args0 := [.agg (cGPriceSheet x0_s)]) (by first | (simp only [nrm, tynrm, @zav] <;> rfl) | rfl) (by simp only [tre, tytre, mqr, Bool.and_self]) (zdq _ _ o7) ?_
 refine zah (fun tm => tm 1 = .lit (.int .i64 x1_tariff) ∧ tm 2 = .sl (cellsL eI x2_hours) (List.length x2_hours) false ∧ tm 3 = VV.fn (Fn.func 77) [] [] ∧ tm 4 = .ptr 11 0 ∧ tm 11 = .lit (.bool r6) ∧ True) (by refine ⟨?_, ?_, ?_, ?_, ?_, trivial⟩ <;> first | (simp only [ua, zaq, nm, seval] <;> rfl) | rfl) ?_
 rintro tm ⟨e8, e9, e10, e11, e12, _⟩
 cases d13 : (r6)
 ·simp only [d13, hs] at h
  try simp only [vz, mq, mqm, vsi, tyf, mqt, e8, e9, e10, e11, e12, d13, nm, seval]
  refine zao (x := (.tup [.lit (.slice none 0 0), .lit (.int .i64 2)])) (by first | (simp only [Tryz.results75, resV, resL, resV1, zan, zbd, uw, cr, tyf, mqt, d13, nm, seval] <;> rfl) | rfl) ?_
  try simp only [vz, mq, mqm, vsi, tyf, mqt, d13, nm, seval]
  refine zao (x := (.tup [.lit (.slice none 0 0), .lit (.int .i64 2)])) (by first | (simp only [Tryz.results34, resV, resL, resV1, zan, zbd, uw, cr, tyf, mqt, d13, nm, seval] <;> rfl) | rfl) ?_
  obtain rfl := kF _ h
  refine zaz ?_ ?_
  ·simp only [tre, tytre, mqr, Bool.and_self]
  ·first | (simp only [outV, uw, zai, cr, tyf, mqt, nrm, tynrm, d13, nm, seval] <;> rfl) | rfl
 simp only [d13, hs] at h
 obtain ⟨r14, o15, h⟩ := optI h kN
 try simp only [hs] at h
 simp only [vz, mq, mqm, vsi, tyf, mqt, e8, e9, e10, e11, e12, d13, nm, seval]
 refine ktree (args0 := [.agg (cGPriceSheet x0_s), .lit (.int .i64 x1_tariff)]) (by first | (simp only [nrm, tynrm, @zav] <;> rfl) | rfl) (by simp only [tre, tytre, mqr, Bool.and_self]) (zcu _ _ _ o15) ?_
 refine zah (fun tm => tm 1 = .lit (.int .i64 x1_tariff) ∧ tm 2 = .sl (cellsL eI x2_hours) (List.length x2_hours) false ∧ tm 3 = VV.fn (Fn.func 77) [] [] ∧ tm 4 = .ptr 11 0 ∧ tm 13 = .lit (.bool false) ∧ tm 16 = .lit (.bool r14) ∧ True) (by refine ⟨e8, e9, e10, e11, ?_, ?_, trivial⟩ <;> first | (simp only [ua, zaq, e8, e9, e10, e11, e12, d13, nm, seval] <;> rfl) | rfl) ?_
 rintro tm ⟨e16, e17, e18, e19, e20, e21, _⟩
 cases d22 : (r14)
 ·simp only [d22, hs] at h
  try simp only [vz, mq, mqm, vsi, tyf, mqt, d13, e16, e17, e18, e19, e20, e21, d22, nm, seval]
  refine zao (x := (.tup [.lit (.slice none 0 0), .lit (.int .i64 2)])) (by first | (simp only [Tryz.results75, resV, resL, resV1, zan, zbd, uw, cr, tyf, mqt, d13, d22, nm, seval] <;> rfl) | rfl) ?_
  try simp only [vz, mq, mqm, vsi, tyf, mqt, d13, d22, nm, seval]
  refine zao (x := (.tup [.lit (.slice none 0 0), .lit (.int .i64 2)])) (by first | (simp only [Tryz.results34, resV, resL, resV1, zan, zbd, uw, cr, tyf, mqt, d13, d22, nm, seval] <;> rfl) | rfl) ?_
  obtain rfl := kF _ h
  refine zaz ?_ ?_
  ·simp only [tre, tytre, mqr, Bool.and_self]
  ·first | (simp only [outV, uw, zai, cr, tyf, mqt, nrm, tynrm, d13, d22, nm, seval] <;> rfl) | rfl
 simp only [d22, hs] at h
 obtain ⟨r23, o24, h⟩ := optI h kN
 try simp only [hs] at h
 simp only [vz, mq, mqm, vsi, tyf, mqt, d13, e16, e17, e18, e19, e20, e21, d22, nm, seval]
 refine ktree (args0 := [.agg (cGPriceSheet x0_s), .sl (cellsL eI x2_hours) (List.length x2_hours) false]) (by first | (simp only [nrm, tynrm, @zav] <;> rfl) | rfl) (by simp only [tre, tytre, mqr, Bool.and_self]) (zdl _ _ _ o24) ?_
 refine zah (fun tm => tm 1 = .lit (.int .i64 x1_tariff) ∧ tm 2 = .sl (cellsL eI x2_hours) (List.length x2_hours) false ∧ tm 3 = VV.fn (Fn.func 77) [] [] ∧ tm 4 = .ptr 11 0 ∧ tm 19 = .lit (.bool false) ∧ tm 22 = .lit (.bool r23) ∧ True) (by refine ⟨e16, e17, e18, e19, ?_, ?_, trivial⟩ <;> first | (simp only [ua, zaq, d13, e16, e17, e18, e19, e20, e21, d22, nm, seval] <;> rfl) | rfl) ?_
 rintro tm ⟨e25, e26, e27, e28, e29, e30, _⟩
 cases d31 : (r23)
 ·simp only [d31, hs] at h
  try simp only [vz, mq, mqm, vsi, tyf, mqt, d13, d22, e25, e26, e27, e28, e29, e30, d31, nm, seval]
  refine zao (x := (.tup [.lit (.slice none 0 0), .lit (.int .i64 2)])) (by first | (simp only [Tryz.results75, resV, resL, resV1, zan, zbd, uw, cr, tyf, mqt, d13, d22, d31, nm, seval] <;> rfl) | rfl) ?_
  try simp only [vz, mq, mqm, vsi, tyf, mqt, d13, d22, d31, nm, seval]
  refine zao (x := (.tup [.lit (.slice none 0 0), .lit (.int .i64 2)])) (by first | (simp only [Tryz.results34, resV, resL, resV1, zan, zbd, uw, cr, tyf, mqt, d13, d22, d31, nm, seval] <;> rfl) | rfl) ?_
  obtain rfl := kF _ h
  refine zaz ?_ ?_
  ·simp only [tre, tytre, mqr, Bool.and_self]
  ·first | (simp only [outV, uw, zai, cr, tyf, mqt, nrm, tynrm, d13, d22, d31, nm, seval] <;> rfl) | rfl
 simp only [d31, hs] at h
 try simp only [vz, mq, mqm, vsi, tyf, mqt, d13, d22, e25, e26, e27, e28, e29, e30, d31, nm, seval]
 refine kopen ?_
 rw [zhq]
 refine VOpen.run mixed Tryz.call66 Tryz.func66 rfl (by simp [Tryz.ntmps66]; kernel_rfl) ?_
 simp only [vz, mq, mqm, vsi, tyf, mqt, d13, d22, d31, nm, seval]
 refine zcr (fun tm => tm 1 = .lit (.int .i64 x1_tariff) ∧ tm 2 = .sl (cellsL eI x2_hours) (List.length x2_hours) false ∧ tm 3 = .ptr 37 0 ∧ tm 6 = .ptr 38 0 ∧ True) (by refine ⟨?_, ?_, ?_, ?_, trivial⟩ <;> first | (simp only [ua, zaq, d13, d22, d31, nm, seval] <;> rfl) | rfl) ?_
 rintro tm ⟨e32, e33, e34, e35, _⟩
 obtain ⟨x36, o37, h⟩ := optI h kN
 try simp only [hs] at h
 simp only [vz, mq, mqm, vsi, tyf, mqt, d13, d22, d31, e32, e33, e34, e35, (ix24 o37), nm, seval]
 refine zdn ⟨?_, ?_⟩
 ·simp only [zca, zct, zay, zeo, and_true, true_and]
  repeat' (first | exact trivial | refine And.intro ?_ ?_ | rw [zay] | rw [zdm] | exact Or.inl (by decide +kernel) | exact Or.inl (by dsimp only; decide +kernel) | (refine Or.inr ⟨?_, ?_⟩ <;> simp; done) | (refine Or.inr ⟨?_, ?_⟩ <;> simp <;> omega) | (refine Or.inr ⟨?_, ?_⟩ <;> simp [VEff.wr] <;> omega))
 try simp only [vz, mq, mqm, vsi, tyf, mqt, d13, d22, d31, e32, e33, e34, e35, (ix24 o37), nm, seval]
 refine zao (x := (.agg ((cGPriceSheet x0_s) ++ (cGPriceTariff x36) ++ [.sl (cellsL eI x2_hours) (List.length x2_hours) false] ++ [.mp 46]))) (by first | (simp only [Tryz.results66, resV, resL, resV1, zan, zbd, uw, cr, tyf, mqt, d13, d22, d31, e32, e33, e34, e35, (ix24 o37), nm, seval] <;> rfl) | rfl) ?_
 obtain ⟨r38, o39, h⟩ := optI h kN
 try simp only [hs] at h
 simp only [vz, mq, mqm, vsi, tyf, mqt, d13, d22, d31, (ix24 o37), e25, e26, e27, e28, e29, e30, nm, seval]
 refine kupd (VUpd.at (β := 46) (y := (fun _ => .sl (cellsL eI r38.1) (List.length r38.1) false)) (zhk _ _ _ _ _ o39) (by omega) (by first | rfl | assumption | (simp only [zad, zab, nm, seval] <;> rfl)) (by first | rfl | (simp only [nrm, tynrm, @zav, @zgc] <;> rfl)) (zfi (fun _ => rfl) _)) ?_
 refine zgb (fun tm => tm 30 = .sl (cellsL eI r38.1) (List.length r38.1) false ∧ True) (by refine ⟨?_, trivial⟩ <;> first | (simp only [ua, zaq, d13, d22, d31, e25, e26, e27, e28, e29, e30, nm, seval] <;> rfl) | rfl) ?_
 rintro tm ⟨e40, _⟩
 try simp only [vz, mq, mqm, vsi, tyf, mqt, d13, d22, d31, (ix24 o37), e40, nm, seval]
 refine zao (x := (.tup [.sl (cellsL eI r38.1) (List.length r38.1) false, .lit (.int .i64 0)])) (by first | (simp only [Tryz.results75, resV, resL, resV1, zan, zbd, uw, cr, tyf, mqt, d13, d22, d31, (ix24 o37), nm, seval] <;> rfl) | rfl) ?_
 try simp only [vz, mq, mqm, vsi, tyf, mqt, d13, d22, d31, (ix24 o37), nm, seval]
 refine zao (x := (.tup [.sl (cellsL eI r38.1) (List.length r38.1) false, .lit (.int .i64 0)])) (by first | (simp only [Tryz.results34, resV, resL, resV1, zan, zbd, uw, cr, tyf, mqt, d13, d22, d31, (ix24 o37), nm, seval] <;> rfl) | rfl) ?_
 obtain rfl := kF _ h
 refine zaz ?_ ?_
 ·simp only [tre, tytre, mqr, Bool.and_self]
 ·first | (simp only [outV, uw, zai, cr, tyf, mqt, nrm, tynrm, d13, d22, d31, (ix24 o37), nm, seval] <;> rfl) | rfl
def zcs (x0_s : GPriceSheet) (x1_t : GPriceTariff) (x2_hours : List Int) : Nat → (List Int) → Int → Int → Option (LOut (List Int) ((List Int) × Int × Int))
 | 0, _, _, _ => none
 | k0 + 1, c0_7, c0_8, c0_o0 => cond (decide (c0_8 ≤ 4)) (Option.bind (zfh x0_s (GPriceTariff.mk x1_t.Kind x1_t.Coins x1_t.Units c0_8 x1_t.Each) x2_hours) (fun r2 => cond (roomOk 8 (List.length (c0_7 ++ [r2]))) (zcs x0_s x1_t x2_hours k0 (c0_7 ++ [r2]) (IntKind.i64.wrap (c0_8 + 1)) c0_8) none)) (some (.go (c0_7, c0_8, c0_o0)))
def zhl (x0_s : GPriceSheet) (x1_t : GPriceTariff) (x2_hours : List Int) : Option (List Int) := lbind (zcs x0_s x1_t x2_hours 1000000 ([] : List Int) 1 x1_t.Rule) (fun r4 => some r4) (fun c3 => some c3.1) (fun _ _ => none)
theorem zpo (x0_s : GPriceSheet) (x1_t : GPriceTariff) (x2_hours : List Int) (R : List Int) (h : zhl x0_s x1_t x2_hours = some R) : VPure Tryz.prog G0 37 [.agg (cGPriceSheet x0_s), .agg (cGPriceTariff x1_t), .sl (cellsL eI x2_hours) (List.length x2_hours) false] (.tree (.sl (cellsL eI R) (List.length R) false)) := by
 refine VPure.runR mixed Tryz.call37 Tryz.func37 rfl (by simp [Tryz.ntmps37]; kernel_rfl) ?_
 obtain ⟨KF, h, kF, kN⟩ := zal h
 simp only [zhl] at h
 simp only [vz, tyf, nm, seval]
 obtain ⟨K5, h, kR5, kG5, kB5, kN5⟩ := zbl h kN
 obtain ⟨f5, hf5, h⟩ := call4 h
 obtain ⟨I5, hI5⟩ : ∃ I : Nat → St → Prop, I = (fun m st => ∃ (p5 : Nat) (c5_7 : List Int) (c5_8 : Int) (c5_o0 : Int) (y5_0 : VV), p5 = m ∧ st.df = [] ∧ 5 ≤ st.nx ∧ st.H 0 = some (.cells (some 26) (cGPriceSheet x0_s)) ∧ st.H 1 = some (.cells (some 42) ([.lit (.int .i64 x1_t.Kind)] ++ [.lit (.int .i64 x1_t.Coins)] ++ [.lit (.int .i64 x1_t.Units)] ++ [.lit (.int .i64 c5_o0)] ++ [.lit (.bool x1_t.Each)])) ∧ st.tm 2 = .sl (cellsL eI x2_hours) (List.length x2_hours) false ∧ st.tm 3 = .ptr 0 0 ∧ st.tm 4 = .ptr 1 0 ∧ st.tm 7 = y5_0 ∧ st.tm 8 = .lit (.int .i64 c5_8) ∧ ((∃ (β : Nat) (el : Option TypeId), y5_0 = .ref β 0 (List.length c5_7) 1 (List.length c5_7) ∧ β < st.nx ∧ β ≠ 0 ∧ β ≠ 1 ∧ st.H β = some (.cells el (cellsL eI c5_7))) ∨ (y5_0 = .lit (.slice none 0 0) ∧ c5_7 = [])) ∧ K5 (f5 p5 c5_7 c5_8 c5_o0)) := ⟨_, rfl⟩
 refine loopK mixed (by kernel_rfl) I5 1000000 (by rw [hI5]; refine ⟨1000000, ([] : List Int), 1, x1_t.Rule, .lit (.slice none 0 0), rfl, rfl, (show 5 ≤ 5 by omega), ?_, ?_, ?_, ?_, ?_, ?_, ?_, Or.inr ⟨rfl, rfl⟩, h⟩ <;> first | (simp only [ua, nm, seval] <;> rfl) | rfl) ?_
 rintro m ⟨tm, H, nx5, df⟩ hinv
 rw [hI5] at hinv
 obtain ⟨p5, c5_7, c5_8, c5_o0, y5_0, rfl, hdf, hn5, H6, H7, e8, e9, e10, e11, e12, ow5_0, h⟩ := hinv
 simp only at hdf hn5 H6 H7 e8 e9 e10 e11 e12 ow5_0
 have n13 := zdv (m := 5) (b := nx5) (by omega)
 subst hdf hf5
 rcases ow5_0 with ⟨b5_0, el5_0, rfl, lq15, lq16, lq17, H14⟩ | ⟨rfl, rfl⟩
 ·have q15 := zlf lq15
  have q16 := ne_f lq16
  have q17 := ne_f lq17
  cases p5 with
  | zero =>
   simp only [zcs, hs, reduceCtorEq] at h
   exact absurd h kN5
  | succ p5 =>
   simp only [zcs, hs, reduceCtorEq] at h
   cases d18 : (decide (c5_8 ≤ 4))
   ·simp only [d18, hs] at h
    have b19 := And.intro n13 (And.intro H6 (And.intro H7 (And.intro q15 (And.intro H14 (And.intro q16 (And.intro q17 d18))))))
    replace h := kG5 _ h
    try dsimp only at h
    try simp only [hs] at h
    try simp only [vz, tyf, b19, e8, e9, e10, e11, e12, nm, seval]
    refine zao (x := (.ref b5_0 0 (List.length c5_7) 1 (List.length c5_7))) (by first | (simp only [Tryz.results37, resV, resL, resV1, zan, zbd, uw, cr, tyf, b19, nm, seval] <;> rfl) | rfl) ?_
    obtain rfl := kF _ h
    refine zaz ?_ ?_
    ·simp only [tre, tytre, Bool.and_self]
    ·first | (simp only [outV, uw, zai, cr, tyf, nrm, tynrm, b19, e8, e9, e10, e11, e12, nm, seval] <;> rfl) | rfl
   simp only [d18, hs] at h
   have b20 := And.intro n13 (And.intro H6 (And.intro H7 (And.intro q15 (And.intro H14 (And.intro q16 (And.intro q17 d18))))))
   obtain ⟨r21, o22, h⟩ := optI h kN5
   try simp only [hs] at h
   simp only [vz, tyf, b20, e8, e9, e10, e11, e12, nm, seval]
   refine ktA (zgv _ _ _ _ o22) ?_
   refine zah (fun tm => tm 2 = .sl (cellsL eI x2_hours) (List.length x2_hours) false ∧ tm 3 = .ptr 0 0 ∧ tm 4 = .ptr 1 0 ∧ tm 8 = .lit (.int .i64 c5_8) ∧ tm 15 = .ref b5_0 0 (List.length c5_7) 1 (List.length c5_7) ∧ tm 19 = .lit (.int .i64 r21) ∧ True) (by refine ⟨e8, e9, e10, e12, ?_, ?_, trivial⟩ <;> first | (simp only [ua, b20, e8, e9, e10, e11, e12, nm, seval] <;> rfl) | rfl) ?_
   rintro tm ⟨e23, e24, e25, e26, e27, e28, _⟩
   cases g29 : (roomOk 8 (List.length (c5_7 ++ [r21])))
   ·simp only [g29, hs] at h
    exact absurd h kN5
   simp only [g29, hs] at h
   simp only [vz, tyf, b20, e23, e24, e25, e26, e27, e28, g29, nm, seval]
   refine k_app (w := 1) (enc := eI) (xs := c5_7) (ys := ([r21])) (el := el5_0) (el2 := (some 3)) (fun _ => rfl) lf22 ao22 Tryz.underlying22 (by first | rfl | assumption | (simp only [zad, zab, et22, b20, nm, seval] <;> rfl) | (simp only [zad, zab, zaw, zbc, zfu, zdf, tyf, b20, e23, e24, e25, e26, e27, e28, g29, nm, seval]; done)) (by first | rfl | assumption | (simp only [zad, zab, et22, b20, nm, seval] <;> rfl) | (simp only [zad, zab, zaw, zbc, zfu, zdf, tyf, b20, e23, e24, e25, e26, e27, e28, g29, nm, seval]; done)) (Nat.zero_lt_succ _) g29 ?_
   simp only [vz, tyf, b20, e23, e24, e25, e26, e27, e28, g29, nm, seval]
   exact ⟨p5, Nat.lt_succ_self _, by rw [hI5]; refine ⟨p5, (c5_7 ++ [r21]), IntKind.i64.wrap (c5_8 + 1), c5_8, .ref (nx5 + 11) 0 (List.length (c5_7 ++ [r21])) 1 (List.length (c5_7 ++ [r21])), rfl, rfl, (show 5 ≤ nx5 + 16 by omega), ?_, ?_, e23, e24, e25, ?_, ?_, Or.inl ⟨nx5 + 11, (sameEl el5_0 3), rfl, (by first | omega | (simp only [nm, seval]; omega)), (by first | omega | (intro hh; simp only [b20, reduceCtorEq] at hh)), (by first | omega | (intro hh; simp only [b20, reduceCtorEq] at hh)), ?_⟩, (by first | exact h | (simp only [b20]; exact h))⟩ <;> first | (simp only [ua, b20, e23, e24, e25, e26, e27, e28, nm, seval] <;> rfl) | rfl⟩
 ·cases p5 with
  | zero =>
   simp only [zcs, hs, reduceCtorEq] at h
   exact absurd h kN5
  | succ p5 =>
   simp only [zcs, hs, reduceCtorEq] at h
   cases d30 : (decide (c5_8 ≤ 4))
   ·simp only [d30, hs] at h
    replace h := kG5 _ h
    try dsimp only at h
    try simp only [hs] at h
    try simp only [vz, tyf, n13, e8, e9, e10, e11, e12, H6, H7, d30, nm, seval]
    refine zao (x := (.lit (.slice none 0 0))) (by first | (simp only [Tryz.results37, resV, resL, resV1, zan, zbd, uw, cr, tyf, n13, H6, H7, d30, nm, seval] <;> rfl) | rfl) ?_
    obtain rfl := kF _ h
    refine zaz ?_ ?_
    ·simp only [tre, tytre, Bool.and_self]
    ·first | (simp only [outV, uw, zai, cr, tyf, nrm, tynrm, n13, e8, e9, e10, e11, e12, H6, H7, d30, nm, seval] <;> rfl) | rfl
   simp only [d30, hs] at h
   obtain ⟨r31, o32, h⟩ := optI h kN5
   try simp only [hs] at h
   simp only [vz, tyf, n13, e8, e9, e10, e11, e12, H6, H7, d30, nm, seval]
   refine ktA (zgv _ _ _ _ o32) ?_
   refine zah (fun tm => tm 2 = .sl (cellsL eI x2_hours) (List.length x2_hours) false ∧ tm 3 = .ptr 0 0 ∧ tm 4 = .ptr 1 0 ∧ tm 8 = .lit (.int .i64 c5_8) ∧ tm 15 = .lit (.slice none 0 0) ∧ tm 19 = .lit (.int .i64 r31) ∧ True) (by refine ⟨e8, e9, e10, e12, ?_, ?_, trivial⟩ <;> first | (simp only [ua, n13, e8, e9, e10, e11, e12, H6, H7, d30, nm, seval] <;> rfl) | rfl) ?_
   rintro tm ⟨e33, e34, e35, e36, e37, e38, _⟩
   cases g39 : (roomOk 8 (List.length (([] : List Int) ++ [r31])))
   ·simp only [g39, hs] at h
    exact absurd h kN5
   simp only [g39, hs] at h
   simp only [vz, tyf, n13, H6, H7, d30, e33, e34, e35, e36, e37, e38, g39, nm, seval]
   refine zoi (w := 1) (enc := eI) (ys := ([r31])) (el2 := (some 3)) (fun _ => rfl) lf22 ao22 Tryz.underlying22 (by first | rfl | assumption | (simp only [zad, zab, et22, n13, H6, H7, nm, seval] <;> rfl) | (simp only [zad, zab, zaw, zbc, zfu, zdf, tyf, n13, H6, H7, d30, e33, e34, e35, e36, e37, e38, g39, nm, seval]; done)) (Nat.zero_lt_succ _) g39 ?_
   simp only [vz, tyf, n13, H6, H7, d30, e33, e34, e35, e36, e37, e38, g39, nm, seval]
   exact ⟨p5, Nat.lt_succ_self _, by rw [hI5]; refine ⟨p5, (([] : List Int) ++ [r31]), IntKind.i64.wrap (c5_8 + 1), c5_8, .ref (nx5 + 11) 0 (List.length (([] : List Int) ++ [r31])) 1 (List.length (([] : List Int) ++ [r31])), rfl, rfl, (show 5 ≤ nx5 + 16 by omega), ?_, ?_, e33, e34, e35, ?_, ?_, Or.inl ⟨nx5 + 11, (some 3), rfl, (by first | omega | (simp only [nm, seval]; omega)), (by first | omega | (intro hh; simp only [n13, reduceCtorEq] at hh)), (by first | omega | (intro hh; simp only [n13, reduceCtorEq] at hh)), ?_⟩, (by first | exact h | (simp only [d30]; exact h))⟩ <;> first | (simp only [ua, n13, H6, H7, d30, e33, e34, e35, e36, e37, e38, nm, seval] <;> rfl) | rfl⟩
def zey (x1_b : List Int) : List Int → Int → Option (LOut (Bool) (Unit))
 | [], c0_5 => some (.go ())
 | e0 :: p0, c0_5 => Option.bind (getI x1_b c0_5) (fun x1 => cond (e0 != x1) (some (.ret false)) (zey x1_b p0 (c0_5 + 1)))
def zhb (x0_a : List Int) (x1_b : List Int) : Option (Bool) := cond ((List.length x0_a : Int) != (List.length x1_b : Int)) (some false) (cond (lenOk x0_a) (lbind (zey x1_b x0_a 0) (fun r3 => some r3) (fun c2 => some true) (fun _ _ => none)) none)
theorem zkv (x0_a : List Int) (x1_b : List Int) (R : Bool) (h : zhb x0_a x1_b = some R) : VPure Tryz.prog G0 35 [.sl (cellsL eI x0_a) (List.length x0_a) false, .sl (cellsL eI x1_b) (List.length x1_b) false] (.tree (.lit (.bool R))) := by
 refine VPure.runR mixed Tryz.call35 Tryz.func35 rfl (by simp [Tryz.ntmps35]; kernel_rfl) ?_
 obtain ⟨KF, h, kF, kN⟩ := zal h
 simp only [zhb] at h
 cases d4 : ((List.length x0_a : Int) != (List.length x1_b : Int))
 ·simp only [d4, hs] at h
  cases g6 : (lenOk x0_a)
  ·simp only [g6, hs] at h
   exact absurd h kN
  simp only [g6, hs] at h
  simp only [vz, tyf, d4, g6, nm, seval]
  obtain ⟨K5, h, kR5, kG5, kB5, kN5⟩ := zbl h kN
  obtain ⟨f5, hf5, h⟩ := call2 h
  obtain ⟨I5, hI5⟩ : ∃ I : Nat → St → Prop, I = (fun m st => ∃ (p5 : List Int) (c5_5 : Int), m = List.length p5 ∧ 0 ≤ c5_5 ∧ List.drop (Int.toNat c5_5) x0_a = p5 ∧ st.df = [] ∧ 7 ≤ st.nx ∧ st.tm 0 = .sl (cellsL eI x0_a) (List.length x0_a) false ∧ st.tm 1 = .sl (cellsL eI x1_b) (List.length x1_b) false ∧ st.tm 5 = .lit (.int .i64 c5_5) ∧ K5 (f5 p5 c5_5)) := ⟨_, rfl⟩
  refine loopK mixed (by kernel_rfl) I5 (List.length x0_a) (by rw [hI5]; refine ⟨x0_a, 0, rfl, Int.le_refl _, rfl, rfl, (show 7 ≤ 7 by omega), ?_, ?_, ?_, h⟩ <;> first | (simp only [ua, d4, nm, seval] <;> rfl) | rfl) ?_
  rintro m ⟨tm, H, nx5, df⟩ hinv
  rw [hI5] at hinv
  obtain ⟨p5, c5_5, rfl, hi5, hp5, hdf, hn5, e7, e8, e9, h⟩ := hinv
  simp only at hdf hn5 e7 e8 e9
  have n10 := zdv (m := 7) (b := nx5) (by omega)
  subst hdf hf5
  cases p5 with
  | nil =>
   have d11 : (decide (c5_5 < (List.length x0_a : Int))) = false := zap hi5 hp5
   simp only [zey, hs, reduceCtorEq] at h
   replace h := kG5 _ h
   try dsimp only at h
   try simp only [hs] at h
   try simp only [vz, tyf, d4, g6, n10, e7, e8, e9, d11, nm, seval]
   obtain rfl := kF _ h
   exact zac Tryz.results35 rfl
  | cons e5 p5 =>
   have d12 : (decide (c5_5 < (List.length x0_a : Int))) = true := zbg hi5 hp5
   have o14 := zam hi5 hp5
   have w13 := zbu hi5 hp5 g6
   simp only [zey, hs, reduceCtorEq] at h
   simp only [vz, tyf, d4, g6, n10, e7, e8, e9, d12, (ix22 o14), w13, nm, seval]
   refine zdt (fun tm => tm 0 = .sl (cellsL eI x0_a) (List.length x0_a) false ∧ tm 1 = .sl (cellsL eI x1_b) (List.length x1_b) false ∧ tm 5 = .lit (.int .i64 c5_5) ∧ True) (by refine ⟨e7, e8, e9, trivial⟩ <;> first | (simp only [ua, d4, n10, e7, e8, e9, d12, w13, nm, seval] <;> rfl) | rfl) ?_
   rintro tm ⟨e15, e16, e17, _⟩
   obtain ⟨x18, o19, h⟩ := optI h kN5
   try simp only [hs] at h
   cases d20 : (e5 != x18)
   ·simp only [d20, hs] at h
    simp only [vz, tyf, d4, g6, n10, d12, (ix22 o14), w13, e15, e16, e17, (ix22 o19), d20, nm, seval]
    exact ⟨List.length p5, Nat.lt_succ_self _, by rw [hI5]; refine ⟨p5, c5_5 + 1, rfl, Int.le_trans hi5 (Int.le_add_one (Int.le_refl _)), zba hi5 hp5, rfl, (show 7 ≤ nx5 + 16 by omega), e15, e16, ?_, (by first | exact h | (simp only [d4, d12, d20]; exact h))⟩ <;> first | (simp only [ua, d4, n10, d12, w13, e15, e16, e17, d20, nm, seval] <;> rfl) | rfl⟩
   simp only [d20, hs] at h
   try simp only [vz, tyf, d4, g6, n10, d12, (ix22 o14), w13, e15, e16, e17, (ix22 o19), d20, nm, seval]
   replace h := kR5 _ h
   try dsimp only at h
   obtain rfl := kF _ h
   exact zac Tryz.results35 rfl
 simp only [d4, hs] at h
 try simp only [vz, tyf, d4, nm, seval]
 obtain rfl := kF _ h
 exact zac Tryz.results35 rfl
def zfz (x0_s : GPriceSheet) (x1_a1 : Int) (x2_a2 : List Int) : Option (Bool) := Option.bind (zdp x0_s) (fun r1 => cond (r1) (Option.bind (zfn x2_a2) (fun r2 => cond (r2) (Option.bind (zdu x0_s x1_a1 x2_a2) (fun r3 => Option.bind (zfj x0_s x1_a1 x2_a2) (fun r4 => Option.bind (zfm x0_s) (fun r5 => cond (r5) (Option.bind (zco x0_s x1_a1) (fun r6 => cond (r6) (Option.bind (zfv x0_s x2_a2) (fun r7 => cond (r7) (Option.bind (getI x0_s.Tariffs x1_a1) (fun x8 => cond (r3.2 == 0) (Option.bind (zem x0_s x8 x2_a2) (fun r9 => Option.bind (zhb r3.1 r9) (fun r10 => cond (r10) (cond (r4.2 == 0) (Option.bind (zhl x0_s x8 x2_a2) (fun r11 => Option.bind (zhb r4.1 r11) (fun r12 => cond (r12) (some true) (some false)))) (some false)) (some false)))) (some false))) (cond (r3.2 == 2) (cond ((List.length r3.1 : Int) == 0) (cond (r4.2 == 2) (cond ((List.length r4.1 : Int) == 0) (some true) (some false)) (some false)) (some false)) (some false)))) (cond (r3.2 == 2) (cond ((List.length r3.1 : Int) == 0) (cond (r4.2 == 2) (cond ((List.length r4.1 : Int) == 0) (some true) (some false)) (some false)) (some false)) (some false)))) (cond (r3.2 == 2) (cond ((List.length r3.1 : Int) == 0) (cond (r4.2 == 2) (cond ((List.length r4.1 : Int) == 0) (some true) (some false)) (some false)) (some false)) (some false)))))) (some true))) (some true))
theorem zkq (x0_s : GPriceSheet) (x1_a1 : Int) (x2_a2 : List Int) (R : Bool) (h : zfz x0_s x1_a1 x2_a2 = some R) : VPure Tryz.prog G0 5 [.agg (cGPriceSheet x0_s), .lit (.int .i64 x1_a1), .sl (cellsL eI x2_a2) (List.length x2_a2) false] (.tree (.lit (.bool R))) := by
 refine VPure.runR mixed Tryz.call5 Tryz.func5 rfl (by simp [Tryz.ntmps5]; kernel_rfl) ?_
 obtain ⟨KF, h, kF, kN⟩ := zal h
 simp only [zfz] at h
 obtain ⟨r13, o14, h⟩ := optI h kN
 try simp only [hs] at h
 simp only [vz, tyf, nm, seval]
 refine ktA (zie _ _ o14) ?_
 refine zah (fun tm => tm 1 = .lit (.int .i64 x1_a1) ∧ tm 2 = .sl (cellsL eI x2_a2) (List.length x2_a2) false ∧ tm 3 = .ptr 0 0 ∧ tm 13 = .lit (.bool r13) ∧ True) (by refine ⟨?_, ?_, ?_, ?_, trivial⟩ <;> first | (simp only [ua, nm, seval] <;> rfl) | rfl) ?_
 rintro tm ⟨e15, e16, e17, e18, _⟩
 cases d19 : (r13)
 ·simp only [d19, hs] at h
  simp only [vz, tyf, e15, e16, e17, e18, d19, nm, seval]
  refine ktree0 zaf ?_
  try simp only [vz, tyf, e15, e16, e17, e18, d19, nm, seval]
  obtain rfl := kF _ h
  exact zac Tryz.results5 rfl
 simp only [d19, hs] at h
 obtain ⟨r20, o21, h⟩ := optI h kN
 try simp only [hs] at h
 simp only [vz, tyf, e15, e16, e17, e18, d19, nm, seval]
 refine ktA (ziv _ _ o21) ?_
 refine zah (fun tm => tm 1 = .lit (.int .i64 x1_a1) ∧ tm 2 = .sl (cellsL eI x2_a2) (List.length x2_a2) false ∧ tm 3 = .ptr 0 0 ∧ tm 15 = .lit (.bool false) ∧ tm 17 = .lit (.bool r20) ∧ True) (by refine ⟨e15, e16, e17, ?_, ?_, trivial⟩ <;> first | (simp only [ua, e15, e16, e17, e18, d19, nm, seval] <;> rfl) | rfl) ?_
 rintro tm ⟨e22, e23, e24, e25, e26, _⟩
 cases d27 : (r20)
 ·simp only [d27, hs] at h
  simp only [vz, tyf, d19, e22, e23, e24, e25, e26, d27, nm, seval]
  refine ktree0 zaf ?_
  try simp only [vz, tyf, d19, e22, e23, e24, e25, e26, d27, nm, seval]
  obtain rfl := kF _ h
  exact zac Tryz.results5 rfl
 simp only [d27, hs] at h
 obtain ⟨r28, o29, h⟩ := optI h kN
 try simp only [hs] at h
 simp only [vz, tyf, d19, e22, e23, e24, e25, e26, d27, nm, seval]
 refine ktA (zik _ _ _ _ o29) ?_
 refine zah (fun tm => tm 1 = .lit (.int .i64 x1_a1) ∧ tm 2 = .sl (cellsL eI x2_a2) (List.length x2_a2) false ∧ tm 3 = .ptr 0 0 ∧ tm 25 = .tup [.sl (cellsL eI r28.1) (List.length r28.1) false, .lit (.int .i64 r28.2)] ∧ True) (by refine ⟨e22, e23, e24, ?_, trivial⟩ <;> first | (simp only [ua, d19, e22, e23, e24, e25, e26, d27, nm, seval] <;> rfl) | rfl) ?_
 rintro tm ⟨e30, e31, e32, e33, _⟩
 obtain ⟨r34, o35, h⟩ := optI h kN
 try simp only [hs] at h
 simp only [vz, tyf, d19, d27, e30, e31, e32, e33, nm, seval]
 refine ktA (zot _ _ _ _ o35) ?_
 refine zah (fun tm => tm 1 = .lit (.int .i64 x1_a1) ∧ tm 2 = .sl (cellsL eI x2_a2) (List.length x2_a2) false ∧ tm 3 = .ptr 0 0 ∧ tm 7 = .sl (cellsL eI r28.1) (List.length r28.1) false ∧ tm 8 = .lit (.int .i64 r28.2) ∧ tm 32 = .tup [.sl (cellsL eI r34.1) (List.length r34.1) false, .lit (.int .i64 r34.2)] ∧ True) (by refine ⟨e30, e31, e32, ?_, ?_, ?_, trivial⟩ <;> first | (simp only [ua, d19, d27, e30, e31, e32, e33, nm, seval] <;> rfl) | rfl) ?_
 rintro tm ⟨e36, e37, e38, e39, e40, e41, _⟩
 obtain ⟨r42, o43, h⟩ := optI h kN
 try simp only [hs] at h
 simp only [vz, tyf, d19, d27, e36, e37, e38, e39, e40, e41, nm, seval]
 refine ktA (zio _ _ o43) ?_
 refine zah (fun tm => tm 1 = .lit (.int .i64 x1_a1) ∧ tm 2 = .sl (cellsL eI x2_a2) (List.length x2_a2) false ∧ tm 3 = .ptr 0 0 ∧ tm 7 = .sl (cellsL eI r28.1) (List.length r28.1) false ∧ tm 8 = .lit (.int .i64 r28.2) ∧ tm 9 = .sl (cellsL eI r34.1) (List.length r34.1) false ∧ tm 10 = .lit (.int .i64 r34.2) ∧ tm 36 = .lit (.bool r42) ∧ True) (by refine ⟨e36, e37, e38, e39, e40, ?_, ?_, ?_, trivial⟩ <;> first | (simp only [ua, d19, d27, e36, e37, e38, e39, e40, e41, nm, seval] <;> rfl) | rfl) ?_
 rintro tm ⟨e44, e45, e46, e47, e48, e49, e50, e51, _⟩
 cases d52 : (r42)
 ·simp only [d52, hs] at h
  cases d53 : (r28.2 == 2)
  ·simp only [d53, hs] at h
   try simp only [vz, tyf, d19, d27, e44, e45, e46, e47, e48, e49, e50, e51, d52, d53, nm, seval]
   obtain rfl := kF _ h
   exact zac Tryz.results5 rfl
  simp only [d53, hs] at h
  cases d54 : ((List.length r28.1 : Int) == 0)
  ·simp only [d54, hs] at h
   try simp only [vz, tyf, d19, d27, e44, e45, e46, e47, e48, e49, e50, e51, d52, d53, d54, nm, seval]
   obtain rfl := kF _ h
   exact zac Tryz.results5 rfl
  simp only [d54, hs] at h
  cases d55 : (r34.2 == 2)
  ·simp only [d55, hs] at h
   try simp only [vz, tyf, d19, d27, e44, e45, e46, e47, e48, e49, e50, e51, d52, d53, d54, d55, nm, seval]
   obtain rfl := kF _ h
   exact zac Tryz.results5 rfl
  simp only [d55, hs] at h
  cases d56 : ((List.length r34.1 : Int) == 0)
  ·simp only [d56, hs] at h
   have b57 := And.intro d19 (And.intro d27 (And.intro d52 (And.intro d53 (And.intro d54 (And.intro d55 d56)))))
   try simp only [vz, tyf, b57, e44, e45, e46, e47, e48, e49, e50, e51, nm, seval]
   obtain rfl := kF _ h
   exact zac Tryz.results5 rfl
  simp only [d56, hs] at h
  have b58 := And.intro d19 (And.intro d27 (And.intro d52 (And.intro d53 (And.intro d54 (And.intro d55 d56)))))
  simp only [vz, tyf, b58, e44, e45, e46, e47, e48, e49, e50, e51, nm, seval]
  refine ktree0 zaf ?_
  try simp only [vz, tyf, b58, e44, e45, e46, e47, e48, e49, e50, e51, nm, seval]
  obtain rfl := kF _ h
  exact zac Tryz.results5 rfl
 simp only [d52, hs] at h
 obtain ⟨r59, o60, h⟩ := optI h kN
 try simp only [hs] at h
 simp only [vz, tyf, d19, d27, e44, e45, e46, e47, e48, e49, e50, e51, d52, nm, seval]
 refine ktA (zdj _ _ _ o60) ?_
 refine zah (fun tm => tm 1 = .lit (.int .i64 x1_a1) ∧ tm 2 = .sl (cellsL eI x2_a2) (List.length x2_a2) false ∧ tm 3 = .ptr 0 0 ∧ tm 7 = .sl (cellsL eI r28.1) (List.length r28.1) false ∧ tm 8 = .lit (.int .i64 r28.2) ∧ tm 9 = .sl (cellsL eI r34.1) (List.length r34.1) false ∧ tm 10 = .lit (.int .i64 r34.2) ∧ tm 38 = .lit (.bool false) ∧ tm 41 = .lit (.bool r59) ∧ True) (by refine ⟨e44, e45, e46, e47, e48, e49, e50, ?_, ?_, trivial⟩ <;> first | (simp only [ua, d19, d27, e44, e45, e46, e47, e48, e49, e50, e51, d52, nm, seval] <;> rfl) | rfl) ?_
 rintro tm ⟨e61, e62, e63, e64, e65, e66, e67, e68, e69, _⟩
 cases d70 : (r59)
 ·simp only [d70, hs] at h
  cases d71 : (r28.2 == 2)
  ·simp only [d71, hs] at h
   try simp only [vz, tyf, d19, d27, d52, e61, e62, e63, e64, e65, e66, e67, e68, e69, d70, d71, nm, seval]
   obtain rfl := kF _ h
   exact zac Tryz.results5 rfl
  simp only [d71, hs] at h
  cases d72 : ((List.length r28.1 : Int) == 0)
  ·simp only [d72, hs] at h
   try simp only [vz, tyf, d19, d27, d52, e61, e62, e63, e64, e65, e66, e67, e68, e69, d70, d71, d72, nm, seval]
   obtain rfl := kF _ h
   exact zac Tryz.results5 rfl
  simp only [d72, hs] at h
  cases d73 : (r34.2 == 2)
  ·simp only [d73, hs] at h
   have b74 := And.intro d19 (And.intro d27 (And.intro d52 (And.intro d70 (And.intro d71 (And.intro d72 d73)))))
   try simp only [vz, tyf, b74, e61, e62, e63, e64, e65, e66, e67, e68, e69, nm, seval]
   obtain rfl := kF _ h
   exact zac Tryz.results5 rfl
  simp only [d73, hs] at h
  have b75 := And.intro d19 (And.intro d27 (And.intro d52 (And.intro d70 (And.intro d71 (And.intro d72 d73)))))
  cases d76 : ((List.length r34.1 : Int) == 0)
  ·simp only [d76, hs] at h
   try simp only [vz, tyf, b75, e61, e62, e63, e64, e65, e66, e67, e68, e69, d76, nm, seval]
   obtain rfl := kF _ h
   exact zac Tryz.results5 rfl
  simp only [d76, hs] at h
  simp only [vz, tyf, b75, e61, e62, e63, e64, e65, e66, e67, e68, e69, d76, nm, seval]
  refine ktree0 zaf ?_
  try simp only [vz, tyf, b75, e61, e62, e63, e64, e65, e66, e67, e68, e69, d76, nm, seval]
  obtain rfl := kF _ h
  exact zac Tryz.results5 rfl
 simp only [d70, hs] at h
 obtain ⟨r77, o78, h⟩ := optI h kN
 try simp only [hs] at h
 simp only [vz, tyf, d19, d27, d52, e61, e62, e63, e64, e65, e66, e67, e68, e69, d70, nm, seval]
 refine ktA (zih _ _ _ o78) ?_
 refine zah (fun tm => tm 1 = .lit (.int .i64 x1_a1) ∧ tm 2 = .sl (cellsL eI x2_a2) (List.length x2_a2) false ∧ tm 3 = .ptr 0 0 ∧ tm 7 = .sl (cellsL eI r28.1) (List.length r28.1) false ∧ tm 8 = .lit (.int .i64 r28.2) ∧ tm 9 = .sl (cellsL eI r34.1) (List.length r34.1) false ∧ tm 10 = .lit (.int .i64 r34.2) ∧ tm 44 = .lit (.bool false) ∧ tm 47 = .lit (.bool r77) ∧ True) (by refine ⟨e61, e62, e63, e64, e65, e66, e67, ?_, ?_, trivial⟩ <;> first | (simp only [ua, d19, d27, d52, e61, e62, e63, e64, e65, e66, e67, e68, e69, d70, nm, seval] <;> rfl) | rfl) ?_
 rintro tm ⟨e79, e80, e81, e82, e83, e84, e85, e86, e87, _⟩
 cases d88 : (r77)
 ·simp only [d88, hs] at h
  cases d89 : (r28.2 == 2)
  ·simp only [d89, hs] at h
   try simp only [vz, tyf, d19, d27, d52, d70, e79, e80, e81, e82, e83, e84, e85, e86, e87, d88, d89, nm, seval]
   obtain rfl := kF _ h
   exact zac Tryz.results5 rfl
  simp only [d89, hs] at h
  cases d90 : ((List.length r28.1 : Int) == 0)
  ·simp only [d90, hs] at h
   have b91 := And.intro d19 (And.intro d27 (And.intro d52 (And.intro d70 (And.intro d88 (And.intro d89 d90)))))
   try simp only [vz, tyf, b91, e79, e80, e81, e82, e83, e84, e85, e86, e87, nm, seval]
   obtain rfl := kF _ h
   exact zac Tryz.results5 rfl
  simp only [d90, hs] at h
  have b92 := And.intro d19 (And.intro d27 (And.intro d52 (And.intro d70 (And.intro d88 (And.intro d89 d90)))))
  cases d93 : (r34.2 == 2)
  ·simp only [d93, hs] at h
   try simp only [vz, tyf, b92, e79, e80, e81, e82, e83, e84, e85, e86, e87, d93, nm, seval]
   obtain rfl := kF _ h
   exact zac Tryz.results5 rfl
  simp only [d93, hs] at h
  cases d94 : ((List.length r34.1 : Int) == 0)
  ·simp only [d94, hs] at h
   try simp only [vz, tyf, b92, e79, e80, e81, e82, e83, e84, e85, e86, e87, d93, d94, nm, seval]
   obtain rfl := kF _ h
   exact zac Tryz.results5 rfl
  simp only [d94, hs] at h
  simp only [vz, tyf, b92, e79, e80, e81, e82, e83, e84, e85, e86, e87, d93, d94, nm, seval]
  refine ktree0 zaf ?_
  try simp only [vz, tyf, b92, e79, e80, e81, e82, e83, e84, e85, e86, e87, d93, d94, nm, seval]
  obtain rfl := kF _ h
  exact zac Tryz.results5 rfl
 simp only [d88, hs] at h
 obtain ⟨x95, o96, h⟩ := optI h kN
 try simp only [hs] at h
 cases d97 : (r28.2 == 0)
 ·simp only [d97, hs] at h
  try simp only [vz, tyf, d19, d27, d52, d70, e79, e80, e81, e82, e83, e84, e85, e86, e87, d88, (ix24 o96), d97, nm, seval]
  obtain rfl := kF _ h
  exact zac Tryz.results5 rfl
 simp only [d97, hs] at h
 obtain ⟨r98, o99, h⟩ := optI h kN
 try simp only [hs] at h
 simp only [vz, tyf, d19, d27, d52, d70, e79, e80, e81, e82, e83, e84, e85, e86, e87, d88, (ix24 o96), d97, nm, seval]
 refine ktA (zgs _ _ _ _ o99) ?_
 refine zah (fun tm => tm 2 = .sl (cellsL eI x2_a2) (List.length x2_a2) false ∧ tm 3 = .ptr 0 0 ∧ tm 9 = .sl (cellsL eI r34.1) (List.length r34.1) false ∧ tm 10 = .lit (.int .i64 r34.2) ∧ tm 11 = .ptr 48 0 ∧ tm 76 = .lit (.bool true) ∧ tm 77 = .sl (cellsL eI r28.1) (List.length r28.1) false ∧ tm 81 = .sl (cellsL eI r98) (List.length r98) false ∧ True) (by refine ⟨e80, e81, e84, e85, ?_, ?_, ?_, ?_, trivial⟩ <;> first | (simp only [ua, d19, d27, d52, d70, e79, e80, e81, e82, e83, e84, e85, e86, e87, d88, d97, nm, seval] <;> rfl) | rfl) ?_
 rintro tm ⟨e100, e101, e102, e103, e104, e105, e106, e107, _⟩
 obtain ⟨r108, o109, h⟩ := optI h kN
 try simp only [hs] at h
 simp only [vz, tyf, d19, d27, d52, d70, d88, (ix24 o96), d97, e100, e101, e102, e103, e104, e105, e106, e107, nm, seval]
 refine ktA (zkv _ _ _ o109) ?_
 refine zah (fun tm => tm 2 = .sl (cellsL eI x2_a2) (List.length x2_a2) false ∧ tm 3 = .ptr 0 0 ∧ tm 9 = .sl (cellsL eI r34.1) (List.length r34.1) false ∧ tm 10 = .lit (.int .i64 r34.2) ∧ tm 11 = .ptr 48 0 ∧ tm 76 = .lit (.bool true) ∧ tm 82 = .lit (.bool r108) ∧ True) (by refine ⟨e100, e101, e102, e103, e104, e105, ?_, trivial⟩ <;> first | (simp only [ua, d19, d27, d52, d70, d88, d97, e100, e101, e102, e103, e104, e105, e106, e107, nm, seval] <;> rfl) | rfl) ?_
 rintro tm ⟨e110, e111, e112, e113, e114, e115, e116, _⟩
 cases d117 : (r108)
 ·simp only [d117, hs] at h
  have b118 := And.intro d19 (And.intro d27 (And.intro d52 (And.intro d70 (And.intro d88 (And.intro d97 d117)))))
  try simp only [vz, tyf, b118, (ix24 o96), e110, e111, e112, e113, e114, e115, e116, nm, seval]
  obtain rfl := kF _ h
  exact zac Tryz.results5 rfl
 simp only [d117, hs] at h
 have b119 := And.intro d19 (And.intro d27 (And.intro d52 (And.intro d70 (And.intro d88 (And.intro d97 d117)))))
 cases d120 : (r34.2 == 0)
 ·simp only [d120, hs] at h
  try simp only [vz, tyf, b119, (ix24 o96), e110, e111, e112, e113, e114, e115, e116, d120, nm, seval]
  obtain rfl := kF _ h
  exact zac Tryz.results5 rfl
 simp only [d120, hs] at h
 obtain ⟨r121, o122, h⟩ := optI h kN
 try simp only [hs] at h
 simp only [vz, tyf, b119, (ix24 o96), e110, e111, e112, e113, e114, e115, e116, d120, nm, seval]
 refine ktA (zpo _ _ _ _ o122) ?_
 refine zah (fun tm => tm 88 = .lit (.bool true) ∧ tm 89 = .sl (cellsL eI r34.1) (List.length r34.1) false ∧ tm 93 = .sl (cellsL eI r121) (List.length r121) false ∧ True) (by refine ⟨?_, ?_, ?_, trivial⟩ <;> first | (simp only [ua, b119, e110, e111, e112, e113, e114, e115, e116, d120, nm, seval] <;> rfl) | rfl) ?_
 rintro tm ⟨e123, e124, e125, _⟩
 obtain ⟨r126, o127, h⟩ := optI h kN
 try simp only [hs] at h
 simp only [vz, tyf, b119, (ix24 o96), d120, e123, e124, e125, nm, seval]
 refine ktA (zkv _ _ _ o127) ?_
 refine zah (fun tm => tm 88 = .lit (.bool true) ∧ tm 94 = .lit (.bool r126) ∧ True) (by refine ⟨e123, ?_, trivial⟩ <;> first | (simp only [ua, b119, d120, e123, e124, e125, nm, seval] <;> rfl) | rfl) ?_
 rintro tm ⟨e128, e129, _⟩
 cases d130 : (r126)
 ·simp only [d130, hs] at h
  try simp only [vz, tyf, b119, (ix24 o96), d120, e128, e129, d130, nm, seval]
  obtain rfl := kF _ h
  exact zac Tryz.results5 rfl
 simp only [d130, hs] at h
 simp only [vz, tyf, b119, (ix24 o96), d120, e128, e129, d130, nm, seval]
 refine ktree0 zaf ?_
 try simp only [vz, tyf, b119, (ix24 o96), d120, e128, e129, d130, nm, seval]
 obtain rfl := kF _ h
 exact zac Tryz.results5 rfl
end Go.V
end
section
namespace Go.V
open Go
theorem zaks {x : List Int} : ∀ (p : List Int) (i : Int), 0 ≤ i → x.drop i.toNat = p → zey x p i = some (.go ())
 | [], _, _, _ => rfl
 | e :: p, i, h0, h => by
  simp only [zey, zam h0 h, Option.bind_some, bne_self_eq_false, cond_false]
  exact zaks p (i + 1) (by omega) (zba h0 h)
theorem zyr {x : List Int} (h : lenOk x = true) : zhb x x = some true := by
 unfold zhb
 rw [h, zaks x 0 (Int.le_refl _) rfl]
 simp only [bne_self_eq_false, cond_false, cond_true, zyf]
def withR (t : GPriceTariff) (r : Int) : GPriceTariff := ⟨t.Kind, t.Coins, t.Units, r, t.Each⟩
theorem TOk.withR {t : GPriceTariff} (h : TOk t) {r : Int} (h1 : 1 ≤ r) (h2 : r ≤ 4) : TOk (withR t r) := ⟨h.k, h.c, h.u, h1, h2⟩
theorem zlo {s : GPriceSheet} {t : GPriceTariff} (ot : TOk t) {hs : List Int} (hf : Fit s.Boards hs) {r : Int} (h1 : 1 ≤ r) (h2 : r ≤ 4) (k : Nat) {acc : List Int} (hn : acc.length ≤ 10) {l : List (Gpricebill × Int)} (hl : InvM l) :
  ∃ l', zat s t hs (k + 1) acc r l = zat s t hs k (acc ++ [paidP (withR t r) s.Boards hs]) (r + 1) l' ∧ InvM l' := by
 obtain ⟨l1, e1, hl1⟩ := zrj (s := s) (ot.withR h1 h2) hf hl
 refine ⟨l1, ?_, hl1⟩
 simp only [zat, decide_eq_true h2, cond_true, zff, Option.bind_some]
 rw [show GPriceTariff.mk t.Kind t.Coins t.Units r t.Each = withR t r from rfl, e1]
 simp only [Option.bind_some]
 rw [zhg (by simp; omega), cond_true, zcq (by omega) (by omega)]
def rulesP (t : GPriceTariff) (bs : List GPriceBoard) (hs : List Int) : List Int := [paidP (withR t 1) bs hs, paidP (withR t 2) bs hs, paidP (withR t 3) bs hs, paidP (withR t 4) bs hs]
theorem zafv {s : GPriceSheet} {t : GPriceTariff} (ot : TOk t) {hs : List Int} (hf : Fit s.Boards hs) : ∃ l', zbv s t hs [] = some (rulesP t s.Boards hs, l') := by
 unfold zbv
 obtain ⟨l1, e1, h1⟩ := zlo (s := s) ot hf (r := 1) (by omega) (by omega) (999999) (acc := []) (by simp) InvM.nil
 obtain ⟨l2, e2, h2⟩ := zlo (s := s) ot hf (r := 2) (by omega) (by omega) (999998) (acc := [paidP (withR t 1) s.Boards hs]) (by simp) h1
 obtain ⟨l3, e3, h3⟩ := zlo (s := s) ot hf (r := 3) (by omega) (by omega) (999997) (acc := [paidP (withR t 1) s.Boards hs, paidP (withR t 2) s.Boards hs]) (by simp) h2
 obtain ⟨l4, e4, h4⟩ := zlo (s := s) ot hf (r := 4) (by omega) (by omega) (999996) (acc := [paidP (withR t 1) s.Boards hs, paidP (withR t 2) s.Boards hs, paidP (withR t 3) s.Boards hs]) (by simp) h3
 rw [show (1000000 : Nat) = 999999 + 1 from rfl, e1]
 simp only [List.nil_append, show (1 : Int) + 1 = 2 from rfl]
 rw [show (999999 : Nat) = 999998 + 1 from rfl, e2]
 simp only [List.cons_append, List.nil_append, show (2 : Int) + 1 = 3 from rfl]
 rw [show (999998 : Nat) = 999997 + 1 from rfl, e3]
 simp only [List.cons_append, List.nil_append, show (3 : Int) + 1 = 4 from rfl]
 rw [show (999997 : Nat) = 999996 + 1 from rfl, e4]
 simp only [List.cons_append, List.nil_append, show (4 : Int) + 1 = 5 from rfl]
 rw [show (999996 : Nat) = 999995 + 1 from rfl]
 exact ⟨l4, rfl⟩
theorem zanx {s : GPriceSheet} {n : Int} {hs : List Int} (a : Asked s n hs) {t : GPriceTariff} (ht : getI s.Tariffs n = some t) (hk : TOk t) : zfj s n hs = some (rulesP t s.Boards hs, 0) := by
 unfold zfj
 obtain ⟨l, e⟩ := zafv (s := s) hk (zja a.sheet a.hrs)
 rw [zgg a.ok, a.sheet, zek a.ok, a.tar, zds a.ok, a.hrs]
 simp only [Option.bind_some, cond_true, ht, e]
theorem zwu {s : GPriceSheet} (ok : OkS s) {n : Int} {hs : List Int} (h : (sheetB s && (tarB s n && hrsB s.Boards hs)) = false) : zfj s n hs = some ([], 2) := by
 unfold zfj
 rw [zgg ok, zek ok, zds ok]
 revert h
 cases sheetB s <;> cases tarB s n <;> cases hrsB s.Boards hs <;> intro h <;> first | rfl | cases h
theorem zke {s : GPriceSheet} {t : GPriceTariff} (ot : TOk t) {hs : List Int} (hf : Fit s.Boards hs) {r o : Int} (h1 : 1 ≤ r) (h2 : r ≤ 4) (k : Nat) {acc : List Int} (hn : acc.length ≤ 10) :
  zcs s t hs (k + 1) acc r o = zcs s t hs k (acc ++ [paidP (withR t r) s.Boards hs]) (r + 1) r := by
 simp only [zcs, decide_eq_true h2, cond_true]
 rw [show GPriceTariff.mk t.Kind t.Coins t.Units r t.Each = withR t r from rfl, zsv (ot.withR h1 h2) hf]
 simp only [Option.bind_some]
 rw [zhg (by simp; omega), cond_true, zcq (by omega) (by omega)]
theorem zail {s : GPriceSheet} {t : GPriceTariff} (ot : TOk t) {hs : List Int} (hf : Fit s.Boards hs) : zhl s t hs = some (rulesP t s.Boards hs) := by
 unfold zhl
 rw [show (1000000 : Nat) = 999999 + 1 from rfl, zke ot hf (by omega) (by omega) _ (by simp)]
 simp only [List.nil_append, show (1 : Int) + 1 = 2 from rfl]
 rw [show (999999 : Nat) = 999998 + 1 from rfl, zke ot hf (by omega) (by omega) _ (by simp)]
 simp only [List.cons_append, List.nil_append, show (2 : Int) + 1 = 3 from rfl]
 rw [show (999998 : Nat) = 999997 + 1 from rfl, zke ot hf (by omega) (by omega) _ (by simp)]
 simp only [List.cons_append, List.nil_append, show (3 : Int) + 1 = 4 from rfl]
 rw [show (999997 : Nat) = 999996 + 1 from rfl, zke ot hf (by omega) (by omega) _ (by simp)]
 simp only [List.cons_append, List.nil_append, show (4 : Int) + 1 = 5 from rfl]
 rw [show (999996 : Nat) = 999995 + 1 from rfl]
 rfl
theorem zqp (s : GPriceSheet) (n : Int) (hs : List Int) (ok : lenOk s.Offs = true ∧ lenOk s.Boards = true ∧ lenOk s.Tariffs = true) (hl : lenOk hs = true) : zfz s n hs = some true := by
 have ok : OkS s := ⟨ok.1, ok.2.1, ok.2.2⟩
 unfold zfz
 rcases zxd s with h | h
 case inr => rw [h]; rfl
 rcases zaea hs with h2 | h2
 case inr => rw [h, h2]; rfl
 rw [h, h2]
 simp only [Option.bind_some, cond_true, zya ok, zsm ok, zlz ok]
 cases hsh : sheetB s with
 | false => rw [zxr ok (by rw [hsh]; rfl), zwu ok (by rw [hsh]; rfl)]; rfl
 | true =>
  cases ht : tarB s n with
  | false => rw [zxr ok (by rw [hsh, ht]; rfl), zwu ok (by rw [hsh, ht]; rfl)]; rfl
  | true =>
   cases hh : hrsB s.Boards hs with
   | false => rw [zxr ok (by rw [hsh, ht, hh]; rfl), zwu ok (by rw [hsh, ht, hh]; rfl)]; rfl
   | true =>
    have a : Asked s n hs := ⟨ok, hsh, ht, hh⟩
    have hf := zja hsh hh
    have hfew := hf.few
    obtain ⟨t, et, _, ot⟩ := zld hsh ht
    rw [zwf a et ot, zanx a et ot]
    simp only [Option.bind_some, cond_true, et, znw ot hf, zail ot hf, beq_self_eq_true, zyr (zez (show (partsP t s.Boards hs).length < 9223372036854775808 by rw [zdw hf]; omega)), zyr (x := rulesP t s.Boards hs) rfl]
end Go.V
end
