/- Part of a proof. -/
import Derived.Test.YtjpgejagakmjgaaGreatDoorSbk
set_option linter.all false
set_option maxRecDepth 4000
set_option maxHeartbeats 40000000
section
namespace Go.V
open Go Go.Proofs
def zaj (x0_x_PriceSheet : GPriceSheet) (x0_x_tariff : GPriceTariff) (x0_x_hours : List Int) : Nat → (List Int) → Int → (List (Gpricebill × Int)) → Option (LOut ((List Int) × List (Gpricebill × Int)) ((List Int) × Int × (List (Gpricebill × Int))))
 | 0, _, _, _ => none
 | k0 + 1, c0_3, c0_4, c0_o0 => cond (decide (c0_4 ≤ 4)) (Option.bind (zde x0_x_PriceSheet x0_x_tariff x0_x_hours (GPriceTariff.mk x0_x_tariff.Kind x0_x_tariff.Coins x0_x_tariff.Units c0_4 x0_x_tariff.Each)) (fun r3 => Option.bind (zbp r3.1 r3.2.1 r3.2.2 c0_o0) (fun r4 => cond (roomOk 8 (List.length (c0_3 ++ [r4.1]))) (zaj x0_x_PriceSheet x0_x_tariff x0_x_hours k0 (c0_3 ++ [r4.1]) (IntKind.i64.wrap (c0_4 + 1)) r4.2) none))) (some (.go (c0_3, c0_4, c0_o0)))
def zbe (x0_x_PriceSheet : GPriceSheet) (x0_x_tariff : GPriceTariff) (x0_x_hours : List Int) (l0 : List (Gpricebill × Int)) : Option ((List Int) × List (Gpricebill × Int)) := lbind (zaj x0_x_PriceSheet x0_x_tariff x0_x_hours 1000000 ([] : List Int) 1 l0) (fun r6 => some r6) (fun c5 => some (c5.1, c5.2.2)) (fun _ _ => none)
theorem zex (x0_x_PriceSheet : GPriceSheet) (x0_x_tariff : GPriceTariff) (x0_x_hours : List Int) (l0 : List (Gpricebill × Int)) (R : (List Int) × List (Gpricebill × Int)) (h : zbe x0_x_PriceSheet x0_x_tariff x0_x_hours l0 = some R) : VUpd Tryz.prog G0 77 (fun β => [.agg [.sl (cellsL eI x0_x_PriceSheet.Offs) (List.length x0_x_PriceSheet.Offs) false, .sl (cellsL cGPriceBoard x0_x_PriceSheet.Boards) (List.length x0_x_PriceSheet.Boards) false, .sl (cellsL cGPriceTariff x0_x_PriceSheet.Tariffs) (List.length x0_x_PriceSheet.Tariffs) false, .lit (.int .i64 x0_x_tariff.Kind), .lit (.int .i64 x0_x_tariff.Coins), .lit (.int .i64 x0_x_tariff.Units), .lit (.int .i64 x0_x_tariff.Rule), .lit (.bool x0_x_tariff.Each), .sl (cellsL eI x0_x_hours) (List.length x0_x_hours) false, .mp β]]) (encM kv146 ev3 l0) (encM kv146 ev3 R.2) (fun _ => .sl (cellsL eI R.1) (List.length R.1) false) := by
 intro b0_0 nx hlt
 have q00 := zow (β := b0_0) (nx := nx) hlt
 refine VOpen.run mixed Tryz.call77 Tryz.func77 rfl (by simp [Tryz.ntmps77]; kernel_rfl) ?_
 obtain ⟨KF, h, kF, kN⟩ := zan h
 simp only [zbe] at h
 simp only [vz, mq, mqm, vsi, tyf, mqt, q00, nm, seval]
 obtain ⟨K7, h, kR7, kG7, kB7, kN7⟩ := zbx h kN
 obtain ⟨f7, hf7, h⟩ := call4 h
 obtain ⟨I7, hI7⟩ : ∃ I : Nat → St → Prop, I = (fun m st => ∃ (p7 : Nat) (c7_3 : List Int) (c7_4 : Int) (c7_o0 : List (Gpricebill × Int)) (y7_0 : VV), p7 = m ∧ st.df = [] ∧ nx + 4 ≤ st.nx ∧ st.H b0_0 = some (.map (encM kv146 ev3 c7_o0)) ∧ st.H nx = some (.cells (some 87) ((cGPriceSheet x0_x_PriceSheet) ++ (cGPriceTariff x0_x_tariff) ++ [.sl (cellsL eI x0_x_hours) (List.length x0_x_hours) false] ++ [.mp b0_0])) ∧ st.tm 1 = .ptr nx 0 ∧ st.tm 3 = y7_0 ∧ st.tm 4 = .lit (.int .i64 c7_4) ∧ ((∃ (β : Nat) (el : Option TypeId), y7_0 = .ref β 0 (List.length c7_3) 1 (List.length c7_3) ∧ β < st.nx ∧ β ≠ b0_0 ∧ β ≠ nx ∧ st.H β = some (.cells el (cellsL eI c7_3))) ∨ (y7_0 = .lit (.slice none 0 0) ∧ c7_3 = [])) ∧ K7 (f7 p7 c7_3 c7_4 c7_o0)) := ⟨_, rfl⟩
 refine loopK mixed (by kernel_rfl) I7 1000000 (by rw [hI7]; refine ⟨1000000, ([] : List Int), 1, l0, .lit (.slice none 0 0), rfl, rfl, (show nx + 4 ≤ nx + 4 by omega), ?_, ?_, ?_, ?_, ?_, Or.inr ⟨rfl, rfl⟩, h⟩ <;> first | (simp only [ua, zaq, q00, nm, seval] <;> rfl) | rfl) ?_
 rintro m ⟨tm, H, nx7, df⟩ hinv
 rw [hI7] at hinv
 obtain ⟨p7, c7_3, c7_4, c7_o0, y7_0, rfl, hdf, hn7, H8, H9, e10, e11, e12, ow7_0, h⟩ := hinv
 simp only at hdf hn7 H8 H9 e10 e11 e12 ow7_0
 have n13 := zrc (a := nx) (m := 4) (b := nx7) (by omega)
 have n14 := zow (β := b0_0) (nx := nx7) (by omega)
 subst hdf hf7
 rcases ow7_0 with ⟨b7_0, el7_0, rfl, lq16, lq17, lq18, H15⟩ | ⟨rfl, rfl⟩
 ·have q16 := zow lq16
  have q17 := ne_f lq17
  have q18 := ne_f lq18
  cases p7 with
  | zero =>
   simp only [zaj, hs, reduceCtorEq] at h
   exact absurd h kN7
  | succ p7 =>
   simp only [zaj, hs, reduceCtorEq] at h
   cases d19 : (decide (c7_4 ≤ 4))
   ·simp only [d19, hs] at h
    have b20 := And.intro q00 (And.intro n13 (And.intro n14 (And.intro H8 (And.intro H9 (And.intro q16 (And.intro H15 (And.intro q17 (And.intro q18 d19))))))))
    replace h := kG7 _ h
    try dsimp only at h
    try simp only [hs] at h
    try simp only [vz, mq, mqm, vsi, tyf, mqt, b20, e10, e11, e12, nm, seval]
    refine zbb (x := (.ref b7_0 0 (List.length c7_3) 1 (List.length c7_3))) (by first | (simp only [Tryz.results77, resV, resL, resV1, zbc, zbz, uw, cr, tyf, mqt, b20, nm, seval] <;> rfl) | rfl) ?_
    obtain rfl := kF _ h
    refine ⟨(by first | rfl | assumption | (simp only [zag, zac, b20, nm, seval] <;> rfl)), ?_⟩
    exact zalz (by first | rfl | assumption | (simp only [zag, zac, b20, nm, seval] <;> rfl)) (by first | rfl | assumption | (simp only [zag, zac, b20, nm, seval] <;> rfl)) eI_ok (fun _ => rfl)
   simp only [d19, hs] at h
   have b21 := And.intro q00 (And.intro n13 (And.intro n14 (And.intro H8 (And.intro H9 (And.intro q16 (And.intro H15 (And.intro q17 (And.intro q18 d19))))))))
   obtain ⟨r22, o23, h⟩ := optI h kN7
   try simp only [hs] at h
   simp only [vz, mq, mqm, vsi, tyf, mqt, b21, e10, e11, e12, nm, seval]
   refine kmap (β := (b0_0)) (es := encM kv146 ev3 c7_o0) (args0 := fun b => [.agg [.sl (cellsL eI x0_x_PriceSheet.Offs) (List.length x0_x_PriceSheet.Offs) false, .sl (cellsL cGPriceBoard x0_x_PriceSheet.Boards) (List.length x0_x_PriceSheet.Boards) false, .sl (cellsL cGPriceTariff x0_x_PriceSheet.Tariffs) (List.length x0_x_PriceSheet.Tariffs) false, .lit (.int .i64 x0_x_tariff.Kind), .lit (.int .i64 x0_x_tariff.Coins), .lit (.int .i64 x0_x_tariff.Units), .lit (.int .i64 x0_x_tariff.Rule), .lit (.bool x0_x_tariff.Each), .sl (cellsL eI x0_x_hours) (List.length x0_x_hours) false, .lit (.map (some b))], .agg (cGPriceTariff (GPriceTariff.mk x0_x_tariff.Kind x0_x_tariff.Coins x0_x_tariff.Units c7_4 x0_x_tariff.Each))]) (y := .agg [.sl (cellsL eI r22.1.Offs) (List.length r22.1.Offs) false, .sl (cellsL cGPriceBoard r22.1.Boards) (List.length r22.1.Boards) false, .sl (cellsL cGPriceTariff r22.1.Tariffs) (List.length r22.1.Tariffs) false, .lit (.int .i64 r22.2.1.Kind), .lit (.int .i64 r22.2.1.Coins), .lit (.int .i64 r22.2.1.Units), .lit (.int .i64 r22.2.1.Rule), .lit (.bool r22.2.1.Each), .sl (cellsL eI r22.2.2) (List.length r22.2.2) false, .mp b0_0]) (by first | rfl | assumption | (simp only [zag, zac, b21, nm, seval] <;> rfl)) (fun b => by first | rfl | (simp only [List.map_cons, List.map_nil, vlt, if_true, nrm, tynrm, @zaz, tyf, mqt] <;> rfl)) (fun b => by simp only [List.map_cons, List.map_nil, vlt, if_true, tre, tytre, tyf, mqt, Bool.and_self]) (fun b => by first | rfl | (simp only [vlt, List.map_cons, List.map_nil, if_true] <;> rfl)) (fun b => zey _ _ _ _ b _ o23) ?_
   refine zao (fun tm => tm 1 = .ptr nx 0 ∧ tm 4 = .lit (.int .i64 c7_4) ∧ tm 14 = .ref b7_0 0 (List.length c7_3) 1 (List.length c7_3) ∧ tm 17 = .agg ((cGPriceSheet r22.1) ++ (cGPriceTariff r22.2.1) ++ [.sl (cellsL eI r22.2.2) (List.length r22.2.2) false] ++ [.mp b0_0]) ∧ True) (by refine ⟨e10, e12, ?_, ?_, trivial⟩ <;> first | (simp only [ua, zaq, b21, e10, e11, e12, nm, seval] <;> rfl) | rfl) ?_
   rintro tm ⟨e24, e25, e26, e27, _⟩
   obtain ⟨r28, o29, h⟩ := optI h kN7
   try simp only [hs] at h
   simp only [vz, mq, mqm, vsi, tyf, mqt, b21, e24, e25, e26, e27, nm, seval]
   refine kupd (VUpd.at (β := b0_0) (y := (fun _ => .lit (.int .i64 r28.1))) (zcv _ _ _ _ _ o29) (by omega) (by first | rfl | assumption | (simp only [zag, zac, b21, nm, seval] <;> rfl)) (by first | rfl | (simp only [nrm, tynrm, @zaz, @zgf] <;> rfl)) (zft (fun _ => rfl) _)) ?_
   refine zge (fun tm => tm 1 = .ptr nx 0 ∧ tm 4 = .lit (.int .i64 c7_4) ∧ tm 14 = .ref b7_0 0 (List.length c7_3) 1 (List.length c7_3) ∧ tm 18 = .lit (.int .i64 r28.1) ∧ True) (by refine ⟨e24, e25, e26, ?_, trivial⟩ <;> first | (simp only [ua, zaq, b21, e24, e25, e26, e27, nm, seval] <;> rfl) | rfl) ?_
   rintro tm ⟨e30, e31, e32, e33, _⟩
   cases g34 : (roomOk 8 (List.length (c7_3 ++ [r28.1])))
   ·simp only [g34, hs] at h
    exact absurd h kN7
   simp only [g34, hs] at h
   simp only [vz, mq, mqm, vsi, tyf, mqt, b21, e30, e31, e32, e33, g34, nm, seval]
   refine k_app (w := 1) (enc := eI) (xs := c7_3) (ys := ([r28.1])) (el := el7_0) (el2 := (some 3)) (fun _ => rfl) lf22 ao22 Tryz.underlying22 (by first | rfl | assumption | (simp only [zag, zac, et22, b21, nm, seval] <;> rfl) | (simp only [zag, zac, zcz, zei, zlz, zhe, tyf, mqt, b21, e30, e31, e32, e33, g34, nm, seval]; done)) (by first | rfl | assumption | (simp only [zag, zac, et22, b21, nm, seval] <;> rfl) | (simp only [zag, zac, zcz, zei, zlz, zhe, tyf, mqt, b21, e30, e31, e32, e33, g34, nm, seval]; done)) (Nat.zero_lt_succ _) g34 ?_
   simp only [vz, mq, mqm, vsi, tyf, mqt, b21, e30, e31, e32, e33, g34, nm, seval]
   exact ⟨p7, Nat.lt_succ_self _, by rw [hI7]; refine ⟨p7, (c7_3 ++ [r28.1]), IntKind.i64.wrap (c7_4 + 1), r28.2, .ref (nx7 + 15) 0 (List.length (c7_3 ++ [r28.1])) 1 (List.length (c7_3 ++ [r28.1])), rfl, rfl, (show nx + 4 ≤ nx7 + 20 by omega), ?_, ?_, e30, ?_, ?_, Or.inl ⟨nx7 + 15, (sameEl el7_0 3), rfl, (by first | omega | (simp only [nm, seval]; omega)), (by first | omega | (intro hh; simp only [b21, reduceCtorEq] at hh)), (by first | omega | (intro hh; simp only [b21, reduceCtorEq] at hh)), ?_⟩, (by first | exact h | (simp only [b21]; exact h))⟩ <;> first | (simp only [ua, zaq, b21, e30, e31, e32, e33, nm, seval] <;> rfl) | rfl⟩
 ·cases p7 with
  | zero =>
   simp only [zaj, hs, reduceCtorEq] at h
   exact absurd h kN7
  | succ p7 =>
   simp only [zaj, hs, reduceCtorEq] at h
   cases d35 : (decide (c7_4 ≤ 4))
   ·simp only [d35, hs] at h
    replace h := kG7 _ h
    try dsimp only at h
    try simp only [hs] at h
    try simp only [vz, mq, mqm, vsi, tyf, mqt, q00, n13, n14, e10, e11, e12, H8, H9, d35, nm, seval]
    refine zbb (x := (.lit (.slice none 0 0))) (by first | (simp only [Tryz.results77, resV, resL, resV1, zbc, zbz, uw, cr, tyf, mqt, q00, n13, n14, H8, H9, d35, nm, seval] <;> rfl) | rfl) ?_
    obtain rfl := kF _ h
    refine ⟨(by first | rfl | assumption | (simp only [zag, zac, q00, n13, n14, H8, H9, nm, seval] <;> rfl)), ?_⟩
    exact sq_of zakm
   simp only [d35, hs] at h
   obtain ⟨r36, o37, h⟩ := optI h kN7
   try simp only [hs] at h
   simp only [vz, mq, mqm, vsi, tyf, mqt, q00, n13, n14, e10, e11, e12, H8, H9, d35, nm, seval]
   refine kmap (β := (b0_0)) (es := encM kv146 ev3 c7_o0) (args0 := fun b => [.agg [.sl (cellsL eI x0_x_PriceSheet.Offs) (List.length x0_x_PriceSheet.Offs) false, .sl (cellsL cGPriceBoard x0_x_PriceSheet.Boards) (List.length x0_x_PriceSheet.Boards) false, .sl (cellsL cGPriceTariff x0_x_PriceSheet.Tariffs) (List.length x0_x_PriceSheet.Tariffs) false, .lit (.int .i64 x0_x_tariff.Kind), .lit (.int .i64 x0_x_tariff.Coins), .lit (.int .i64 x0_x_tariff.Units), .lit (.int .i64 x0_x_tariff.Rule), .lit (.bool x0_x_tariff.Each), .sl (cellsL eI x0_x_hours) (List.length x0_x_hours) false, .lit (.map (some b))], .agg (cGPriceTariff (GPriceTariff.mk x0_x_tariff.Kind x0_x_tariff.Coins x0_x_tariff.Units c7_4 x0_x_tariff.Each))]) (y := .agg [.sl (cellsL eI r36.1.Offs) (List.length r36.1.Offs) false, .sl (cellsL cGPriceBoard r36.1.Boards) (List.length r36.1.Boards) false, .sl (cellsL cGPriceTariff r36.1.Tariffs) (List.length r36.1.Tariffs) false, .lit (.int .i64 r36.2.1.Kind), .lit (.int .i64 r36.2.1.Coins), .lit (.int .i64 r36.2.1.Units), .lit (.int .i64 r36.2.1.Rule), .lit (.bool r36.2.1.Each), .sl (cellsL eI r36.2.2) (List.length r36.2.2) false, .mp b0_0]) (by first | rfl | assumption | (simp only [zag, zac, q00, n13, n14, H8, H9, nm, seval] <;> rfl)) (fun b => by first | rfl | (simp only [List.map_cons, List.map_nil, vlt, if_true, nrm, tynrm, @zaz, tyf, mqt] <;> rfl)) (fun b => by simp only [List.map_cons, List.map_nil, vlt, if_true, tre, tytre, tyf, mqt, Bool.and_self]) (fun b => by first | rfl | (simp only [vlt, List.map_cons, List.map_nil, if_true] <;> rfl)) (fun b => zey _ _ _ _ b _ o37) ?_
   refine zao (fun tm => tm 1 = .ptr nx 0 ∧ tm 4 = .lit (.int .i64 c7_4) ∧ tm 14 = .lit (.slice none 0 0) ∧ tm 17 = .agg ((cGPriceSheet r36.1) ++ (cGPriceTariff r36.2.1) ++ [.sl (cellsL eI r36.2.2) (List.length r36.2.2) false] ++ [.mp b0_0]) ∧ True) (by refine ⟨e10, e12, ?_, ?_, trivial⟩ <;> first | (simp only [ua, zaq, q00, n13, n14, e10, e11, e12, H8, H9, d35, nm, seval] <;> rfl) | rfl) ?_
   rintro tm ⟨e38, e39, e40, e41, _⟩
   obtain ⟨r42, o43, h⟩ := optI h kN7
   try simp only [hs] at h
   simp only [vz, mq, mqm, vsi, tyf, mqt, q00, n13, n14, H8, H9, d35, e38, e39, e40, e41, nm, seval]
   refine kupd (VUpd.at (β := b0_0) (y := (fun _ => .lit (.int .i64 r42.1))) (zcv _ _ _ _ _ o43) (by omega) (by first | rfl | assumption | (simp only [zag, zac, q00, n13, n14, H8, H9, nm, seval] <;> rfl)) (by first | rfl | (simp only [nrm, tynrm, @zaz, @zgf] <;> rfl)) (zft (fun _ => rfl) _)) ?_
   refine zge (fun tm => tm 1 = .ptr nx 0 ∧ tm 4 = .lit (.int .i64 c7_4) ∧ tm 14 = .lit (.slice none 0 0) ∧ tm 18 = .lit (.int .i64 r42.1) ∧ True) (by refine ⟨e38, e39, e40, ?_, trivial⟩ <;> first | (simp only [ua, zaq, q00, n13, n14, H8, H9, d35, e38, e39, e40, e41, nm, seval] <;> rfl) | rfl) ?_
   rintro tm ⟨e44, e45, e46, e47, _⟩
   cases g48 : (roomOk 8 (List.length (([] : List Int) ++ [r42.1])))
   ·simp only [g48, hs] at h
    exact absurd h kN7
   simp only [g48, hs] at h
   simp only [vz, mq, mqm, vsi, tyf, mqt, q00, n13, n14, H8, H9, d35, e44, e45, e46, e47, g48, nm, seval]
   refine zahm (w := 1) (enc := eI) (ys := ([r42.1])) (el2 := (some 3)) (fun _ => rfl) lf22 ao22 Tryz.underlying22 (by first | rfl | assumption | (simp only [zag, zac, et22, q00, n13, n14, H8, H9, nm, seval] <;> rfl) | (simp only [zag, zac, zcz, zei, zlz, zhe, tyf, mqt, q00, n13, n14, H8, H9, d35, e44, e45, e46, e47, g48, nm, seval]; done)) (Nat.zero_lt_succ _) g48 ?_
   simp only [vz, mq, mqm, vsi, tyf, mqt, q00, n13, n14, H8, H9, d35, e44, e45, e46, e47, g48, nm, seval]
   exact ⟨p7, Nat.lt_succ_self _, by rw [hI7]; refine ⟨p7, (([] : List Int) ++ [r42.1]), IntKind.i64.wrap (c7_4 + 1), r42.2, .ref (nx7 + 15) 0 (List.length (([] : List Int) ++ [r42.1])) 1 (List.length (([] : List Int) ++ [r42.1])), rfl, rfl, (show nx + 4 ≤ nx7 + 20 by omega), ?_, ?_, e44, ?_, ?_, Or.inl ⟨nx7 + 15, (some 3), rfl, (by first | omega | (simp only [nm, seval]; omega)), (by first | omega | (intro hh; simp only [q00, n13, n14, reduceCtorEq] at hh)), (by first | omega | (intro hh; simp only [q00, n13, n14, reduceCtorEq] at hh)), ?_⟩, (by first | exact h | (simp only [d35]; exact h))⟩ <;> first | (simp only [ua, zaq, q00, n13, n14, H8, H9, d35, e44, e45, e46, e47, nm, seval] <;> rfl) | rfl⟩
def zed (x0_s : GPriceSheet) (x1_tariff : Int) (x2_hours : List Int) : Option ((List Int) × Int) := Option.bind (zcg x0_s) (fun r1 => cond (r1) (Option.bind (zbw x0_s x1_tariff) (fun r2 => cond (r2) (Option.bind (zbs x0_s x2_hours) (fun r3 => cond (r3) (Option.bind (getI x0_s.Tariffs x1_tariff) (fun x4 => Option.bind (zbe x0_s x4 x2_hours ([] : List (Gpricebill × Int))) (fun r5 => some (r5.1, 0)))) (some (([] : List Int), 2)))) (some (([] : List Int), 2)))) (some (([] : List Int), 2)))
theorem zhg (x0_s : GPriceSheet) (x1_tariff : Int) (x2_hours : List Int) (R : (List Int) × Int) (h : zed x0_s x1_tariff x2_hours = some R) : VPure Tryz.prog G0 34 [.agg (cGPriceSheet x0_s), .lit (.int .i64 x1_tariff), .sl (cellsL eI x2_hours) (List.length x2_hours) false] (.tree (.tup [.sl (cellsL eI R.1) (List.length R.1) false, .lit (.int .i64 R.2)])) := by
 refine VPure.runR mixed Tryz.call34 Tryz.func34 rfl (by simp [Tryz.ntmps34]; kernel_rfl) ?_
 obtain ⟨KF, h, kF, kN⟩ := zan h
 simp only [zed] at h
 try simp only [vz, mq, mqm, vsi, tyf, mqt, nm, seval]
 refine kopen ?_
 rw [zmj]
 refine VOpen.run mixed Tryz.call75 Tryz.func75 rfl (by simp [Tryz.ntmps75]; kernel_rfl) ?_
 obtain ⟨r6, o7, h⟩ := optI h kN
 try simp only [hs] at h
 simp only [vz, mq, mqm, vsi, tyf, mqt, nm, seval]
 refine ktree (args0 := [.agg (cGPriceSheet x0_s)]) (by first | (simp only [nrm, tynrm, @zaz] <;> rfl) | rfl) (by simp only [tre, tytre, mqr, Bool.and_self]) (zeo _ _ o7) ?_
 refine zao (fun tm => tm 1 = .lit (.int .i64 x1_tariff) ∧ tm 2 = .sl (cellsL eI x2_hours) (List.length x2_hours) false ∧ tm 3 = VV.fn (Fn.func 77) [] [] ∧ tm 4 = .ptr 11 0 ∧ tm 11 = .lit (.bool r6) ∧ True) (by refine ⟨?_, ?_, ?_, ?_, ?_, trivial⟩ <;> first | (simp only [ua, zaq, nm, seval] <;> rfl) | rfl) ?_
 rintro tm ⟨e8, e9, e10, e11, e12, _⟩
 cases d13 : (r6)
 ·simp only [d13, hs] at h
  try simp only [vz, mq, mqm, vsi, tyf, mqt, e8, e9, e10, e11, e12, d13, nm, seval]
  refine zbb (x := (.tup [.lit (.slice none 0 0), .lit (.int .i64 2)])) (by first | (simp only [Tryz.results75, resV, resL, resV1, zbc, zbz, uw, cr, tyf, mqt, d13, nm, seval] <;> rfl) | rfl) ?_
  try simp only [vz, mq, mqm, vsi, tyf, mqt, d13, nm, seval]
  refine zbb (x := (.tup [.lit (.slice none 0 0), .lit (.int .i64 2)])) (by first | (simp only [Tryz.results34, resV, resL, resV1, zbc, zbz, uw, cr, tyf, mqt, d13, nm, seval] <;> rfl) | rfl) ?_
  obtain rfl := kF _ h
  refine zcc ?_ ?_
  ·simp only [tre, tytre, mqr, Bool.and_self]
  ·first | (simp only [outV, uw, zay, cr, tyf, mqt, nrm, tynrm, d13, nm, seval] <;> rfl) | rfl
 simp only [d13, hs] at h
 obtain ⟨r14, o15, h⟩ := optI h kN
 try simp only [hs] at h
 simp only [vz, mq, mqm, vsi, tyf, mqt, e8, e9, e10, e11, e12, d13, nm, seval]
 refine ktree (args0 := [.agg (cGPriceSheet x0_s), .lit (.int .i64 x1_tariff)]) (by first | (simp only [nrm, tynrm, @zaz] <;> rfl) | rfl) (by simp only [tre, tytre, mqr, Bool.and_self]) (zdo _ _ _ o15) ?_
 refine zao (fun tm => tm 1 = .lit (.int .i64 x1_tariff) ∧ tm 2 = .sl (cellsL eI x2_hours) (List.length x2_hours) false ∧ tm 3 = VV.fn (Fn.func 77) [] [] ∧ tm 4 = .ptr 11 0 ∧ tm 13 = .lit (.bool false) ∧ tm 16 = .lit (.bool r14) ∧ True) (by refine ⟨e8, e9, e10, e11, ?_, ?_, trivial⟩ <;> first | (simp only [ua, zaq, e8, e9, e10, e11, e12, d13, nm, seval] <;> rfl) | rfl) ?_
 rintro tm ⟨e16, e17, e18, e19, e20, e21, _⟩
 cases d22 : (r14)
 ·simp only [d22, hs] at h
  try simp only [vz, mq, mqm, vsi, tyf, mqt, d13, e16, e17, e18, e19, e20, e21, d22, nm, seval]
  refine zbb (x := (.tup [.lit (.slice none 0 0), .lit (.int .i64 2)])) (by first | (simp only [Tryz.results75, resV, resL, resV1, zbc, zbz, uw, cr, tyf, mqt, d13, d22, nm, seval] <;> rfl) | rfl) ?_
  try simp only [vz, mq, mqm, vsi, tyf, mqt, d13, d22, nm, seval]
  refine zbb (x := (.tup [.lit (.slice none 0 0), .lit (.int .i64 2)])) (by first | (simp only [Tryz.results34, resV, resL, resV1, zbc, zbz, uw, cr, tyf, mqt, d13, d22, nm, seval] <;> rfl) | rfl) ?_
  obtain rfl := kF _ h
  refine zcc ?_ ?_
  ·simp only [tre, tytre, mqr, Bool.and_self]
  ·first | (simp only [outV, uw, zay, cr, tyf, mqt, nrm, tynrm, d13, d22, nm, seval] <;> rfl) | rfl
 simp only [d22, hs] at h
 obtain ⟨r23, o24, h⟩ := optI h kN
 try simp only [hs] at h
 simp only [vz, mq, mqm, vsi, tyf, mqt, d13, e16, e17, e18, e19, e20, e21, d22, nm, seval]
 refine ktree (args0 := [.agg (cGPriceSheet x0_s), .sl (cellsL eI x2_hours) (List.length x2_hours) false]) (by first | (simp only [nrm, tynrm, @zaz] <;> rfl) | rfl) (by simp only [tre, tytre, mqr, Bool.and_self]) (zdp _ _ _ o24) ?_
 refine zao (fun tm => tm 1 = .lit (.int .i64 x1_tariff) ∧ tm 2 = .sl (cellsL eI x2_hours) (List.length x2_hours) false ∧ tm 3 = VV.fn (Fn.func 77) [] [] ∧ tm 4 = .ptr 11 0 ∧ tm 19 = .lit (.bool false) ∧ tm 22 = .lit (.bool r23) ∧ True) (by refine ⟨e16, e17, e18, e19, ?_, ?_, trivial⟩ <;> first | (simp only [ua, zaq, d13, e16, e17, e18, e19, e20, e21, d22, nm, seval] <;> rfl) | rfl) ?_
 rintro tm ⟨e25, e26, e27, e28, e29, e30, _⟩
 cases d31 : (r23)
 ·simp only [d31, hs] at h
  try simp only [vz, mq, mqm, vsi, tyf, mqt, d13, d22, e25, e26, e27, e28, e29, e30, d31, nm, seval]
  refine zbb (x := (.tup [.lit (.slice none 0 0), .lit (.int .i64 2)])) (by first | (simp only [Tryz.results75, resV, resL, resV1, zbc, zbz, uw, cr, tyf, mqt, d13, d22, d31, nm, seval] <;> rfl) | rfl) ?_
  try simp only [vz, mq, mqm, vsi, tyf, mqt, d13, d22, d31, nm, seval]
  refine zbb (x := (.tup [.lit (.slice none 0 0), .lit (.int .i64 2)])) (by first | (simp only [Tryz.results34, resV, resL, resV1, zbc, zbz, uw, cr, tyf, mqt, d13, d22, d31, nm, seval] <;> rfl) | rfl) ?_
  obtain rfl := kF _ h
  refine zcc ?_ ?_
  ·simp only [tre, tytre, mqr, Bool.and_self]
  ·first | (simp only [outV, uw, zay, cr, tyf, mqt, nrm, tynrm, d13, d22, d31, nm, seval] <;> rfl) | rfl
 simp only [d31, hs] at h
 try simp only [vz, mq, mqm, vsi, tyf, mqt, d13, d22, e25, e26, e27, e28, e29, e30, d31, nm, seval]
 refine kopen ?_
 rw [zmj]
 refine VOpen.run mixed Tryz.call66 Tryz.func66 rfl (by simp [Tryz.ntmps66]; kernel_rfl) ?_
 simp only [vz, mq, mqm, vsi, tyf, mqt, d13, d22, d31, nm, seval]
 refine zfq (fun tm => tm 1 = .lit (.int .i64 x1_tariff) ∧ tm 2 = .sl (cellsL eI x2_hours) (List.length x2_hours) false ∧ tm 3 = .ptr 37 0 ∧ tm 6 = .ptr 38 0 ∧ True) (by refine ⟨?_, ?_, ?_, ?_, trivial⟩ <;> first | (simp only [ua, zaq, d13, d22, d31, nm, seval] <;> rfl) | rfl) ?_
 rintro tm ⟨e32, e33, e34, e35, _⟩
 obtain ⟨x36, o37, h⟩ := optI h kN
 try simp only [hs] at h
 simp only [vz, mq, mqm, vsi, tyf, mqt, d13, d22, d31, e32, e33, e34, e35, (ix24 o37), nm, seval]
 refine zgp ⟨?_, ?_⟩
 ·simp only [zen, zfx, zcf, zib, and_true, true_and]
  repeat' (first | exact trivial | refine And.intro ?_ ?_ | rw [zcf] | rw [zgr] | exact Or.inl (by decide +kernel) | exact Or.inl (by dsimp only; decide +kernel) | (refine Or.inr ⟨?_, ?_⟩ <;> simp; done) | (refine Or.inr ⟨?_, ?_⟩ <;> simp <;> omega) | (refine Or.inr ⟨?_, ?_⟩ <;> simp [VEff.wr] <;> omega))
 try simp only [vz, mq, mqm, vsi, tyf, mqt, d13, d22, d31, e32, e33, e34, e35, (ix24 o37), nm, seval]
 refine zbb (x := (.agg ((cGPriceSheet x0_s) ++ (cGPriceTariff x36) ++ [.sl (cellsL eI x2_hours) (List.length x2_hours) false] ++ [.mp 46]))) (by first | (simp only [Tryz.results66, resV, resL, resV1, zbc, zbz, uw, cr, tyf, mqt, d13, d22, d31, e32, e33, e34, e35, (ix24 o37), nm, seval] <;> rfl) | rfl) ?_
 obtain ⟨r38, o39, h⟩ := optI h kN
 try simp only [hs] at h
 simp only [vz, mq, mqm, vsi, tyf, mqt, d13, d22, d31, (ix24 o37), e25, e26, e27, e28, e29, e30, nm, seval]
 refine kupd (VUpd.at (β := 46) (y := (fun _ => .sl (cellsL eI r38.1) (List.length r38.1) false)) (zex _ _ _ _ _ o39) (by omega) (by first | rfl | assumption | (simp only [zag, zac, nm, seval] <;> rfl)) (by first | rfl | (simp only [nrm, tynrm, @zaz, @zgf] <;> rfl)) (zft (fun _ => rfl) _)) ?_
 refine zge (fun tm => tm 30 = .sl (cellsL eI r38.1) (List.length r38.1) false ∧ True) (by refine ⟨?_, trivial⟩ <;> first | (simp only [ua, zaq, d13, d22, d31, e25, e26, e27, e28, e29, e30, nm, seval] <;> rfl) | rfl) ?_
 rintro tm ⟨e40, _⟩
 try simp only [vz, mq, mqm, vsi, tyf, mqt, d13, d22, d31, (ix24 o37), e40, nm, seval]
 refine zbb (x := (.tup [.sl (cellsL eI r38.1) (List.length r38.1) false, .lit (.int .i64 0)])) (by first | (simp only [Tryz.results75, resV, resL, resV1, zbc, zbz, uw, cr, tyf, mqt, d13, d22, d31, (ix24 o37), nm, seval] <;> rfl) | rfl) ?_
 try simp only [vz, mq, mqm, vsi, tyf, mqt, d13, d22, d31, (ix24 o37), nm, seval]
 refine zbb (x := (.tup [.sl (cellsL eI r38.1) (List.length r38.1) false, .lit (.int .i64 0)])) (by first | (simp only [Tryz.results34, resV, resL, resV1, zbc, zbz, uw, cr, tyf, mqt, d13, d22, d31, (ix24 o37), nm, seval] <;> rfl) | rfl) ?_
 obtain rfl := kF _ h
 refine zcc ?_ ?_
 ·simp only [tre, tytre, mqr, Bool.and_self]
 ·first | (simp only [outV, uw, zay, cr, tyf, mqt, nrm, tynrm, d13, d22, d31, (ix24 o37), nm, seval] <;> rfl) | rfl



end Go.V
end
section
namespace Go.V
open Go
def withR (t : GPriceTariff) (r : Int) : GPriceTariff := ⟨t.Kind, t.Coins, t.Units, r, t.Each⟩
theorem TOk.withR {t : GPriceTariff} (h : TOk t) {r : Int} (h1 : 1 ≤ r) (h2 : r ≤ 4) : TOk (withR t r) := ⟨h.k, h.c, h.u, h1, h2⟩
theorem zjc {s : GPriceSheet} {t : GPriceTariff} (ot : TOk t) {hs : List Int} (hf : Fit s.Boards hs) {r : Int} (h1 : 1 ≤ r) (h2 : r ≤ 4) (k : Nat) {acc : List Int} (hn : acc.length ≤ 10) {l : List (Gpricebill × Int)} (hl : InvM l) :
  ∃ l', zaj s t hs (k + 1) acc r l = zaj s t hs k (acc ++ [paidP (withR t r) s.Boards hs]) (r + 1) l' ∧ InvM l' := by
 obtain ⟨l1, e1, hl1⟩ := zafy (s := s) (ot.withR h1 h2) hf hl
 refine ⟨l1, ?_, hl1⟩
 simp only [zaj, decide_eq_true h2, cond_true, zde, Option.bind_some]
 rw [show GPriceTariff.mk t.Kind t.Coins t.Units r t.Each = withR t r from rfl, e1]
 simp only [Option.bind_some]
 rw [zoo (by simp; omega), cond_true, zch (by omega) (by omega)]
def rulesP (t : GPriceTariff) (bs : List GPriceBoard) (hs : List Int) : List Int := [paidP (withR t 1) bs hs, paidP (withR t 2) bs hs, paidP (withR t 3) bs hs, paidP (withR t 4) bs hs]
theorem zxx {s : GPriceSheet} {t : GPriceTariff} (ot : TOk t) {hs : List Int} (hf : Fit s.Boards hs) : ∃ l', zbe s t hs [] = some (rulesP t s.Boards hs, l') := by
 unfold zbe
 obtain ⟨l1, e1, h1⟩ := zjc (s := s) ot hf (r := 1) (by omega) (by omega) (999999) (acc := []) (by simp) InvM.nil
 obtain ⟨l2, e2, h2⟩ := zjc (s := s) ot hf (r := 2) (by omega) (by omega) (999998) (acc := [paidP (withR t 1) s.Boards hs]) (by simp) h1
 obtain ⟨l3, e3, h3⟩ := zjc (s := s) ot hf (r := 3) (by omega) (by omega) (999997) (acc := [paidP (withR t 1) s.Boards hs, paidP (withR t 2) s.Boards hs]) (by simp) h2
 obtain ⟨l4, e4, h4⟩ := zjc (s := s) ot hf (r := 4) (by omega) (by omega) (999996) (acc := [paidP (withR t 1) s.Boards hs, paidP (withR t 2) s.Boards hs, paidP (withR t 3) s.Boards hs]) (by simp) h3
 rw [show (1000000 : Nat) = 999999 + 1 from rfl, e1]
 simp only [List.nil_append, show (1 : Int) + 1 = 2 from rfl]
 rw [show (999999 : Nat) = 999998 + 1 from rfl, e2]
 simp only [List.cons_append, List.nil_append, show (2 : Int) + 1 = 3 from rfl]
 rw [show (999998 : Nat) = 999997 + 1 from rfl, e3]
 simp only [List.cons_append, List.nil_append, show (3 : Int) + 1 = 4 from rfl]
 rw [show (999997 : Nat) = 999996 + 1 from rfl, e4]
 simp only [List.cons_append, List.nil_append, show (4 : Int) + 1 = 5 from rfl]
 rw [show (999996 : Nat) = 999995 + 1 from rfl]
 exact ⟨l4, rfl⟩
theorem zabe {s : GPriceSheet} {n : Int} {hs : List Int} (a : Asked s n hs) {t : GPriceTariff} (ht : getI s.Tariffs n = some t) (hk : TOk t) : zed s n hs = some (rulesP t s.Boards hs, 0) := by
 unfold zed
 obtain ⟨l, e⟩ := zxx (s := s) hk (zacx a.sheet a.hrs)
 rw [zmd a.ok, a.sheet, zhi a.ok, a.tar, zhd a.ok, a.hrs]
 simp only [Option.bind_some, cond_true, ht, e]
theorem Frozen.agg3 {H : Nat → Option VObj} {γ n w cp : Nat} {el : Option TypeId} {cs : List VV} {x y : VV} (hx : x.tree = true) (hy : y.tree = true) (hγ : H γ = some (.cells el cs)) (ht : treeL cs = true) (hl : cs.length = n * w) :
  Frozen H (without H γ) (.agg [x, y, .ref γ 0 n w cp]) (.agg [x, y, .sl cs n false]) := by
 refine .inr (.inr ⟨cs.length + 6, ?_⟩)
 have hg : gone H (without H γ) γ = some (.cells el cs) := by simp [gone, without, hγ]
 have h0 : (VV.agg [x, y, .ref γ 0 n w cp]).tree = false := by simp [VV.tree, treeL]
 have h1 : sealV (gone H (without H γ)) (cs.length + 2) (.ref γ 0 n w cp) = some (.sl cs n false) := by
  unfold sealV
  have : (VV.ref γ 0 n w cp).tree = false := rfl
  rw [this]
  simp only [Bool.false_eq_true, if_false, hg, Nat.zero_le, if_true, List.drop_zero]
  rw [List.take_of_length_le (by omega), zko cs _ ht (by omega)]
  rfl
 unfold sealV
 rw [h0]
 simp only [Bool.false_eq_true, if_false]
 show (sealL _ (cs.length + 4 + 1) _).map _ = _
 unfold sealL
 rw [show cs.length + 4 = (cs.length + 3) + 1 from rfl, zrf hx]
 unfold sealL
 rw [show cs.length + 3 = (cs.length + 2) + 1 from rfl, zrf hy]
 unfold sealL
 rw [h1]
 rfl
end Go.V
end
section
namespace Go.V
open Go Go.Proofs
def zas (r3 : Int × Int) : List Int → Int → Int → Option (LOut (Bool) (Int))
 | [], c1_25, c1_24 => some (.go c1_24)
 | e1 :: p1, c1_25, c1_24 => cond (decide (e1 < 0)) (some (.ret false)) (cond (decide (e1 > r3.1)) (some (.ret false)) (zas r3 p1 (c1_25 + 1) (IntKind.i64.wrap (c1_24 + e1))))
def zar (r3 : Int × Int) : List Int → Int → Int → Option (LOut (Bool) (Int))
 | [], c0_25, c0_24 => some (.go c0_24)
 | e0 :: p0, c0_25, c0_24 => cond (decide (e0 < 0)) (some (.ret false)) (cond (decide (e0 > r3.1)) (some (.ret false)) (zar r3 p0 (c0_25 + 1) (IntKind.i64.wrap (c0_24 + e0))))
def zdm (x0_s : GPriceSheet) (x1_a1 : Int) (x2_a2 : List Int) : Option (Bool) := Option.bind (zee x0_s x1_a1 x2_a2) (fun r1 => cond (r1) (Option.bind (zed x0_s x1_a1 x2_a2) (fun r2 => Option.bind (zev x0_s x1_a1 x2_a2) (fun r3 => Option.bind (zfb x0_s x1_a1 x2_a2) (fun r4 => cond (neB x0_s.Tariffs) (cond (roomOk 40 (List.length ([] ++ x0_s.Tariffs))) (Option.bind (getI x0_s.Tariffs x1_a1) (fun x5 => Option.bind (getI ([] ++ x0_s.Tariffs) x1_a1) (fun x6 => Option.bind (zed (GPriceSheet.mk x0_s.Offs x0_s.Boards (List.set ([] ++ x0_s.Tariffs) (Int.toNat x1_a1) (GPriceTariff.mk x6.Kind x6.Coins x6.Units x6.Rule (!x5.Each)))) x1_a1 x2_a2) (fun r7 => cond (r2.2 != 0) (some false) (cond (r3.2 != 0) (some false) (cond (r4.2 != 0) (some false) (cond (r7.2 != 0) (some false) (cond ((List.length r2.1 : Int) != 4) (some false) (cond ((List.length r7.1 : Int) != 4) (some false) (cond ((List.length r4.1 : Int) != (List.length x0_s.Boards : Int)) (some false) (cond (x5.Each) (Option.bind (getI r2.1 0) (fun x8 => Option.bind (getI r2.1 1) (fun x9 => Option.bind (getI r2.1 2) (fun x10 => Option.bind (getI r2.1 3) (fun x11 => Option.bind (getI r2.1 (IntKind.i64.wrap (x5.Rule - 1))) (fun x12 => cond (r3.1 != x12) (some false) (cond (decide (x8 < 0)) (some false) (cond (decide (x8 > x11)) (some false) (cond (decide (x11 > x10)) (some false) (cond (decide (x10 > x9)) (some false) (cond (decide (x9 > 1000000)) (some false) (cond (decide ((IntKind.i64.wrap (x9 - x8)) > (List.length x0_s.Boards : Int))) (some false) (cond ((x5.Units != 0)) (cond ((Int.tmod x5.Coins x5.Units) == 0) (cond (x8 != x9) (some false) (Option.bind (getI r7.1 0) (fun x13 => cond (decide (x8 > x13)) (some false) (Option.bind (getI r7.1 1) (fun x14 => cond (decide (x9 < x14)) (some false) (cond (lenOk r4.1) (lbind (zar r3 r4.1 0 0) (fun r16 => some r16) (fun c15 => cond (c15 == r3.1) (some true) (some false)) (fun _ _ => none)) none)))))) (Option.bind (getI r7.1 0) (fun x17 => cond (decide (x8 > x17)) (some false) (Option.bind (getI r7.1 1) (fun x18 => cond (decide (x9 < x18)) (some false) (cond (lenOk r4.1) (lbind (zas r3 r4.1 0 0) (fun r20 => some r20) (fun c19 => cond (c19 == r3.1) (some true) (some false)) (fun _ _ => none)) none)))))) none))))))))))))) (Option.bind (getI r2.1 0) (fun x21 => Option.bind (getI r2.1 1) (fun x22 => Option.bind (getI r2.1 2) (fun x23 => Option.bind (getI r2.1 3) (fun x24 => Option.bind (getI r2.1 (IntKind.i64.wrap (x5.Rule - 1))) (fun x25 => cond (r3.1 != x25) (some false) (cond (decide (x21 < 0)) (some false) (cond (decide (x21 > x24)) (some false) (cond (decide (x24 > x23)) (some false) (cond (decide (x23 > x22)) (some false) (cond (decide (x22 > 1000000)) (some false) (cond (decide ((IntKind.i64.wrap (x22 - x21)) > 1)) (some false) (cond ((x5.Units != 0)) (cond ((Int.tmod x5.Coins x5.Units) == 0) (cond (x21 != x22) (some false) (Option.bind (getI r7.1 0) (fun x26 => cond (decide (x26 > x21)) (some false) (Option.bind (getI r7.1 1) (fun x27 => cond (decide (x27 < x22)) (some false) (some true)))))) (Option.bind (getI r7.1 0) (fun x28 => cond (decide (x28 > x21)) (some false) (Option.bind (getI r7.1 1) (fun x29 => cond (decide (x29 < x22)) (some false) (some true)))))) none)))))))))))))))))))))))) none) none)))) (some true))
theorem zhx (x0_s : GPriceSheet) (x1_a1 : Int) (x2_a2 : List Int) (R : Bool) (h : zdm x0_s x1_a1 x2_a2 = some R) : VPure Tryz.prog G0 6 [.agg (cGPriceSheet x0_s), .lit (.int .i64 x1_a1), .sl (cellsL eI x2_a2) (List.length x2_a2) false] (.tree (.lit (.bool R))) := by
 refine VPure.runR mixed Tryz.call6 Tryz.func6 rfl (by simp [Tryz.ntmps6]; kernel_rfl) ?_
 obtain ⟨KF, h, kF, kN⟩ := zan h
 simp only [zdm] at h
 obtain ⟨r30, o31, h⟩ := optI h kN
 try simp only [hs] at h
 simp only [vz, qr, tyf, nm, seval]
 refine ktA (zlx _ _ _ _ o31) ?_
 refine zao (fun tm => tm 1 = .lit (.int .i64 x1_a1) ∧ tm 2 = .sl (cellsL eI x2_a2) (List.length x2_a2) false ∧ tm 3 = .ptr 0 0 ∧ tm 29 = .lit (.bool r30) ∧ True) (by refine ⟨?_, ?_, ?_, ?_, trivial⟩ <;> first | (simp only [ua, nm, seval] <;> rfl) | rfl) ?_
 rintro tm ⟨e32, e33, e34, e35, _⟩
 cases d36 : (r30)
 ·simp only [d36, hs] at h
  simp only [vz, qr, tyf, e32, e33, e34, e35, d36, nm, seval]
  refine ktree0 zdk ?_
  try simp only [vz, qr, tyf, e32, e33, e34, e35, d36, nm, seval]
  obtain rfl := kF _ h
  exact zad Tryz.results6 rfl
 simp only [d36, hs] at h
 obtain ⟨r37, o38, h⟩ := optI h kN
 try simp only [hs] at h
 simp only [vz, qr, tyf, e32, e33, e34, e35, d36, nm, seval]
 refine ktA (zhg _ _ _ _ o38) ?_
 refine zao (fun tm => tm 1 = .lit (.int .i64 x1_a1) ∧ tm 2 = .sl (cellsL eI x2_a2) (List.length x2_a2) false ∧ tm 3 = .ptr 0 0 ∧ tm 36 = .tup [.sl (cellsL eI r37.1) (List.length r37.1) false, .lit (.int .i64 r37.2)] ∧ True) (by refine ⟨e32, e33, e34, ?_, trivial⟩ <;> first | (simp only [ua, e32, e33, e34, e35, d36, nm, seval] <;> rfl) | rfl) ?_
 rintro tm ⟨e39, e40, e41, e42, _⟩
 obtain ⟨r43, o44, h⟩ := optI h kN
 try simp only [hs] at h
 simp only [vz, qr, tyf, d36, e39, e40, e41, e42, nm, seval]
 refine ktA (zml _ _ _ _ o44) ?_
 refine zao (fun tm => tm 1 = .lit (.int .i64 x1_a1) ∧ tm 2 = .sl (cellsL eI x2_a2) (List.length x2_a2) false ∧ tm 3 = .ptr 0 0 ∧ tm 7 = .sl (cellsL eI r37.1) (List.length r37.1) false ∧ tm 8 = .lit (.int .i64 r37.2) ∧ tm 43 = .tup [.lit (.int .i64 r43.1), .lit (.int .i64 r43.2)] ∧ True) (by refine ⟨e39, e40, e41, ?_, ?_, ?_, trivial⟩ <;> first | (simp only [ua, d36, e39, e40, e41, e42, nm, seval] <;> rfl) | rfl) ?_
 rintro tm ⟨e45, e46, e47, e48, e49, e50, _⟩
 obtain ⟨r51, o52, h⟩ := optI h kN
 try simp only [hs] at h
 simp only [vz, qr, tyf, d36, e45, e46, e47, e48, e49, e50, nm, seval]
 refine ktA (zll _ _ _ _ o52) ?_
 refine zao (fun tm => tm 1 = .lit (.int .i64 x1_a1) ∧ tm 2 = .sl (cellsL eI x2_a2) (List.length x2_a2) false ∧ tm 3 = .ptr 0 0 ∧ tm 7 = .sl (cellsL eI r37.1) (List.length r37.1) false ∧ tm 8 = .lit (.int .i64 r37.2) ∧ tm 9 = .lit (.int .i64 r43.1) ∧ tm 10 = .lit (.int .i64 r43.2) ∧ tm 50 = .tup [.sl (cellsL eI r51.1) (List.length r51.1) false, .lit (.int .i64 r51.2)] ∧ True) (by refine ⟨e45, e46, e47, e48, e49, ?_, ?_, ?_, trivial⟩ <;> first | (simp only [ua, d36, e45, e46, e47, e48, e49, e50, nm, seval] <;> rfl) | rfl) ?_
 rintro tm ⟨e53, e54, e55, e56, e57, e58, e59, e60, _⟩
 cases g61 : (neB x0_s.Tariffs)
 ·simp only [g61, hs] at h
  exact absurd h kN
 simp only [g61, hs] at h
 cases g62 : (roomOk 40 (List.length ([] ++ x0_s.Tariffs)))
 ·simp only [g62, hs] at h
  exact absurd h kN
 simp only [g62, hs] at h
 simp only [vz, qr, tyf, d36, e53, e54, e55, e56, e57, e58, e59, e60, g61, g62, nm, seval]
 refine zaky (w := 5) (enc := cGPriceTariff) (ys := x0_s.Tariffs) (fun _ => rfl) lf24 ao24 Tryz.underlying24 g61 g62 ?_
 simp only [vz, qr, tyf, d36, e53, e54, e55, e56, e57, e58, e59, e60, g61, g62, nm, seval]
 refine zfq (fun tm => tm 1 = .lit (.int .i64 x1_a1) ∧ tm 2 = .sl (cellsL eI x2_a2) (List.length x2_a2) false ∧ tm 3 = .ptr 0 0 ∧ tm 7 = .sl (cellsL eI r37.1) (List.length r37.1) false ∧ tm 8 = .lit (.int .i64 r37.2) ∧ tm 9 = .lit (.int .i64 r43.1) ∧ tm 10 = .lit (.int .i64 r43.2) ∧ tm 11 = .sl (cellsL eI r51.1) (List.length r51.1) false ∧ tm 12 = .lit (.int .i64 r51.2) ∧ tm 13 = .ptr 35 0 ∧ True) (by refine ⟨e53, e54, e55, e56, e57, e58, e59, ?_, ?_, ?_, trivial⟩ <;> first | (simp only [ua, d36, e53, e54, e55, e56, e57, e58, e59, e60, nm, seval] <;> rfl) | rfl) ?_
 rintro tm ⟨e63, e64, e65, e66, e67, e68, e69, e70, e71, e72, _⟩
 obtain ⟨x73, o74, h⟩ := optI h kN
 try simp only [hs] at h
 obtain ⟨x75, o76, h⟩ := optI h kN
 try simp only [hs] at h
 have w77 := setAF (w := 5) (enc := cGPriceTariff) 4 1 (fun _ => rfl) (by decide) o76
 have w78 := setBF (w := 5) (enc := cGPriceTariff) 4 [.lit (.bool (!x73.Each))] (GPriceTariff.mk x75.Kind x75.Coins x75.Units x75.Rule (!x73.Each)) (fun _ => rfl) (by simp) o76 rfl
 simp only [vz, qr, tyf, nm, seval] at w78
 have w79 := setC (w := 5) (enc := cGPriceTariff) ([] ++ x0_s.Tariffs) (Int.toNat x1_a1) (GPriceTariff.mk x75.Kind x75.Coins x75.Units x75.Rule (!x73.Each)) (fun _ => rfl)
 simp only [vz, qr, tyf, d36, g61, g62, e63, e64, e65, e66, e67, e68, e69, e70, e71, e72, (ix24 o74), (ixo24 o76), w77, w78, w79, nm, seval]
 refine zgp ⟨?_, ?_⟩
 ·simp only [zen, zfx, zcf, zib, and_true, true_and]
  repeat' (first | exact trivial | refine And.intro ?_ ?_ | rw [zcf] | rw [zgr] | exact Or.inl (by decide +kernel) | exact Or.inl (by dsimp only; decide +kernel) | (refine Or.inr ⟨?_, ?_⟩ <;> simp; done) | (refine Or.inr ⟨?_, ?_⟩ <;> simp <;> omega) | (refine Or.inr ⟨?_, ?_⟩ <;> simp [VEff.wr] <;> omega))
 obtain ⟨r80, o81, h⟩ := optI h kN
 try simp only [hs] at h
 simp only [vz, qr, tyf, d36, g61, g62, e63, e64, e65, e66, e67, e68, e69, e70, e71, e72, (ix24 o74), (ixo24 o76), w77, w78, w79, nm, seval]
 refine kfreeze (g := 39) (el := some 42) (cs := cellsL cGPriceTariff (List.set ([] ++ x0_s.Tariffs) (Int.toNat x1_a1) (GPriceTariff.mk x75.Kind x75.Coins x75.Units x75.Rule (!x73.Each)))) (args' := [.agg [.sl (cellsL eI x0_s.Offs) (List.length x0_s.Offs) false, .sl (cellsL cGPriceBoard x0_s.Boards) (List.length x0_s.Boards) false, .sl (cellsL cGPriceTariff (List.set ([] ++ x0_s.Tariffs) (Int.toNat x1_a1) (GPriceTariff.mk x75.Kind x75.Coins x75.Units x75.Rule (!x73.Each)))) (List.length ([] ++ x0_s.Tariffs)) false], .lit (.int .i64 x1_a1), .sl (cellsL eI x2_a2) (List.length x2_a2) false]) (args0 := [.agg (cGPriceSheet (GPriceSheet.mk x0_s.Offs x0_s.Boards (List.set ([] ++ x0_s.Tariffs) (Int.toNat x1_a1) (GPriceTariff.mk x75.Kind x75.Coins x75.Units x75.Rule (!x73.Each))))), .lit (.int .i64 x1_a1), .sl (cellsL eI x2_a2) (List.length x2_a2) false]) (by simp only [zag, zac, nm, seval] <;> rfl) ⟨Frozen.agg3 (x := .sl (cellsL eI x0_s.Offs) (List.length x0_s.Offs) false) (y := .sl (cellsL cGPriceBoard x0_s.Boards) (List.length x0_s.Boards) false) (by simp only [tre, tytre, Bool.and_self]) (by simp only [tre, tytre, Bool.and_self]) (by simp only [zag, zac, nm, seval] <;> rfl) (zab.treeL _) (by rw [zbh (w := 5) (enc := cGPriceTariff) (fun _ => rfl), List.length_set]), .same, .same, trivial⟩ (by simp only [cr, tyf, nrm, tynrm, List.length_set, nm, seval] <;> rfl) (by simp only [tre, tytre, zab.treeL, Bool.and_self]) (zhg _ _ _ _ o81) ?_
 refine zao (fun tm => tm 1 = .lit (.int .i64 x1_a1) ∧ tm 3 = .ptr 0 0 ∧ tm 7 = .sl (cellsL eI r37.1) (List.length r37.1) false ∧ tm 8 = .lit (.int .i64 r37.2) ∧ tm 9 = .lit (.int .i64 r43.1) ∧ tm 10 = .lit (.int .i64 r43.2) ∧ tm 11 = .sl (cellsL eI r51.1) (List.length r51.1) false ∧ tm 12 = .lit (.int .i64 r51.2) ∧ tm 74 = .tup [.sl (cellsL eI r80.1) (List.length r80.1) false, .lit (.int .i64 r80.2)] ∧ True) (by refine ⟨e63, e65, e66, e67, e68, e69, e70, e71, ?_, trivial⟩ <;> first | (simp only [ua, d36, e63, e64, e65, e66, e67, e68, e69, e70, e71, e72, w77, w78, w79, nm, seval] <;> rfl) | rfl) ?_
 rintro tm ⟨e82, e83, e84, e85, e86, e87, e88, e89, e90, _⟩
 cases d91 : (r37.2 != 0)
 ·simp only [d91, hs] at h
  have b92 := And.intro d36 (And.intro g61 (And.intro g62 (And.intro w77 (And.intro w78 (And.intro w79 d91)))))
  cases d93 : (r43.2 != 0)
  ·simp only [d93, hs] at h
   cases d94 : (r51.2 != 0)
   ·simp only [d94, hs] at h
    cases d95 : (r80.2 != 0)
    ·simp only [d95, hs] at h
     cases d96 : ((List.length r37.1 : Int) != 4)
     ·simp only [d96, hs] at h
      cases d97 : ((List.length r80.1 : Int) != 4)
      ·simp only [d97, hs] at h
       cases d98 : ((List.length r51.1 : Int) != (List.length x0_s.Boards : Int))
       ·simp only [d98, hs] at h
        have b99 := And.intro b92 (And.intro d93 (And.intro d94 (And.intro d95 (And.intro d96 (And.intro d97 d98)))))
        cases d100 : (x73.Each)
        ·simp only [d100, hs] at h
         simp only [vz, qr, tyf, b99, (ix24 o74), (ixo24 o76), e82, e83, e84, e85, e86, e87, e88, e89, e90, d100, nm, seval]
         refine zgl (fun tm => tm 7 = .sl (cellsL eI r37.1) (List.length r37.1) false ∧ tm 9 = .lit (.int .i64 r43.1) ∧ tm 11 = .sl (cellsL eI r51.1) (List.length r51.1) false ∧ tm 14 = .sl (cellsL eI r80.1) (List.length r80.1) false ∧ tm 16 = .ptr 101 0 ∧ tm 17 = .lit (.int .i64 1) ∧ True) (by refine ⟨e84, e86, e88, ?_, ?_, ?_, trivial⟩ <;> first | (simp only [ua, b99, e82, e83, e84, e85, e86, e87, e88, e89, e90, d100, nm, seval] <;> rfl) | rfl | (simp only [ua, tyf, b99, e82, e83, e84, e85, e86, e87, e88, e89, e90, d100, nm, seval] <;> rfl)) ?_
         rintro tm ⟨e101, e102, e103, e104, e105, e106, _⟩
         obtain ⟨x107, o108, h⟩ := optI h kN
         try simp only [hs] at h
         obtain ⟨x109, o110, h⟩ := optI h kN
         try simp only [hs] at h
         obtain ⟨x111, o112, h⟩ := optI h kN
         try simp only [hs] at h
         obtain ⟨x113, o114, h⟩ := optI h kN
         try simp only [hs] at h
         obtain ⟨x115, o116, h⟩ := optI h kN
         try simp only [hs] at h
         cases d117 : (r43.1 != x115)
         ·simp only [d117, hs] at h
          cases d118 : (decide (x107 < 0))
          ·simp only [d118, hs] at h
           cases d119 : (decide (x107 > x113))
           ·simp only [d119, hs] at h
            cases d120 : (decide (x113 > x111))
            ·simp only [d120, hs] at h
             cases d121 : (decide (x111 > x109))
             ·simp only [d121, hs] at h
              have b122 := And.intro b99 (And.intro d100 (And.intro d117 (And.intro d118 (And.intro d119 (And.intro d120 d121)))))
              cases d123 : (decide (x109 > 1000000))
              ·simp only [d123, hs] at h
               cases d124 : (decide ((IntKind.i64.wrap (x109 - x107)) > 1))
               ·simp only [d124, hs] at h
                cases g125 : ((x73.Units != 0))
                ·simp only [g125, hs] at h
                 exact absurd h kN
                simp only [g125, hs] at h
                cases d126 : ((Int.tmod x73.Coins x73.Units) == 0)
                ·simp only [d126, hs] at h
                 simp only [vz, qr, tyf, b122, (ix24 o74), (ixo24 o76), e101, e102, e103, e104, e105, e106, (ix22 o108), (ix22 o110), (ix22 o112), (ix22 o114), (ix22 o116), d123, d124, g125, d126, nm, seval]
                 refine zgl (fun tm => tm 9 = .lit (.int .i64 r43.1) ∧ tm 11 = .sl (cellsL eI r51.1) (List.length r51.1) false ∧ tm 16 = .ptr 101 0 ∧ tm 22 = .sl (cellsL eI r80.1) (List.length r80.1) false ∧ tm 23 = .sl (cellsL eI r37.1) (List.length r37.1) false ∧ True) (by refine ⟨e102, e103, e105, ?_, ?_, trivial⟩ <;> first | (simp only [ua, b122, e101, e102, e103, e104, e105, e106, d123, d124, d126, nm, seval] <;> rfl) | rfl | (simp only [ua, tyf, b122, e101, e102, e103, e104, e105, e106, d123, d124, d126, nm, seval] <;> rfl)) ?_
                 rintro tm ⟨e127, e128, e129, e130, e131, _⟩
                 obtain ⟨x132, o133, h⟩ := optI h kN
                 try simp only [hs] at h
                 cases d134 : (decide (x132 > x107))
                 ·simp only [d134, hs] at h
                  obtain ⟨x135, o136, h⟩ := optI h kN
                  try simp only [hs] at h
                  cases d137 : (decide (x135 < x109))
                  ·simp only [d137, hs] at h
                   have b138 := And.intro b122 (And.intro d123 (And.intro d124 (And.intro g125 (And.intro d126 (And.intro d134 d137)))))
                   simp only [vz, qr, tyf, b138, (ix24 o74), (ixo24 o76), (ix22 o108), (ix22 o110), (ix22 o112), (ix22 o114), (ix22 o116), e127, e128, e129, e130, e131, (ix22 o133), (ix22 o136), nm, seval]
                   refine ktree0 zdk ?_
                   try simp only [vz, qr, tyf, b138, (ix24 o74), (ixo24 o76), (ix22 o108), (ix22 o110), (ix22 o112), (ix22 o114), (ix22 o116), e127, e128, e129, e130, e131, (ix22 o133), (ix22 o136), nm, seval]
                   obtain rfl := kF _ h
                   exact zad Tryz.results6 rfl
                  simp only [d137, hs] at h
                  have b139 := And.intro b122 (And.intro d123 (And.intro d124 (And.intro g125 (And.intro d126 (And.intro d134 d137)))))
                  try simp only [vz, qr, tyf, b139, (ix24 o74), (ixo24 o76), (ix22 o108), (ix22 o110), (ix22 o112), (ix22 o114), (ix22 o116), e127, e128, e129, e130, e131, (ix22 o133), (ix22 o136), nm, seval]
                  obtain rfl := kF _ h
                  exact zad Tryz.results6 rfl
                 simp only [d134, hs] at h
                 try simp only [vz, qr, tyf, b122, (ix24 o74), (ixo24 o76), (ix22 o108), (ix22 o110), (ix22 o112), (ix22 o114), (ix22 o116), d123, d124, g125, d126, e127, e128, e129, e130, e131, (ix22 o133), d134, nm, seval]
                 obtain rfl := kF _ h
                 exact zad Tryz.results6 rfl
                simp only [d126, hs] at h
                cases d140 : (x107 != x109)
                ·simp only [d140, hs] at h
                 simp only [vz, qr, tyf, b122, (ix24 o74), (ixo24 o76), e101, e102, e103, e104, e105, e106, (ix22 o108), (ix22 o110), (ix22 o112), (ix22 o114), (ix22 o116), d123, d124, g125, d126, d140, nm, seval]
                 refine zgl (fun tm => tm 9 = .lit (.int .i64 r43.1) ∧ tm 11 = .sl (cellsL eI r51.1) (List.length r51.1) false ∧ tm 16 = .ptr 101 0 ∧ tm 22 = .sl (cellsL eI r80.1) (List.length r80.1) false ∧ tm 23 = .sl (cellsL eI r37.1) (List.length r37.1) false ∧ True) (by refine ⟨e102, e103, e105, ?_, ?_, trivial⟩ <;> first | (simp only [ua, b122, e101, e102, e103, e104, e105, e106, d123, d124, d126, d140, nm, seval] <;> rfl) | rfl | (simp only [ua, tyf, b122, e101, e102, e103, e104, e105, e106, d123, d124, d126, d140, nm, seval] <;> rfl)) ?_
                 rintro tm ⟨e141, e142, e143, e144, e145, _⟩
                 obtain ⟨x146, o147, h⟩ := optI h kN
                 try simp only [hs] at h
                 cases d148 : (decide (x146 > x107))
                 ·simp only [d148, hs] at h
                  have b149 := And.intro b122 (And.intro d123 (And.intro d124 (And.intro g125 (And.intro d126 (And.intro d140 d148)))))
                  obtain ⟨x150, o151, h⟩ := optI h kN
                  try simp only [hs] at h
                  cases d152 : (decide (x150 < x109))
                  ·simp only [d152, hs] at h
                   simp only [vz, qr, tyf, b149, (ix24 o74), (ixo24 o76), (ix22 o108), (ix22 o110), (ix22 o112), (ix22 o114), (ix22 o116), e141, e142, e143, e144, e145, (ix22 o147), (ix22 o151), d152, nm, seval]
                   refine ktree0 zdk ?_
                   try simp only [vz, qr, tyf, b149, (ix24 o74), (ixo24 o76), (ix22 o108), (ix22 o110), (ix22 o112), (ix22 o114), (ix22 o116), e141, e142, e143, e144, e145, (ix22 o147), (ix22 o151), d152, nm, seval]
                   obtain rfl := kF _ h
                   exact zad Tryz.results6 rfl
                  simp only [d152, hs] at h
                  try simp only [vz, qr, tyf, b149, (ix24 o74), (ixo24 o76), (ix22 o108), (ix22 o110), (ix22 o112), (ix22 o114), (ix22 o116), e141, e142, e143, e144, e145, (ix22 o147), (ix22 o151), d152, nm, seval]
                  obtain rfl := kF _ h
                  exact zad Tryz.results6 rfl
                 simp only [d148, hs] at h
                 have b153 := And.intro b122 (And.intro d123 (And.intro d124 (And.intro g125 (And.intro d126 (And.intro d140 d148)))))
                 try simp only [vz, qr, tyf, b153, (ix24 o74), (ixo24 o76), (ix22 o108), (ix22 o110), (ix22 o112), (ix22 o114), (ix22 o116), e141, e142, e143, e144, e145, (ix22 o147), nm, seval]
                 obtain rfl := kF _ h
                 exact zad Tryz.results6 rfl
                simp only [d140, hs] at h
                try simp only [vz, qr, tyf, b122, (ix24 o74), (ixo24 o76), e101, e102, e103, e104, e105, e106, (ix22 o108), (ix22 o110), (ix22 o112), (ix22 o114), (ix22 o116), d123, d124, g125, d126, d140, nm, seval]
                obtain rfl := kF _ h
                exact zad Tryz.results6 rfl
               simp only [d124, hs] at h
               try simp only [vz, qr, tyf, b122, (ix24 o74), (ixo24 o76), e101, e102, e103, e104, e105, e106, (ix22 o108), (ix22 o110), (ix22 o112), (ix22 o114), (ix22 o116), d123, d124, nm, seval]
               obtain rfl := kF _ h
               exact zad Tryz.results6 rfl
              simp only [d123, hs] at h
              try simp only [vz, qr, tyf, b122, (ix24 o74), (ixo24 o76), e101, e102, e103, e104, e105, e106, (ix22 o108), (ix22 o110), (ix22 o112), (ix22 o114), (ix22 o116), d123, nm, seval]
              obtain rfl := kF _ h
              exact zad Tryz.results6 rfl
             simp only [d121, hs] at h
             have b154 := And.intro b99 (And.intro d100 (And.intro d117 (And.intro d118 (And.intro d119 (And.intro d120 d121)))))
             try simp only [vz, qr, tyf, b154, (ix24 o74), (ixo24 o76), e101, e102, e103, e104, e105, e106, (ix22 o108), (ix22 o110), (ix22 o112), (ix22 o114), (ix22 o116), nm, seval]
             obtain rfl := kF _ h
             exact zad Tryz.results6 rfl
            simp only [d120, hs] at h
            try simp only [vz, qr, tyf, b99, (ix24 o74), (ixo24 o76), d100, e101, e102, e103, e104, e105, e106, (ix22 o108), (ix22 o110), (ix22 o112), (ix22 o114), (ix22 o116), d117, d118, d119, d120, nm, seval]
            obtain rfl := kF _ h
            exact zad Tryz.results6 rfl
           simp only [d119, hs] at h
           try simp only [vz, qr, tyf, b99, (ix24 o74), (ixo24 o76), d100, e101, e102, e103, e104, e105, e106, (ix22 o108), (ix22 o110), (ix22 o112), (ix22 o114), (ix22 o116), d117, d118, d119, nm, seval]
           obtain rfl := kF _ h
           exact zad Tryz.results6 rfl
          simp only [d118, hs] at h
          try simp only [vz, qr, tyf, b99, (ix24 o74), (ixo24 o76), d100, e101, e102, e103, e104, e105, e106, (ix22 o108), (ix22 o110), (ix22 o112), (ix22 o114), (ix22 o116), d117, d118, nm, seval]
          obtain rfl := kF _ h
          exact zad Tryz.results6 rfl
         simp only [d117, hs] at h
         try simp only [vz, qr, tyf, b99, (ix24 o74), (ixo24 o76), d100, e101, e102, e103, e104, e105, e106, (ix22 o108), (ix22 o110), (ix22 o112), (ix22 o114), (ix22 o116), d117, nm, seval]
         obtain rfl := kF _ h
         exact zad Tryz.results6 rfl
        simp only [d100, hs] at h
        simp only [vz, qr, tyf, b99, (ix24 o74), (ixo24 o76), e82, e83, e84, e85, e86, e87, e88, e89, e90, d100, nm, seval]
        refine zgl (fun tm => tm 7 = .sl (cellsL eI r37.1) (List.length r37.1) false ∧ tm 9 = .lit (.int .i64 r43.1) ∧ tm 11 = .sl (cellsL eI r51.1) (List.length r51.1) false ∧ tm 14 = .sl (cellsL eI r80.1) (List.length r80.1) false ∧ tm 16 = .ptr 101 0 ∧ tm 17 = .lit (.int .i64 (List.length x0_s.Boards : Int)) ∧ True) (by refine ⟨e84, e86, e88, ?_, ?_, ?_, trivial⟩ <;> first | (simp only [ua, b99, e82, e83, e84, e85, e86, e87, e88, e89, e90, d100, nm, seval] <;> rfl) | rfl | (simp only [ua, tyf, b99, e82, e83, e84, e85, e86, e87, e88, e89, e90, d100, nm, seval] <;> rfl)) ?_
        rintro tm ⟨e155, e156, e157, e158, e159, e160, _⟩
        obtain ⟨x161, o162, h⟩ := optI h kN
        try simp only [hs] at h
        obtain ⟨x163, o164, h⟩ := optI h kN
        try simp only [hs] at h
        obtain ⟨x165, o166, h⟩ := optI h kN
        try simp only [hs] at h
        obtain ⟨x167, o168, h⟩ := optI h kN
        try simp only [hs] at h
        obtain ⟨x169, o170, h⟩ := optI h kN
        try simp only [hs] at h
        cases d171 : (r43.1 != x169)
        ·simp only [d171, hs] at h
         cases d172 : (decide (x161 < 0))
         ·simp only [d172, hs] at h
          cases d173 : (decide (x161 > x167))
          ·simp only [d173, hs] at h
           cases d174 : (decide (x167 > x165))
           ·simp only [d174, hs] at h
            cases d175 : (decide (x165 > x163))
            ·simp only [d175, hs] at h
             have b176 := And.intro b99 (And.intro d100 (And.intro d171 (And.intro d172 (And.intro d173 (And.intro d174 d175)))))
             cases d177 : (decide (x163 > 1000000))
             ·simp only [d177, hs] at h
              cases d178 : (decide ((IntKind.i64.wrap (x163 - x161)) > (List.length x0_s.Boards : Int)))
              ·simp only [d178, hs] at h
               cases g179 : ((x73.Units != 0))
               ·simp only [g179, hs] at h
                exact absurd h kN
               simp only [g179, hs] at h
               cases d180 : ((Int.tmod x73.Coins x73.Units) == 0)
               ·simp only [d180, hs] at h
                simp only [vz, qr, tyf, b176, (ix24 o74), (ixo24 o76), e155, e156, e157, e158, e159, e160, (ix22 o162), (ix22 o164), (ix22 o166), (ix22 o168), (ix22 o170), d177, d178, g179, d180, nm, seval]
                refine zgl (fun tm => tm 9 = .lit (.int .i64 r43.1) ∧ tm 11 = .sl (cellsL eI r51.1) (List.length r51.1) false ∧ tm 16 = .ptr 101 0 ∧ tm 22 = .sl (cellsL eI r37.1) (List.length r37.1) false ∧ tm 23 = .sl (cellsL eI r80.1) (List.length r80.1) false ∧ True) (by refine ⟨e156, e157, e159, ?_, ?_, trivial⟩ <;> first | (simp only [ua, b176, e155, e156, e157, e158, e159, e160, d177, d178, d180, nm, seval] <;> rfl) | rfl | (simp only [ua, tyf, b176, e155, e156, e157, e158, e159, e160, d177, d178, d180, nm, seval] <;> rfl)) ?_
                rintro tm ⟨e181, e182, e183, e184, e185, _⟩
                obtain ⟨x186, o187, h⟩ := optI h kN
                try simp only [hs] at h
                cases d188 : (decide (x161 > x186))
                ·simp only [d188, hs] at h
                 obtain ⟨x189, o190, h⟩ := optI h kN
                 try simp only [hs] at h
                 cases d191 : (decide (x163 < x189))
                 ·simp only [d191, hs] at h
                  have b192 := And.intro b176 (And.intro d177 (And.intro d178 (And.intro g179 (And.intro d180 (And.intro d188 d191)))))
                  cases g194 : (lenOk r51.1)
                  ·simp only [g194, hs] at h
                   exact absurd h kN
                  simp only [g194, hs] at h
                  simp only [vz, qr, tyf, b192, (ix24 o74), (ixo24 o76), (ix22 o162), (ix22 o164), (ix22 o166), (ix22 o168), (ix22 o170), e181, e182, e183, e184, e185, (ix22 o187), (ix22 o190), g194, nm, seval]
                  obtain ⟨K193, h, kR193, kG193, kB193, kN193⟩ := zbx h kN
                  obtain ⟨f193, hf193, h⟩ := call3 h
                  obtain ⟨I193, hI193⟩ : ∃ I : Nat → St → Prop, I = (fun m st => ∃ (p193 : List Int) (c193_25 : Int) (c193_24 : Int), m = List.length p193 ∧ 0 ≤ c193_25 ∧ List.drop (Int.toNat c193_25) r51.1 = p193 ∧ st.df = [] ∧ 205 ≤ st.nx ∧ st.tm 9 = .lit (.int .i64 r43.1) ∧ st.tm 11 = .sl (cellsL eI r51.1) (List.length r51.1) false ∧ st.tm 24 = .lit (.int .i64 c193_24) ∧ st.tm 25 = .lit (.int .i64 c193_25) ∧ K193 (f193 p193 c193_25 c193_24)) := ⟨_, rfl⟩
                  refine loopK mixed (by kernel_rfl) I193 (List.length r51.1) (by rw [hI193]; refine ⟨r51.1, 0, 0, rfl, Int.le_refl _, rfl, rfl, (show 205 ≤ 205 by omega), e181, e182, ?_, ?_, h⟩ <;> first | (simp only [ua, b192, e181, e182, e183, e184, e185, nm, seval] <;> rfl) | rfl | (simp only [ua, tyf, b192, e181, e182, e183, e184, e185, nm, seval] <;> rfl)) ?_
                  rintro m ⟨tm, H, nx193, df⟩ hinv
                  rw [hI193] at hinv
                  obtain ⟨p193, c193_25, c193_24, rfl, hi193, hp193, hdf, hn193, e195, e196, e197, e198, h⟩ := hinv
                  simp only at hdf hn193 e195 e196 e197 e198
                  have n199 := zfe (m := 205) (b := nx193) (by omega)
                  subst hdf hf193
                  cases p193 with
                  | nil =>
                   have d200 : (decide (c193_25 < (List.length r51.1 : Int))) = false := zax hi193 hp193
                   simp only [zar, zas, hs, reduceCtorEq] at h
                   replace h := kG193 _ h
                   try dsimp only at h
                   try simp only [hs] at h
                   cases d201 : (c193_24 == r43.1)
                   ·simp only [d201, hs] at h
                    try simp only [vz, qr, tyf, b192, (ix24 o74), (ixo24 o76), (ix22 o162), (ix22 o164), (ix22 o166), (ix22 o168), (ix22 o170), (ix22 o187), (ix22 o190), g194, n199, e195, e196, e197, e198, d200, d201, nm, seval]
                    obtain rfl := kF _ h
                    exact zad Tryz.results6 rfl
                   simp only [d201, hs] at h
                   simp only [vz, qr, tyf, b192, (ix24 o74), (ixo24 o76), (ix22 o162), (ix22 o164), (ix22 o166), (ix22 o168), (ix22 o170), (ix22 o187), (ix22 o190), g194, n199, e195, e196, e197, e198, d200, d201, nm, seval]
                   refine ktree0 zdk ?_
                   try simp only [vz, qr, tyf, b192, (ix24 o74), (ixo24 o76), (ix22 o162), (ix22 o164), (ix22 o166), (ix22 o168), (ix22 o170), (ix22 o187), (ix22 o190), g194, n199, e195, e196, e197, e198, d200, d201, nm, seval]
                   obtain rfl := kF _ h
                   exact zad Tryz.results6 rfl
                  | cons e193 p193 =>
                   have d202 : (decide (c193_25 < (List.length r51.1 : Int))) = true := zcd hi193 hp193
                   have o204 := zau hi193 hp193
                   have w203 := zcu hi193 hp193 g194
                   simp only [zar, zas, hs, reduceCtorEq] at h
                   cases d205 : (decide (e193 < 0))
                   ·simp only [d205, hs] at h
                    cases d206 : (decide (e193 > r43.1))
                    ·simp only [d206, hs] at h
                     have b207 := And.intro b192 (And.intro g194 (And.intro n199 (And.intro d202 (And.intro w203 (And.intro d205 d206)))))
                     simp only [vz, qr, tyf, b207, (ix24 o74), (ixo24 o76), (ix22 o162), (ix22 o164), (ix22 o166), (ix22 o168), (ix22 o170), (ix22 o187), (ix22 o190), e195, e196, e197, e198, (ix22 o204), nm, seval]
                     exact ⟨List.length p193, Nat.lt_succ_self _, by rw [hI193]; refine ⟨p193, c193_25 + 1, IntKind.i64.wrap (c193_24 + e193), rfl, Int.le_trans hi193 (Int.le_add_one (Int.le_refl _)), zce hi193 hp193, rfl, (show 205 ≤ nx193 + 27 by omega), e195, e196, ?_, ?_, h⟩ <;> first | (simp only [ua, b207, e195, e196, e197, e198, nm, seval] <;> rfl) | rfl | (simp only [ua, tyf, b207, e195, e196, e197, e198, nm, seval] <;> rfl)⟩
                    simp only [d206, hs] at h
                    have b208 := And.intro b192 (And.intro g194 (And.intro n199 (And.intro d202 (And.intro w203 (And.intro d205 d206)))))
                    try simp only [vz, qr, tyf, b208, (ix24 o74), (ixo24 o76), (ix22 o162), (ix22 o164), (ix22 o166), (ix22 o168), (ix22 o170), (ix22 o187), (ix22 o190), e195, e196, e197, e198, (ix22 o204), nm, seval]
                    replace h := kR193 _ h
                    try dsimp only at h
                    obtain rfl := kF _ h
                    exact zad Tryz.results6 rfl
                   simp only [d205, hs] at h
                   try simp only [vz, qr, tyf, b192, (ix24 o74), (ixo24 o76), (ix22 o162), (ix22 o164), (ix22 o166), (ix22 o168), (ix22 o170), (ix22 o187), (ix22 o190), g194, n199, e195, e196, e197, e198, d202, (ix22 o204), w203, d205, nm, seval]
                   replace h := kR193 _ h
                   try dsimp only at h
                   obtain rfl := kF _ h
                   exact zad Tryz.results6 rfl
                 simp only [d191, hs] at h
                 have b209 := And.intro b176 (And.intro d177 (And.intro d178 (And.intro g179 (And.intro d180 (And.intro d188 d191)))))
                 try simp only [vz, qr, tyf, b209, (ix24 o74), (ixo24 o76), (ix22 o162), (ix22 o164), (ix22 o166), (ix22 o168), (ix22 o170), e181, e182, e183, e184, e185, (ix22 o187), (ix22 o190), nm, seval]
                 obtain rfl := kF _ h
                 exact zad Tryz.results6 rfl
                simp only [d188, hs] at h
                try simp only [vz, qr, tyf, b176, (ix24 o74), (ixo24 o76), (ix22 o162), (ix22 o164), (ix22 o166), (ix22 o168), (ix22 o170), d177, d178, g179, d180, e181, e182, e183, e184, e185, (ix22 o187), d188, nm, seval]
                obtain rfl := kF _ h
                exact zad Tryz.results6 rfl
               simp only [d180, hs] at h
               cases d210 : (x161 != x163)
               ·simp only [d210, hs] at h
                simp only [vz, qr, tyf, b176, (ix24 o74), (ixo24 o76), e155, e156, e157, e158, e159, e160, (ix22 o162), (ix22 o164), (ix22 o166), (ix22 o168), (ix22 o170), d177, d178, g179, d180, d210, nm, seval]
                refine zgl (fun tm => tm 9 = .lit (.int .i64 r43.1) ∧ tm 11 = .sl (cellsL eI r51.1) (List.length r51.1) false ∧ tm 16 = .ptr 101 0 ∧ tm 22 = .sl (cellsL eI r37.1) (List.length r37.1) false ∧ tm 23 = .sl (cellsL eI r80.1) (List.length r80.1) false ∧ True) (by refine ⟨e156, e157, e159, ?_, ?_, trivial⟩ <;> first | (simp only [ua, b176, e155, e156, e157, e158, e159, e160, d177, d178, d180, d210, nm, seval] <;> rfl) | rfl | (simp only [ua, tyf, b176, e155, e156, e157, e158, e159, e160, d177, d178, d180, d210, nm, seval] <;> rfl)) ?_
                rintro tm ⟨e211, e212, e213, e214, e215, _⟩
                obtain ⟨x216, o217, h⟩ := optI h kN
                try simp only [hs] at h
                cases d218 : (decide (x161 > x216))
                ·simp only [d218, hs] at h
                 have b219 := And.intro b176 (And.intro d177 (And.intro d178 (And.intro g179 (And.intro d180 (And.intro d210 d218)))))
                 obtain ⟨x220, o221, h⟩ := optI h kN
                 try simp only [hs] at h
                 cases d222 : (decide (x163 < x220))
                 ·simp only [d222, hs] at h
                  cases g224 : (lenOk r51.1)
                  ·simp only [g224, hs] at h
                   exact absurd h kN
                  simp only [g224, hs] at h
                  simp only [vz, qr, tyf, b219, (ix24 o74), (ixo24 o76), (ix22 o162), (ix22 o164), (ix22 o166), (ix22 o168), (ix22 o170), e211, e212, e213, e214, e215, (ix22 o217), (ix22 o221), d222, g224, nm, seval]
                  obtain ⟨K223, h, kR223, kG223, kB223, kN223⟩ := zbx h kN
                  obtain ⟨f223, hf223, h⟩ := call3 h
                  obtain ⟨I223, hI223⟩ : ∃ I : Nat → St → Prop, I = (fun m st => ∃ (p223 : List Int) (c223_25 : Int) (c223_24 : Int), m = List.length p223 ∧ 0 ≤ c223_25 ∧ List.drop (Int.toNat c223_25) r51.1 = p223 ∧ st.df = [] ∧ 205 ≤ st.nx ∧ st.tm 9 = .lit (.int .i64 r43.1) ∧ st.tm 11 = .sl (cellsL eI r51.1) (List.length r51.1) false ∧ st.tm 24 = .lit (.int .i64 c223_24) ∧ st.tm 25 = .lit (.int .i64 c223_25) ∧ K223 (f223 p223 c223_25 c223_24)) := ⟨_, rfl⟩
                  refine loopK mixed (by kernel_rfl) I223 (List.length r51.1) (by rw [hI223]; refine ⟨r51.1, 0, 0, rfl, Int.le_refl _, rfl, rfl, (show 205 ≤ 205 by omega), e211, e212, ?_, ?_, h⟩ <;> first | (simp only [ua, b219, e211, e212, e213, e214, e215, d222, nm, seval] <;> rfl) | rfl | (simp only [ua, tyf, b219, e211, e212, e213, e214, e215, d222, nm, seval] <;> rfl)) ?_
                  rintro m ⟨tm, H, nx223, df⟩ hinv
                  rw [hI223] at hinv
                  obtain ⟨p223, c223_25, c223_24, rfl, hi223, hp223, hdf, hn223, e225, e226, e227, e228, h⟩ := hinv
                  simp only at hdf hn223 e225 e226 e227 e228
                  have n229 := zfe (m := 205) (b := nx223) (by omega)
                  subst hdf hf223
                  cases p223 with
                  | nil =>
                   have d230 : (decide (c223_25 < (List.length r51.1 : Int))) = false := zax hi223 hp223
                   simp only [zar, zas, hs, reduceCtorEq] at h
                   replace h := kG223 _ h
                   try dsimp only at h
                   try simp only [hs] at h
                   cases d231 : (c223_24 == r43.1)
                   ·simp only [d231, hs] at h
                    try simp only [vz, qr, tyf, b219, (ix24 o74), (ixo24 o76), (ix22 o162), (ix22 o164), (ix22 o166), (ix22 o168), (ix22 o170), (ix22 o217), (ix22 o221), d222, g224, n229, e225, e226, e227, e228, d230, d231, nm, seval]
                    obtain rfl := kF _ h
                    exact zad Tryz.results6 rfl
                   simp only [d231, hs] at h
                   simp only [vz, qr, tyf, b219, (ix24 o74), (ixo24 o76), (ix22 o162), (ix22 o164), (ix22 o166), (ix22 o168), (ix22 o170), (ix22 o217), (ix22 o221), d222, g224, n229, e225, e226, e227, e228, d230, d231, nm, seval]
                   refine ktree0 zdk ?_
                   try simp only [vz, qr, tyf, b219, (ix24 o74), (ixo24 o76), (ix22 o162), (ix22 o164), (ix22 o166), (ix22 o168), (ix22 o170), (ix22 o217), (ix22 o221), d222, g224, n229, e225, e226, e227, e228, d230, d231, nm, seval]
                   obtain rfl := kF _ h
                   exact zad Tryz.results6 rfl
                  | cons e223 p223 =>
                   have d232 : (decide (c223_25 < (List.length r51.1 : Int))) = true := zcd hi223 hp223
                   have o234 := zau hi223 hp223
                   have w233 := zcu hi223 hp223 g224
                   simp only [zar, zas, hs, reduceCtorEq] at h
                   cases d235 : (decide (e223 < 0))
                   ·simp only [d235, hs] at h
                    have b236 := And.intro b219 (And.intro d222 (And.intro g224 (And.intro n229 (And.intro d232 (And.intro w233 d235)))))
                    cases d237 : (decide (e223 > r43.1))
                    ·simp only [d237, hs] at h
                     simp only [vz, qr, tyf, b236, (ix24 o74), (ixo24 o76), (ix22 o162), (ix22 o164), (ix22 o166), (ix22 o168), (ix22 o170), (ix22 o217), (ix22 o221), e225, e226, e227, e228, (ix22 o234), d237, nm, seval]
                     exact ⟨List.length p223, Nat.lt_succ_self _, by rw [hI223]; refine ⟨p223, c223_25 + 1, IntKind.i64.wrap (c223_24 + e223), rfl, Int.le_trans hi223 (Int.le_add_one (Int.le_refl _)), zce hi223 hp223, rfl, (show 205 ≤ nx223 + 27 by omega), e225, e226, ?_, ?_, (by first | exact h | (simp only [d237]; exact h))⟩ <;> first | (simp only [ua, b236, e225, e226, e227, e228, d237, nm, seval] <;> rfl) | rfl | (simp only [ua, tyf, b236, e225, e226, e227, e228, d237, nm, seval] <;> rfl)⟩
                    simp only [d237, hs] at h
                    try simp only [vz, qr, tyf, b236, (ix24 o74), (ixo24 o76), (ix22 o162), (ix22 o164), (ix22 o166), (ix22 o168), (ix22 o170), (ix22 o217), (ix22 o221), e225, e226, e227, e228, (ix22 o234), d237, nm, seval]
                    replace h := kR223 _ h
                    try dsimp only at h
                    obtain rfl := kF _ h
                    exact zad Tryz.results6 rfl
                   simp only [d235, hs] at h
                   have b238 := And.intro b219 (And.intro d222 (And.intro g224 (And.intro n229 (And.intro d232 (And.intro w233 d235)))))
                   try simp only [vz, qr, tyf, b238, (ix24 o74), (ixo24 o76), (ix22 o162), (ix22 o164), (ix22 o166), (ix22 o168), (ix22 o170), (ix22 o217), (ix22 o221), e225, e226, e227, e228, (ix22 o234), nm, seval]
                   replace h := kR223 _ h
                   try dsimp only at h
                   obtain rfl := kF _ h
                   exact zad Tryz.results6 rfl
                 simp only [d222, hs] at h
                 try simp only [vz, qr, tyf, b219, (ix24 o74), (ixo24 o76), (ix22 o162), (ix22 o164), (ix22 o166), (ix22 o168), (ix22 o170), e211, e212, e213, e214, e215, (ix22 o217), (ix22 o221), d222, nm, seval]
                 obtain rfl := kF _ h
                 exact zad Tryz.results6 rfl
                simp only [d218, hs] at h
                have b239 := And.intro b176 (And.intro d177 (And.intro d178 (And.intro g179 (And.intro d180 (And.intro d210 d218)))))
                try simp only [vz, qr, tyf, b239, (ix24 o74), (ixo24 o76), (ix22 o162), (ix22 o164), (ix22 o166), (ix22 o168), (ix22 o170), e211, e212, e213, e214, e215, (ix22 o217), nm, seval]
                obtain rfl := kF _ h
                exact zad Tryz.results6 rfl
               simp only [d210, hs] at h
               try simp only [vz, qr, tyf, b176, (ix24 o74), (ixo24 o76), e155, e156, e157, e158, e159, e160, (ix22 o162), (ix22 o164), (ix22 o166), (ix22 o168), (ix22 o170), d177, d178, g179, d180, d210, nm, seval]
               obtain rfl := kF _ h
               exact zad Tryz.results6 rfl
              simp only [d178, hs] at h
              try simp only [vz, qr, tyf, b176, (ix24 o74), (ixo24 o76), e155, e156, e157, e158, e159, e160, (ix22 o162), (ix22 o164), (ix22 o166), (ix22 o168), (ix22 o170), d177, d178, nm, seval]
              obtain rfl := kF _ h
              exact zad Tryz.results6 rfl
             simp only [d177, hs] at h
             try simp only [vz, qr, tyf, b176, (ix24 o74), (ixo24 o76), e155, e156, e157, e158, e159, e160, (ix22 o162), (ix22 o164), (ix22 o166), (ix22 o168), (ix22 o170), d177, nm, seval]
             obtain rfl := kF _ h
             exact zad Tryz.results6 rfl
            simp only [d175, hs] at h
            have b240 := And.intro b99 (And.intro d100 (And.intro d171 (And.intro d172 (And.intro d173 (And.intro d174 d175)))))
            try simp only [vz, qr, tyf, b240, (ix24 o74), (ixo24 o76), e155, e156, e157, e158, e159, e160, (ix22 o162), (ix22 o164), (ix22 o166), (ix22 o168), (ix22 o170), nm, seval]
            obtain rfl := kF _ h
            exact zad Tryz.results6 rfl
           simp only [d174, hs] at h
           try simp only [vz, qr, tyf, b99, (ix24 o74), (ixo24 o76), d100, e155, e156, e157, e158, e159, e160, (ix22 o162), (ix22 o164), (ix22 o166), (ix22 o168), (ix22 o170), d171, d172, d173, d174, nm, seval]
           obtain rfl := kF _ h
           exact zad Tryz.results6 rfl
          simp only [d173, hs] at h
          try simp only [vz, qr, tyf, b99, (ix24 o74), (ixo24 o76), d100, e155, e156, e157, e158, e159, e160, (ix22 o162), (ix22 o164), (ix22 o166), (ix22 o168), (ix22 o170), d171, d172, d173, nm, seval]
          obtain rfl := kF _ h
          exact zad Tryz.results6 rfl
         simp only [d172, hs] at h
         try simp only [vz, qr, tyf, b99, (ix24 o74), (ixo24 o76), d100, e155, e156, e157, e158, e159, e160, (ix22 o162), (ix22 o164), (ix22 o166), (ix22 o168), (ix22 o170), d171, d172, nm, seval]
         obtain rfl := kF _ h
         exact zad Tryz.results6 rfl
        simp only [d171, hs] at h
        try simp only [vz, qr, tyf, b99, (ix24 o74), (ixo24 o76), d100, e155, e156, e157, e158, e159, e160, (ix22 o162), (ix22 o164), (ix22 o166), (ix22 o168), (ix22 o170), d171, nm, seval]
        obtain rfl := kF _ h
        exact zad Tryz.results6 rfl
       simp only [d98, hs] at h
       have b241 := And.intro b92 (And.intro d93 (And.intro d94 (And.intro d95 (And.intro d96 (And.intro d97 d98)))))
       try simp only [vz, qr, tyf, b241, (ix24 o74), (ixo24 o76), e82, e83, e84, e85, e86, e87, e88, e89, e90, nm, seval]
       obtain rfl := kF _ h
       exact zad Tryz.results6 rfl
      simp only [d97, hs] at h
      try simp only [vz, qr, tyf, b92, (ix24 o74), (ixo24 o76), e82, e83, e84, e85, e86, e87, e88, e89, e90, d93, d94, d95, d96, d97, nm, seval]
      obtain rfl := kF _ h
      exact zad Tryz.results6 rfl
     simp only [d96, hs] at h
     try simp only [vz, qr, tyf, b92, (ix24 o74), (ixo24 o76), e82, e83, e84, e85, e86, e87, e88, e89, e90, d93, d94, d95, d96, nm, seval]
     obtain rfl := kF _ h
     exact zad Tryz.results6 rfl
    simp only [d95, hs] at h
    try simp only [vz, qr, tyf, b92, (ix24 o74), (ixo24 o76), e82, e83, e84, e85, e86, e87, e88, e89, e90, d93, d94, d95, nm, seval]
    obtain rfl := kF _ h
    exact zad Tryz.results6 rfl
   simp only [d94, hs] at h
   try simp only [vz, qr, tyf, b92, (ix24 o74), (ixo24 o76), e82, e83, e84, e85, e86, e87, e88, e89, e90, d93, d94, nm, seval]
   obtain rfl := kF _ h
   exact zad Tryz.results6 rfl
  simp only [d93, hs] at h
  try simp only [vz, qr, tyf, b92, (ix24 o74), (ixo24 o76), e82, e83, e84, e85, e86, e87, e88, e89, e90, d93, nm, seval]
  obtain rfl := kF _ h
  exact zad Tryz.results6 rfl
 simp only [d91, hs] at h
 have b242 := And.intro d36 (And.intro g61 (And.intro g62 (And.intro w77 (And.intro w78 (And.intro w79 d91)))))
 try simp only [vz, qr, tyf, b242, (ix24 o74), (ixo24 o76), e82, e83, e84, e85, e86, e87, e88, e89, e90, nm, seval]
 obtain rfl := kF _ h
 exact zad Tryz.results6 rfl
end Go.V
end
