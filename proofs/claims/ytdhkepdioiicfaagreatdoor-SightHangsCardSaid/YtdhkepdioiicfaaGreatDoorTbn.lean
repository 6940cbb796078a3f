/- Part of a proof: a logic of values by content, lifted functions, what follows. -/
import Derived.Test.YtdhkepdioiicfaaGreatDoorTbf
import Derived.Test.YtdhkepdioiicfaaGreatDoorTbm
import Derived.Test.YtdhkepdioiicfaaGreatDoorTbi
import Derived.Test.YtdhkepdioiicfaaGreatDoorTbj
set_option linter.all false
set_option maxRecDepth 4000
set_option maxHeartbeats 4000000
section
namespace Go.V
open Go Go.Proofs
def g_ref02_Places_l1 (x0_s : GSightStreet) (c0_4 : Int) : Nat → (List GSightPlace) → Int → Option (LOut (List GSightPlace) ((List GSightPlace) × Int))
 | 0, _, _ => none
 | k1 + 1, c1_3, c1_5 => cond (decide (c1_5 ≤ x0_s.Width)) (cond (roomOk 16 (List.length (c1_3 ++ [(GSightPlace.mk c0_4 c1_5)]))) (g_ref02_Places_l1 x0_s c0_4 k1 (c1_3 ++ [(GSightPlace.mk c0_4 c1_5)]) (IntKind.i64.wrap (c1_5 + 1))) none) (some (.go (c1_3, c1_5)))
def g_ref02_Places_l0 (x0_s : GSightStreet) : Nat → (List GSightPlace) → Int → Option (LOut (List GSightPlace) ((List GSightPlace) × Int))
 | 0, _, _ => none
 | k0 + 1, c0_3, c0_4 => cond (decide (c0_4 ≤ x0_s.Length)) (lbind (g_ref02_Places_l1 x0_s c0_4 1000000 c0_3 1) (fun r2 => some (.ret r2)) (fun c1 => g_ref02_Places_l0 x0_s k0 c1.1 (IntKind.i64.wrap (c0_4 + 1))) (fun _ _ => none)) (some (.go (c0_3, c0_4)))
def g_ref02_Places (x0_s : GSightStreet) : Option (List GSightPlace) := lbind (g_ref02_Places_l0 x0_s 1000000 ([] : List GSightPlace) 0) (fun r4 => some r4) (fun c3 => some c3.1) (fun _ _ => none)
theorem g_ref02_Places_ok (x0_s : GSightStreet) (R : List GSightPlace) (h : g_ref02_Places x0_s = some R) : VPure Tryz.prog G0 70 [.agg (cGSightStreet x0_s)] (.tree (.sl (cellsL cGSightPlace R) (List.length R) false)) := by
 refine VPure.runR mixed Tryz.call70 Tryz.func70 rfl (by simp [Tryz.ntmps70]; kernel_rfl) ?_
 obtain ⟨KF, h, kF, kN⟩ := fun_intro h
 simp only [g_ref02_Places] at h
 simp only [vz, mq, mqm, tyf, mqt, nm, seval]
 obtain ⟨K5, h, kR5, kG5, kB5, kN5⟩ := lbind_intro h kN
 obtain ⟨f5, hf5, h⟩ := call3 h
 obtain ⟨I5, hI5⟩ : ∃ I : Nat → St → Prop, I = (fun m st => ∃ (p5 : Nat) (c5_3 : List GSightPlace) (c5_4 : Int) (y5_0 : VV), p5 = m ∧ st.df = [] ∧ 4 ≤ st.nx ∧ st.H 0 = some (.cells (some 27) (cGSightStreet x0_s)) ∧ st.tm 1 = .ptr 0 0 ∧ st.tm 3 = y5_0 ∧ st.tm 4 = .lit (.int .i64 c5_4) ∧ ((∃ (β : Nat) (el : Option TypeId), y5_0 = .ref β 0 (List.length c5_3) 2 (List.length c5_3) ∧ β < st.nx ∧ β ≠ 0 ∧ st.H β = some (.cells el (cellsL cGSightPlace c5_3))) ∨ (y5_0 = .lit (.slice none 0 0) ∧ c5_3 = [])) ∧ K5 (f5 p5 c5_3 c5_4)) := ⟨_, rfl⟩
 refine loopK mixed (by kernel_rfl) I5 1000000 (by rw [hI5]; refine ⟨1000000, ([] : List GSightPlace), 0, .lit (.slice none 0 0), rfl, rfl, (show 4 ≤ 4 by omega), ?_, ?_, ?_, ?_, Or.inr ⟨rfl, rfl⟩, h⟩ <;> first | (simp only [ua, encM_nil, nm, seval] <;> rfl) | rfl) ?_
 rintro m ⟨tm, H, nx5, df⟩ hinv
 rw [hI5] at hinv
 obtain ⟨p5, c5_3, c5_4, y5_0, rfl, hdf, hn5, H6, e7, e8, e9, ow5_0, h⟩ := hinv
 simp only at hdf hn5 H6 e7 e8 e9 ow5_0
 have n10 := base_ne0 (m := 4) (b := nx5) (by omega)
 subst hdf hf5
 rcases ow5_0 with ⟨b5_0, el5_0, rfl, lq12, lq13, H11⟩ | ⟨rfl, rfl⟩
 ·have q12 := own_lt lq12
  have q13 := ne_f lq13
  cases p5 with
  | zero =>
   simp only [g_ref02_Places_l0, hs, reduceCtorEq] at h
   exact absurd h kN5
  | succ p5 =>
   simp only [g_ref02_Places_l0, hs, reduceCtorEq] at h
   cases d14 : (decide (c5_4 ≤ x0_s.Length))
   ·simp only [d14, hs] at h
    replace h := kG5 _ h
    try dsimp only at h
    try simp only [hs] at h
    try simp only [vz, mq, mqm, tyf, mqt, n10, e7, e8, e9, H6, q12, H11, q13, d14, nm, seval]
    refine opd_ret (x := (.ref b5_0 0 (List.length c5_3) 2 (List.length c5_3))) (by first | (simp only [Tryz.results70, resV, resL, resV1, tgt_ptr, tgt_tp, uw, cr, tyf, mqt, n10, H6, q12, H11, q13, d14, nm, seval] <;> rfl) | rfl) ?_
    obtain rfl := kF _ h
    refine rr_tree ?_ ?_
    ·simp only [tre, tytre, Bool.and_self]
    ·first | (simp only [outV, uw, showV_ref, cr, tyf, mqt, nrm, tynrm, n10, e7, e8, e9, H6, q12, H11, q13, d14, nm, seval] <;> rfl) | rfl
   simp only [d14, hs] at h
   simp only [vz, mq, mqm, tyf, mqt, n10, e7, e8, e9, H6, q12, H11, q13, d14, nm, seval]
   obtain ⟨K15, h, kR15, kG15, kB15, kN15⟩ := lbind_intro h kN5
   obtain ⟨f15, hf15, h⟩ := call3 h
   obtain ⟨I15, hI15⟩ : ∃ I : Nat → St → Prop, I = (fun m st => ∃ (p15 : Nat) (c15_3 : List GSightPlace) (c15_5 : Int) (y15_0 : VV), p15 = m ∧ st.df = [] ∧ nx5 + 5 ≤ st.nx ∧ st.H 0 = some (.cells (some 27) (cGSightStreet x0_s)) ∧ st.tm 1 = .ptr 0 0 ∧ st.tm 4 = .lit (.int .i64 c5_4) ∧ st.tm 3 = y15_0 ∧ st.tm 5 = .lit (.int .i64 c15_5) ∧ ((∃ (β : Nat) (el : Option TypeId), y15_0 = .ref β 0 (List.length c15_3) 2 (List.length c15_3) ∧ β < st.nx ∧ β ≠ 0 ∧ st.H β = some (.cells el (cellsL cGSightPlace c15_3))) ∨ (y15_0 = .lit (.slice none 0 0) ∧ c15_3 = [])) ∧ K15 (f15 p15 c15_3 c15_5)) := ⟨_, rfl⟩
   refine loopK mixed (by kernel_rfl) I15 1000000 (by rw [hI15]; refine ⟨1000000, c5_3, 1, .ref b5_0 0 (List.length c5_3) 2 (List.length c5_3), rfl, rfl, (show nx5 + 5 ≤ nx5 + 5 by omega), ?_, e7, e9, ?_, ?_, Or.inl ⟨b5_0, el5_0, rfl, (by first | omega | (simp only [nm, seval]; omega)), (by first | omega | (intro hh; simp only [n10, q12, q13, reduceCtorEq] at hh)), ?_⟩, h⟩ <;> first | (simp only [ua, encM_nil, n10, e7, e8, e9, H6, q12, H11, q13, d14, nm, seval] <;> rfl) | rfl) ?_
   rintro m ⟨tm, H, nx15, df⟩ hinv
   rw [hI15] at hinv
   obtain ⟨p15, c15_3, c15_5, y15_0, rfl, hdf, hn15, H16, e17, e18, e19, e20, ow15_0, h⟩ := hinv
   simp only at hdf hn15 H16 e17 e18 e19 e20 ow15_0
   have n21 := base_ne0 (m := 4) (b := nx15) (by omega)
   have n22 := base_ne (a := nx5) (m := 5) (b := nx15) (by omega)
   subst hdf hf15
   rcases ow15_0 with ⟨b15_0, el15_0, rfl, lq24, lq25, H23⟩ | ⟨rfl, rfl⟩
   ·have q24 := own_lt lq24
    have q25 := ne_f lq25
    cases p15 with
    | zero =>
     simp only [g_ref02_Places_l1, hs, reduceCtorEq] at h
     exact absurd h kN15
    | succ p15 =>
     simp only [g_ref02_Places_l1, hs, reduceCtorEq] at h
     cases d26 : (decide (c15_5 ≤ x0_s.Width))
     ·simp only [d26, hs] at h
      have b27 := And.intro n10 (And.intro q12 (And.intro q13 (And.intro d14 (And.intro n21 (And.intro n22 (And.intro H16 (And.intro q24 (And.intro H23 (And.intro q25 d26)))))))))
      replace h := kG15 _ h
      try dsimp only at h
      try simp only [hs] at h
      simp only [vz, mq, mqm, tyf, mqt, b27, e17, e18, e19, e20, nm, seval]
      exact ⟨p5, Nat.lt_succ_self _, by rw [hI5]; refine ⟨p5, c15_3, IntKind.i64.wrap (c5_4 + 1), .ref b15_0 0 (List.length c15_3) 2 (List.length c15_3), rfl, rfl, (show 4 ≤ nx15 + 7 by omega), ?_, e17, ?_, ?_, Or.inl ⟨b15_0, el15_0, rfl, (by first | omega | (simp only [nm, seval]; omega)), (by first | omega | (intro hh; simp only [b27, reduceCtorEq] at hh)), ?_⟩, h⟩ <;> first | (simp only [ua, encM_nil, b27, e17, e18, e19, e20, nm, seval] <;> rfl) | rfl⟩
     simp only [d26, hs] at h
     have b28 := And.intro n10 (And.intro q12 (And.intro q13 (And.intro d14 (And.intro n21 (And.intro n22 (And.intro H16 (And.intro q24 (And.intro H23 (And.intro q25 d26)))))))))
     cases g29 : (roomOk 16 (List.length (c15_3 ++ [(GSightPlace.mk c5_4 c15_5)])))
     ·simp only [g29, hs] at h
      exact absurd h kN15
     simp only [g29, hs] at h
     simp only [vz, mq, mqm, tyf, mqt, b28, e17, e18, e19, e20, g29, nm, seval]
     refine k_app (w := 2) (enc := cGSightPlace) (xs := c15_3) (ys := ([(GSightPlace.mk c5_4 c15_5)])) (el := el15_0) (el2 := (some 34)) (fun _ => rfl) lf41 ao41 Tryz.underlying41 (by first | rfl | assumption | (simp only [updH_apply, without_apply, et41, b28, nm, seval] <;> rfl) | (simp only [updH_apply, without_apply, cellsL_cons, cellsL_nil, mV_app, mV_app0, tyf, mqt, b28, e17, e18, e19, e20, g29, nm, seval]; done)) (by first | rfl | assumption | (simp only [updH_apply, without_apply, et41, b28, nm, seval] <;> rfl) | (simp only [updH_apply, without_apply, cellsL_cons, cellsL_nil, mV_app, mV_app0, tyf, mqt, b28, e17, e18, e19, e20, g29, nm, seval]; done)) (Nat.zero_lt_succ _) g29 ?_
     simp only [vz, mq, mqm, tyf, mqt, b28, e17, e18, e19, e20, g29, nm, seval]
     exact ⟨p15, Nat.lt_succ_self _, by rw [hI15]; refine ⟨p15, (c15_3 ++ [(GSightPlace.mk c5_4 c15_5)]), IntKind.i64.wrap (c15_5 + 1), .ref (nx15 + 9) 0 (List.length (c15_3 ++ [(GSightPlace.mk c5_4 c15_5)])) 2 (List.length (c15_3 ++ [(GSightPlace.mk c5_4 c15_5)])), rfl, rfl, (show nx5 + 5 ≤ nx15 + 14 by omega), ?_, e17, e18, ?_, ?_, Or.inl ⟨nx15 + 9, (sameEl el15_0 34), rfl, (by first | omega | (simp only [nm, seval]; omega)), (by first | omega | (intro hh; simp only [b28, reduceCtorEq] at hh)), ?_⟩, h⟩ <;> first | (simp only [ua, encM_nil, b28, e17, e18, e19, e20, nm, seval] <;> rfl) | rfl⟩
   ·cases p15 with
    | zero =>
     simp only [g_ref02_Places_l1, hs, reduceCtorEq] at h
     exact absurd h kN15
    | succ p15 =>
     simp only [g_ref02_Places_l1, hs, reduceCtorEq] at h
     cases d30 : (decide (c15_5 ≤ x0_s.Width))
     ·simp only [d30, hs] at h
      have b31 := And.intro n10 (And.intro q12 (And.intro q13 (And.intro d14 (And.intro n21 (And.intro n22 (And.intro H16 d30))))))
      replace h := kG15 _ h
      try dsimp only at h
      try simp only [hs] at h
      simp only [vz, mq, mqm, tyf, mqt, b31, e17, e18, e19, e20, nm, seval]
      exact ⟨p5, Nat.lt_succ_self _, by rw [hI5]; refine ⟨p5, ([] : List GSightPlace), IntKind.i64.wrap (c5_4 + 1), .lit (.slice none 0 0), rfl, rfl, (show 4 ≤ nx15 + 7 by omega), ?_, e17, ?_, ?_, Or.inr ⟨rfl, rfl⟩, h⟩ <;> first | (simp only [ua, encM_nil, b31, e17, e18, e19, e20, nm, seval] <;> rfl) | rfl⟩
     simp only [d30, hs] at h
     have b32 := And.intro n10 (And.intro q12 (And.intro q13 (And.intro d14 (And.intro n21 (And.intro n22 (And.intro H16 d30))))))
     cases g33 : (roomOk 16 (List.length (([] : List GSightPlace) ++ [(GSightPlace.mk c5_4 c15_5)])))
     ·simp only [g33, hs] at h
      exact absurd h kN15
     simp only [g33, hs] at h
     simp only [vz, mq, mqm, tyf, mqt, b32, e17, e18, e19, e20, g33, nm, seval]
     refine k_appN (w := 2) (enc := cGSightPlace) (ys := ([(GSightPlace.mk c5_4 c15_5)])) (el2 := (some 34)) (fun _ => rfl) lf41 ao41 Tryz.underlying41 (by first | rfl | assumption | (simp only [updH_apply, without_apply, et41, b32, nm, seval] <;> rfl) | (simp only [updH_apply, without_apply, cellsL_cons, cellsL_nil, mV_app, mV_app0, tyf, mqt, b32, e17, e18, e19, e20, g33, nm, seval]; done)) (Nat.zero_lt_succ _) g33 ?_
     simp only [vz, mq, mqm, tyf, mqt, b32, e17, e18, e19, e20, g33, nm, seval]
     exact ⟨p15, Nat.lt_succ_self _, by rw [hI15]; refine ⟨p15, (([] : List GSightPlace) ++ [(GSightPlace.mk c5_4 c15_5)]), IntKind.i64.wrap (c15_5 + 1), .ref (nx15 + 9) 0 (List.length (([] : List GSightPlace) ++ [(GSightPlace.mk c5_4 c15_5)])) 2 (List.length (([] : List GSightPlace) ++ [(GSightPlace.mk c5_4 c15_5)])), rfl, rfl, (show nx5 + 5 ≤ nx15 + 14 by omega), ?_, e17, e18, ?_, ?_, Or.inl ⟨nx15 + 9, (some 34), rfl, (by first | omega | (simp only [nm, seval]; omega)), (by first | omega | (intro hh; simp only [b32, reduceCtorEq] at hh)), ?_⟩, h⟩ <;> first | (simp only [ua, encM_nil, b32, e17, e18, e19, e20, nm, seval] <;> rfl) | rfl⟩
 ·cases p5 with
  | zero =>
   simp only [g_ref02_Places_l0, hs, reduceCtorEq] at h
   exact absurd h kN5
  | succ p5 =>
   simp only [g_ref02_Places_l0, hs, reduceCtorEq] at h
   cases d34 : (decide (c5_4 ≤ x0_s.Length))
   ·simp only [d34, hs] at h
    replace h := kG5 _ h
    try dsimp only at h
    try simp only [hs] at h
    try simp only [vz, mq, mqm, tyf, mqt, n10, e7, e8, e9, H6, d34, nm, seval]
    refine opd_ret (x := (.lit (.slice none 0 0))) (by first | (simp only [Tryz.results70, resV, resL, resV1, tgt_ptr, tgt_tp, uw, cr, tyf, mqt, n10, H6, d34, nm, seval] <;> rfl) | rfl) ?_
    obtain rfl := kF _ h
    refine rr_tree ?_ ?_
    ·simp only [tre, tytre, Bool.and_self]
    ·first | (simp only [outV, uw, showV_ref, cr, tyf, mqt, nrm, tynrm, n10, e7, e8, e9, H6, d34, nm, seval] <;> rfl) | rfl
   simp only [d34, hs] at h
   simp only [vz, mq, mqm, tyf, mqt, n10, e7, e8, e9, H6, d34, nm, seval]
   obtain ⟨K35, h, kR35, kG35, kB35, kN35⟩ := lbind_intro h kN5
   obtain ⟨f35, hf35, h⟩ := call3 h
   obtain ⟨I35, hI35⟩ : ∃ I : Nat → St → Prop, I = (fun m st => ∃ (p35 : Nat) (c35_3 : List GSightPlace) (c35_5 : Int) (y35_0 : VV), p35 = m ∧ st.df = [] ∧ nx5 + 5 ≤ st.nx ∧ st.H 0 = some (.cells (some 27) (cGSightStreet x0_s)) ∧ st.tm 1 = .ptr 0 0 ∧ st.tm 4 = .lit (.int .i64 c5_4) ∧ st.tm 3 = y35_0 ∧ st.tm 5 = .lit (.int .i64 c35_5) ∧ ((∃ (β : Nat) (el : Option TypeId), y35_0 = .ref β 0 (List.length c35_3) 2 (List.length c35_3) ∧ β < st.nx ∧ β ≠ 0 ∧ st.H β = some (.cells el (cellsL cGSightPlace c35_3))) ∨ (y35_0 = .lit (.slice none 0 0) ∧ c35_3 = [])) ∧ K35 (f35 p35 c35_3 c35_5)) := ⟨_, rfl⟩
   refine loopK mixed (by kernel_rfl) I35 1000000 (by rw [hI35]; refine ⟨1000000, ([] : List GSightPlace), 1, .lit (.slice none 0 0), rfl, rfl, (show nx5 + 5 ≤ nx5 + 5 by omega), ?_, e7, e9, ?_, ?_, Or.inr ⟨rfl, rfl⟩, h⟩ <;> first | (simp only [ua, encM_nil, n10, e7, e8, e9, H6, d34, nm, seval] <;> rfl) | rfl) ?_
   rintro m ⟨tm, H, nx35, df⟩ hinv
   rw [hI35] at hinv
   obtain ⟨p35, c35_3, c35_5, y35_0, rfl, hdf, hn35, H36, e37, e38, e39, e40, ow35_0, h⟩ := hinv
   simp only at hdf hn35 H36 e37 e38 e39 e40 ow35_0
   have n41 := base_ne0 (m := 4) (b := nx35) (by omega)
   have n42 := base_ne (a := nx5) (m := 5) (b := nx35) (by omega)
   subst hdf hf35
   rcases ow35_0 with ⟨b35_0, el35_0, rfl, lq44, lq45, H43⟩ | ⟨rfl, rfl⟩
   ·have q44 := own_lt lq44
    have q45 := ne_f lq45
    cases p35 with
    | zero =>
     simp only [g_ref02_Places_l1, hs, reduceCtorEq] at h
     exact absurd h kN35
    | succ p35 =>
     simp only [g_ref02_Places_l1, hs, reduceCtorEq] at h
     cases d46 : (decide (c35_5 ≤ x0_s.Width))
     ·simp only [d46, hs] at h
      have b47 := And.intro n10 (And.intro d34 (And.intro n41 (And.intro n42 (And.intro H36 (And.intro q44 (And.intro H43 (And.intro q45 d46)))))))
      replace h := kG35 _ h
      try dsimp only at h
      try simp only [hs] at h
      simp only [vz, mq, mqm, tyf, mqt, b47, e37, e38, e39, e40, nm, seval]
      exact ⟨p5, Nat.lt_succ_self _, by rw [hI5]; refine ⟨p5, c35_3, IntKind.i64.wrap (c5_4 + 1), .ref b35_0 0 (List.length c35_3) 2 (List.length c35_3), rfl, rfl, (show 4 ≤ nx35 + 7 by omega), ?_, e37, ?_, ?_, Or.inl ⟨b35_0, el35_0, rfl, (by first | omega | (simp only [nm, seval]; omega)), (by first | omega | (intro hh; simp only [b47, reduceCtorEq] at hh)), ?_⟩, h⟩ <;> first | (simp only [ua, encM_nil, b47, e37, e38, e39, e40, nm, seval] <;> rfl) | rfl⟩
     simp only [d46, hs] at h
     have b48 := And.intro n10 (And.intro d34 (And.intro n41 (And.intro n42 (And.intro H36 (And.intro q44 (And.intro H43 (And.intro q45 d46)))))))
     cases g49 : (roomOk 16 (List.length (c35_3 ++ [(GSightPlace.mk c5_4 c35_5)])))
     ·simp only [g49, hs] at h
      exact absurd h kN35
     simp only [g49, hs] at h
     simp only [vz, mq, mqm, tyf, mqt, b48, e37, e38, e39, e40, g49, nm, seval]
     refine k_app (w := 2) (enc := cGSightPlace) (xs := c35_3) (ys := ([(GSightPlace.mk c5_4 c35_5)])) (el := el35_0) (el2 := (some 34)) (fun _ => rfl) lf41 ao41 Tryz.underlying41 (by first | rfl | assumption | (simp only [updH_apply, without_apply, et41, b48, nm, seval] <;> rfl) | (simp only [updH_apply, without_apply, cellsL_cons, cellsL_nil, mV_app, mV_app0, tyf, mqt, b48, e37, e38, e39, e40, g49, nm, seval]; done)) (by first | rfl | assumption | (simp only [updH_apply, without_apply, et41, b48, nm, seval] <;> rfl) | (simp only [updH_apply, without_apply, cellsL_cons, cellsL_nil, mV_app, mV_app0, tyf, mqt, b48, e37, e38, e39, e40, g49, nm, seval]; done)) (Nat.zero_lt_succ _) g49 ?_
     simp only [vz, mq, mqm, tyf, mqt, b48, e37, e38, e39, e40, g49, nm, seval]
     exact ⟨p35, Nat.lt_succ_self _, by rw [hI35]; refine ⟨p35, (c35_3 ++ [(GSightPlace.mk c5_4 c35_5)]), IntKind.i64.wrap (c35_5 + 1), .ref (nx35 + 9) 0 (List.length (c35_3 ++ [(GSightPlace.mk c5_4 c35_5)])) 2 (List.length (c35_3 ++ [(GSightPlace.mk c5_4 c35_5)])), rfl, rfl, (show nx5 + 5 ≤ nx35 + 14 by omega), ?_, e37, e38, ?_, ?_, Or.inl ⟨nx35 + 9, (sameEl el35_0 34), rfl, (by first | omega | (simp only [nm, seval]; omega)), (by first | omega | (intro hh; simp only [b48, reduceCtorEq] at hh)), ?_⟩, h⟩ <;> first | (simp only [ua, encM_nil, b48, e37, e38, e39, e40, nm, seval] <;> rfl) | rfl⟩
   ·cases p35 with
    | zero =>
     simp only [g_ref02_Places_l1, hs, reduceCtorEq] at h
     exact absurd h kN35
    | succ p35 =>
     simp only [g_ref02_Places_l1, hs, reduceCtorEq] at h
     cases d50 : (decide (c35_5 ≤ x0_s.Width))
     ·simp only [d50, hs] at h
      replace h := kG35 _ h
      try dsimp only at h
      try simp only [hs] at h
      simp only [vz, mq, mqm, tyf, mqt, n10, d34, n41, n42, e37, e38, e39, e40, H36, d50, nm, seval]
      exact ⟨p5, Nat.lt_succ_self _, by rw [hI5]; refine ⟨p5, ([] : List GSightPlace), IntKind.i64.wrap (c5_4 + 1), .lit (.slice none 0 0), rfl, rfl, (show 4 ≤ nx35 + 7 by omega), ?_, e37, ?_, ?_, Or.inr ⟨rfl, rfl⟩, h⟩ <;> first | (simp only [ua, encM_nil, n10, d34, n41, n42, e37, e38, e39, e40, H36, d50, nm, seval] <;> rfl) | rfl⟩
     simp only [d50, hs] at h
     cases g51 : (roomOk 16 (List.length (([] : List GSightPlace) ++ [(GSightPlace.mk c5_4 c35_5)])))
     ·simp only [g51, hs] at h
      exact absurd h kN35
     simp only [g51, hs] at h
     simp only [vz, mq, mqm, tyf, mqt, n10, d34, n41, n42, e37, e38, e39, e40, H36, d50, g51, nm, seval]
     refine k_appN (w := 2) (enc := cGSightPlace) (ys := ([(GSightPlace.mk c5_4 c35_5)])) (el2 := (some 34)) (fun _ => rfl) lf41 ao41 Tryz.underlying41 (by first | rfl | assumption | (simp only [updH_apply, without_apply, et41, n10, n41, n42, H36, nm, seval] <;> rfl) | (simp only [updH_apply, without_apply, cellsL_cons, cellsL_nil, mV_app, mV_app0, tyf, mqt, n10, d34, n41, n42, e37, e38, e39, e40, H36, d50, g51, nm, seval]; done)) (Nat.zero_lt_succ _) g51 ?_
     simp only [vz, mq, mqm, tyf, mqt, n10, d34, n41, n42, e37, e38, e39, e40, H36, d50, g51, nm, seval]
     exact ⟨p35, Nat.lt_succ_self _, by rw [hI35]; refine ⟨p35, (([] : List GSightPlace) ++ [(GSightPlace.mk c5_4 c35_5)]), IntKind.i64.wrap (c35_5 + 1), .ref (nx35 + 9) 0 (List.length (([] : List GSightPlace) ++ [(GSightPlace.mk c5_4 c35_5)])) 2 (List.length (([] : List GSightPlace) ++ [(GSightPlace.mk c5_4 c35_5)])), rfl, rfl, (show nx5 + 5 ≤ nx35 + 14 by omega), ?_, e37, e38, ?_, ?_, Or.inl ⟨nx35 + 9, (some 34), rfl, (by first | omega | (simp only [nm, seval]; omega)), (by first | omega | (intro hh; simp only [n10, n41, n42, reduceCtorEq] at hh)), ?_⟩, h⟩ <;> first | (simp only [ua, encM_nil, n10, d34, n41, n42, e37, e38, e39, e40, H36, d50, nm, seval] <;> rfl) | rfl⟩
end Go.V
end
section
namespace Go.V
open Go Go.Proofs
def g_ref02_From_l0 (x0_s : GSightStreet) (x1_b : GSightBoard) : List GSightPlace → Int → (List GSightPlace) → Option (LOut (List GSightPlace) ((List GSightPlace)))
 | [], c0_7, c0_6 => some (.go c0_6)
 | e0 :: p0, c0_7, c0_6 => Option.bind (g_ref02_Surely x0_s x1_b e0) (fun r2 => cond (r2) (cond (roomOk 16 (List.length (c0_6 ++ [e0]))) (g_ref02_From_l0 x0_s x1_b p0 (c0_7 + 1) (c0_6 ++ [e0])) none) (g_ref02_From_l0 x0_s x1_b p0 (c0_7 + 1) c0_6))
def g_ref02_From (x0_s : GSightStreet) (x1_b : GSightBoard) : Option (List GSightPlace) := Option.bind (g_ref02_Places x0_s) (fun r1 => cond (lenOk r1) (lbind (g_ref02_From_l0 x0_s x1_b r1 0 ([] : List GSightPlace)) (fun r4 => some r4) (fun c3 => some c3) (fun _ _ => none)) none)
theorem g_ref02_From_ok (x0_s : GSightStreet) (x1_b : GSightBoard) (R : List GSightPlace) (h : g_ref02_From x0_s x1_b = some R) : VPure Tryz.prog G0 21 [.agg (cGSightStreet x0_s), .agg (cGSightBoard x1_b)] (.tree (.sl (cellsL cGSightPlace R) (List.length R) false)) := by
 refine VPure.runR mixed Tryz.call21 Tryz.func21 rfl (by simp [Tryz.ntmps21]; kernel_rfl) ?_
 obtain ⟨KF, h, kF, kN⟩ := fun_intro h
 simp only [g_ref02_From] at h
 rcases o6 : (g_ref02_Places x0_s) with _ | r5
 ·simp only [o6, hs] at h
  exact absurd h kN
 simp only [o6, hs] at h
 simp only [vz, mq, mqm, tyf, mqt, nm, seval]
 refine ktree (args0 := [.agg (cGSightStreet x0_s)]) (by first | (simp only [nrm, tynrm] <;> rfl) | rfl) (by simp only [tre, tytre, Bool.and_self]) (g_ref02_Places_ok _ _ o6) ?_
 refine fin_cut (fun tm => tm 2 = .ptr 0 0 ∧ tm 3 = .ptr 1 0 ∧ tm 9 = .sl (cellsL cGSightPlace r5) (List.length r5) false ∧ True) (by refine ⟨?_, ?_, ?_, trivial⟩ <;> first | (simp only [ua, encM_nil, nm, seval] <;> rfl) | rfl) ?_
 rintro tm ⟨e7, e8, e9, _⟩
 cases g11 : (lenOk r5)
 ·simp only [g11, hs] at h
  exact absurd h kN
 simp only [g11, hs] at h
 simp only [vz, mq, mqm, tyf, mqt, e7, e8, e9, g11, nm, seval]
 obtain ⟨K10, h, kR10, kG10, kB10, kN10⟩ := lbind_intro h kN
 obtain ⟨f10, hf10, h⟩ := call3 h
 obtain ⟨I10, hI10⟩ : ∃ I : Nat → St → Prop, I = (fun m st => ∃ (p10 : List GSightPlace) (c10_7 : Int) (c10_6 : List GSightPlace) (y10_0 : VV), m = List.length p10 ∧ 0 ≤ c10_7 ∧ List.drop (Int.toNat c10_7) r5 = p10 ∧ st.df = [] ∧ 8 ≤ st.nx ∧ st.H 0 = some (.cells (some 27) (cGSightStreet x0_s)) ∧ st.H 1 = some (.cells (some 40) (cGSightBoard x1_b)) ∧ st.tm 2 = .ptr 0 0 ∧ st.tm 3 = .ptr 1 0 ∧ st.tm 5 = .sl (cellsL cGSightPlace r5) (List.length r5) false ∧ st.tm 6 = y10_0 ∧ st.tm 7 = .lit (.int .i64 c10_7) ∧ ((∃ (β : Nat) (el : Option TypeId), y10_0 = .ref β 0 (List.length c10_6) 2 (List.length c10_6) ∧ β < st.nx ∧ β ≠ 0 ∧ β ≠ 1 ∧ st.H β = some (.cells el (cellsL cGSightPlace c10_6))) ∨ (y10_0 = .lit (.slice none 0 0) ∧ c10_6 = [])) ∧ K10 (f10 p10 c10_7 c10_6)) := ⟨_, rfl⟩
 refine loopK mixed (by kernel_rfl) I10 (List.length r5) (by rw [hI10]; refine ⟨r5, 0, ([] : List GSightPlace), .lit (.slice none 0 0), rfl, Int.le_refl _, rfl, rfl, (show 8 ≤ 8 by omega), ?_, ?_, e7, e8, ?_, ?_, ?_, Or.inr ⟨rfl, rfl⟩, h⟩ <;> first | (simp only [ua, encM_nil, e7, e8, e9, nm, seval] <;> rfl) | rfl) ?_
 rintro m ⟨tm, H, nx10, df⟩ hinv
 rw [hI10] at hinv
 obtain ⟨p10, c10_7, c10_6, y10_0, rfl, hi10, hp10, hdf, hn10, H12, H13, e14, e15, e16, e17, e18, ow10_0, h⟩ := hinv
 simp only at hdf hn10 H12 H13 e14 e15 e16 e17 e18 ow10_0
 have n19 := base_ne0 (m := 8) (b := nx10) (by omega)
 subst hdf hf10
 rcases ow10_0 with ⟨b10_0, el10_0, rfl, lq21, lq22, lq23, H20⟩ | ⟨rfl, rfl⟩
 ·have q21 := own_lt lq21
  have q22 := ne_f lq22
  have q23 := ne_f lq23
  cases p10 with
  | nil =>
   have d24 : (decide (c10_7 < (List.length r5 : Int))) = false := not_lt_of_drop hi10 hp10
   simp only [g_ref02_From_l0, hs, reduceCtorEq] at h
   replace h := kG10 _ h
   try dsimp only at h
   try simp only [hs] at h
   try simp only [vz, mq, mqm, tyf, mqt, g11, n19, e14, e15, e16, e17, e18, H12, H13, q21, H20, q22, q23, d24, nm, seval]
   refine opd_ret (x := (.ref b10_0 0 (List.length c10_6) 2 (List.length c10_6))) (by first | (simp only [Tryz.results21, resV, resL, resV1, tgt_ptr, tgt_tp, uw, cr, tyf, mqt, g11, n19, H12, H13, q21, H20, q22, q23, d24, nm, seval] <;> rfl) | rfl) ?_
   obtain rfl := kF _ h
   refine rr_tree ?_ ?_
   ·simp only [tre, tytre, Bool.and_self]
   ·first | (simp only [outV, uw, showV_ref, cr, tyf, mqt, nrm, tynrm, g11, n19, e14, e15, e16, e17, e18, H12, H13, q21, H20, q22, q23, d24, nm, seval] <;> rfl) | rfl
  | cons e10 p10 =>
   have d25 : (decide (c10_7 < (List.length r5 : Int))) = true := lt_of_drop hi10 hp10
   have o27 := getI_of_drop hi10 hp10
   have w26 := wrap_next hi10 hp10 g11
   simp only [g_ref02_From_l0, hs, reduceCtorEq] at h
   simp only [vz, mq, mqm, tyf, mqt, g11, n19, e14, e15, e16, e17, e18, H12, H13, q21, H20, q22, q23, d25, (ix41 o27), w26, nm, seval]
   refine cwp_drwQF (fun tm => tm 2 = .ptr 0 0 ∧ tm 3 = .ptr 1 0 ∧ tm 5 = .sl (cellsL cGSightPlace r5) (List.length r5) false ∧ tm 6 = .ref b10_0 0 (List.length c10_6) 2 (List.length c10_6) ∧ tm 7 = .lit (.int .i64 c10_7) ∧ True) (by refine ⟨e14, e15, e16, e17, e18, trivial⟩ <;> first | (simp only [ua, encM_nil, n19, e14, e15, e16, e17, e18, H12, H13, q21, H20, q22, q23, d25, w26, nm, seval] <;> rfl) | rfl) ?_
   rintro tm ⟨e28, e29, e30, e31, e32, _⟩
   have b33 := And.intro g11 (And.intro n19 (And.intro H12 (And.intro H13 (And.intro q21 (And.intro H20 (And.intro q22 (And.intro q23 (And.intro d25 w26))))))))
   rcases o35 : (g_ref02_Surely x0_s x1_b e10) with _ | r34
   ·simp only [o35, hs] at h
    exact absurd h kN10
   simp only [o35, hs] at h
   simp only [vz, mq, mqm, tyf, mqt, b33, (ix41 o27), e28, e29, e30, e31, e32, nm, seval]
   refine dktree (args0 := [.agg (cGSightStreet x0_s), .agg (cGSightBoard x1_b), .agg (cGSightPlace e10)]) (by first | (simp only [nrm, tynrm] <;> rfl) | rfl) (by simp only [tre, tytre, Bool.and_self]) (g_ref02_Surely_ok _ _ _ _ o35) ?_
   refine fin_cut (fun tm => tm 2 = .ptr 0 0 ∧ tm 3 = .ptr 1 0 ∧ tm 5 = .sl (cellsL cGSightPlace r5) (List.length r5) false ∧ tm 6 = .ref b10_0 0 (List.length c10_6) 2 (List.length c10_6) ∧ tm 7 = .lit (.int .i64 c10_7) ∧ tm 22 = .lit (.bool r34) ∧ True) (by refine ⟨e28, e29, e30, e31, e32, ?_, trivial⟩ <;> first | (simp only [ua, encM_nil, b33, e28, e29, e30, e31, e32, nm, seval] <;> rfl) | rfl) ?_
   rintro tm ⟨e36, e37, e38, e39, e40, e41, _⟩
   cases d42 : (r34)
   ·simp only [d42, hs] at h
    simp only [vz, mq, mqm, tyf, mqt, b33, (ix41 o27), e36, e37, e38, e39, e40, e41, d42, nm, seval]
    exact ⟨List.length p10, Nat.lt_succ_self _, by rw [hI10]; refine ⟨p10, c10_7 + 1, c10_6, .ref b10_0 0 (List.length c10_6) 2 (List.length c10_6), rfl, Int.le_trans hi10 (Int.le_add_one (Int.le_refl _)), drop_next hi10 hp10, rfl, (show 8 ≤ nx10 + 14 by omega), ?_, ?_, e36, e37, e38, ?_, ?_, Or.inl ⟨b10_0, el10_0, rfl, (by first | omega | (simp only [nm, seval]; omega)), (by first | omega | (intro hh; simp only [b33, reduceCtorEq] at hh)), (by first | omega | (intro hh; simp only [b33, reduceCtorEq] at hh)), ?_⟩, h⟩ <;> first | (simp only [ua, encM_nil, b33, e36, e37, e38, e39, e40, e41, d42, nm, seval] <;> rfl) | rfl⟩
   simp only [d42, hs] at h
   cases g43 : (roomOk 16 (List.length (c10_6 ++ [e10])))
   ·simp only [g43, hs] at h
    exact absurd h kN10
   simp only [g43, hs] at h
   simp only [vz, mq, mqm, tyf, mqt, b33, (ix41 o27), e36, e37, e38, e39, e40, e41, d42, g43, nm, seval]
   refine k_app (w := 2) (enc := cGSightPlace) (xs := c10_6) (ys := ([e10])) (el := el10_0) (el2 := (some 34)) (fun _ => rfl) lf41 ao41 Tryz.underlying41 (by first | rfl | assumption | (simp only [updH_apply, without_apply, et41, b33, nm, seval] <;> rfl) | (simp only [updH_apply, without_apply, cellsL_cons, cellsL_nil, mV_app, mV_app0, tyf, mqt, b33, (ix41 o27), e36, e37, e38, e39, e40, e41, d42, g43, nm, seval]; done)) (by first | rfl | assumption | (simp only [updH_apply, without_apply, et41, b33, nm, seval] <;> rfl) | (simp only [updH_apply, without_apply, cellsL_cons, cellsL_nil, mV_app, mV_app0, tyf, mqt, b33, (ix41 o27), e36, e37, e38, e39, e40, e41, d42, g43, nm, seval]; done)) (Nat.zero_lt_succ _) g43 ?_
   simp only [vz, mq, mqm, tyf, mqt, b33, (ix41 o27), e36, e37, e38, e39, e40, e41, d42, g43, nm, seval]
   exact ⟨List.length p10, Nat.lt_succ_self _, by rw [hI10]; refine ⟨p10, c10_7 + 1, (c10_6 ++ [e10]), .ref (nx10 + 17) 0 (List.length (c10_6 ++ [e10])) 2 (List.length (c10_6 ++ [e10])), rfl, Int.le_trans hi10 (Int.le_add_one (Int.le_refl _)), drop_next hi10 hp10, rfl, (show 8 ≤ nx10 + 22 by omega), ?_, ?_, e36, e37, e38, ?_, ?_, Or.inl ⟨nx10 + 17, (sameEl el10_0 34), rfl, (by first | omega | (simp only [nm, seval]; omega)), (by first | omega | (intro hh; simp only [b33, reduceCtorEq] at hh)), (by first | omega | (intro hh; simp only [b33, reduceCtorEq] at hh)), ?_⟩, h⟩ <;> first | (simp only [ua, encM_nil, b33, e36, e37, e38, e39, e40, e41, d42, nm, seval] <;> rfl) | rfl⟩
 ·cases p10 with
  | nil =>
   have d44 : (decide (c10_7 < (List.length r5 : Int))) = false := not_lt_of_drop hi10 hp10
   simp only [g_ref02_From_l0, hs, reduceCtorEq] at h
   replace h := kG10 _ h
   try dsimp only at h
   try simp only [hs] at h
   try simp only [vz, mq, mqm, tyf, mqt, g11, n19, e14, e15, e16, e17, e18, H12, H13, d44, nm, seval]
   refine opd_ret (x := (.lit (.slice none 0 0))) (by first | (simp only [Tryz.results21, resV, resL, resV1, tgt_ptr, tgt_tp, uw, cr, tyf, mqt, g11, n19, H12, H13, d44, nm, seval] <;> rfl) | rfl) ?_
   obtain rfl := kF _ h
   refine rr_tree ?_ ?_
   ·simp only [tre, tytre, Bool.and_self]
   ·first | (simp only [outV, uw, showV_ref, cr, tyf, mqt, nrm, tynrm, g11, n19, e14, e15, e16, e17, e18, H12, H13, d44, nm, seval] <;> rfl) | rfl
  | cons e10 p10 =>
   have d45 : (decide (c10_7 < (List.length r5 : Int))) = true := lt_of_drop hi10 hp10
   have o47 := getI_of_drop hi10 hp10
   have w46 := wrap_next hi10 hp10 g11
   simp only [g_ref02_From_l0, hs, reduceCtorEq] at h
   simp only [vz, mq, mqm, tyf, mqt, g11, n19, e14, e15, e16, e17, e18, H12, H13, d45, (ix41 o47), w46, nm, seval]
   refine cwp_drwQF (fun tm => tm 2 = .ptr 0 0 ∧ tm 3 = .ptr 1 0 ∧ tm 5 = .sl (cellsL cGSightPlace r5) (List.length r5) false ∧ tm 6 = .lit (.slice none 0 0) ∧ tm 7 = .lit (.int .i64 c10_7) ∧ True) (by refine ⟨e14, e15, e16, e17, e18, trivial⟩ <;> first | (simp only [ua, encM_nil, n19, e14, e15, e16, e17, e18, H12, H13, d45, w46, nm, seval] <;> rfl) | rfl) ?_
   rintro tm ⟨e48, e49, e50, e51, e52, _⟩
   rcases o54 : (g_ref02_Surely x0_s x1_b e10) with _ | r53
   ·simp only [o54, hs] at h
    exact absurd h kN10
   simp only [o54, hs] at h
   simp only [vz, mq, mqm, tyf, mqt, g11, n19, H12, H13, d45, (ix41 o47), w46, e48, e49, e50, e51, e52, nm, seval]
   refine dktree (args0 := [.agg (cGSightStreet x0_s), .agg (cGSightBoard x1_b), .agg (cGSightPlace e10)]) (by first | (simp only [nrm, tynrm] <;> rfl) | rfl) (by simp only [tre, tytre, Bool.and_self]) (g_ref02_Surely_ok _ _ _ _ o54) ?_
   refine fin_cut (fun tm => tm 2 = .ptr 0 0 ∧ tm 3 = .ptr 1 0 ∧ tm 5 = .sl (cellsL cGSightPlace r5) (List.length r5) false ∧ tm 6 = .lit (.slice none 0 0) ∧ tm 7 = .lit (.int .i64 c10_7) ∧ tm 22 = .lit (.bool r53) ∧ True) (by refine ⟨e48, e49, e50, e51, e52, ?_, trivial⟩ <;> first | (simp only [ua, encM_nil, n19, H12, H13, d45, w46, e48, e49, e50, e51, e52, nm, seval] <;> rfl) | rfl) ?_
   rintro tm ⟨e55, e56, e57, e58, e59, e60, _⟩
   cases d61 : (r53)
   ·simp only [d61, hs] at h
    have b62 := And.intro g11 (And.intro n19 (And.intro H12 (And.intro H13 (And.intro d45 (And.intro w46 d61)))))
    simp only [vz, mq, mqm, tyf, mqt, b62, (ix41 o47), e55, e56, e57, e58, e59, e60, nm, seval]
    exact ⟨List.length p10, Nat.lt_succ_self _, by rw [hI10]; refine ⟨p10, c10_7 + 1, ([] : List GSightPlace), .lit (.slice none 0 0), rfl, Int.le_trans hi10 (Int.le_add_one (Int.le_refl _)), drop_next hi10 hp10, rfl, (show 8 ≤ nx10 + 14 by omega), ?_, ?_, e55, e56, e57, ?_, ?_, Or.inr ⟨rfl, rfl⟩, h⟩ <;> first | (simp only [ua, encM_nil, b62, e55, e56, e57, e58, e59, e60, nm, seval] <;> rfl) | rfl⟩
   simp only [d61, hs] at h
   have b63 := And.intro g11 (And.intro n19 (And.intro H12 (And.intro H13 (And.intro d45 (And.intro w46 d61)))))
   cases g64 : (roomOk 16 (List.length (([] : List GSightPlace) ++ [e10])))
   ·simp only [g64, hs] at h
    exact absurd h kN10
   simp only [g64, hs] at h
   simp only [vz, mq, mqm, tyf, mqt, b63, (ix41 o47), e55, e56, e57, e58, e59, e60, g64, nm, seval]
   refine k_appN (w := 2) (enc := cGSightPlace) (ys := ([e10])) (el2 := (some 34)) (fun _ => rfl) lf41 ao41 Tryz.underlying41 (by first | rfl | assumption | (simp only [updH_apply, without_apply, et41, b63, nm, seval] <;> rfl) | (simp only [updH_apply, without_apply, cellsL_cons, cellsL_nil, mV_app, mV_app0, tyf, mqt, b63, (ix41 o47), e55, e56, e57, e58, e59, e60, g64, nm, seval]; done)) (Nat.zero_lt_succ _) g64 ?_
   simp only [vz, mq, mqm, tyf, mqt, b63, (ix41 o47), e55, e56, e57, e58, e59, e60, g64, nm, seval]
   exact ⟨List.length p10, Nat.lt_succ_self _, by rw [hI10]; refine ⟨p10, c10_7 + 1, (([] : List GSightPlace) ++ [e10]), .ref (nx10 + 17) 0 (List.length (([] : List GSightPlace) ++ [e10])) 2 (List.length (([] : List GSightPlace) ++ [e10])), rfl, Int.le_trans hi10 (Int.le_add_one (Int.le_refl _)), drop_next hi10 hp10, rfl, (show 8 ≤ nx10 + 22 by omega), ?_, ?_, e55, e56, e57, ?_, ?_, Or.inl ⟨nx10 + 17, (some 34), rfl, (by first | omega | (simp only [nm, seval]; omega)), (by first | omega | (intro hh; simp only [b63, reduceCtorEq] at hh)), (by first | omega | (intro hh; simp only [b63, reduceCtorEq] at hh)), ?_⟩, h⟩ <;> first | (simp only [ua, encM_nil, b63, e55, e56, e57, e58, e59, e60, nm, seval] <;> rfl) | rfl⟩
end Go.V
end
section
namespace Go.V
open Go Go.Proofs
def g_ref02_Maybe_l0 (x0_s : GSightStreet) (x1_b : GSightBoard) : List GSightPlace → Int → Int → Option (LOut (Int) (Int))
 | [], c0_7, c0_6 => some (.go c0_6)
 | e0 :: p0, c0_7, c0_6 => Option.bind (g_ref02_Seen x0_s x1_b e0) (fun r2 => cond (r2 != 1) (g_ref02_Maybe_l0 x0_s x1_b p0 (c0_7 + 1) (IntKind.i64.wrap (c0_6 + 1))) (g_ref02_Maybe_l0 x0_s x1_b p0 (c0_7 + 1) c0_6))
def g_ref02_Maybe (x0_s : GSightStreet) (x1_b : GSightBoard) : Option (Int) := Option.bind (g_ref02_Places x0_s) (fun r1 => cond (lenOk r1) (lbind (g_ref02_Maybe_l0 x0_s x1_b r1 0 0) (fun r4 => some r4) (fun c3 => some c3) (fun _ _ => none)) none)
end Go.V
end
section
namespace Go.V
open Go Go.Proofs
end Go.V
end
section
namespace Go.V
open Go
def rowP (a : Int) : Nat → Int → List GSightPlace
 | 0, _ => []
 | k + 1, c => ⟨a, c + 1⟩ :: rowP a k (c + 1)
def gridP (w : Nat) : Nat → Int → List GSightPlace
 | 0, _ => []
 | k + 1, c => rowP c w 0 ++ gridP w k (c + 1)
theorem mem_rowP {a : Int} {p : GSightPlace} : ∀ (k : Nat) (c : Int), p ∈ rowP a k c → p.Along = a ∧ c + 1 ≤ p.Across ∧ p.Across ≤ c + k
 | 0, c, h => by cases h
 | k + 1, c, h => by
  rcases List.mem_cons.1 h with rfl | h
  ·exact ⟨rfl, by show c + 1 ≤ c + 1; omega, by show c + 1 ≤ c + ((k + 1 : Nat) : Int); omega⟩
  ·have := mem_rowP k (c + 1) h; exact ⟨this.1, by omega, by omega⟩
theorem mem_gridP {w : Nat} {p : GSightPlace} : ∀ (k : Nat) (c : Int), p ∈ gridP w k c → (c ≤ p.Along ∧ p.Along < c + k) ∧ 1 ≤ p.Across ∧ p.Across ≤ w
 | 0, c, h => by cases h
 | k + 1, c, h => by
  rcases List.mem_append.1 h with h | h
  ·have := mem_rowP _ _ h; exact ⟨⟨by omega, by omega⟩, by omega, by omega⟩
  ·have := mem_gridP k (c + 1) h; exact ⟨⟨by omega, by omega⟩, by omega, by omega⟩
theorem rowP_len {a : Int} : ∀ (k : Nat) (c : Int), (rowP a k c).length = k
 | 0, c => rfl
 | k + 1, c => by simp [rowP, rowP_len k]
theorem gridP_len {w : Nat} (hw : w ≤ 12) : ∀ (k : Nat) (c : Int), (gridP w k c).length ≤ k * 12
 | 0, c => Nat.le_refl _
 | k + 1, c => by simp only [gridP, List.length_append, rowP_len]; have := gridP_len hw k (c + 1); omega
theorem bnd_small {n : Int} (h : n ≤ 1000) : boundOk n = true := by unfold boundOk; exact decide_eq_true (by omega)
section
variable {s : GSightStreet} {b : GSightBoard}
theorem pl_l1 (a : Int) (hw : s.Width ≤ 12) : ∀ (k : Nat) (c : Int) (fuel : Nat) (acc : List GSightPlace), k < fuel → 0 ≤ c → c + k = s.Width → acc.length + k ≤ 1000 → g_ref02_Places_l1 s a fuel acc (c + 1) = some (.go (acc ++ rowP a k c, s.Width + 1))
 | k, c, 0, acc, h, h0, h1, h2 => by omega
 | 0, c, fuel + 1, acc, h, h0, h1, h2 => by
  simp only [g_ref02_Places_l1, decide_eq_false (show ¬ (c + 1 ≤ s.Width) by omega), cond_false, rowP, List.append_nil]
  rw [show c = s.Width by omega]
 | k + 1, c, fuel + 1, acc, h, h0, h1, h2 => by
  have hr : roomOk 16 (acc ++ [GSightPlace.mk a (c + 1)]).length = true := room_small _ (by simp; omega) (by omega)
  simp only [g_ref02_Places_l1, decide_eq_true (show c + 1 ≤ s.Width by omega), cond_true, hr]
  rw [wrap_eq (by omega) (by omega), pl_l1 a hw k (c + 1) fuel _ (by omega) (by omega) (by omega) (by simp; omega), rowP, List.append_assoc]
  rfl
theorem pl_l0 (hw : s.Width ≤ 12) (hw1 : 0 ≤ s.Width) (hl : s.Length ≤ 40) : ∀ (k : Nat) (c : Int) (fuel : Nat) (acc : List GSightPlace), k < fuel → 0 ≤ c → c + k = s.Length + 1 → acc.length + k * 12 ≤ 1000 → g_ref02_Places_l0 s fuel acc c = some (.go (acc ++ gridP s.Width.toNat k c, s.Length + 1))
 | k, c, 0, acc, h, h0, h1, h2 => by omega
 | 0, c, fuel + 1, acc, h, h0, h1, h2 => by
  simp only [g_ref02_Places_l0, decide_eq_false (show ¬ (c ≤ s.Length) by omega), cond_false, gridP, List.append_nil]
  rw [show c = s.Length + 1 by omega]
 | k + 1, c, fuel + 1, acc, h, h0, h1, h2 => by
  simp only [g_ref02_Places_l0, decide_eq_true (show c ≤ s.Length by omega), cond_true]
  have := pl_l1 (s := s) c hw s.Width.toNat 0 1000000 acc (by omega) (by omega) (by omega) (by omega)
  rw [Int.zero_add] at this
  rw [this, lbind_go]
  simp only []
  rw [wrap_eq (by omega) (by omega), pl_l0 hw hw1 hl k (c + 1) fuel _ (by omega) (by omega) (by omega) (by simp only [List.length_append, rowP_len]; omega), gridP, List.append_assoc]
def allP (s : GSightStreet) : List GSightPlace := gridP s.Width.toNat (s.Length + 1).toNat 0
theorem places_eq (hw : s.Width ≤ 12) (hw1 : 0 ≤ s.Width) (hl : s.Length ≤ 40) (hl0 : 0 ≤ s.Length) : g_ref02_Places s = some (allP s) := by
 simp only [g_ref02_Places]
 rw [pl_l0 hw hw1 hl (s.Length + 1).toNat 0 1000000 [] (by omega) (by omega) (by omega) (by simp; omega), lbind_go]
 rfl
theorem fr_l0 : ∀ (L : List GSightPlace) (c : Int) (acc : List GSightPlace), (∀ p ∈ L, Good s b p) → acc.length + L.length ≤ 1000 → g_ref02_From_l0 s b L c acc = some (.go (acc ++ L.filter (sureB s b)))
 | [], c, acc, h, h1 => by simp [g_ref02_From_l0]
 | p :: L, c, acc, h, h1 => by
  have ih := fun acc' => fr_l0 L (c + 1) acc' (fun p hp => h p (List.mem_cons_of_mem _ hp))
  simp only [List.length_cons] at h1
  have hr : roomOk 16 (acc ++ [p]).length = true := room_small _ (by simp; omega) (by omega)
  simp only [g_ref02_From_l0, refSurely_eq (fair_good (h p (List.mem_cons_self ..))), Option.bind_some, List.filter_cons, hr, cond_true]
  cases sureB s b p with
  | true => simp only [cond_true, if_true]; rw [ih _ (by simp; omega), List.append_assoc]; rfl
  | false => simp only [cond_false, Bool.false_eq_true, if_false]; rw [ih _ (by omega)]
theorem mb_l0 : ∀ (L : List GSightPlace) (c n : Int), (∀ p ∈ L, Good s b p) → 0 ≤ n → n + L.length ≤ 1000 → g_ref02_Maybe_l0 s b L c n = some (.go (n + (L.filter (fun p => seenI s b p != 1)).length))
 | [], c, n, h, h0, h1 => by simp [g_ref02_Maybe_l0]
 | p :: L, c, n, h, h0, h1 => by
  have ih := fun n' => mb_l0 L (c + 1) n' (fun p hp => h p (List.mem_cons_of_mem _ hp))
  simp only [List.length_cons] at h1
  simp only [g_ref02_Maybe_l0, refSeen_eq s b p (h p (List.mem_cons_self ..)), Option.bind_some, List.filter_cons]
  cases seenI s b p != 1 with
  | true =>
   simp only [cond_true, if_true, List.length_cons]
   rw [wrap_eq (by omega) (by omega), ih _ (by omega) (by omega)]
   congr 2; omega
  | false => simp only [cond_false, Bool.false_eq_true, if_false]; rw [ih _ h0 (by omega)]
theorem all_good {n : Int} (h1 : streetB s = true) (h2 : numB s n = true) : ∃ b, getI s.Boards n = some b ∧ (1 ≤ s.Length ∧ s.Length ≤ 40) ∧ (1 ≤ s.Width ∧ s.Width ≤ 12) ∧ ∀ p ∈ allP s, Good s b p := by
 have hs := h1
 simp only [streetB, Bool.and_eq_true, inB_iff] at hs
 obtain ⟨hl, hw, _⟩ := hs
 have h3 : placeB s ⟨0, 1⟩ = true := by simp only [placeB, Bool.and_eq_true, inB_iff]; omega
 obtain ⟨b, b1, _, _⟩ := good_of h1 h2 h3
 refine ⟨b, b1, hl, hw, fun p hp => ?_⟩
 have := mem_gridP _ _ hp
 have h4 : placeB s p = true := by simp only [placeB, Bool.and_eq_true, inB_iff]; omega
 obtain ⟨b', b2, _, b3⟩ := good_of h1 h2 h4
 rw [b1] at b2
 cases b2
 exact b3
theorem From_eq (hl : 1 ≤ s.Length ∧ s.Length ≤ 40) (hw : 1 ≤ s.Width ∧ s.Width ≤ 12) (hg : ∀ p ∈ allP s, Good s b p) : g_ref02_From s b = some ((allP s).filter (sureB s b)) ∧ g_ref02_Maybe s b = some (((allP s).filter (fun p => seenI s b p != 1)).length : Int) := by
 have hn : (allP s).length ≤ 500 := by have := gridP_len (show s.Width.toNat ≤ 12 by omega) (s.Length + 1).toNat 0; unfold allP; omega
 simp only [g_ref02_From, g_ref02_Maybe, places_eq hw.2 (by omega) hl.2 (by omega), Option.bind_some, lenOk_of (show (allP s).length < 9223372036854775808 by omega), cond_true]
 rw [fr_l0 _ _ _ hg (by simp; omega), lbind_go, mb_l0 _ _ _ hg (Int.le_refl 0) (by omega), lbind_go, Int.zero_add]
 exact ⟨rfl, rfl⟩
end
end Go.V
end
section
set_option linter.unusedVariables false
set_option linter.unusedSimpArgs false
namespace Go.V
open Go
section
variable {P : Program} {G : Glob} {f : FuncId} {β γ w c nx : Nat} {tm : Nat → VV} {H : Nat → Option VObj} {df : List VDef} {d : Option Tmp} {K : List Nat → List Nat → St → Prop} {el : Option TypeId} {α : Type} {enc : α → List VV} {xs ys : List α} {x : VV}
end
section
variable {P : Program} {G : Glob} {β γ w e : Nat} {t ty : TypeId} {tm : Nat → VV} {H : Nat → Option VObj} {d : Option Tmp} {k : VV → VEff → Prop} {el : Option TypeId} {α : Type} {enc : α → List VV} {xs ys : List α} {pos : String} {af : Array Edge} {g : Option (Nat × Bool)} {x : Operand} {lo hi : Option Operand}
end
section
variable {P : Program} {G : Glob} {f : FuncId} {γ nx : Nat} {tm : Nat → VV} {H : Nat → Option VObj} {df : List VDef} {d : Option Tmp} {x : VV}
theorem ktree0 {K : St → Prop} {Qp : VV → St → Prop} (hp : VPure P G f [] (.tree x)) (h : fin d γ tm H nx df K x .none) : callK P G f [] ⟨tm, H, nx, df⟩ d γ K Qp := ktree (args0 := []) rfl rfl hp h
end
end Go.V
end
section
set_option linter.unusedVariables false
set_option linter.defProp false
namespace Go.V
open Go
section
variable {P : Program} {H : Nat → Option VObj} {t : TypeId} {x y : Operand} {k : IntKind} {a b : Int}
end
end Go.V
end
