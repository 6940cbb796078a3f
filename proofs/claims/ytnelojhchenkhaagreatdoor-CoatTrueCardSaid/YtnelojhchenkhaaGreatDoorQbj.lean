/- Part of a proof: a logic of values by content, lifted functions, what follows. -/
import Derived.Test.YtnelojhchenkhaaGreatDoorQbc
import Derived.Test.YtnelojhchenkhaaGreatDoorQbe
import Derived.Test.YtnelojhchenkhaaGreatDoorQbi
set_option linter.all false
set_option maxRecDepth 4000
set_option maxHeartbeats 4000000
section
namespace Go.V
open Go Go.Proofs
def g_ref03_peels (x0_s : GCoatSheet) (x1_plan : List Int) (x2_coat : Int) (x3_weather : List Int) : Option (Bool) := cond (decide ((IntKind.i64.wrap (x2_coat + 1)) < (List.length x1_plan : Int))) (Option.bind (g_ref03_Dries x1_plan x2_coat x3_weather) (fun r1 => Option.bind (getI x0_s.Coats x2_coat) (fun x2 => some (decide (r1 > x2.Peel))))) (some false)
theorem g_ref03_peels_ok (x0_s : GCoatSheet) (x1_plan : List Int) (x2_coat : Int) (x3_weather : List Int) (R : Bool) (h : g_ref03_peels x0_s x1_plan x2_coat x3_weather = some R) : VPure Tryz.prog G0 69 [.agg (cGCoatSheet x0_s), .sl (cellsL eI x1_plan) (List.length x1_plan) false, .lit (.int .i64 x2_coat), .sl (cellsL eI x3_weather) (List.length x3_weather) false] (.tree (.lit (.bool R))) := by
 refine VPure.runR mixed Tryz.call69 Tryz.func69 rfl (by simp [Tryz.ntmps69]; kernel_rfl) ?_
 obtain ⟨KF, h, kF, kN⟩ := fun_intro h
 simp only [g_ref03_peels] at h
 simp only [vz, tyf, nm, seval]
 refine cwp_drwQF (fun tm => tm 1 = .sl (cellsL eI x1_plan) (List.length x1_plan) false ∧ tm 2 = .lit (.int .i64 x2_coat) ∧ tm 3 = .sl (cellsL eI x3_weather) (List.length x3_weather) false ∧ tm 4 = .ptr 0 0 ∧ True) (by refine ⟨?_, ?_, ?_, ?_, trivial⟩ <;> first | (simp only [ua, nm, seval] <;> rfl) | rfl) ?_
 rintro tm ⟨e3, e4, e5, e6, _⟩
 cases d7 : (decide ((IntKind.i64.wrap (x2_coat + 1)) < (List.length x1_plan : Int)))
 ·simp only [d7, hs, reduceCtorEq] at h
  try simp only [vz, tyf, e3, e4, e5, e6, d7, nm, seval]
  obtain rfl := kF _ h
  exact opd_bool Tryz.results69 (by first | rfl | (simp only [upd_apply, seval] <;> rfl))
 simp only [d7, hs, reduceCtorEq] at h
 rcases o9 : (g_ref03_Dries x1_plan x2_coat x3_weather) with _ | r8
 ·simp only [o9, hs, reduceCtorEq] at h
  exact absurd h kN
 simp only [o9, hs, reduceCtorEq] at h
 simp only [vz, tyf, e3, e4, e5, e6, d7, nm, seval]
 refine dktree (args0 := [.sl (cellsL eI x1_plan) (List.length x1_plan) false, .lit (.int .i64 x2_coat), .sl (cellsL eI x3_weather) (List.length x3_weather) false]) (by first | (simp only [nrm, tynrm] <;> rfl) | rfl) (by simp only [tre, tytre, Bool.and_self]) (g_ref03_Dries_ok _ _ _ _ o9) ?_
 refine fin_cut (fun tm => tm 2 = .lit (.int .i64 x2_coat) ∧ tm 4 = .ptr 0 0 ∧ tm 14 = .lit (.bool true) ∧ tm 18 = .lit (.int .i64 r8) ∧ True) (by refine ⟨e4, e6, ?_, ?_, trivial⟩ <;> first | (simp only [ua, e3, e4, e5, e6, d7, nm, seval] <;> rfl) | rfl) ?_
 rintro tm ⟨e10, e11, e12, e13, _⟩
 rcases o15 : (getI x0_s.Coats x2_coat) with _ | x14
 ·simp only [o15, hs, reduceCtorEq] at h
  exact absurd h kN
 simp only [o15, hs, reduceCtorEq] at h
 try simp only [vz, tyf, d7, e10, e11, e12, e13, (ix24 o15), nm, seval]
 obtain rfl := kF _ h
 exact opd_bool Tryz.results69 (by first | rfl | (simp only [upd_apply, seval] <;> rfl))
end Go.V
end
section
namespace Go.V
open Go Go.Proofs
def g_ref03_Holds_l0 (x0_s : GCoatSheet) (x1_plan : List Int) (x2_weather : List Int) : List Int → Int → Option (LOut (Bool) (Unit))
 | [], c0_7 => some (.go ())
 | e0 :: p0, c0_7 => Option.bind (g_ref03_early x0_s x1_plan c0_7 x2_weather) (fun r1 => cond (r1) (some (.ret false)) (Option.bind (g_ref03_peels x0_s x1_plan c0_7 x2_weather) (fun r2 => cond (r2) (some (.ret false)) (g_ref03_Holds_l0 x0_s x1_plan x2_weather p0 (c0_7 + 1)))))
def g_ref03_Holds (x0_s : GCoatSheet) (x1_plan : List Int) (x2_weather : List Int) : Option (Bool) := cond (lenOk x1_plan) (lbind (g_ref03_Holds_l0 x0_s x1_plan x2_weather x1_plan 0) (fun r4 => some r4) (fun c3 => some true) (fun _ _ => none)) none
theorem g_ref03_Holds_ok (x0_s : GCoatSheet) (x1_plan : List Int) (x2_weather : List Int) (R : Bool) (h : g_ref03_Holds x0_s x1_plan x2_weather = some R) : VPure Tryz.prog G0 24 [.agg (cGCoatSheet x0_s), .sl (cellsL eI x1_plan) (List.length x1_plan) false, .sl (cellsL eI x2_weather) (List.length x2_weather) false] (.tree (.lit (.bool R))) := by
 refine VPure.runR mixed Tryz.call24 Tryz.func24 rfl (by simp [Tryz.ntmps24]; kernel_rfl) ?_
 obtain ⟨KF, h, kF, kN⟩ := fun_intro h
 simp only [g_ref03_Holds] at h
 cases g6 : (lenOk x1_plan)
 ·simp only [g6, hs, reduceCtorEq] at h
  exact absurd h kN
 simp only [g6, hs, reduceCtorEq] at h
 simp only [vz, tyf, g6, nm, seval]
 obtain ⟨K5, h, kR5, kG5, kB5, kN5⟩ := lbind_intro h kN
 obtain ⟨f5, hf5, h⟩ := call2 h
 obtain ⟨I5, hI5⟩ : ∃ I : Nat → St → Prop, I = (fun m st => ∃ (p5 : List Int) (c5_7 : Int), m = List.length p5 ∧ 0 ≤ c5_7 ∧ List.drop (Int.toNat c5_7) x1_plan = p5 ∧ st.df = [] ∧ 3 ≤ st.nx ∧ st.H 0 = some (.cells (some 26) (cGCoatSheet x0_s)) ∧ st.tm 1 = .sl (cellsL eI x1_plan) (List.length x1_plan) false ∧ st.tm 2 = .sl (cellsL eI x2_weather) (List.length x2_weather) false ∧ st.tm 3 = .ptr 0 0 ∧ st.tm 7 = .lit (.int .i64 c5_7) ∧ K5 (f5 p5 c5_7)) := ⟨_, rfl⟩
 refine loopK mixed (by kernel_rfl) I5 (List.length x1_plan) (by rw [hI5]; refine ⟨x1_plan, 0, rfl, Int.le_refl _, rfl, rfl, (show 3 ≤ 3 by omega), ?_, ?_, ?_, ?_, ?_, h⟩ <;> first | (simp only [ua, nm, seval] <;> rfl) | rfl) ?_
 rintro m ⟨tm, H, nx5, df⟩ hinv
 rw [hI5] at hinv
 obtain ⟨p5, c5_7, rfl, hi5, hp5, hdf, hn5, H7, e8, e9, e10, e11, h⟩ := hinv
 simp only at hdf hn5 H7 e8 e9 e10 e11
 have n12 := base_ne0 (m := 3) (b := nx5) (by omega)
 subst hdf hf5
 cases p5 with
 | nil =>
  have d13 : (decide (c5_7 < (List.length x1_plan : Int))) = false := not_lt_of_drop hi5 hp5
  simp only [g_ref03_Holds_l0, hs, reduceCtorEq] at h
  replace h := kG5 _ h
  try dsimp only at h
  try simp only [hs] at h
  try simp only [vz, tyf, g6, n12, e8, e9, e10, e11, H7, d13, nm, seval]
  obtain rfl := kF _ h
  exact opd_bool Tryz.results24 (by first | rfl | (simp only [upd_apply, seval] <;> rfl))
 | cons e5 p5 =>
  have d14 : (decide (c5_7 < (List.length x1_plan : Int))) = true := lt_of_drop hi5 hp5
  have o16 := getI_of_drop hi5 hp5
  have w15 := wrap_next hi5 hp5 g6
  simp only [g_ref03_Holds_l0, hs, reduceCtorEq] at h
  rcases o18 : (g_ref03_early x0_s x1_plan c5_7 x2_weather) with _ | r17
  ·simp only [o18, hs, reduceCtorEq] at h
   exact absurd h kN5
  simp only [o18, hs, reduceCtorEq] at h
  simp only [vz, tyf, g6, n12, e8, e9, e10, e11, H7, d14, (ix23 o16), w15, nm, seval]
  refine ktree (args0 := [.agg (cGCoatSheet x0_s), .sl (cellsL eI x1_plan) (List.length x1_plan) false, .lit (.int .i64 c5_7), .sl (cellsL eI x2_weather) (List.length x2_weather) false]) (by first | (simp only [nrm, tynrm] <;> rfl) | rfl) (by simp only [tre, tytre, Bool.and_self]) (g_ref03_early_ok _ _ _ _ _ o18) ?_
  refine fin_cut (fun tm => tm 1 = .sl (cellsL eI x1_plan) (List.length x1_plan) false ∧ tm 2 = .sl (cellsL eI x2_weather) (List.length x2_weather) false ∧ tm 3 = .ptr 0 0 ∧ tm 7 = .lit (.int .i64 c5_7) ∧ tm 18 = .lit (.bool r17) ∧ True) (by refine ⟨e8, e9, e10, e11, ?_, trivial⟩ <;> first | (simp only [ua, n12, e8, e9, e10, e11, H7, d14, w15, nm, seval] <;> rfl) | rfl) ?_
  rintro tm ⟨e19, e20, e21, e22, e23, _⟩
  cases d24 : (r17)
  ·simp only [d24, hs, reduceCtorEq] at h
   rcases o26 : (g_ref03_peels x0_s x1_plan c5_7 x2_weather) with _ | r25
   ·simp only [o26, hs, reduceCtorEq] at h
    exact absurd h kN5
   simp only [o26, hs, reduceCtorEq] at h
   simp only [vz, tyf, g6, n12, H7, d14, (ix23 o16), w15, e19, e20, e21, e22, e23, d24, nm, seval]
   refine ktree (args0 := [.agg (cGCoatSheet x0_s), .sl (cellsL eI x1_plan) (List.length x1_plan) false, .lit (.int .i64 c5_7), .sl (cellsL eI x2_weather) (List.length x2_weather) false]) (by first | (simp only [nrm, tynrm] <;> rfl) | rfl) (by simp only [tre, tytre, Bool.and_self]) (g_ref03_peels_ok _ _ _ _ _ o26) ?_
   refine fin_cut (fun tm => tm 1 = .sl (cellsL eI x1_plan) (List.length x1_plan) false ∧ tm 2 = .sl (cellsL eI x2_weather) (List.length x2_weather) false ∧ tm 3 = .ptr 0 0 ∧ tm 7 = .lit (.int .i64 c5_7) ∧ tm 19 = .lit (.bool false) ∧ tm 24 = .lit (.bool r25) ∧ True) (by refine ⟨e19, e20, e21, e22, ?_, ?_, trivial⟩ <;> first | (simp only [ua, n12, H7, d14, w15, e19, e20, e21, e22, e23, d24, nm, seval] <;> rfl) | rfl) ?_
   rintro tm ⟨e27, e28, e29, e30, e31, e32, _⟩
   cases d33 : (r25)
   ·simp only [d33, hs, reduceCtorEq] at h
    have b34 := And.intro g6 (And.intro n12 (And.intro H7 (And.intro d14 (And.intro w15 (And.intro d24 d33)))))
    simp only [vz, tyf, b34, (ix23 o16), e27, e28, e29, e30, e31, e32, nm, seval]
    exact ⟨List.length p5, Nat.lt_succ_self _, by rw [hI5]; refine ⟨p5, c5_7 + 1, rfl, Int.le_trans hi5 (Int.le_add_one (Int.le_refl _)), drop_next hi5 hp5, rfl, (show 3 ≤ nx5 + 19 by omega), ?_, e27, e28, e29, ?_, h⟩ <;> first | (simp only [ua, b34, e27, e28, e29, e30, e31, e32, nm, seval] <;> rfl) | rfl⟩
   simp only [d33, hs, reduceCtorEq] at h
   have b35 := And.intro g6 (And.intro n12 (And.intro H7 (And.intro d14 (And.intro w15 (And.intro d24 d33)))))
   try simp only [vz, tyf, b35, (ix23 o16), e27, e28, e29, e30, e31, e32, nm, seval]
   replace h := kR5 _ h
   try dsimp only at h
   obtain rfl := kF _ h
   exact opd_bool Tryz.results24 (by first | rfl | (simp only [upd_apply, seval] <;> rfl))
  simp only [d24, hs, reduceCtorEq] at h
  try simp only [vz, tyf, g6, n12, H7, d14, (ix23 o16), w15, e19, e20, e21, e22, e23, d24, nm, seval]
  replace h := kR5 _ h
  try dsimp only at h
  obtain rfl := kF _ h
  exact opd_bool Tryz.results24 (by first | rfl | (simp only [upd_apply, seval] <;> rfl))
end Go.V
end
section
namespace Go.V
open Go Go.Proofs
def g_ref03_Lows_l0  : List GSpan → Int → (List Int) → Option (LOut (List Int) ((List Int)))
 | [], c0_4, c0_3 => some (.go c0_3)
 | e0 :: p0, c0_4, c0_3 => cond (roomOk 8 (List.length (c0_3 ++ [e0.Low]))) (g_ref03_Lows_l0 p0 (c0_4 + 1) (c0_3 ++ [e0.Low])) none
def g_ref03_Lows (x0_s : GCoatSheet) : Option (List Int) := cond (lenOk x0_s.Dry) (lbind (g_ref03_Lows_l0 x0_s.Dry 0 ([] : List Int)) (fun r2 => some r2) (fun c1 => some c1) (fun _ _ => none)) none
theorem g_ref03_Lows_ok (x0_s : GCoatSheet) (R : List Int) (h : g_ref03_Lows x0_s = some R) : VPure Tryz.prog G0 33 [.agg (cGCoatSheet x0_s)] (.tree (.sl (cellsL eI R) (List.length R) false)) := by
 refine VPure.runR mixed Tryz.call33 Tryz.func33 rfl (by simp [Tryz.ntmps33]; kernel_rfl) ?_
 obtain ⟨KF, h, kF, kN⟩ := fun_intro h
 simp only [g_ref03_Lows] at h
 cases g4 : (lenOk x0_s.Dry)
 ·simp only [g4, hs, reduceCtorEq] at h
  exact absurd h kN
 simp only [g4, hs, reduceCtorEq] at h
 simp only [vz, tyf, g4, nm, seval]
 obtain ⟨K3, h, kR3, kG3, kB3, kN3⟩ := lbind_intro h kN
 obtain ⟨f3, hf3, h⟩ := call3 h
 obtain ⟨I3, hI3⟩ : ∃ I : Nat → St → Prop, I = (fun m st => ∃ (p3 : List GSpan) (c3_4 : Int) (c3_3 : List Int) (y3_0 : VV), m = List.length p3 ∧ 0 ≤ c3_4 ∧ List.drop (Int.toNat c3_4) x0_s.Dry = p3 ∧ st.df = [] ∧ 4 ≤ st.nx ∧ st.H 0 = some (.cells (some 26) (cGCoatSheet x0_s)) ∧ st.tm 1 = .ptr 0 0 ∧ st.tm 3 = y3_0 ∧ st.tm 4 = .lit (.int .i64 c3_4) ∧ ((∃ (β : Nat) (el : Option TypeId), y3_0 = .ref β 0 (List.length c3_3) 1 (List.length c3_3) ∧ β < st.nx ∧ β ≠ 0 ∧ st.H β = some (.cells el (cellsL eI c3_3))) ∨ (y3_0 = .lit (.slice none 0 0) ∧ c3_3 = [])) ∧ K3 (f3 p3 c3_4 c3_3)) := ⟨_, rfl⟩
 refine loopK mixed (by kernel_rfl) I3 (List.length x0_s.Dry) (by rw [hI3]; refine ⟨x0_s.Dry, 0, ([] : List Int), .lit (.slice none 0 0), rfl, Int.le_refl _, rfl, rfl, (show 4 ≤ 4 by omega), ?_, ?_, ?_, ?_, Or.inr ⟨rfl, rfl⟩, h⟩ <;> first | (simp only [ua, nm, seval] <;> rfl) | rfl) ?_
 rintro m ⟨tm, H, nx3, df⟩ hinv
 rw [hI3] at hinv
 obtain ⟨p3, c3_4, c3_3, y3_0, rfl, hi3, hp3, hdf, hn3, H5, e6, e7, e8, ow3_0, h⟩ := hinv
 simp only at hdf hn3 H5 e6 e7 e8 ow3_0
 have n9 := base_ne0 (m := 4) (b := nx3) (by omega)
 subst hdf hf3
 rcases ow3_0 with ⟨b3_0, el3_0, rfl, lq11, lq12, H10⟩ | ⟨rfl, rfl⟩
 ·have q11 := own_lt lq11
  have q12 := ne_f lq12
  cases p3 with
  | nil =>
   have d13 : (decide (c3_4 < (List.length x0_s.Dry : Int))) = false := not_lt_of_drop hi3 hp3
   simp only [g_ref03_Lows_l0, hs, reduceCtorEq] at h
   replace h := kG3 _ h
   try dsimp only at h
   try simp only [hs] at h
   try simp only [vz, tyf, g4, n9, e6, e7, e8, H5, q11, H10, q12, d13, nm, seval]
   refine opd_ret (x := (.ref b3_0 0 (List.length c3_3) 1 (List.length c3_3))) (by first | (simp only [Tryz.results33, resV, resL, resV1, tgt_ptr, tgt_tp, uw, cr, tyf, g4, n9, H5, q11, H10, q12, d13, nm, seval] <;> rfl) | rfl) ?_
   obtain rfl := kF _ h
   refine rr_tree ?_ ?_
   ·simp only [tre, tytre, Bool.and_self]
   ·first | (simp only [outV, uw, showV_ref, cr, tyf, nrm, tynrm, g4, n9, e6, e7, e8, H5, q11, H10, q12, d13, nm, seval] <;> rfl) | rfl
  | cons e3 p3 =>
   have d14 : (decide (c3_4 < (List.length x0_s.Dry : Int))) = true := lt_of_drop hi3 hp3
   have o16 := getI_of_drop hi3 hp3
   have w15 := wrap_next hi3 hp3 g4
   simp only [g_ref03_Lows_l0, hs, reduceCtorEq] at h
   cases g17 : (roomOk 8 (List.length (c3_3 ++ [e3.Low])))
   ·simp only [g17, hs, reduceCtorEq] at h
    exact absurd h kN3
   simp only [g17, hs, reduceCtorEq] at h
   simp only [vz, tyf, g4, n9, e6, e7, e8, H5, q11, H10, q12, d14, (ix22 o16), w15, g17, nm, seval]
   refine k_app (w := 1) (enc := eI) (xs := c3_3) (ys := ([e3.Low])) (el := el3_0) (el2 := (some 3)) (fun _ => rfl) lf23 ao23 Tryz.underlying23 (by first | rfl | assumption | (simp only [updH_apply, without_apply, et23, n9, H5, q11, H10, q12, nm, seval] <;> rfl) | (simp only [updH_apply, without_apply, cellsL_cons, cellsL_nil, mV_app, mV_app0, tyf, g4, n9, e6, e7, e8, H5, q11, H10, q12, d14, (ix22 o16), w15, g17, nm, seval]; done)) (by first | rfl | assumption | (simp only [updH_apply, without_apply, et23, n9, H5, q11, H10, q12, nm, seval] <;> rfl) | (simp only [updH_apply, without_apply, cellsL_cons, cellsL_nil, mV_app, mV_app0, tyf, g4, n9, e6, e7, e8, H5, q11, H10, q12, d14, (ix22 o16), w15, g17, nm, seval]; done)) (Nat.zero_lt_succ _) g17 ?_
   simp only [vz, tyf, g4, n9, e6, e7, e8, H5, q11, H10, q12, d14, (ix22 o16), w15, g17, nm, seval]
   exact ⟨List.length p3, Nat.lt_succ_self _, by rw [hI3]; refine ⟨p3, c3_4 + 1, (c3_3 ++ [e3.Low]), .ref (nx3 + 13) 0 (List.length (c3_3 ++ [e3.Low])) 1 (List.length (c3_3 ++ [e3.Low])), rfl, Int.le_trans hi3 (Int.le_add_one (Int.le_refl _)), drop_next hi3 hp3, rfl, (show 4 ≤ nx3 + 18 by omega), ?_, e6, ?_, ?_, Or.inl ⟨nx3 + 13, (sameEl el3_0 3), rfl, (by first | omega | (simp only [nm, seval]; omega)), (by first | omega | (intro hh; simp only [n9, q11, q12, reduceCtorEq] at hh)), ?_⟩, h⟩ <;> first | (simp only [ua, n9, e6, e7, e8, H5, q11, H10, q12, d14, w15, nm, seval] <;> rfl) | rfl⟩
 ·cases p3 with
  | nil =>
   have d18 : (decide (c3_4 < (List.length x0_s.Dry : Int))) = false := not_lt_of_drop hi3 hp3
   simp only [g_ref03_Lows_l0, hs, reduceCtorEq] at h
   replace h := kG3 _ h
   try dsimp only at h
   try simp only [hs] at h
   try simp only [vz, tyf, g4, n9, e6, e7, e8, H5, d18, nm, seval]
   refine opd_ret (x := (.lit (.slice none 0 0))) (by first | (simp only [Tryz.results33, resV, resL, resV1, tgt_ptr, tgt_tp, uw, cr, tyf, g4, n9, H5, d18, nm, seval] <;> rfl) | rfl) ?_
   obtain rfl := kF _ h
   refine rr_tree ?_ ?_
   ·simp only [tre, tytre, Bool.and_self]
   ·first | (simp only [outV, uw, showV_ref, cr, tyf, nrm, tynrm, g4, n9, e6, e7, e8, H5, d18, nm, seval] <;> rfl) | rfl
  | cons e3 p3 =>
   have d19 : (decide (c3_4 < (List.length x0_s.Dry : Int))) = true := lt_of_drop hi3 hp3
   have o21 := getI_of_drop hi3 hp3
   have w20 := wrap_next hi3 hp3 g4
   simp only [g_ref03_Lows_l0, hs, reduceCtorEq] at h
   cases g22 : (roomOk 8 (List.length (([] : List Int) ++ [e3.Low])))
   ·simp only [g22, hs, reduceCtorEq] at h
    exact absurd h kN3
   simp only [g22, hs, reduceCtorEq] at h
   simp only [vz, tyf, g4, n9, e6, e7, e8, H5, d19, (ix22 o21), w20, g22, nm, seval]
   refine k_appN (w := 1) (enc := eI) (ys := ([e3.Low])) (el2 := (some 3)) (fun _ => rfl) lf23 ao23 Tryz.underlying23 (by first | rfl | assumption | (simp only [updH_apply, without_apply, et23, n9, H5, nm, seval] <;> rfl) | (simp only [updH_apply, without_apply, cellsL_cons, cellsL_nil, mV_app, mV_app0, tyf, g4, n9, e6, e7, e8, H5, d19, (ix22 o21), w20, g22, nm, seval]; done)) (Nat.zero_lt_succ _) g22 ?_
   simp only [vz, tyf, g4, n9, e6, e7, e8, H5, d19, (ix22 o21), w20, g22, nm, seval]
   exact ⟨List.length p3, Nat.lt_succ_self _, by rw [hI3]; refine ⟨p3, c3_4 + 1, (([] : List Int) ++ [e3.Low]), .ref (nx3 + 13) 0 (List.length (([] : List Int) ++ [e3.Low])) 1 (List.length (([] : List Int) ++ [e3.Low])), rfl, Int.le_trans hi3 (Int.le_add_one (Int.le_refl _)), drop_next hi3 hp3, rfl, (show 4 ≤ nx3 + 18 by omega), ?_, e6, ?_, ?_, Or.inl ⟨nx3 + 13, (some 3), rfl, (by first | omega | (simp only [nm, seval]; omega)), (by first | omega | (intro hh; simp only [n9, reduceCtorEq] at hh)), ?_⟩, h⟩ <;> first | (simp only [ua, n9, e6, e7, e8, H5, d19, w20, nm, seval] <;> rfl) | rfl⟩
end Go.V
end
section
namespace Go.V
open Go Go.Proofs
def g_ref03_Highs_l0  : List GSpan → Int → (List Int) → Option (LOut (List Int) ((List Int)))
 | [], c0_4, c0_3 => some (.go c0_3)
 | e0 :: p0, c0_4, c0_3 => cond (roomOk 8 (List.length (c0_3 ++ [e0.High]))) (g_ref03_Highs_l0 p0 (c0_4 + 1) (c0_3 ++ [e0.High])) none
def g_ref03_Highs (x0_s : GCoatSheet) : Option (List Int) := cond (lenOk x0_s.Dry) (lbind (g_ref03_Highs_l0 x0_s.Dry 0 ([] : List Int)) (fun r2 => some r2) (fun c1 => some c1) (fun _ _ => none)) none
theorem g_ref03_Highs_ok (x0_s : GCoatSheet) (R : List Int) (h : g_ref03_Highs x0_s = some R) : VPure Tryz.prog G0 34 [.agg (cGCoatSheet x0_s)] (.tree (.sl (cellsL eI R) (List.length R) false)) := by
 refine VPure.runR mixed Tryz.call34 Tryz.func34 rfl (by simp [Tryz.ntmps34]; kernel_rfl) ?_
 obtain ⟨KF, h, kF, kN⟩ := fun_intro h
 simp only [g_ref03_Highs] at h
 cases g4 : (lenOk x0_s.Dry)
 ·simp only [g4, hs, reduceCtorEq] at h
  exact absurd h kN
 simp only [g4, hs, reduceCtorEq] at h
 simp only [vz, tyf, g4, nm, seval]
 obtain ⟨K3, h, kR3, kG3, kB3, kN3⟩ := lbind_intro h kN
 obtain ⟨f3, hf3, h⟩ := call3 h
 obtain ⟨I3, hI3⟩ : ∃ I : Nat → St → Prop, I = (fun m st => ∃ (p3 : List GSpan) (c3_4 : Int) (c3_3 : List Int) (y3_0 : VV), m = List.length p3 ∧ 0 ≤ c3_4 ∧ List.drop (Int.toNat c3_4) x0_s.Dry = p3 ∧ st.df = [] ∧ 4 ≤ st.nx ∧ st.H 0 = some (.cells (some 26) (cGCoatSheet x0_s)) ∧ st.tm 1 = .ptr 0 0 ∧ st.tm 3 = y3_0 ∧ st.tm 4 = .lit (.int .i64 c3_4) ∧ ((∃ (β : Nat) (el : Option TypeId), y3_0 = .ref β 0 (List.length c3_3) 1 (List.length c3_3) ∧ β < st.nx ∧ β ≠ 0 ∧ st.H β = some (.cells el (cellsL eI c3_3))) ∨ (y3_0 = .lit (.slice none 0 0) ∧ c3_3 = [])) ∧ K3 (f3 p3 c3_4 c3_3)) := ⟨_, rfl⟩
 refine loopK mixed (by kernel_rfl) I3 (List.length x0_s.Dry) (by rw [hI3]; refine ⟨x0_s.Dry, 0, ([] : List Int), .lit (.slice none 0 0), rfl, Int.le_refl _, rfl, rfl, (show 4 ≤ 4 by omega), ?_, ?_, ?_, ?_, Or.inr ⟨rfl, rfl⟩, h⟩ <;> first | (simp only [ua, nm, seval] <;> rfl) | rfl) ?_
 rintro m ⟨tm, H, nx3, df⟩ hinv
 rw [hI3] at hinv
 obtain ⟨p3, c3_4, c3_3, y3_0, rfl, hi3, hp3, hdf, hn3, H5, e6, e7, e8, ow3_0, h⟩ := hinv
 simp only at hdf hn3 H5 e6 e7 e8 ow3_0
 have n9 := base_ne0 (m := 4) (b := nx3) (by omega)
 subst hdf hf3
 rcases ow3_0 with ⟨b3_0, el3_0, rfl, lq11, lq12, H10⟩ | ⟨rfl, rfl⟩
 ·have q11 := own_lt lq11
  have q12 := ne_f lq12
  cases p3 with
  | nil =>
   have d13 : (decide (c3_4 < (List.length x0_s.Dry : Int))) = false := not_lt_of_drop hi3 hp3
   simp only [g_ref03_Highs_l0, hs, reduceCtorEq] at h
   replace h := kG3 _ h
   try dsimp only at h
   try simp only [hs] at h
   try simp only [vz, tyf, g4, n9, e6, e7, e8, H5, q11, H10, q12, d13, nm, seval]
   refine opd_ret (x := (.ref b3_0 0 (List.length c3_3) 1 (List.length c3_3))) (by first | (simp only [Tryz.results34, resV, resL, resV1, tgt_ptr, tgt_tp, uw, cr, tyf, g4, n9, H5, q11, H10, q12, d13, nm, seval] <;> rfl) | rfl) ?_
   obtain rfl := kF _ h
   refine rr_tree ?_ ?_
   ·simp only [tre, tytre, Bool.and_self]
   ·first | (simp only [outV, uw, showV_ref, cr, tyf, nrm, tynrm, g4, n9, e6, e7, e8, H5, q11, H10, q12, d13, nm, seval] <;> rfl) | rfl
  | cons e3 p3 =>
   have d14 : (decide (c3_4 < (List.length x0_s.Dry : Int))) = true := lt_of_drop hi3 hp3
   have o16 := getI_of_drop hi3 hp3
   have w15 := wrap_next hi3 hp3 g4
   simp only [g_ref03_Highs_l0, hs, reduceCtorEq] at h
   cases g17 : (roomOk 8 (List.length (c3_3 ++ [e3.High])))
   ·simp only [g17, hs, reduceCtorEq] at h
    exact absurd h kN3
   simp only [g17, hs, reduceCtorEq] at h
   simp only [vz, tyf, g4, n9, e6, e7, e8, H5, q11, H10, q12, d14, (ix22 o16), w15, g17, nm, seval]
   refine k_app (w := 1) (enc := eI) (xs := c3_3) (ys := ([e3.High])) (el := el3_0) (el2 := (some 3)) (fun _ => rfl) lf23 ao23 Tryz.underlying23 (by first | rfl | assumption | (simp only [updH_apply, without_apply, et23, n9, H5, q11, H10, q12, nm, seval] <;> rfl) | (simp only [updH_apply, without_apply, cellsL_cons, cellsL_nil, mV_app, mV_app0, tyf, g4, n9, e6, e7, e8, H5, q11, H10, q12, d14, (ix22 o16), w15, g17, nm, seval]; done)) (by first | rfl | assumption | (simp only [updH_apply, without_apply, et23, n9, H5, q11, H10, q12, nm, seval] <;> rfl) | (simp only [updH_apply, without_apply, cellsL_cons, cellsL_nil, mV_app, mV_app0, tyf, g4, n9, e6, e7, e8, H5, q11, H10, q12, d14, (ix22 o16), w15, g17, nm, seval]; done)) (Nat.zero_lt_succ _) g17 ?_
   simp only [vz, tyf, g4, n9, e6, e7, e8, H5, q11, H10, q12, d14, (ix22 o16), w15, g17, nm, seval]
   exact ⟨List.length p3, Nat.lt_succ_self _, by rw [hI3]; refine ⟨p3, c3_4 + 1, (c3_3 ++ [e3.High]), .ref (nx3 + 13) 0 (List.length (c3_3 ++ [e3.High])) 1 (List.length (c3_3 ++ [e3.High])), rfl, Int.le_trans hi3 (Int.le_add_one (Int.le_refl _)), drop_next hi3 hp3, rfl, (show 4 ≤ nx3 + 18 by omega), ?_, e6, ?_, ?_, Or.inl ⟨nx3 + 13, (sameEl el3_0 3), rfl, (by first | omega | (simp only [nm, seval]; omega)), (by first | omega | (intro hh; simp only [n9, q11, q12, reduceCtorEq] at hh)), ?_⟩, h⟩ <;> first | (simp only [ua, n9, e6, e7, e8, H5, q11, H10, q12, d14, w15, nm, seval] <;> rfl) | rfl⟩
 ·cases p3 with
  | nil =>
   have d18 : (decide (c3_4 < (List.length x0_s.Dry : Int))) = false := not_lt_of_drop hi3 hp3
   simp only [g_ref03_Highs_l0, hs, reduceCtorEq] at h
   replace h := kG3 _ h
   try dsimp only at h
   try simp only [hs] at h
   try simp only [vz, tyf, g4, n9, e6, e7, e8, H5, d18, nm, seval]
   refine opd_ret (x := (.lit (.slice none 0 0))) (by first | (simp only [Tryz.results34, resV, resL, resV1, tgt_ptr, tgt_tp, uw, cr, tyf, g4, n9, H5, d18, nm, seval] <;> rfl) | rfl) ?_
   obtain rfl := kF _ h
   refine rr_tree ?_ ?_
   ·simp only [tre, tytre, Bool.and_self]
   ·first | (simp only [outV, uw, showV_ref, cr, tyf, nrm, tynrm, g4, n9, e6, e7, e8, H5, d18, nm, seval] <;> rfl) | rfl
  | cons e3 p3 =>
   have d19 : (decide (c3_4 < (List.length x0_s.Dry : Int))) = true := lt_of_drop hi3 hp3
   have o21 := getI_of_drop hi3 hp3
   have w20 := wrap_next hi3 hp3 g4
   simp only [g_ref03_Highs_l0, hs, reduceCtorEq] at h
   cases g22 : (roomOk 8 (List.length (([] : List Int) ++ [e3.High])))
   ·simp only [g22, hs, reduceCtorEq] at h
    exact absurd h kN3
   simp only [g22, hs, reduceCtorEq] at h
   simp only [vz, tyf, g4, n9, e6, e7, e8, H5, d19, (ix22 o21), w20, g22, nm, seval]
   refine k_appN (w := 1) (enc := eI) (ys := ([e3.High])) (el2 := (some 3)) (fun _ => rfl) lf23 ao23 Tryz.underlying23 (by first | rfl | assumption | (simp only [updH_apply, without_apply, et23, n9, H5, nm, seval] <;> rfl) | (simp only [updH_apply, without_apply, cellsL_cons, cellsL_nil, mV_app, mV_app0, tyf, g4, n9, e6, e7, e8, H5, d19, (ix22 o21), w20, g22, nm, seval]; done)) (Nat.zero_lt_succ _) g22 ?_
   simp only [vz, tyf, g4, n9, e6, e7, e8, H5, d19, (ix22 o21), w20, g22, nm, seval]
   exact ⟨List.length p3, Nat.lt_succ_self _, by rw [hI3]; refine ⟨p3, c3_4 + 1, (([] : List Int) ++ [e3.High]), .ref (nx3 + 13) 0 (List.length (([] : List Int) ++ [e3.High])) 1 (List.length (([] : List Int) ++ [e3.High])), rfl, Int.le_trans hi3 (Int.le_add_one (Int.le_refl _)), drop_next hi3 hp3, rfl, (show 4 ≤ nx3 + 18 by omega), ?_, e6, ?_, ?_, Or.inl ⟨nx3 + 13, (some 3), rfl, (by first | omega | (simp only [nm, seval]; omega)), (by first | omega | (intro hh; simp only [n9, reduceCtorEq] at hh)), ?_⟩, h⟩ <;> first | (simp only [ua, n9, e6, e7, e8, H5, d19, w20, nm, seval] <;> rfl) | rfl⟩
end Go.V
end
section
namespace Go.V
open Go Go.Proofs
def g_ref03_Fails_l0 (x0_s : GCoatSheet) (x1_plan : List Int) : List Int → Int → Option (LOut (Int × Int × Bool) (Unit))
 | [], c0_7 => some (.go ())
 | e0 :: p0, c0_7 => Option.bind (g_ref03_Lows x0_s) (fun r1 => Option.bind (g_ref03_early x0_s x1_plan c0_7 r1) (fun r2 => cond (r2) (some (.ret (c0_7, 1, true))) (Option.bind (g_ref03_Highs x0_s) (fun r3 => Option.bind (g_ref03_peels x0_s x1_plan c0_7 r3) (fun r4 => cond (r4) (some (.ret (c0_7, 2, true))) (g_ref03_Fails_l0 x0_s x1_plan p0 (c0_7 + 1)))))))
def g_ref03_Fails (x0_s : GCoatSheet) (x1_plan : List Int) : Option (Int × Int × Bool) := cond (lenOk x1_plan) (lbind (g_ref03_Fails_l0 x0_s x1_plan x1_plan 0) (fun r6 => some r6) (fun c5 => some (0, 0, false)) (fun _ _ => none)) none
theorem g_ref03_Fails_ok (x0_s : GCoatSheet) (x1_plan : List Int) (R : Int × Int × Bool) (h : g_ref03_Fails x0_s x1_plan = some R) : VPure Tryz.prog G0 28 [.agg (cGCoatSheet x0_s), .sl (cellsL eI x1_plan) (List.length x1_plan) false] (.tree (.tup [.lit (.int .i64 R.1), .lit (.int .i64 R.2.1), .lit (.bool R.2.2)])) := by
 refine VPure.runR mixed Tryz.call28 Tryz.func28 rfl (by simp [Tryz.ntmps28]; kernel_rfl) ?_
 obtain ⟨KF, h, kF, kN⟩ := fun_intro h
 simp only [g_ref03_Fails] at h
 cases g8 : (lenOk x1_plan)
 ·simp only [g8, hs, reduceCtorEq] at h
  exact absurd h kN
 simp only [g8, hs, reduceCtorEq] at h
 simp only [vz, tyf, g8, nm, seval]
 obtain ⟨K7, h, kR7, kG7, kB7, kN7⟩ := lbind_intro h kN
 obtain ⟨f7, hf7, h⟩ := call2 h
 obtain ⟨I7, hI7⟩ : ∃ I : Nat → St → Prop, I = (fun m st => ∃ (p7 : List Int) (c7_7 : Int), m = List.length p7 ∧ 0 ≤ c7_7 ∧ List.drop (Int.toNat c7_7) x1_plan = p7 ∧ st.df = [] ∧ 5 ≤ st.nx ∧ st.H 0 = some (.cells (some 26) (cGCoatSheet x0_s)) ∧ st.tm 1 = .sl (cellsL eI x1_plan) (List.length x1_plan) false ∧ st.tm 2 = .ptr 0 0 ∧ st.tm 7 = .lit (.int .i64 c7_7) ∧ K7 (f7 p7 c7_7)) := ⟨_, rfl⟩
 refine loopK mixed (by kernel_rfl) I7 (List.length x1_plan) (by rw [hI7]; refine ⟨x1_plan, 0, rfl, Int.le_refl _, rfl, rfl, (show 5 ≤ 5 by omega), ?_, ?_, ?_, ?_, h⟩ <;> first | (simp only [ua, nm, seval] <;> rfl) | rfl) ?_
 rintro m ⟨tm, H, nx7, df⟩ hinv
 rw [hI7] at hinv
 obtain ⟨p7, c7_7, rfl, hi7, hp7, hdf, hn7, H9, e10, e11, e12, h⟩ := hinv
 simp only at hdf hn7 H9 e10 e11 e12
 have n13 := base_ne0 (m := 5) (b := nx7) (by omega)
 subst hdf hf7
 cases p7 with
 | nil =>
  have d14 : (decide (c7_7 < (List.length x1_plan : Int))) = false := not_lt_of_drop hi7 hp7
  simp only [g_ref03_Fails_l0, hs, reduceCtorEq] at h
  replace h := kG7 _ h
  try dsimp only at h
  try simp only [hs] at h
  try simp only [vz, tyf, g8, n13, e10, e11, e12, H9, d14, nm, seval]
  refine opd_ret (x := (.tup [.lit (.int .i64 0), .lit (.int .i64 0), .lit (.bool false)])) (by first | (simp only [Tryz.results28, resV, resL, resV1, tgt_ptr, tgt_tp, uw, cr, tyf, g8, n13, H9, d14, nm, seval] <;> rfl) | rfl) ?_
  obtain rfl := kF _ h
  refine rr_tree ?_ ?_
  ·simp only [tre, tytre, Bool.and_self]
  ·first | (simp only [outV, uw, showV_ref, cr, tyf, nrm, tynrm, g8, n13, e10, e11, e12, H9, d14, nm, seval] <;> rfl) | rfl
 | cons e7 p7 =>
  have d15 : (decide (c7_7 < (List.length x1_plan : Int))) = true := lt_of_drop hi7 hp7
  have o17 := getI_of_drop hi7 hp7
  have w16 := wrap_next hi7 hp7 g8
  simp only [g_ref03_Fails_l0, hs, reduceCtorEq] at h
  simp only [vz, tyf, g8, n13, e10, e11, e12, H9, d15, (ix23 o17), w16, nm, seval]
  refine cwp_drwQF (fun tm => tm 1 = .sl (cellsL eI x1_plan) (List.length x1_plan) false ∧ tm 2 = .ptr 0 0 ∧ tm 7 = .lit (.int .i64 c7_7) ∧ True) (by refine ⟨e10, e11, e12, trivial⟩ <;> first | (simp only [ua, n13, e10, e11, e12, H9, d15, w16, nm, seval] <;> rfl) | rfl) ?_
  rintro tm ⟨e18, e19, e20, _⟩
  rcases o22 : (g_ref03_Lows x0_s) with _ | r21
  ·simp only [o22, hs, reduceCtorEq] at h
   exact absurd h kN7
  simp only [o22, hs, reduceCtorEq] at h
  simp only [vz, tyf, g8, n13, H9, d15, (ix23 o17), w16, e18, e19, e20, nm, seval]
  refine dktree (args0 := [.agg (cGCoatSheet x0_s)]) (by first | (simp only [nrm, tynrm] <;> rfl) | rfl) (by simp only [tre, tytre, Bool.and_self]) (g_ref03_Lows_ok _ _ o22) ?_
  refine fin_cut (fun tm => tm 1 = .sl (cellsL eI x1_plan) (List.length x1_plan) false ∧ tm 2 = .ptr 0 0 ∧ tm 7 = .lit (.int .i64 c7_7) ∧ tm 14 = .agg (cGCoatSheet x0_s) ∧ tm 15 = .sl (cellsL eI x1_plan) (List.length x1_plan) false ∧ tm 16 = .lit (.int .i64 c7_7) ∧ tm 18 = .sl (cellsL eI r21) (List.length r21) false ∧ True) (by refine ⟨e18, e19, e20, ?_, ?_, ?_, ?_, trivial⟩ <;> first | (simp only [ua, n13, H9, d15, w16, e18, e19, e20, nm, seval] <;> rfl) | rfl) ?_
  rintro tm ⟨e23, e24, e25, e26, e27, e28, e29, _⟩
  rcases o31 : (g_ref03_early x0_s x1_plan c7_7 r21) with _ | r30
  ·simp only [o31, hs, reduceCtorEq] at h
   exact absurd h kN7
  simp only [o31, hs, reduceCtorEq] at h
  simp only [vz, tyf, g8, n13, H9, d15, (ix23 o17), w16, e23, e24, e25, e26, e27, e28, e29, nm, seval]
  refine dktree (args0 := [.agg (cGCoatSheet x0_s), .sl (cellsL eI x1_plan) (List.length x1_plan) false, .lit (.int .i64 c7_7), .sl (cellsL eI r21) (List.length r21) false]) (by first | (simp only [nrm, tynrm] <;> rfl) | rfl) (by simp only [tre, tytre, Bool.and_self]) (g_ref03_early_ok _ _ _ _ _ o31) ?_
  refine fin_cut (fun tm => tm 1 = .sl (cellsL eI x1_plan) (List.length x1_plan) false ∧ tm 2 = .ptr 0 0 ∧ tm 7 = .lit (.int .i64 c7_7) ∧ tm 19 = .lit (.bool r30) ∧ True) (by refine ⟨e23, e24, e25, ?_, trivial⟩ <;> first | (simp only [ua, n13, H9, d15, w16, e23, e24, e25, e26, e27, e28, e29, nm, seval] <;> rfl) | rfl) ?_
  rintro tm ⟨e32, e33, e34, e35, _⟩
  cases d36 : (r30)
  ·simp only [d36, hs, reduceCtorEq] at h
   simp only [vz, tyf, g8, n13, H9, d15, (ix23 o17), w16, e32, e33, e34, e35, d36, nm, seval]
   refine cwp_drwQF (fun tm => tm 1 = .sl (cellsL eI x1_plan) (List.length x1_plan) false ∧ tm 2 = .ptr 0 0 ∧ tm 7 = .lit (.int .i64 c7_7) ∧ True) (by refine ⟨e32, e33, e34, trivial⟩ <;> first | (simp only [ua, n13, H9, d15, w16, e32, e33, e34, e35, d36, nm, seval] <;> rfl) | rfl) ?_
   rintro tm ⟨e37, e38, e39, _⟩
   rcases o41 : (g_ref03_Highs x0_s) with _ | r40
   ·simp only [o41, hs, reduceCtorEq] at h
    exact absurd h kN7
   simp only [o41, hs, reduceCtorEq] at h
   simp only [vz, tyf, g8, n13, H9, d15, (ix23 o17), w16, d36, e37, e38, e39, nm, seval]
   refine dktree (args0 := [.agg (cGCoatSheet x0_s)]) (by first | (simp only [nrm, tynrm] <;> rfl) | rfl) (by simp only [tre, tytre, Bool.and_self]) (g_ref03_Highs_ok _ _ o41) ?_
   refine fin_cut (fun tm => tm 1 = .sl (cellsL eI x1_plan) (List.length x1_plan) false ∧ tm 2 = .ptr 0 0 ∧ tm 7 = .lit (.int .i64 c7_7) ∧ tm 21 = .agg (cGCoatSheet x0_s) ∧ tm 22 = .sl (cellsL eI x1_plan) (List.length x1_plan) false ∧ tm 23 = .lit (.int .i64 c7_7) ∧ tm 25 = .sl (cellsL eI r40) (List.length r40) false ∧ True) (by refine ⟨e37, e38, e39, ?_, ?_, ?_, ?_, trivial⟩ <;> first | (simp only [ua, n13, H9, d15, w16, d36, e37, e38, e39, nm, seval] <;> rfl) | rfl) ?_
   rintro tm ⟨e42, e43, e44, e45, e46, e47, e48, _⟩
   rcases o50 : (g_ref03_peels x0_s x1_plan c7_7 r40) with _ | r49
   ·simp only [o50, hs, reduceCtorEq] at h
    exact absurd h kN7
   simp only [o50, hs, reduceCtorEq] at h
   simp only [vz, tyf, g8, n13, H9, d15, (ix23 o17), w16, d36, e42, e43, e44, e45, e46, e47, e48, nm, seval]
   refine dktree (args0 := [.agg (cGCoatSheet x0_s), .sl (cellsL eI x1_plan) (List.length x1_plan) false, .lit (.int .i64 c7_7), .sl (cellsL eI r40) (List.length r40) false]) (by first | (simp only [nrm, tynrm] <;> rfl) | rfl) (by simp only [tre, tytre, Bool.and_self]) (g_ref03_peels_ok _ _ _ _ _ o50) ?_
   refine fin_cut (fun tm => tm 1 = .sl (cellsL eI x1_plan) (List.length x1_plan) false ∧ tm 2 = .ptr 0 0 ∧ tm 7 = .lit (.int .i64 c7_7) ∧ tm 26 = .lit (.bool r49) ∧ True) (by refine ⟨e42, e43, e44, ?_, trivial⟩ <;> first | (simp only [ua, n13, H9, d15, w16, d36, e42, e43, e44, e45, e46, e47, e48, nm, seval] <;> rfl) | rfl) ?_
   rintro tm ⟨e51, e52, e53, e54, _⟩
   cases d55 : (r49)
   ·simp only [d55, hs, reduceCtorEq] at h
    have b56 := And.intro g8 (And.intro n13 (And.intro H9 (And.intro d15 (And.intro w16 (And.intro d36 d55)))))
    simp only [vz, tyf, b56, (ix23 o17), e51, e52, e53, e54, nm, seval]
    exact ⟨List.length p7, Nat.lt_succ_self _, by rw [hI7]; refine ⟨p7, c7_7 + 1, rfl, Int.le_trans hi7 (Int.le_add_one (Int.le_refl _)), drop_next hi7 hp7, rfl, (show 5 ≤ nx7 + 19 by omega), ?_, e51, e52, ?_, h⟩ <;> first | (simp only [ua, b56, e51, e52, e53, e54, nm, seval] <;> rfl) | rfl⟩
   simp only [d55, hs, reduceCtorEq] at h
   have b57 := And.intro g8 (And.intro n13 (And.intro H9 (And.intro d15 (And.intro w16 (And.intro d36 d55)))))
   try simp only [vz, tyf, b57, (ix23 o17), e51, e52, e53, e54, nm, seval]
   refine opd_ret (x := (.tup [.lit (.int .i64 c7_7), .lit (.int .i64 2), .lit (.bool true)])) (by first | (simp only [Tryz.results28, resV, resL, resV1, tgt_ptr, tgt_tp, uw, cr, tyf, b57, (ix23 o17), nm, seval] <;> rfl) | rfl) ?_
   replace h := kR7 _ h
   try dsimp only at h
   obtain rfl := kF _ h
   refine rr_tree ?_ ?_
   ·simp only [tre, tytre, Bool.and_self]
   ·first | (simp only [outV, uw, showV_ref, cr, tyf, nrm, tynrm, b57, (ix23 o17), e51, e52, e53, e54, nm, seval] <;> rfl) | rfl
  simp only [d36, hs, reduceCtorEq] at h
  try simp only [vz, tyf, g8, n13, H9, d15, (ix23 o17), w16, e32, e33, e34, e35, d36, nm, seval]
  refine opd_ret (x := (.tup [.lit (.int .i64 c7_7), .lit (.int .i64 1), .lit (.bool true)])) (by first | (simp only [Tryz.results28, resV, resL, resV1, tgt_ptr, tgt_tp, uw, cr, tyf, g8, n13, H9, d15, (ix23 o17), w16, d36, nm, seval] <;> rfl) | rfl) ?_
  replace h := kR7 _ h
  try dsimp only at h
  obtain rfl := kF _ h
  refine rr_tree ?_ ?_
  ·simp only [tre, tytre, Bool.and_self]
  ·first | (simp only [outV, uw, showV_ref, cr, tyf, nrm, tynrm, g8, n13, H9, d15, (ix23 o17), w16, e32, e33, e34, e35, d36, nm, seval] <;> rfl) | rfl
end Go.V
end
section
namespace Go.V
open Go Go.Proofs
def g_ref03_Surely (x0_s : GCoatSheet) (x1_plan : List Int) : Option (Bool) := Option.bind (g_ref03_Fails x0_s x1_plan) (fun r1 => some (!r1.2.2))
theorem g_ref03_Surely_ok (x0_s : GCoatSheet) (x1_plan : List Int) (R : Bool) (h : g_ref03_Surely x0_s x1_plan = some R) : VPure Tryz.prog G0 67 [.agg (cGCoatSheet x0_s), .sl (cellsL eI x1_plan) (List.length x1_plan) false] (.tree (.lit (.bool R))) := by
 refine VPure.runR mixed Tryz.call67 Tryz.func67 rfl (by simp [Tryz.ntmps67]; kernel_rfl) ?_
 obtain ⟨KF, h, kF, kN⟩ := fun_intro h
 simp only [g_ref03_Surely] at h
 rcases o3 : (g_ref03_Fails x0_s x1_plan) with _ | r2
 ·simp only [o3, hs, reduceCtorEq] at h
  exact absurd h kN
 simp only [o3, hs, reduceCtorEq] at h
 simp only [vz, tyf, nm, seval]
 refine ktree (args0 := [.agg (cGCoatSheet x0_s), .sl (cellsL eI x1_plan) (List.length x1_plan) false]) (by first | (simp only [nrm, tynrm] <;> rfl) | rfl) (by simp only [tre, tytre, Bool.and_self]) (g_ref03_Fails_ok _ _ _ o3) ?_
 refine fin_cut (fun tm => tm 11 = .tup [.lit (.int .i64 r2.1), .lit (.int .i64 r2.2.1), .lit (.bool r2.2.2)] ∧ True) (by refine ⟨?_, trivial⟩ <;> first | (simp only [ua, nm, seval] <;> rfl) | rfl) ?_
 rintro tm ⟨e4, _⟩
 try simp only [vz, tyf, e4, nm, seval]
 obtain rfl := kF _ h
 exact opd_bool Tryz.results67 (by first | rfl | (simp only [upd_apply, seval] <;> rfl))
end Go.V
end
section
namespace Go.V
open Go Go.Proofs
def g_ref03_Word_l0 (x0_s : GCoatSheet) (x1_plan : List Int) : List Int → Int → Option (LOut (Int) (Unit))
 | [], c0_5 => some (.go ())
 | e0 :: p0, c0_5 => Option.bind (g_ref03_Highs x0_s) (fun r2 => Option.bind (g_ref03_early x0_s x1_plan c0_5 r2) (fun r3 => cond (r3) (some (.ret 1)) (Option.bind (g_ref03_Lows x0_s) (fun r4 => Option.bind (g_ref03_peels x0_s x1_plan c0_5 r4) (fun r5 => cond (r5) (some (.ret 1)) (g_ref03_Word_l0 x0_s x1_plan p0 (c0_5 + 1)))))))
def g_ref03_Word (x0_s : GCoatSheet) (x1_plan : List Int) : Option (Int) := Option.bind (g_ref03_Surely x0_s x1_plan) (fun r1 => cond (r1) (some 3) (cond (lenOk x1_plan) (lbind (g_ref03_Word_l0 x0_s x1_plan x1_plan 0) (fun r7 => some r7) (fun c6 => some 2) (fun _ _ => none)) none))
theorem g_ref03_Word_ok (x0_s : GCoatSheet) (x1_plan : List Int) (R : Int) (h : g_ref03_Word x0_s x1_plan = some R) : VPure Tryz.prog G0 21 [.agg (cGCoatSheet x0_s), .sl (cellsL eI x1_plan) (List.length x1_plan) false] (.tree (.lit (.int .i64 R))) := by
 refine VPure.runR mixed Tryz.call21 Tryz.func21 rfl (by simp [Tryz.ntmps21]; kernel_rfl) ?_
 obtain ⟨KF, h, kF, kN⟩ := fun_intro h
 simp only [g_ref03_Word] at h
 rcases o9 : (g_ref03_Surely x0_s x1_plan) with _ | r8
 ·simp only [o9, hs, reduceCtorEq] at h
  exact absurd h kN
 simp only [o9, hs, reduceCtorEq] at h
 simp only [vz, tyf, nm, seval]
 refine ktree (args0 := [.agg (cGCoatSheet x0_s), .sl (cellsL eI x1_plan) (List.length x1_plan) false]) (by first | (simp only [nrm, tynrm] <;> rfl) | rfl) (by simp only [tre, tytre, Bool.and_self]) (g_ref03_Surely_ok _ _ _ o9) ?_
 refine fin_cut (fun tm => tm 1 = .sl (cellsL eI x1_plan) (List.length x1_plan) false ∧ tm 2 = .ptr 0 0 ∧ tm 8 = .lit (.bool r8) ∧ True) (by refine ⟨?_, ?_, ?_, trivial⟩ <;> first | (simp only [ua, nm, seval] <;> rfl) | rfl) ?_
 rintro tm ⟨e10, e11, e12, _⟩
 cases d13 : (r8)
 ·simp only [d13, hs, reduceCtorEq] at h
  cases g15 : (lenOk x1_plan)
  ·simp only [g15, hs, reduceCtorEq] at h
   exact absurd h kN
  simp only [g15, hs, reduceCtorEq] at h
  simp only [vz, tyf, e10, e11, e12, d13, g15, nm, seval]
  obtain ⟨K14, h, kR14, kG14, kB14, kN14⟩ := lbind_intro h kN
  obtain ⟨f14, hf14, h⟩ := call2 h
  obtain ⟨I14, hI14⟩ : ∃ I : Nat → St → Prop, I = (fun m st => ∃ (p14 : List Int) (c14_5 : Int), m = List.length p14 ∧ 0 ≤ c14_5 ∧ List.drop (Int.toNat c14_5) x1_plan = p14 ∧ st.df = [] ∧ 6 ≤ st.nx ∧ st.H 0 = some (.cells (some 26) (cGCoatSheet x0_s)) ∧ st.tm 1 = .sl (cellsL eI x1_plan) (List.length x1_plan) false ∧ st.tm 2 = .ptr 0 0 ∧ st.tm 5 = .lit (.int .i64 c14_5) ∧ K14 (f14 p14 c14_5)) := ⟨_, rfl⟩
  refine loopK mixed (by kernel_rfl) I14 (List.length x1_plan) (by rw [hI14]; refine ⟨x1_plan, 0, rfl, Int.le_refl _, rfl, rfl, (show 6 ≤ 6 by omega), ?_, e10, e11, ?_, h⟩ <;> first | (simp only [ua, e10, e11, e12, d13, nm, seval] <;> rfl) | rfl) ?_
  rintro m ⟨tm, H, nx14, df⟩ hinv
  rw [hI14] at hinv
  obtain ⟨p14, c14_5, rfl, hi14, hp14, hdf, hn14, H16, e17, e18, e19, h⟩ := hinv
  simp only at hdf hn14 H16 e17 e18 e19
  have n20 := base_ne0 (m := 6) (b := nx14) (by omega)
  subst hdf hf14
  cases p14 with
  | nil =>
   have d21 : (decide (c14_5 < (List.length x1_plan : Int))) = false := not_lt_of_drop hi14 hp14
   simp only [g_ref03_Word_l0, hs, reduceCtorEq] at h
   replace h := kG14 _ h
   try dsimp only at h
   try simp only [hs] at h
   try simp only [vz, tyf, d13, g15, n20, e17, e18, e19, H16, d21, nm, seval]
   refine opd_ret (x := (.lit (.int .i64 2))) (by first | (simp only [Tryz.results21, resV, resL, resV1, tgt_ptr, tgt_tp, uw, cr, tyf, d13, g15, n20, H16, d21, nm, seval] <;> rfl) | rfl) ?_
   obtain rfl := kF _ h
   refine rr_tree ?_ ?_
   ·simp only [tre, tytre, Bool.and_self]
   ·first | (simp only [outV, uw, showV_ref, cr, tyf, nrm, tynrm, d13, g15, n20, e17, e18, e19, H16, d21, nm, seval] <;> rfl) | rfl
  | cons e14 p14 =>
   have d22 : (decide (c14_5 < (List.length x1_plan : Int))) = true := lt_of_drop hi14 hp14
   have o24 := getI_of_drop hi14 hp14
   have w23 := wrap_next hi14 hp14 g15
   simp only [g_ref03_Word_l0, hs, reduceCtorEq] at h
   simp only [vz, tyf, d13, g15, n20, e17, e18, e19, H16, d22, (ix23 o24), w23, nm, seval]
   refine cwp_drwQF (fun tm => tm 1 = .sl (cellsL eI x1_plan) (List.length x1_plan) false ∧ tm 2 = .ptr 0 0 ∧ tm 5 = .lit (.int .i64 c14_5) ∧ True) (by refine ⟨e17, e18, e19, trivial⟩ <;> first | (simp only [ua, d13, n20, e17, e18, e19, H16, d22, w23, nm, seval] <;> rfl) | rfl) ?_
   rintro tm ⟨e25, e26, e27, _⟩
   rcases o29 : (g_ref03_Highs x0_s) with _ | r28
   ·simp only [o29, hs, reduceCtorEq] at h
    exact absurd h kN14
   simp only [o29, hs, reduceCtorEq] at h
   simp only [vz, tyf, d13, g15, n20, H16, d22, (ix23 o24), w23, e25, e26, e27, nm, seval]
   refine dktree (args0 := [.agg (cGCoatSheet x0_s)]) (by first | (simp only [nrm, tynrm] <;> rfl) | rfl) (by simp only [tre, tytre, Bool.and_self]) (g_ref03_Highs_ok _ _ o29) ?_
   refine fin_cut (fun tm => tm 1 = .sl (cellsL eI x1_plan) (List.length x1_plan) false ∧ tm 2 = .ptr 0 0 ∧ tm 5 = .lit (.int .i64 c14_5) ∧ tm 15 = .agg (cGCoatSheet x0_s) ∧ tm 16 = .sl (cellsL eI x1_plan) (List.length x1_plan) false ∧ tm 17 = .lit (.int .i64 c14_5) ∧ tm 19 = .sl (cellsL eI r28) (List.length r28) false ∧ True) (by refine ⟨e25, e26, e27, ?_, ?_, ?_, ?_, trivial⟩ <;> first | (simp only [ua, d13, n20, H16, d22, w23, e25, e26, e27, nm, seval] <;> rfl) | rfl) ?_
   rintro tm ⟨e30, e31, e32, e33, e34, e35, e36, _⟩
   rcases o38 : (g_ref03_early x0_s x1_plan c14_5 r28) with _ | r37
   ·simp only [o38, hs, reduceCtorEq] at h
    exact absurd h kN14
   simp only [o38, hs, reduceCtorEq] at h
   simp only [vz, tyf, d13, g15, n20, H16, d22, (ix23 o24), w23, e30, e31, e32, e33, e34, e35, e36, nm, seval]
   refine dktree (args0 := [.agg (cGCoatSheet x0_s), .sl (cellsL eI x1_plan) (List.length x1_plan) false, .lit (.int .i64 c14_5), .sl (cellsL eI r28) (List.length r28) false]) (by first | (simp only [nrm, tynrm] <;> rfl) | rfl) (by simp only [tre, tytre, Bool.and_self]) (g_ref03_early_ok _ _ _ _ _ o38) ?_
   refine fin_cut (fun tm => tm 1 = .sl (cellsL eI x1_plan) (List.length x1_plan) false ∧ tm 2 = .ptr 0 0 ∧ tm 5 = .lit (.int .i64 c14_5) ∧ tm 20 = .lit (.bool r37) ∧ True) (by refine ⟨e30, e31, e32, ?_, trivial⟩ <;> first | (simp only [ua, d13, n20, H16, d22, w23, e30, e31, e32, e33, e34, e35, e36, nm, seval] <;> rfl) | rfl) ?_
   rintro tm ⟨e39, e40, e41, e42, _⟩
   cases d43 : (r37)
   ·simp only [d43, hs, reduceCtorEq] at h
    have b44 := And.intro d13 (And.intro g15 (And.intro n20 (And.intro H16 (And.intro d22 (And.intro w23 d43)))))
    rcases o46 : (g_ref03_Lows x0_s) with _ | r45
    ·simp only [o46, hs, reduceCtorEq] at h
     exact absurd h kN14
    simp only [o46, hs, reduceCtorEq] at h
    simp only [vz, tyf, b44, (ix23 o24), e39, e40, e41, e42, nm, seval]
    refine dktree (args0 := [.agg (cGCoatSheet x0_s)]) (by first | (simp only [nrm, tynrm] <;> rfl) | rfl) (by simp only [tre, tytre, Bool.and_self]) (g_ref03_Lows_ok _ _ o46) ?_
    refine fin_cut (fun tm => tm 1 = .sl (cellsL eI x1_plan) (List.length x1_plan) false ∧ tm 2 = .ptr 0 0 ∧ tm 5 = .lit (.int .i64 c14_5) ∧ tm 21 = .lit (.bool false) ∧ tm 22 = .agg (cGCoatSheet x0_s) ∧ tm 23 = .sl (cellsL eI x1_plan) (List.length x1_plan) false ∧ tm 24 = .lit (.int .i64 c14_5) ∧ tm 26 = .sl (cellsL eI r45) (List.length r45) false ∧ True) (by refine ⟨e39, e40, e41, ?_, ?_, ?_, ?_, ?_, trivial⟩ <;> first | (simp only [ua, b44, e39, e40, e41, e42, nm, seval] <;> rfl) | rfl) ?_
    rintro tm ⟨e47, e48, e49, e50, e51, e52, e53, e54, _⟩
    rcases o56 : (g_ref03_peels x0_s x1_plan c14_5 r45) with _ | r55
    ·simp only [o56, hs, reduceCtorEq] at h
     exact absurd h kN14
    simp only [o56, hs, reduceCtorEq] at h
    simp only [vz, tyf, b44, (ix23 o24), e47, e48, e49, e50, e51, e52, e53, e54, nm, seval]
    refine dktree (args0 := [.agg (cGCoatSheet x0_s), .sl (cellsL eI x1_plan) (List.length x1_plan) false, .lit (.int .i64 c14_5), .sl (cellsL eI r45) (List.length r45) false]) (by first | (simp only [nrm, tynrm] <;> rfl) | rfl) (by simp only [tre, tytre, Bool.and_self]) (g_ref03_peels_ok _ _ _ _ _ o56) ?_
    refine fin_cut (fun tm => tm 1 = .sl (cellsL eI x1_plan) (List.length x1_plan) false ∧ tm 2 = .ptr 0 0 ∧ tm 5 = .lit (.int .i64 c14_5) ∧ tm 21 = .lit (.bool false) ∧ tm 27 = .lit (.bool r55) ∧ True) (by refine ⟨e47, e48, e49, e50, ?_, trivial⟩ <;> first | (simp only [ua, b44, e47, e48, e49, e50, e51, e52, e53, e54, nm, seval] <;> rfl) | rfl) ?_
    rintro tm ⟨e57, e58, e59, e60, e61, _⟩
    cases d62 : (r55)
    ·simp only [d62, hs, reduceCtorEq] at h
     simp only [vz, tyf, b44, (ix23 o24), e57, e58, e59, e60, e61, d62, nm, seval]
     exact ⟨List.length p14, Nat.lt_succ_self _, by rw [hI14]; refine ⟨p14, c14_5 + 1, rfl, Int.le_trans hi14 (Int.le_add_one (Int.le_refl _)), drop_next hi14 hp14, rfl, (show 6 ≤ nx14 + 21 by omega), ?_, e57, e58, ?_, h⟩ <;> first | (simp only [ua, b44, e57, e58, e59, e60, e61, d62, nm, seval] <;> rfl) | rfl⟩
    simp only [d62, hs, reduceCtorEq] at h
    try simp only [vz, tyf, b44, (ix23 o24), e57, e58, e59, e60, e61, d62, nm, seval]
    refine opd_ret (x := (.lit (.int .i64 1))) (by first | (simp only [Tryz.results21, resV, resL, resV1, tgt_ptr, tgt_tp, uw, cr, tyf, b44, (ix23 o24), d62, nm, seval] <;> rfl) | rfl) ?_
    replace h := kR14 _ h
    try dsimp only at h
    obtain rfl := kF _ h
    refine rr_tree ?_ ?_
    ·simp only [tre, tytre, Bool.and_self]
    ·first | (simp only [outV, uw, showV_ref, cr, tyf, nrm, tynrm, b44, (ix23 o24), e57, e58, e59, e60, e61, d62, nm, seval] <;> rfl) | rfl
   simp only [d43, hs, reduceCtorEq] at h
   have b63 := And.intro d13 (And.intro g15 (And.intro n20 (And.intro H16 (And.intro d22 (And.intro w23 d43)))))
   try simp only [vz, tyf, b63, (ix23 o24), e39, e40, e41, e42, nm, seval]
   refine opd_ret (x := (.lit (.int .i64 1))) (by first | (simp only [Tryz.results21, resV, resL, resV1, tgt_ptr, tgt_tp, uw, cr, tyf, b63, (ix23 o24), nm, seval] <;> rfl) | rfl) ?_
   replace h := kR14 _ h
   try dsimp only at h
   obtain rfl := kF _ h
   refine rr_tree ?_ ?_
   ·simp only [tre, tytre, Bool.and_self]
   ·first | (simp only [outV, uw, showV_ref, cr, tyf, nrm, tynrm, b63, (ix23 o24), e39, e40, e41, e42, nm, seval] <;> rfl) | rfl
 simp only [d13, hs, reduceCtorEq] at h
 try simp only [vz, tyf, e10, e11, e12, d13, nm, seval]
 refine opd_ret (x := (.lit (.int .i64 3))) (by first | (simp only [Tryz.results21, resV, resL, resV1, tgt_ptr, tgt_tp, uw, cr, tyf, d13, nm, seval] <;> rfl) | rfl) ?_
 obtain rfl := kF _ h
 refine rr_tree ?_ ?_
 ·simp only [tre, tytre, Bool.and_self]
 ·first | (simp only [outV, uw, showV_ref, cr, tyf, nrm, tynrm, e10, e11, e12, d13, nm, seval] <;> rfl) | rfl
end Go.V
end
