/- Part of a proof: a logic of values by content, lifted functions, what follows. -/
import Derived.Test.YtgdgkkloccpbnaaGreatDoorVbf
import Derived.Test.YtgdgkkloccpbnaaGreatDoorVbh
import Derived.Test.YtgdgkkloccpbnaaGreatDoorVbj
import Derived.Test.YtgdgkkloccpbnaaGreatDoorVbi
set_option linter.all false
set_option maxRecDepth 4000
set_option maxHeartbeats 40000000
section
namespace Go.V
open Go Go.Proofs
def g_slices_Clone_Int (xs : List Int) : Option (List Int) := cond (neB xs) (cond (roomOk 8 xs.length) (some xs) none) none
theorem g_slices_Clone_Int_ok (xs R : List Int) (h : g_slices_Clone_Int xs = some R) : VPure Tryz.prog G0 119 [.sl (cellsL eI xs) xs.length false] (.own (cellsL eI R) R.length 1) := by
 unfold g_slices_Clone_Int at h
 cases hn : neB xs with
 | false => rw [hn] at h; cases h
 | true =>
 cases hr : roomOk 8 xs.length with
 | false => rw [hn, hr] at h; cases h
 | true =>
 rw [hn, hr] at h
 simp only [cond_true, Option.some.injEq] at h
 subst h
 have hc : cellsL eI xs ≠ [] := by
  cases xs with
  | nil => cases hn
  | cons a l => intro hh; cases hh
 have hnil : ∀ (H : Nat → Option VObj) (x y : Operand), binV Tryz.prog H .eql 23 x y (.sl (cellsL eI xs) xs.length false) (.lit (.slice none 0 0)) = some (.lit (.bool false)) := fun H x y => binV_slNil Tryz.underlying23 hc
 have hb : vbuildSlice Tryz.prog 23 0 [] = some ([], 1) := by kernel_rfl
 refine VPure.run mixed Tryz.call119 Tryz.func119 rfl (by simp [Tryz.ntmps119]; kernel_rfl) ?_
 simp only [vz, tyf, hnil, hb, List.map_nil, seval]
 refine k_appS (w := 1) (enc := eI) (xs := ([] : List Int)) (ys := xs) (el := some 3) (fun _ => rfl) lf23 ao23 Tryz.underlying23 rfl hn (by rw [List.nil_append]; exact hr) ?_
 simp only [vz, tyf, List.nil_append, seval]
 refine ⟨rfl, .ref 5 0 xs.length 1 xs.length, by simp [Tryz.results119, resV, resL, resV1, upd], (cellsL eI xs).length + 1, 5, _, cellsL eI xs, ⟨_, rfl⟩, by simp only [updH_apply, without_apply, seval] <;> rfl, seal_tree _ _ (eI_ok.treeL xs) (Nat.lt_succ_self _)⟩
end Go.V
end
section
namespace Go.V
open Go Go.Proofs
def g_coat_sums_least (x0_x : Gcoatsums) (x1_from : Int) (x2_to : Int) : Option (Int) := Option.bind (getI x0_x.lows x2_to) (fun x1 => Option.bind (getI x0_x.lows x1_from) (fun x2 => some (IntKind.i64.wrap (x1 - x2))))
theorem g_coat_sums_least_ok (x0_x : Gcoatsums) (x1_from : Int) (x2_to : Int) (R : Int) (h : g_coat_sums_least x0_x x1_from x2_to = some R) : VPure Tryz.prog G0 121 [.agg (cGcoatsums x0_x), .lit (.int .i64 x1_from), .lit (.int .i64 x2_to)] (.tree (.lit (.int .i64 R))) := by
 refine VPure.runR mixed Tryz.call121 Tryz.func121 rfl (by simp [Tryz.ntmps121]; kernel_rfl) ?_
 obtain ⟨KF, h, kF, kN⟩ := fun_intro h
 simp only [g_coat_sums_least] at h
 simp only [vz, tyf, nm, seval]
 refine cwp_drwQF (fun tm => tm 1 = .lit (.int .i64 x1_from) ∧ tm 2 = .lit (.int .i64 x2_to) ∧ tm 3 = .ptr 0 0 ∧ True) (by refine ⟨?_, ?_, ?_, trivial⟩ <;> first | (simp only [ua, nm, seval] <;> rfl) | rfl) ?_
 rintro tm ⟨e3, e4, e5, _⟩
 rcases o7 : (getI x0_x.lows x2_to) with _ | x6
 ·simp only [o7, hs] at h
  exact absurd h kN
 simp only [o7, hs] at h
 rcases o9 : (getI x0_x.lows x1_from) with _ | x8
 ·simp only [o9, hs] at h
  exact absurd h kN
 simp only [o9, hs] at h
 try simp only [vz, tyf, e3, e4, e5, (ix23 o7), (ix23 o9), nm, seval]
 refine opd_ret (x := (.lit (.int .i64 (IntKind.i64.wrap (x6 - x8))))) (by first | (simp only [Tryz.results121, resV, resL, resV1, tgt_ptr, tgt_tp, uw, cr, tyf, (ix23 o7), (ix23 o9), nm, seval] <;> rfl) | rfl) ?_
 obtain rfl := kF _ h
 refine rr_tree ?_ ?_
 ·simp only [tre, tytre, Bool.and_self]
 ·first | (simp only [outV, uw, showV_ref, cr, tyf, nrm, tynrm, e3, e4, e5, (ix23 o7), (ix23 o9), nm, seval] <;> rfl) | rfl
end Go.V
end
section
namespace Go.V
open Go Go.Proofs
def g_coat_sums_greatest (x0_x : Gcoatsums) (x1_from : Int) (x2_to : Int) : Option (Int) := Option.bind (getI x0_x.highs x2_to) (fun x1 => Option.bind (getI x0_x.highs x1_from) (fun x2 => some (IntKind.i64.wrap (x1 - x2))))
theorem g_coat_sums_greatest_ok (x0_x : Gcoatsums) (x1_from : Int) (x2_to : Int) (R : Int) (h : g_coat_sums_greatest x0_x x1_from x2_to = some R) : VPure Tryz.prog G0 112 [.agg (cGcoatsums x0_x), .lit (.int .i64 x1_from), .lit (.int .i64 x2_to)] (.tree (.lit (.int .i64 R))) := by
 refine VPure.runR mixed Tryz.call112 Tryz.func112 rfl (by simp [Tryz.ntmps112]; kernel_rfl) ?_
 obtain ⟨KF, h, kF, kN⟩ := fun_intro h
 simp only [g_coat_sums_greatest] at h
 simp only [vz, tyf, nm, seval]
 refine cwp_drwQF (fun tm => tm 1 = .lit (.int .i64 x1_from) ∧ tm 2 = .lit (.int .i64 x2_to) ∧ tm 3 = .ptr 0 0 ∧ True) (by refine ⟨?_, ?_, ?_, trivial⟩ <;> first | (simp only [ua, nm, seval] <;> rfl) | rfl) ?_
 rintro tm ⟨e3, e4, e5, _⟩
 rcases o7 : (getI x0_x.highs x2_to) with _ | x6
 ·simp only [o7, hs] at h
  exact absurd h kN
 simp only [o7, hs] at h
 rcases o9 : (getI x0_x.highs x1_from) with _ | x8
 ·simp only [o9, hs] at h
  exact absurd h kN
 simp only [o9, hs] at h
 try simp only [vz, tyf, e3, e4, e5, (ix23 o7), (ix23 o9), nm, seval]
 refine opd_ret (x := (.lit (.int .i64 (IntKind.i64.wrap (x6 - x8))))) (by first | (simp only [Tryz.results112, resV, resL, resV1, tgt_ptr, tgt_tp, uw, cr, tyf, (ix23 o7), (ix23 o9), nm, seval] <;> rfl) | rfl) ?_
 obtain rfl := kF _ h
 refine rr_tree ?_ ?_
 ·simp only [tre, tytre, Bool.and_self]
 ·first | (simp only [outV, uw, showV_ref, cr, tyf, nrm, tynrm, e3, e4, e5, (ix23 o7), (ix23 o9), nm, seval] <;> rfl) | rfl
end Go.V
end
section
namespace Go.V
open Go Go.Proofs
def g_coat_sums_isLast (x0_x : Gcoatsums) (x1_coat : Int) : Option (Bool) := some (x1_coat == (IntKind.i64.wrap ((List.length x0_x.CoatSheet.Coats : Int) - 1)))
theorem g_coat_sums_isLast_ok (x0_x : Gcoatsums) (x1_coat : Int) (R : Bool) (h : g_coat_sums_isLast x0_x x1_coat = some R) : VPure Tryz.prog G0 157 [.agg (cGcoatsums x0_x), .lit (.int .i64 x1_coat)] (.tree (.lit (.bool R))) := by
 refine VPure.runR mixed Tryz.call157 Tryz.func157 rfl (by simp [Tryz.ntmps157]; kernel_rfl) ?_
 obtain ⟨KF, h, kF, kN⟩ := fun_intro h
 simp only [g_coat_sums_isLast] at h
 try simp only [vz, tyf, nm, seval]
 obtain rfl := kF _ h
 exact opd_bool Tryz.results157 rfl
end Go.V
end
section
namespace Go.V
open Go Go.Proofs
end Go.V
end
section
namespace Go.V
open Go Go.Proofs
end Go.V
end
section
namespace Go.V
open Go Go.Proofs
theorem g_coat_sums_atWorst_ok (x0_x : Gcoatsums) : VPure Tryz.prog G0 83 [.agg (cGcoatsums x0_x)] (.tree (.agg ([VV.lit Value.nilFunc] ++ [VV.fn (Fn.func 121) [.agg (cGcoatsums x0_x)] []] ++ [VV.fn (Fn.func 112) [.agg (cGcoatsums x0_x)] []]))) := by
 refine VPure.runR mixed Tryz.call83 Tryz.func83 rfl (by simp [Tryz.ntmps83]; kernel_rfl) ?_
 try simp only [vz, tyf, nm, seval]
 refine opd_ret (x := (.agg ([VV.lit Value.nilFunc] ++ [VV.fn (Fn.func 121) [.agg (cGcoatsums x0_x)] []] ++ [VV.fn (Fn.func 112) [.agg (cGcoatsums x0_x)] []]))) (by first | (simp only [Tryz.results83, resV, resL, resV1, tgt_ptr, tgt_tp, uw, cr, tyf, nm, seval] <;> rfl) | rfl) ?_
 refine rr_tree ?_ ?_
 ·simp only [tre, tytre, tree_fn, cellsL_nil, mV_app, mV_app0, Bool.and_self]
 ·first | (simp only [outV, uw, showV_ref, cr, tyf, nrm, tynrm, showV_fn, normV_fn, normV_nilF, nm, seval] <;> rfl) | rfl
end Go.V
end
section
namespace Go.V
open Go Go.Proofs
end Go.V
end
section
namespace Go.V
open Go Go.Proofs
def g_ref03_Dries_l1  : List Int → Int → Int → Option (LOut (Int) (Int))
 | [], c1_9, c1_8 => some (.go c1_8)
 | e1 :: p1, c1_9, c1_8 => g_ref03_Dries_l1 p1 (c1_9 + 1) (IntKind.i64.wrap (c1_8 + e1))
def g_ref03_Dries_l0 (x2_weather : List Int) : Nat → Int → Int → Option (LOut (Int) (Int))
 | 0, c0_9, c0_8 => some (.go c0_8)
 | k0 + 1, c0_9, c0_8 => Option.bind (getI x2_weather c0_9) (fun x3 => g_ref03_Dries_l0 x2_weather k0 (c0_9 + 1) (IntKind.i64.wrap (c0_8 + x3)))
def g_ref03_Dries (x0_plan : List Int) (x1_coat : Int) (x2_weather : List Int) : Option (Int) := cond (decide ((IntKind.i64.wrap (x1_coat + 1)) < (List.length x0_plan : Int))) (Option.bind (getI x0_plan (IntKind.i64.wrap (x1_coat + 1))) (fun x1 => Option.bind (getI x0_plan x1_coat) (fun x2 => cond (boundOk x1) (cond (loOk x2) (lbind (g_ref03_Dries_l0 x2_weather (Int.toNat (x1 - x2)) x2 0) (fun r5 => some r5) (fun c4 => some c4) (fun _ _ => none)) none) none))) (Option.bind (getI x0_plan x1_coat) (fun x6 => cond (lenOk x2_weather) (cond (leB 0 x6) (lbind (g_ref03_Dries_l1 (List.drop (Int.toNat x6) x2_weather) x6 0) (fun r8 => some r8) (fun c7 => some c7) (fun _ _ => none)) none) none))
theorem g_ref03_Dries_ok (x0_plan : List Int) (x1_coat : Int) (x2_weather : List Int) (R : Int) (h : g_ref03_Dries x0_plan x1_coat x2_weather = some R) : VPure Tryz.prog G0 113 [.sl (cellsL eI x0_plan) (List.length x0_plan) false, .lit (.int .i64 x1_coat), .sl (cellsL eI x2_weather) (List.length x2_weather) false] (.tree (.lit (.int .i64 R))) := by
 refine VPure.runR mixed Tryz.call113 Tryz.func113 rfl (by simp [Tryz.ntmps113]; kernel_rfl) ?_
 obtain ⟨KF, h, kF, kN⟩ := fun_intro h
 simp only [g_ref03_Dries] at h
 cases d9 : (decide ((IntKind.i64.wrap (x1_coat + 1)) < (List.length x0_plan : Int)))
 ·simp only [d9, hs] at h
  rcases o11 : (getI x0_plan x1_coat) with _ | x10
  ·simp only [o11, hs] at h
   exact absurd h kN
  simp only [o11, hs] at h
  cases g13 : (lenOk x2_weather)
  ·simp only [g13, hs] at h
   exact absurd h kN
  simp only [g13, hs] at h
  cases g14 : (leB 0 x10)
  ·simp only [g14, hs] at h
   exact absurd h kN
  simp only [g14, hs] at h
  simp only [vz, tyf, d9, (ix23 o11), g13, g14, nm, seval]
  obtain ⟨K12, h, kR12, kG12, kB12, kN12⟩ := lbind_intro h kN
  obtain ⟨f12, hf12, h⟩ := call3 h
  obtain ⟨I12, hI12⟩ : ∃ I : Nat → St → Prop, I = (fun m st => ∃ (p12 : List Int) (c12_9 : Int) (c12_8 : Int), m = List.length p12 ∧ 0 ≤ c12_9 ∧ List.drop (Int.toNat c12_9) x2_weather = p12 ∧ st.df = [] ∧ 15 ≤ st.nx ∧ st.tm 2 = .sl (cellsL eI x2_weather) (List.length x2_weather) false ∧ st.tm 7 = .lit (.int .i64 (List.length x2_weather : Int)) ∧ st.tm 8 = .lit (.int .i64 c12_8) ∧ st.tm 9 = .lit (.int .i64 c12_9) ∧ K12 (f12 p12 c12_9 c12_8)) := ⟨_, rfl⟩
  refine loopK mixed (by kernel_rfl) I12 (List.length (List.drop (Int.toNat x10) x2_weather)) (by rw [hI12]; refine ⟨List.drop (Int.toNat x10) x2_weather, x10, 0, rfl, of_decide_eq_true g14, rfl, rfl, (show 15 ≤ 15 by omega), ?_, ?_, ?_, ?_, h⟩ <;> first | (simp only [ua, d9, nm, seval] <;> rfl) | rfl) ?_
  rintro m ⟨tm, H, nx12, df⟩ hinv
  rw [hI12] at hinv
  obtain ⟨p12, c12_9, c12_8, rfl, hi12, hp12, hdf, hn12, e15, e16, e17, e18, h⟩ := hinv
  simp only at hdf hn12 e15 e16 e17 e18
  have n19 := base_ne0 (m := 15) (b := nx12) (by omega)
  subst hdf hf12
  cases p12 with
  | nil =>
   have d20 : (decide (c12_9 < (List.length x2_weather : Int))) = false := not_lt_of_drop hi12 hp12
   simp only [g_ref03_Dries_l0, g_ref03_Dries_l1, hs, reduceCtorEq] at h
   replace h := kG12 _ h
   try dsimp only at h
   try simp only [hs] at h
   try simp only [vz, tyf, d9, (ix23 o11), g13, g14, n19, e15, e16, e17, e18, d20, nm, seval]
   refine opd_ret (x := (.lit (.int .i64 c12_8))) (by first | (simp only [Tryz.results113, resV, resL, resV1, tgt_ptr, tgt_tp, uw, cr, tyf, d9, (ix23 o11), g13, g14, n19, d20, nm, seval] <;> rfl) | rfl) ?_
   obtain rfl := kF _ h
   refine rr_tree ?_ ?_
   ·simp only [tre, tytre, Bool.and_self]
   ·first | (simp only [outV, uw, showV_ref, cr, tyf, nrm, tynrm, d9, (ix23 o11), g13, g14, n19, e15, e16, e17, e18, d20, nm, seval] <;> rfl) | rfl
  | cons e12 p12 =>
   have d21 : (decide (c12_9 < (List.length x2_weather : Int))) = true := lt_of_drop hi12 hp12
   have o23 := getI_of_drop hi12 hp12
   have w22 := wrap_next hi12 hp12 g13
   simp only [g_ref03_Dries_l0, g_ref03_Dries_l1, hs, reduceCtorEq] at h
   simp only [vz, tyf, d9, (ix23 o11), g13, g14, n19, e15, e16, e17, e18, d21, (ix23 o23), w22, nm, seval]
   exact ⟨List.length p12, Nat.lt_succ_self _, by rw [hI12]; refine ⟨p12, c12_9 + 1, IntKind.i64.wrap (c12_8 + e12), rfl, Int.le_trans hi12 (Int.le_add_one (Int.le_refl _)), drop_next hi12 hp12, rfl, (show 15 ≤ nx12 + 13 by omega), e15, e16, ?_, ?_, h⟩ <;> first | (simp only [ua, d9, n19, e15, e16, e17, e18, d21, w22, nm, seval] <;> rfl) | rfl⟩
 simp only [d9, hs] at h
 rcases o25 : (getI x0_plan (IntKind.i64.wrap (x1_coat + 1))) with _ | x24
 ·simp only [o25, hs] at h
  exact absurd h kN
 simp only [o25, hs] at h
 rcases o27 : (getI x0_plan x1_coat) with _ | x26
 ·simp only [o27, hs] at h
  exact absurd h kN
 simp only [o27, hs] at h
 cases g29 : (boundOk x24)
 ·simp only [g29, hs] at h
  exact absurd h kN
 simp only [g29, hs] at h
 cases g30 : (loOk x26)
 ·simp only [g30, hs] at h
  exact absurd h kN
 simp only [g30, hs] at h
 simp only [vz, tyf, d9, (ix23 o25), (ix23 o27), g29, g30, nm, seval]
 obtain ⟨K28, h, kR28, kG28, kB28, kN28⟩ := lbind_intro h kN
 obtain ⟨f28, hf28, h⟩ := call3 h
 obtain ⟨I28, hI28⟩ : ∃ I : Nat → St → Prop, I = (fun m st => ∃ (p28 : Nat) (c28_9 : Int) (c28_8 : Int), p28 = m ∧ loOk c28_9 = true ∧ Int.toNat (x24 - c28_9) = p28 ∧ st.df = [] ∧ 21 ≤ st.nx ∧ st.tm 2 = .sl (cellsL eI x2_weather) (List.length x2_weather) false ∧ st.tm 7 = .lit (.int .i64 x24) ∧ st.tm 8 = .lit (.int .i64 c28_8) ∧ st.tm 9 = .lit (.int .i64 c28_9) ∧ K28 (f28 p28 c28_9 c28_8)) := ⟨_, rfl⟩
 refine loopK mixed (by kernel_rfl) I28 (Int.toNat (x24 - x26)) (by rw [hI28]; refine ⟨Int.toNat (x24 - x26), x26, 0, rfl, g30, rfl, rfl, (show 21 ≤ 21 by omega), ?_, ?_, ?_, ?_, h⟩ <;> first | (simp only [ua, d9, nm, seval] <;> rfl) | rfl) ?_
 rintro m ⟨tm, H, nx28, df⟩ hinv
 rw [hI28] at hinv
 obtain ⟨p28, c28_9, c28_8, rfl, hi28, hp28, hdf, hn28, e31, e32, e33, e34, h⟩ := hinv
 simp only at hdf hn28 e31 e32 e33 e34
 have n35 := base_ne0 (m := 21) (b := nx28) (by omega)
 subst hdf hf28
 cases p28 with
 | zero =>
  have d36 : (decide (c28_9 < x24)) = false := cnt_not_lt hp28
  simp only [g_ref03_Dries_l0, g_ref03_Dries_l1, hs, reduceCtorEq] at h
  replace h := kG28 _ h
  try dsimp only at h
  try simp only [hs] at h
  try simp only [vz, tyf, d9, (ix23 o25), (ix23 o27), g29, g30, n35, e31, e32, e33, e34, d36, nm, seval]
  refine opd_ret (x := (.lit (.int .i64 c28_8))) (by first | (simp only [Tryz.results113, resV, resL, resV1, tgt_ptr, tgt_tp, uw, cr, tyf, d9, (ix23 o25), (ix23 o27), g29, g30, n35, d36, nm, seval] <;> rfl) | rfl) ?_
  obtain rfl := kF _ h
  refine rr_tree ?_ ?_
  ·simp only [tre, tytre, Bool.and_self]
  ·first | (simp only [outV, uw, showV_ref, cr, tyf, nrm, tynrm, d9, (ix23 o25), (ix23 o27), g29, g30, n35, e31, e32, e33, e34, d36, nm, seval] <;> rfl) | rfl
 | succ p28 =>
  have d37 : (decide (c28_9 < x24)) = true := cnt_lt hp28
  have w38 := cnt_wrap hi28 hp28 g29
  simp only [g_ref03_Dries_l0, g_ref03_Dries_l1, hs, reduceCtorEq] at h
  rcases o40 : (getI x2_weather c28_9) with _ | x39
  ·simp only [o40, hs] at h
   exact absurd h kN28
  simp only [o40, hs] at h
  simp only [vz, tyf, d9, (ix23 o25), (ix23 o27), g29, g30, n35, e31, e32, e33, e34, d37, w38, (ix23 o40), nm, seval]
  exact ⟨p28, Nat.lt_succ_self _, by rw [hI28]; refine ⟨p28, c28_9 + 1, IntKind.i64.wrap (c28_8 + x39), rfl, cnt_lo hi28, cnt_next hp28, rfl, (show 21 ≤ nx28 + 13 by omega), e31, e32, ?_, ?_, h⟩ <;> first | (simp only [ua, d9, n35, e31, e32, e33, e34, d37, w38, nm, seval] <;> rfl) | rfl⟩
end Go.V
end
section
namespace Go.V
open Go Go.Proofs
def g_ref03_early (x0_s : GCoatSheet) (x1_plan : List Int) (x2_coat : Int) (x3_weather : List Int) : Option (Bool) := Option.bind (g_ref03_Dries x1_plan x2_coat x3_weather) (fun r1 => Option.bind (getI x0_s.Coats x2_coat) (fun x2 => some (decide (r1 < x2.Need))))
theorem g_ref03_early_ok (x0_s : GCoatSheet) (x1_plan : List Int) (x2_coat : Int) (x3_weather : List Int) (R : Bool) (h : g_ref03_early x0_s x1_plan x2_coat x3_weather = some R) : VPure Tryz.prog G0 86 [.agg (cGCoatSheet x0_s), .sl (cellsL eI x1_plan) (List.length x1_plan) false, .lit (.int .i64 x2_coat), .sl (cellsL eI x3_weather) (List.length x3_weather) false] (.tree (.lit (.bool R))) := by
 refine VPure.runR mixed Tryz.call86 Tryz.func86 rfl (by simp [Tryz.ntmps86]; kernel_rfl) ?_
 obtain ⟨KF, h, kF, kN⟩ := fun_intro h
 simp only [g_ref03_early] at h
 simp only [vz, tyf, nm, seval]
 refine cwp_drwQF (fun tm => tm 1 = .sl (cellsL eI x1_plan) (List.length x1_plan) false ∧ tm 2 = .lit (.int .i64 x2_coat) ∧ tm 3 = .sl (cellsL eI x3_weather) (List.length x3_weather) false ∧ tm 4 = .ptr 0 0 ∧ True) (by refine ⟨?_, ?_, ?_, ?_, trivial⟩ <;> first | (simp only [ua, nm, seval] <;> rfl) | rfl) ?_
 rintro tm ⟨e3, e4, e5, e6, _⟩
 rcases o8 : (g_ref03_Dries x1_plan x2_coat x3_weather) with _ | r7
 ·simp only [o8, hs] at h
  exact absurd h kN
 simp only [o8, hs] at h
 simp only [vz, tyf, e3, e4, e5, e6, nm, seval]
 refine dktree (args0 := [.sl (cellsL eI x1_plan) (List.length x1_plan) false, .lit (.int .i64 x2_coat), .sl (cellsL eI x3_weather) (List.length x3_weather) false]) (by first | (simp only [nrm, tynrm] <;> rfl) | rfl) (by simp only [tre, tytre, Bool.and_self]) (g_ref03_Dries_ok _ _ _ _ o8) ?_
 refine fin_cut (fun tm => tm 2 = .lit (.int .i64 x2_coat) ∧ tm 4 = .ptr 0 0 ∧ tm 12 = .lit (.int .i64 r7) ∧ True) (by refine ⟨e4, e6, ?_, trivial⟩ <;> first | (simp only [ua, e3, e4, e5, e6, nm, seval] <;> rfl) | rfl) ?_
 rintro tm ⟨e9, e10, e11, _⟩
 rcases o13 : (getI x0_s.Coats x2_coat) with _ | x12
 ·simp only [o13, hs] at h
  exact absurd h kN
 simp only [o13, hs] at h
 try simp only [vz, tyf, e9, e10, e11, (ix24 o13), nm, seval]
 obtain rfl := kF _ h
 exact opd_bool Tryz.results86 rfl
end Go.V
end
section
namespace Go.V
open Go Go.Proofs
end Go.V
end
section
namespace Go.V
open Go Go.Proofs
end Go.V
end
section
namespace Go.V
open Go Go.Proofs
def g_ref03_Lows_l0  : List GSpan → Int → (List Int) → Option (LOut (List Int) ((List Int)))
 | [], c0_4, c0_3 => some (.go c0_3)
 | e0 :: p0, c0_4, c0_3 => cond (roomOk 8 (List.length (c0_3 ++ [e0.Low]))) (g_ref03_Lows_l0 p0 (c0_4 + 1) (c0_3 ++ [e0.Low])) none
def g_ref03_Lows (x0_s : GCoatSheet) : Option (List Int) := cond (lenOk x0_s.Dry) (lbind (g_ref03_Lows_l0 x0_s.Dry 0 ([] : List Int)) (fun r2 => some r2) (fun c1 => some c1) (fun _ _ => none)) none
theorem g_ref03_Lows_ok (x0_s : GCoatSheet) (R : List Int) (h : g_ref03_Lows x0_s = some R) : VPure Tryz.prog G0 87 [.agg (cGCoatSheet x0_s)] (.tree (.sl (cellsL eI R) (List.length R) false)) := by
 refine VPure.runR mixed Tryz.call87 Tryz.func87 rfl (by simp [Tryz.ntmps87]; kernel_rfl) ?_
 obtain ⟨KF, h, kF, kN⟩ := fun_intro h
 simp only [g_ref03_Lows] at h
 cases g4 : (lenOk x0_s.Dry)
 ·simp only [g4, hs] at h
  exact absurd h kN
 simp only [g4, hs] at h
 simp only [vz, tyf, g4, nm, seval]
 obtain ⟨K3, h, kR3, kG3, kB3, kN3⟩ := lbind_intro h kN
 obtain ⟨f3, hf3, h⟩ := call3 h
 obtain ⟨I3, hI3⟩ : ∃ I : Nat → St → Prop, I = (fun m st => ∃ (p3 : List GSpan) (c3_4 : Int) (c3_3 : List Int) (y3_0 : VV), m = List.length p3 ∧ 0 ≤ c3_4 ∧ List.drop (Int.toNat c3_4) x0_s.Dry = p3 ∧ st.df = [] ∧ 4 ≤ st.nx ∧ st.H 0 = some (.cells (some 26) (cGCoatSheet x0_s)) ∧ st.tm 1 = .ptr 0 0 ∧ st.tm 3 = y3_0 ∧ st.tm 4 = .lit (.int .i64 c3_4) ∧ ((∃ (β : Nat) (el : Option TypeId), y3_0 = .ref β 0 (List.length c3_3) 1 (List.length c3_3) ∧ β < st.nx ∧ β ≠ 0 ∧ st.H β = some (.cells el (cellsL eI c3_3))) ∨ (y3_0 = .lit (.slice none 0 0) ∧ c3_3 = [])) ∧ K3 (f3 p3 c3_4 c3_3)) := ⟨_, rfl⟩
 refine loopK mixed (by kernel_rfl) I3 (List.length x0_s.Dry) (by rw [hI3]; refine ⟨x0_s.Dry, 0, ([] : List Int), .lit (.slice none 0 0), rfl, Int.le_refl _, rfl, rfl, (show 4 ≤ 4 by omega), ?_, ?_, ?_, ?_, Or.inr ⟨rfl, rfl⟩, h⟩ <;> first | (simp only [ua, nm, seval] <;> rfl) | rfl) ?_
 rintro m ⟨tm, H, nx3, df⟩ hinv
 rw [hI3] at hinv
 obtain ⟨p3, c3_4, c3_3, y3_0, rfl, hi3, hp3, hdf, hn3, H5, e6, e7, e8, ow3_0, h⟩ := hinv
 simp only at hdf hn3 H5 e6 e7 e8 ow3_0
 have n9 := base_ne0 (m := 4) (b := nx3) (by omega)
 subst hdf hf3
 rcases ow3_0 with ⟨b3_0, el3_0, rfl, lq11, lq12, H10⟩ | ⟨rfl, rfl⟩
 ·have q11 := own_lt lq11
  have q12 := ne_f lq12
  cases p3 with
  | nil =>
   have d13 : (decide (c3_4 < (List.length x0_s.Dry : Int))) = false := not_lt_of_drop hi3 hp3
   simp only [g_ref03_Lows_l0, hs, reduceCtorEq] at h
   replace h := kG3 _ h
   try dsimp only at h
   try simp only [hs] at h
   try simp only [vz, tyf, g4, n9, e6, e7, e8, H5, q11, H10, q12, d13, nm, seval]
   refine opd_ret (x := (.ref b3_0 0 (List.length c3_3) 1 (List.length c3_3))) (by first | (simp only [Tryz.results87, resV, resL, resV1, tgt_ptr, tgt_tp, uw, cr, tyf, g4, n9, H5, q11, H10, q12, d13, nm, seval] <;> rfl) | rfl) ?_
   obtain rfl := kF _ h
   refine rr_tree ?_ ?_
   ·simp only [tre, tytre, Bool.and_self]
   ·first | (simp only [outV, uw, showV_ref, cr, tyf, nrm, tynrm, g4, n9, e6, e7, e8, H5, q11, H10, q12, d13, nm, seval] <;> rfl) | rfl
  | cons e3 p3 =>
   have d14 : (decide (c3_4 < (List.length x0_s.Dry : Int))) = true := lt_of_drop hi3 hp3
   have o16 := getI_of_drop hi3 hp3
   have w15 := wrap_next hi3 hp3 g4
   simp only [g_ref03_Lows_l0, hs, reduceCtorEq] at h
   cases g17 : (roomOk 8 (List.length (c3_3 ++ [e3.Low])))
   ·simp only [g17, hs] at h
    exact absurd h kN3
   simp only [g17, hs] at h
   simp only [vz, tyf, g4, n9, e6, e7, e8, H5, q11, H10, q12, d14, (ix22 o16), w15, g17, nm, seval]
   refine k_app (w := 1) (enc := eI) (xs := c3_3) (ys := ([e3.Low])) (el := el3_0) (el2 := (some 3)) (fun _ => rfl) lf23 ao23 Tryz.underlying23 (by first | rfl | assumption | (simp only [updH_apply, without_apply, et23, n9, H5, q11, H10, q12, nm, seval] <;> rfl) | (simp only [updH_apply, without_apply, cellsL_cons, cellsL_nil, mV_app, mV_app0, tyf, g4, n9, e6, e7, e8, H5, q11, H10, q12, d14, (ix22 o16), w15, g17, nm, seval]; done)) (by first | rfl | assumption | (simp only [updH_apply, without_apply, et23, n9, H5, q11, H10, q12, nm, seval] <;> rfl) | (simp only [updH_apply, without_apply, cellsL_cons, cellsL_nil, mV_app, mV_app0, tyf, g4, n9, e6, e7, e8, H5, q11, H10, q12, d14, (ix22 o16), w15, g17, nm, seval]; done)) (Nat.zero_lt_succ _) g17 ?_
   simp only [vz, tyf, g4, n9, e6, e7, e8, H5, q11, H10, q12, d14, (ix22 o16), w15, g17, nm, seval]
   exact ⟨List.length p3, Nat.lt_succ_self _, by rw [hI3]; refine ⟨p3, c3_4 + 1, (c3_3 ++ [e3.Low]), .ref (nx3 + 13) 0 (List.length (c3_3 ++ [e3.Low])) 1 (List.length (c3_3 ++ [e3.Low])), rfl, Int.le_trans hi3 (Int.le_add_one (Int.le_refl _)), drop_next hi3 hp3, rfl, (show 4 ≤ nx3 + 18 by omega), ?_, e6, ?_, ?_, Or.inl ⟨nx3 + 13, (sameEl el3_0 3), rfl, (by first | omega | (simp only [nm, seval]; omega)), (by first | omega | (intro hh; simp only [n9, q11, q12, reduceCtorEq] at hh)), ?_⟩, h⟩ <;> first | (simp only [ua, n9, e6, e7, e8, H5, q11, H10, q12, d14, w15, nm, seval] <;> rfl) | rfl⟩
 ·cases p3 with
  | nil =>
   have d18 : (decide (c3_4 < (List.length x0_s.Dry : Int))) = false := not_lt_of_drop hi3 hp3
   simp only [g_ref03_Lows_l0, hs, reduceCtorEq] at h
   replace h := kG3 _ h
   try dsimp only at h
   try simp only [hs] at h
   try simp only [vz, tyf, g4, n9, e6, e7, e8, H5, d18, nm, seval]
   refine opd_ret (x := (.lit (.slice none 0 0))) (by first | (simp only [Tryz.results87, resV, resL, resV1, tgt_ptr, tgt_tp, uw, cr, tyf, g4, n9, H5, d18, nm, seval] <;> rfl) | rfl) ?_
   obtain rfl := kF _ h
   refine rr_tree ?_ ?_
   ·simp only [tre, tytre, Bool.and_self]
   ·first | (simp only [outV, uw, showV_ref, cr, tyf, nrm, tynrm, g4, n9, e6, e7, e8, H5, d18, nm, seval] <;> rfl) | rfl
  | cons e3 p3 =>
   have d19 : (decide (c3_4 < (List.length x0_s.Dry : Int))) = true := lt_of_drop hi3 hp3
   have o21 := getI_of_drop hi3 hp3
   have w20 := wrap_next hi3 hp3 g4
   simp only [g_ref03_Lows_l0, hs, reduceCtorEq] at h
   cases g22 : (roomOk 8 (List.length (([] : List Int) ++ [e3.Low])))
   ·simp only [g22, hs] at h
    exact absurd h kN3
   simp only [g22, hs] at h
   simp only [vz, tyf, g4, n9, e6, e7, e8, H5, d19, (ix22 o21), w20, g22, nm, seval]
   refine k_appN (w := 1) (enc := eI) (ys := ([e3.Low])) (el2 := (some 3)) (fun _ => rfl) lf23 ao23 Tryz.underlying23 (by first | rfl | assumption | (simp only [updH_apply, without_apply, et23, n9, H5, nm, seval] <;> rfl) | (simp only [updH_apply, without_apply, cellsL_cons, cellsL_nil, mV_app, mV_app0, tyf, g4, n9, e6, e7, e8, H5, d19, (ix22 o21), w20, g22, nm, seval]; done)) (Nat.zero_lt_succ _) g22 ?_
   simp only [vz, tyf, g4, n9, e6, e7, e8, H5, d19, (ix22 o21), w20, g22, nm, seval]
   exact ⟨List.length p3, Nat.lt_succ_self _, by rw [hI3]; refine ⟨p3, c3_4 + 1, (([] : List Int) ++ [e3.Low]), .ref (nx3 + 13) 0 (List.length (([] : List Int) ++ [e3.Low])) 1 (List.length (([] : List Int) ++ [e3.Low])), rfl, Int.le_trans hi3 (Int.le_add_one (Int.le_refl _)), drop_next hi3 hp3, rfl, (show 4 ≤ nx3 + 18 by omega), ?_, e6, ?_, ?_, Or.inl ⟨nx3 + 13, (some 3), rfl, (by first | omega | (simp only [nm, seval]; omega)), (by first | omega | (intro hh; simp only [n9, reduceCtorEq] at hh)), ?_⟩, h⟩ <;> first | (simp only [ua, n9, e6, e7, e8, H5, d19, w20, nm, seval] <;> rfl) | rfl⟩
end Go.V
end
section
namespace Go.V
open Go Go.Proofs
def g_ref03_Highs_l0  : List GSpan → Int → (List Int) → Option (LOut (List Int) ((List Int)))
 | [], c0_4, c0_3 => some (.go c0_3)
 | e0 :: p0, c0_4, c0_3 => cond (roomOk 8 (List.length (c0_3 ++ [e0.High]))) (g_ref03_Highs_l0 p0 (c0_4 + 1) (c0_3 ++ [e0.High])) none
def g_ref03_Highs (x0_s : GCoatSheet) : Option (List Int) := cond (lenOk x0_s.Dry) (lbind (g_ref03_Highs_l0 x0_s.Dry 0 ([] : List Int)) (fun r2 => some r2) (fun c1 => some c1) (fun _ _ => none)) none
theorem g_ref03_Highs_ok (x0_s : GCoatSheet) (R : List Int) (h : g_ref03_Highs x0_s = some R) : VPure Tryz.prog G0 89 [.agg (cGCoatSheet x0_s)] (.tree (.sl (cellsL eI R) (List.length R) false)) := by
 refine VPure.runR mixed Tryz.call89 Tryz.func89 rfl (by simp [Tryz.ntmps89]; kernel_rfl) ?_
 obtain ⟨KF, h, kF, kN⟩ := fun_intro h
 simp only [g_ref03_Highs] at h
 cases g4 : (lenOk x0_s.Dry)
 ·simp only [g4, hs] at h
  exact absurd h kN
 simp only [g4, hs] at h
 simp only [vz, tyf, g4, nm, seval]
 obtain ⟨K3, h, kR3, kG3, kB3, kN3⟩ := lbind_intro h kN
 obtain ⟨f3, hf3, h⟩ := call3 h
 obtain ⟨I3, hI3⟩ : ∃ I : Nat → St → Prop, I = (fun m st => ∃ (p3 : List GSpan) (c3_4 : Int) (c3_3 : List Int) (y3_0 : VV), m = List.length p3 ∧ 0 ≤ c3_4 ∧ List.drop (Int.toNat c3_4) x0_s.Dry = p3 ∧ st.df = [] ∧ 4 ≤ st.nx ∧ st.H 0 = some (.cells (some 26) (cGCoatSheet x0_s)) ∧ st.tm 1 = .ptr 0 0 ∧ st.tm 3 = y3_0 ∧ st.tm 4 = .lit (.int .i64 c3_4) ∧ ((∃ (β : Nat) (el : Option TypeId), y3_0 = .ref β 0 (List.length c3_3) 1 (List.length c3_3) ∧ β < st.nx ∧ β ≠ 0 ∧ st.H β = some (.cells el (cellsL eI c3_3))) ∨ (y3_0 = .lit (.slice none 0 0) ∧ c3_3 = [])) ∧ K3 (f3 p3 c3_4 c3_3)) := ⟨_, rfl⟩
 refine loopK mixed (by kernel_rfl) I3 (List.length x0_s.Dry) (by rw [hI3]; refine ⟨x0_s.Dry, 0, ([] : List Int), .lit (.slice none 0 0), rfl, Int.le_refl _, rfl, rfl, (show 4 ≤ 4 by omega), ?_, ?_, ?_, ?_, Or.inr ⟨rfl, rfl⟩, h⟩ <;> first | (simp only [ua, nm, seval] <;> rfl) | rfl) ?_
 rintro m ⟨tm, H, nx3, df⟩ hinv
 rw [hI3] at hinv
 obtain ⟨p3, c3_4, c3_3, y3_0, rfl, hi3, hp3, hdf, hn3, H5, e6, e7, e8, ow3_0, h⟩ := hinv
 simp only at hdf hn3 H5 e6 e7 e8 ow3_0
 have n9 := base_ne0 (m := 4) (b := nx3) (by omega)
 subst hdf hf3
 rcases ow3_0 with ⟨b3_0, el3_0, rfl, lq11, lq12, H10⟩ | ⟨rfl, rfl⟩
 ·have q11 := own_lt lq11
  have q12 := ne_f lq12
  cases p3 with
  | nil =>
   have d13 : (decide (c3_4 < (List.length x0_s.Dry : Int))) = false := not_lt_of_drop hi3 hp3
   simp only [g_ref03_Highs_l0, hs, reduceCtorEq] at h
   replace h := kG3 _ h
   try dsimp only at h
   try simp only [hs] at h
   try simp only [vz, tyf, g4, n9, e6, e7, e8, H5, q11, H10, q12, d13, nm, seval]
   refine opd_ret (x := (.ref b3_0 0 (List.length c3_3) 1 (List.length c3_3))) (by first | (simp only [Tryz.results89, resV, resL, resV1, tgt_ptr, tgt_tp, uw, cr, tyf, g4, n9, H5, q11, H10, q12, d13, nm, seval] <;> rfl) | rfl) ?_
   obtain rfl := kF _ h
   refine rr_tree ?_ ?_
   ·simp only [tre, tytre, Bool.and_self]
   ·first | (simp only [outV, uw, showV_ref, cr, tyf, nrm, tynrm, g4, n9, e6, e7, e8, H5, q11, H10, q12, d13, nm, seval] <;> rfl) | rfl
  | cons e3 p3 =>
   have d14 : (decide (c3_4 < (List.length x0_s.Dry : Int))) = true := lt_of_drop hi3 hp3
   have o16 := getI_of_drop hi3 hp3
   have w15 := wrap_next hi3 hp3 g4
   simp only [g_ref03_Highs_l0, hs, reduceCtorEq] at h
   cases g17 : (roomOk 8 (List.length (c3_3 ++ [e3.High])))
   ·simp only [g17, hs] at h
    exact absurd h kN3
   simp only [g17, hs] at h
   simp only [vz, tyf, g4, n9, e6, e7, e8, H5, q11, H10, q12, d14, (ix22 o16), w15, g17, nm, seval]
   refine k_app (w := 1) (enc := eI) (xs := c3_3) (ys := ([e3.High])) (el := el3_0) (el2 := (some 3)) (fun _ => rfl) lf23 ao23 Tryz.underlying23 (by first | rfl | assumption | (simp only [updH_apply, without_apply, et23, n9, H5, q11, H10, q12, nm, seval] <;> rfl) | (simp only [updH_apply, without_apply, cellsL_cons, cellsL_nil, mV_app, mV_app0, tyf, g4, n9, e6, e7, e8, H5, q11, H10, q12, d14, (ix22 o16), w15, g17, nm, seval]; done)) (by first | rfl | assumption | (simp only [updH_apply, without_apply, et23, n9, H5, q11, H10, q12, nm, seval] <;> rfl) | (simp only [updH_apply, without_apply, cellsL_cons, cellsL_nil, mV_app, mV_app0, tyf, g4, n9, e6, e7, e8, H5, q11, H10, q12, d14, (ix22 o16), w15, g17, nm, seval]; done)) (Nat.zero_lt_succ _) g17 ?_
   simp only [vz, tyf, g4, n9, e6, e7, e8, H5, q11, H10, q12, d14, (ix22 o16), w15, g17, nm, seval]
   exact ⟨List.length p3, Nat.lt_succ_self _, by rw [hI3]; refine ⟨p3, c3_4 + 1, (c3_3 ++ [e3.High]), .ref (nx3 + 13) 0 (List.length (c3_3 ++ [e3.High])) 1 (List.length (c3_3 ++ [e3.High])), rfl, Int.le_trans hi3 (Int.le_add_one (Int.le_refl _)), drop_next hi3 hp3, rfl, (show 4 ≤ nx3 + 18 by omega), ?_, e6, ?_, ?_, Or.inl ⟨nx3 + 13, (sameEl el3_0 3), rfl, (by first | omega | (simp only [nm, seval]; omega)), (by first | omega | (intro hh; simp only [n9, q11, q12, reduceCtorEq] at hh)), ?_⟩, h⟩ <;> first | (simp only [ua, n9, e6, e7, e8, H5, q11, H10, q12, d14, w15, nm, seval] <;> rfl) | rfl⟩
 ·cases p3 with
  | nil =>
   have d18 : (decide (c3_4 < (List.length x0_s.Dry : Int))) = false := not_lt_of_drop hi3 hp3
   simp only [g_ref03_Highs_l0, hs, reduceCtorEq] at h
   replace h := kG3 _ h
   try dsimp only at h
   try simp only [hs] at h
   try simp only [vz, tyf, g4, n9, e6, e7, e8, H5, d18, nm, seval]
   refine opd_ret (x := (.lit (.slice none 0 0))) (by first | (simp only [Tryz.results89, resV, resL, resV1, tgt_ptr, tgt_tp, uw, cr, tyf, g4, n9, H5, d18, nm, seval] <;> rfl) | rfl) ?_
   obtain rfl := kF _ h
   refine rr_tree ?_ ?_
   ·simp only [tre, tytre, Bool.and_self]
   ·first | (simp only [outV, uw, showV_ref, cr, tyf, nrm, tynrm, g4, n9, e6, e7, e8, H5, d18, nm, seval] <;> rfl) | rfl
  | cons e3 p3 =>
   have d19 : (decide (c3_4 < (List.length x0_s.Dry : Int))) = true := lt_of_drop hi3 hp3
   have o21 := getI_of_drop hi3 hp3
   have w20 := wrap_next hi3 hp3 g4
   simp only [g_ref03_Highs_l0, hs, reduceCtorEq] at h
   cases g22 : (roomOk 8 (List.length (([] : List Int) ++ [e3.High])))
   ·simp only [g22, hs] at h
    exact absurd h kN3
   simp only [g22, hs] at h
   simp only [vz, tyf, g4, n9, e6, e7, e8, H5, d19, (ix22 o21), w20, g22, nm, seval]
   refine k_appN (w := 1) (enc := eI) (ys := ([e3.High])) (el2 := (some 3)) (fun _ => rfl) lf23 ao23 Tryz.underlying23 (by first | rfl | assumption | (simp only [updH_apply, without_apply, et23, n9, H5, nm, seval] <;> rfl) | (simp only [updH_apply, without_apply, cellsL_cons, cellsL_nil, mV_app, mV_app0, tyf, g4, n9, e6, e7, e8, H5, d19, (ix22 o21), w20, g22, nm, seval]; done)) (Nat.zero_lt_succ _) g22 ?_
   simp only [vz, tyf, g4, n9, e6, e7, e8, H5, d19, (ix22 o21), w20, g22, nm, seval]
   exact ⟨List.length p3, Nat.lt_succ_self _, by rw [hI3]; refine ⟨p3, c3_4 + 1, (([] : List Int) ++ [e3.High]), .ref (nx3 + 13) 0 (List.length (([] : List Int) ++ [e3.High])) 1 (List.length (([] : List Int) ++ [e3.High])), rfl, Int.le_trans hi3 (Int.le_add_one (Int.le_refl _)), drop_next hi3 hp3, rfl, (show 4 ≤ nx3 + 18 by omega), ?_, e6, ?_, ?_, Or.inl ⟨nx3 + 13, (some 3), rfl, (by first | omega | (simp only [nm, seval]; omega)), (by first | omega | (intro hh; simp only [n9, reduceCtorEq] at hh)), ?_⟩, h⟩ <;> first | (simp only [ua, n9, e6, e7, e8, H5, d19, w20, nm, seval] <;> rfl) | rfl⟩
end Go.V
end
section
namespace Go.V
open Go Go.Proofs
end Go.V
end
section
namespace Go.V
open Go Go.Proofs
end Go.V
end
section
namespace Go.V
open Go
def SI (w : List Int) (k : Int) : Int := (w.take k.toNat).sum
structure WOk (w : List Int) : Prop where
 v : ∀ x ∈ w, 0 ≤ x ∧ x ≤ 24
 l : w.length ≤ 12
theorem sum_bd : ∀ (w : List Int), (∀ x ∈ w, 0 ≤ x ∧ x ≤ 24) → 0 ≤ w.sum ∧ w.sum ≤ 24 * w.length
 | [], _ => by simp
 | x :: w, h => by
  have h1 := h x (by simp)
  have h2 := sum_bd w (fun y hy => h y (by simp [hy]))
  simp only [List.sum_cons, List.length_cons]
  omega
theorem SI_bd {w : List Int} (h : WOk w) (k : Int) : 0 ≤ SI w k ∧ SI w k ≤ 288 := by
 have h1 := sum_bd (w.take k.toNat) (fun x hx => h.v x (List.mem_of_mem_take hx))
 have h2 : (w.take k.toNat).length ≤ 12 := by rw [List.length_take]; have := h.l; omega
 unfold SI
 omega
theorem SI_next {w p : List Int} {c v : Int} (h0 : 0 ≤ c) (h : w.drop c.toNat = v :: p) : SI w (c + 1) = SI w c + v := by
 unfold SI
 have e : (c + 1).toNat = c.toNat + 1 := by omega
 have h1 : w = w.take c.toNat ++ v :: p := by rw [← h, List.take_append_drop]
 have h2 : c.toNat < w.length := by
  rcases Nat.lt_or_ge c.toNat w.length with h' | h'
  ·exact h'
  ·rw [List.drop_eq_nil_of_le h'] at h; cases h
 have h3 : (w.take c.toNat).length = c.toNat := by rw [List.length_take]; omega
 have h4 : w.take (c.toNat + 1) = w.take c.toNat ++ [v] := by
  conv => lhs; rw [h1]
  rw [List.take_append, h3]
  simp [List.take_take]
 rw [e, h4, List.sum_append]
 simp
theorem SI_all {w : List Int} {n : Int} (h : (w.length : Int) ≤ n) : SI w n = w.sum := by
 unfold SI
 rw [List.take_of_length_le (by omega)]
theorem SI_drop {w : List Int} {a : Int} : (w.drop a.toNat).sum = w.sum - SI w a := by
 have h := List.sum_append (l₁ := w.take a.toNat) (l₂ := w.drop a.toNat)
 rw [List.take_append_drop] at h
 unfold SI
 omega
theorem sumOf_l0 : ∀ (p : List Int) (c acc : Int), (∀ v ∈ p, 0 ≤ v ∧ v ≤ 24) → 0 ≤ acc → acc + 24 * p.length < 9223372036854775808 → g_sum_Of_l0 p c acc = some (.go (acc + p.sum))
 | [], _, _, _, _, _ => by simp [g_sum_Of_l0]
 | e :: p, c, acc, h, h0, h1 => by
  have h2 := h e (by simp)
  simp only [List.length_cons] at h1
  simp only [g_sum_Of_l0]
  rw [wrap_eq (by omega) (by omega), sumOf_l0 p (c + 1) (acc + e) (fun v hv => h v (by simp [hv])) (by omega) (by omega), List.sum_cons]
  congr 2
  omega
theorem sumOf_eq {p : List Int} (h : ∀ v ∈ p, 0 ≤ v ∧ v ≤ 24) (hl : p.length ≤ 12) : g_sum_Of p = some p.sum := by
 unfold g_sum_Of
 rw [lenOk_of (by omega), sumOf_l0 p 0 0 h (Int.le_refl _) (by omega)]
 simp [lbind]
def lowsL (d : List GSpan) : List Int := d.map (·.Low)
def highsL (d : List GSpan) : List Int := d.map (·.High)
theorem room_small {n : Nat} (h : n ≤ 1000) : roomOk 8 n = true := by simp [roomOk]; omega
theorem summed_l0 : ∀ (p : List GSpan) (c : Int) (a b : List Int), a.length + p.length ≤ 500 → b.length + p.length ≤ 500 → g_coat_summed_l0 p c a b = some (.go (a ++ lowsL p, b ++ highsL p))
 | [], _, a, b, _, _ => by simp [g_coat_summed_l0, lowsL, highsL]
 | e :: p, c, a, b, h1, h2 => by
  simp only [List.length_cons] at h1 h2
  simp only [g_coat_summed_l0]
  rw [room_small (by simp; omega), room_small (by simp; omega), cond_true, cond_true, summed_l0 p (c + 1) _ _ (by simp; omega) (by simp; omega)]
  simp [lowsL, highsL]
def preL (w : List Int) (c k : Nat) : List Int := (List.range' c k).map fun j => (w.take j).sum
theorem preL_length {w : List Int} {c k : Nat} : (preL w c k).length = k := by simp [preL]
theorem getI_pre {w : List Int} {n : Nat} {k : Int} (h0 : 0 ≤ k) (h1 : k ≤ n) : getI (preL w 0 (n + 1)) k = some (SI w k) := by
 unfold getI preL SI
 rw [if_pos h0]
 simp only [List.getElem?_map]
 rw [List.getElem?_range' (by omega)]
 simp
theorem summed_l1 {c1 : List Int × List Int} {n : Nat} (hn : 0 < n) (h12 : n ≤ 12) (l1 : c1.1.length = n) (l2 : c1.2.length = n) (v1 : ∀ v ∈ c1.1, 0 ≤ v ∧ v ≤ 24) (v2 : ∀ v ∈ c1.2, 0 ≤ v ∧ v ≤ 24) : ∀ (k c : Nat) (a b : List Int), c + k = n + 1 → a.length = c → b.length = c →
  g_coat_summed_l1 c1 k (c : Int) a b = some (.go (a ++ preL c1.1 c k, b ++ preL c1.2 c k))
 | 0, c, a, b, _, _, _ => by simp [g_coat_summed_l1, preL]
 | k + 1, c, a, b, h, ha, hb => by
  simp only [g_coat_summed_l1]
  have p1 : pfxOk c1.1.length (c : Int) = true := pfxOk_iff.2 ⟨by omega, by omega, by omega⟩
  have p2 : pfxOk c1.2.length (c : Int) = true := pfxOk_iff.2 ⟨by omega, by omega, by omega⟩
  have q1 : le1000 (c1.1.length * 1) = true := by simp [le1000]; omega
  have q2 : le1000 (c1.2.length * 1) = true := by simp [le1000]; omega
  rw [p1, p2, q1, q2, sumOf_eq (p := c1.1.take (Int.toNat c)) (fun v hv => v1 v (List.mem_of_mem_take hv)) (by rw [List.length_take]; omega), sumOf_eq (p := c1.2.take (Int.toNat c)) (fun v hv => v2 v (List.mem_of_mem_take hv)) (by rw [List.length_take]; omega)]
  simp only [cond_true, Option.bind_some]
  rw [room_small (by simp; omega), room_small (by simp; omega), cond_true, cond_true]
  have := summed_l1 hn h12 l1 l2 v1 v2 k (c + 1) (a ++ [(c1.1.take (Int.toNat c)).sum]) (b ++ [(c1.2.take (Int.toNat c)).sum]) (by omega) (by simp [ha]) (by simp [hb])
  rw [show ((c + 1 : Nat) : Int) = (c : Int) + 1 by omega] at this
  rw [this]
  simp [preL, List.range'_succ]
structure DOk (d : List GSpan) : Prop where
 s : ∀ x ∈ d, spanB x = true
 l : 1 ≤ d.length ∧ d.length ≤ 12
theorem span_iff {x : GSpan} : spanB x = true ↔ 0 ≤ x.Low ∧ x.Low ≤ x.High ∧ x.High ≤ 24 := by
 unfold spanB
 simp only [Bool.and_eq_true, inB_iff, decide_eq_true_eq]
 omega
theorem DOk.low {d : List GSpan} (h : DOk d) : WOk (lowsL d) := ⟨fun x hx => by
 obtain ⟨y, hy, rfl⟩ := List.mem_map.1 hx
 have := span_iff.1 (h.s y hy)
 omega, by simp [lowsL]; exact h.l.2⟩
theorem DOk.high {d : List GSpan} (h : DOk d) : WOk (highsL d) := ⟨fun x hx => by
 obtain ⟨y, hy, rfl⟩ := List.mem_map.1 hx
 have := span_iff.1 (h.s y hy)
 omega, by simp [highsL]; exact h.l.2⟩
theorem neB_of {α : Type} {xs : List α} (h : 1 ≤ xs.length) : neB xs = true := by cases xs with | nil => simp at h | cons a p => rfl
theorem summed_eq {s : GCoatSheet} (h : DOk s.Dry) : g_coat_summed s = some ⟨s, preL (lowsL s.Dry) 0 (s.Dry.length + 1), preL (highsL s.Dry) 0 (s.Dry.length + 1)⟩ := by
 have hl := h.l
 unfold g_coat_summed
 rw [lenOk_of (by omega), summed_l0 _ _ _ _ (by simp; omega) (by simp; omega)]
 simp only [cond_true, lbind, List.nil_append]
 rw [neB_of (by simp [lowsL]; omega), neB_of (by simp [highsL]; omega), wrap_eq (by omega) (by omega), show boundOk ((s.Dry.length : Int) + 1) = true by simp [boundOk]; omega]
 have := summed_l1 (c1 := (lowsL s.Dry, highsL s.Dry)) (n := s.Dry.length) (by omega) hl.2 (by simp [lowsL]) (by simp [highsL]) h.low.v h.high.v (s.Dry.length + 1) 0 [] [] (by omega) rfl rfl
 rw [show Int.toNat ((s.Dry.length : Int) + 1 - 0) = s.Dry.length + 1 by omega]
 rw [show ((0 : Nat) : Int) = 0 from rfl] at this
 rw [this]
 simp only [cond_true, List.nil_append]
 rw [neB_of (by rw [preL_length]; omega), neB_of (by rw [preL_length]; omega)]
 rfl
def failW (lo hi : Int → Int) (n : Int) : List Int → List GCoatCoat → Int → Option (Int × Int)
 | a :: p, c :: cs, i => cond (decide (lo (p.headD n) - lo a < c.Need)) (some (i, 1)) (cond (!p.isEmpty && decide (hi (p.headD n) - hi a > c.Peel)) (some (i, 2)) (failW lo hi n p cs (i + 1)))
 | _, _, _ => none
theorem drop_len {α : Type} {l p : List α} {c : Nat} {a : α} (h : l.drop c = a :: p) : l.length = c + 1 + p.length := by
 have := congrArg List.length h
 rw [List.length_drop, List.length_cons] at this
 omega
section
variable {x : Gcoatsums} {lo hi : Int → Int} (hlo : ∀ k : Int, 0 ≤ k → k ≤ x.CoatSheet.Dry.length → getI x.lows k = some (lo k)) (hhi : ∀ k : Int, 0 ≤ k → k ≤ x.CoatSheet.Dry.length → getI x.highs k = some (hi k))
 (blo : ∀ k : Int, 0 ≤ lo k ∧ lo k ≤ 288) (bhi : ∀ k : Int, 0 ≤ hi k ∧ hi k ≤ 288) (hc : lenOk x.CoatSheet.Coats = true)
include hlo blo in
theorem least_eq {a b : Int} (ha : 0 ≤ a ∧ a ≤ x.CoatSheet.Dry.length) (hb : 0 ≤ b ∧ b ≤ x.CoatSheet.Dry.length) : g_coat_sums_least x a b = some (lo b - lo a) := by
 have h1 := blo a
 have h2 := blo b
 unfold g_coat_sums_least
 rw [hlo b hb.1 hb.2, hlo a ha.1 ha.2]
 simp only [Option.bind_some]
 rw [wrap_eq (by omega) (by omega)]
include hhi bhi in
theorem greatest_eq {a b : Int} (ha : 0 ≤ a ∧ a ≤ x.CoatSheet.Dry.length) (hb : 0 ≤ b ∧ b ≤ x.CoatSheet.Dry.length) : g_coat_sums_greatest x a b = some (hi b - hi a) := by
 have h1 := bhi a
 have h2 := bhi b
 unfold g_coat_sums_greatest
 rw [hhi b hb.1 hb.2, hhi a ha.1 ha.2]
 simp only [Option.bind_some]
 rw [wrap_eq (by omega) (by omega)]
include hc in
theorem isLast_eq {c : Int} {k : GCoatCoat} {cs : List GCoatCoat} {p : List Int} (h0 : 0 ≤ c) (h : x.CoatSheet.Coats.drop c.toNat = k :: cs) (hl : p.length = cs.length) : g_coat_sums_isLast x c = some p.isEmpty := by
 have h1 := lenOk_lt hc
 have h2 := drop_len h
 unfold g_coat_sums_isLast
 rw [wrap_eq (by omega) (by omega)]
 congr 1
 cases p with
 | nil =>
  simp only [List.length_nil] at hl
  rw [List.isEmpty_nil, beq_iff_eq]; omega
 | cons a p =>
  simp only [List.length_cons] at hl
  rw [List.isEmpty_cons]
  exact beq_false_of_ne (by omega)
include hlo hhi blo bhi hc in
include hlo hhi blo bhi hc in
end
end Go.V
end
section
namespace Go.V
open Go Go.Proofs
end Go.V
end
section
namespace Go.V
open Go Go.Proofs
end Go.V
end
section
namespace Go.V
open Go Go.Proofs
end Go.V
end
section
namespace Go.V
open Go Go.Proofs
end Go.V
end
section
namespace Go.V
open Go Go.Proofs
end Go.V
end
section
namespace Go.V
open Go Go.Proofs
end Go.V
end
section
namespace Go.V
open Go
structure VP (d : List GSpan) (cs : List GCoatCoat) (p : List Int) : Prop where
 dk : DOk d
 c : 1 ≤ cs.length ∧ cs.length ≤ 5
 l : p.length = cs.length
 u : upB p = true
 r : ∀ x ∈ p, 0 ≤ x ∧ x ≤ (d.length : Int) - 1
theorem VP.of {s : GCoatSheet} {p : List Int} (h1 : sheetB s = true) (h2 : planB s p = true) : VP s.Dry s.Coats p := by
 unfold sheetB incB at h1
 unfold planB incB at h2
 simp only [Bool.and_eq_true, inB_iff, List.all_eq_true, decide_eq_true_eq] at h1 h2
 refine ⟨⟨h1.1.2, by omega⟩, by omega, h2.1.1, h2.1.2.1, fun x hx => ?_⟩
 have := h2.1.2.2 x hx
 unfold dayB at this
 exact inB_iff.1 this
def worstW (d : List GSpan) (cs : List GCoatCoat) (p : List Int) : Option (Int × Int) := failW (SI (lowsL d)) (SI (highsL d)) d.length p cs 0
def sumsOf (s : GCoatSheet) : Gcoatsums := ⟨s, preL (lowsL s.Dry) 0 (s.Dry.length + 1), preL (highsL s.Dry) 0 (s.Dry.length + 1)⟩
theorem summed_of {s : GCoatSheet} (h : DOk s.Dry) : g_coat_summed s = some (sumsOf s) := summed_eq h
def sureB (d : List GSpan) (cs : List GCoatCoat) (p : List Int) : Bool := (worstW d cs p).isNone
theorem lows_l0 : ∀ (p : List GSpan) (c : Int) (a : List Int), a.length + p.length ≤ 500 → g_ref03_Lows_l0 p c a = some (.go (a ++ lowsL p))
 | [], _, a, _ => by simp [g_ref03_Lows_l0, lowsL]
 | e :: p, c, a, h1 => by
  simp only [List.length_cons] at h1
  simp only [g_ref03_Lows_l0]
  rw [room_small (by simp; omega), cond_true, lows_l0 p (c + 1) _ (by simp; omega)]
  simp [lowsL]
theorem highs_l0 : ∀ (p : List GSpan) (c : Int) (a : List Int), a.length + p.length ≤ 500 → g_ref03_Highs_l0 p c a = some (.go (a ++ highsL p))
 | [], _, a, _ => by simp [g_ref03_Highs_l0, highsL]
 | e :: p, c, a, h1 => by
  simp only [List.length_cons] at h1
  simp only [g_ref03_Highs_l0]
  rw [room_small (by simp; omega), cond_true, highs_l0 p (c + 1) _ (by simp; omega)]
  simp [highsL]
theorem lows_eq {s : GCoatSheet} (h : DOk s.Dry) : g_ref03_Lows s = some (lowsL s.Dry) := by
 have := h.l
 unfold g_ref03_Lows
 rw [lenOk_of (by omega), lows_l0 _ _ _ (by simp; omega)]
 rfl
theorem highs_eq {s : GCoatSheet} (h : DOk s.Dry) : g_ref03_Highs s = some (highsL s.Dry) := by
 have := h.l
 unfold g_ref03_Highs
 rw [lenOk_of (by omega), highs_l0 _ _ _ (by simp; omega)]
 rfl
theorem dries_l0 {w : List Int} (hw : WOk w) : ∀ (k : Nat) (c acc : Int), 0 ≤ c → c + k ≤ w.length → 0 ≤ acc → acc + 24 * k ≤ 500 → g_ref03_Dries_l0 w k c acc = some (.go (acc + (SI w (c + k) - SI w c)))
 | 0, c, acc, _, _, _, _ => by simp [g_ref03_Dries_l0]
 | k + 1, c, acc, h0, h1, h2, h3 => by
  obtain ⟨v, hv, hm⟩ := getI_some (xs := w) h0 (by omega)
  have hb := hw.v v hm
  obtain ⟨_, _, hd⟩ := getI_drop hv
  have hS := SI_next h0 hd
  simp only [g_ref03_Dries_l0, hv, Option.bind_some]
  rw [wrap_eq (by omega) (by omega), dries_l0 hw k (c + 1) (acc + v) (by omega) (by omega) (by omega) (by omega)]
  congr 2
  rw [show c + 1 + (k : Int) = c + ((k + 1 : Nat) : Int) by omega]
  omega
theorem dries_l1 : ∀ (p : List Int) (c acc : Int), (∀ v ∈ p, 0 ≤ v ∧ v ≤ 24) → 0 ≤ acc → acc + 24 * p.length < 9223372036854775808 → g_ref03_Dries_l1 p c acc = some (.go (acc + p.sum))
 | [], _, _, _, _, _ => by simp [g_ref03_Dries_l1]
 | e :: p, c, acc, h, h0, h1 => by
  have h2 := h e (by simp)
  simp only [List.length_cons] at h1
  simp only [g_ref03_Dries_l1]
  rw [wrap_eq (by omega) (by omega), dries_l1 p (c + 1) (acc + e) (fun v hv => h v (by simp [hv])) (by omega) (by omega), List.sum_cons]
  congr 2
  omega
theorem up_head {a : Int} {p : List Int} {n : Int} (h : upB (a :: p) = true) (hn : a ≤ n) : a ≤ p.headD n := by
 cases p with
 | nil => exact hn
 | cons b p =>
  rw [upB_cons, Bool.and_eq_true, decide_eq_true_eq] at h
  show a ≤ b
  omega
theorem up_tail {a : Int} {p : List Int} (h : upB (a :: p) = true) : upB p = true := by
 cases p with
 | nil => rfl
 | cons b p => rw [upB_cons, Bool.and_eq_true] at h; exact h.2
theorem up_drop : ∀ {p : List Int} (c : Nat), upB p = true → upB (p.drop c) = true
 | [], _, _ => by simp [upB]
 | _ :: _, 0, h => h
 | a :: p, c + 1, h => up_drop (p := p) c (up_tail h)
section
variable {d : List GSpan} {cs0 : List GCoatCoat} {pl : List Int} (h : VP d cs0 pl) {w : List Int} (hw : WOk w) (hl : w.length = d.length)
include h hw hl in
theorem dries_eq {p : List Int} {c a : Int} (h0 : 0 ≤ c) (hp : pl.drop c.toNat = a :: p) : g_ref03_Dries pl c w = some (SI w (p.headD d.length) - SI w a) := by
 have hc := h.c
 have hL := h.l
 have hdl := h.dk.l
 have hlen := drop_len hp
 have hm : a ∈ pl := List.mem_of_mem_drop (i := c.toNat) (by rw [hp]; simp)
 have ha := h.r a hm
 have hup : upB (a :: p) = true := by rw [← hp]; exact up_drop _ h.u
 have hb := up_head (n := d.length) hup (by omega)
 have hSa := SI_bd hw a
 unfold g_ref03_Dries
 rw [wrap_eq (by omega) (by omega), getI_of_drop h0 hp]
 simp only [Option.bind_some]
 cases p with
 | nil =>
  simp only [List.length_nil] at hlen
  rw [decide_eq_false (by omega), lenOk_of (by omega), show leB 0 a = true from decide_eq_true (by omega)]
  have hsum := sum_bd (w.drop a.toNat) (fun v hv => hw.v v (List.mem_of_mem_drop hv))
  have hwl := hw.l
  rw [dries_l1 _ _ _ (fun v hv => hw.v v (List.mem_of_mem_drop hv)) (Int.le_refl _) (by rw [List.length_drop]; omega), SI_drop]
  show some (0 + (w.sum - SI w a)) = some (SI w (d.length : Int) - SI w a)
  rw [SI_all (n := (d.length : Int)) (by omega)]
  congr 1
  omega
 | cons b p =>
  have hm2 : b ∈ pl := List.mem_of_mem_drop (i := c.toNat) (by rw [hp]; simp)
  have hb2 := h.r b hm2
  have hb' : a ≤ b := hb
  simp only [List.length_cons] at hlen
  have hwl := hw.l
  rw [decide_eq_true (by omega), getI_of_drop (by omega) (drop_next h0 hp)]
  simp only [cond_true, Option.bind_some]
  rw [show boundOk b = true by simp [boundOk]; omega, show loOk a = true by simp [loOk]; omega]
  rw [dries_l0 hw _ _ _ (by omega) (by omega) (Int.le_refl _) (by omega)]
  show some (0 + (SI w (a + ((b - a).toNat : Int)) - SI w a)) = some (SI w b - SI w a)
  rw [show a + ((b - a).toNat : Int) = b by omega]
  congr 1
  omega
include h hw hl in
theorem early_eq {s : GCoatSheet} (hs : s.Coats = cs0) {p : List Int} {cs : List GCoatCoat} {k : GCoatCoat} {c a : Int} (h0 : 0 ≤ c) (hp : pl.drop c.toNat = a :: p) (hk : cs0.drop c.toNat = k :: cs) : g_ref03_early s pl c w = some (decide (SI w (p.headD d.length) - SI w a < k.Need)) := by
 unfold g_ref03_early
 rw [dries_eq h hw hl h0 hp, hs, getI_of_drop h0 hk]
 rfl
include h hw hl in
end
theorem VP.pl {d : List GSpan} {cs : List GCoatCoat} {p : List Int} (h : VP d cs p) : lenOk p = true := by
 have := h.c; have := h.l
 exact lenOk_of (by omega)
def ptS (v : Int) : GSpan := ⟨v, v⟩
theorem DOk.pt {w : List Int} (h : WOk w) (h1 : 1 ≤ w.length) : DOk (w.map ptS) := ⟨fun x hx => by
 obtain ⟨v, hv, rfl⟩ := List.mem_map.1 hx
 have := h.v v hv
 exact span_iff.2 ⟨this.1, Int.le_refl _, this.2⟩, by simp; exact ⟨h1, h.l⟩⟩
end Go.V
end
section
set_option linter.unusedVariables false
set_option linter.defProp false
namespace Go.V
open Go
section
variable {P : Program} {H : Nat → Option VObj} {t : TypeId} {x y : Operand} {k : IntKind} {a b : Int}
end
end Go.V
end
