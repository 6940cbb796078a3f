/- Part of a proof: a logic of values by content, lifted functions, what follows. -/
import Derived.Test.YtgdgkkloccpbnaaGreatDoorXbf
import Derived.Test.YtgdgkkloccpbnaaGreatDoorXbh
import Derived.Test.YtgdgkkloccpbnaaGreatDoorXbj
import Derived.Test.YtgdgkkloccpbnaaGreatDoorXbi
set_option linter.all false
set_option maxRecDepth 4000
set_option maxHeartbeats 40000000
section
namespace Go.V
open Go Go.Proofs
def zeq (xs : List Int) : Option (List Int) := cond (neB xs) (cond (roomOk 8 xs.length) (some xs) none) none
theorem zjh (xs R : List Int) (h : zeq xs = some R) : VPure Tryz.prog G0 119 [.sl (cellsL eI xs) xs.length false] (.own (cellsL eI R) R.length 1) := by
 unfold zeq at h
 cases hn : neB xs with
 | false => rw [hn] at h; cases h
 | true =>
 cases hr : roomOk 8 xs.length with
 | false => rw [hn, hr] at h; cases h
 | true =>
 rw [hn, hr] at h
 simp only [cond_true, Option.some.injEq] at h
 subst h
 have hc : cellsL eI xs ≠ [] := by
  cases xs with
  | nil => cases hn
  | cons a l => intro hh; cases hh
 have hnil : ∀ (H : Nat → Option VObj) (x y : Operand), binV Tryz.prog H .eql 23 x y (.sl (cellsL eI xs) xs.length false) (.lit (.slice none 0 0)) = some (.lit (.bool false)) := fun H x y => zna Tryz.underlying23 hc
 have hb : vbuildSlice Tryz.prog 23 0 [] = some ([], 1) := by kernel_rfl
 refine VPure.run mixed Tryz.call119 Tryz.func119 rfl (by simp [Tryz.ntmps119]; kernel_rfl) ?_
 simp only [vz, tyf, hnil, hb, List.map_nil, seval]
 refine zqn (w := 1) (enc := eI) (xs := ([] : List Int)) (ys := xs) (el := some 3) (fun _ => rfl) lf23 ao23 Tryz.underlying23 rfl hn (by rw [List.nil_append]; exact hr) ?_
 simp only [vz, tyf, List.nil_append, seval]
 refine ⟨rfl, .ref 5 0 xs.length 1 xs.length, by simp [Tryz.results119, resV, resL, resV1, upd], (cellsL eI xs).length + 1, 5, _, cellsL eI xs, ⟨_, rfl⟩, by simp only [zab, zaa, seval] <;> rfl, zjc _ _ (eI_ok.treeL xs) (Nat.lt_succ_self _)⟩
end Go.V
end
section
namespace Go.V
open Go Go.Proofs
def zcz (x0_x : Gcoatsums) (x1_from : Int) (x2_to : Int) : Option (Int) := Option.bind (getI x0_x.lows x2_to) (fun x1 => Option.bind (getI x0_x.lows x1_from) (fun x2 => some (IntKind.i64.wrap (x1 - x2))))
theorem zjo (x0_x : Gcoatsums) (x1_from : Int) (x2_to : Int) (R : Int) (h : zcz x0_x x1_from x2_to = some R) : VPure Tryz.prog G0 121 [.agg (cGcoatsums x0_x), .lit (.int .i64 x1_from), .lit (.int .i64 x2_to)] (.tree (.lit (.int .i64 R))) := by
 refine VPure.runR mixed Tryz.call121 Tryz.func121 rfl (by simp [Tryz.ntmps121]; kernel_rfl) ?_
 obtain ⟨KF, h, kF, kN⟩ := zan h
 simp only [zcz] at h
 simp only [vz, tyf, nm, seval]
 refine zbl (fun tm => tm 1 = .lit (.int .i64 x1_from) ∧ tm 2 = .lit (.int .i64 x2_to) ∧ tm 3 = .ptr 0 0 ∧ True) (by refine ⟨?_, ?_, ?_, trivial⟩ <;> first | (simp only [ua, nm, seval] <;> rfl) | rfl) ?_
 rintro tm ⟨e3, e4, e5, _⟩
 rcases o7 : (getI x0_x.lows x2_to) with _ | x6
 ·simp only [o7, hs] at h
  exact absurd h kN
 simp only [o7, hs] at h
 rcases o9 : (getI x0_x.lows x1_from) with _ | x8
 ·simp only [o9, hs] at h
  exact absurd h kN
 simp only [o9, hs] at h
 try simp only [vz, tyf, e3, e4, e5, (ix23 o7), (ix23 o9), nm, seval]
 refine zbt (x := (.lit (.int .i64 (IntKind.i64.wrap (x6 - x8))))) (by first | (simp only [Tryz.results121, resV, resL, resV1, zcq, zev, uw, cr, tyf, (ix23 o7), (ix23 o9), nm, seval] <;> rfl) | rfl) ?_
 obtain rfl := kF _ h
 refine zcv ?_ ?_
 ·simp only [tre, tytre, Bool.and_self]
 ·first | (simp only [outV, uw, zba, cr, tyf, nrm, tynrm, e3, e4, e5, (ix23 o7), (ix23 o9), nm, seval] <;> rfl) | rfl
end Go.V
end
section
namespace Go.V
open Go Go.Proofs
def zch (x0_x : Gcoatsums) (x1_from : Int) (x2_to : Int) : Option (Int) := Option.bind (getI x0_x.highs x2_to) (fun x1 => Option.bind (getI x0_x.highs x1_from) (fun x2 => some (IntKind.i64.wrap (x1 - x2))))
theorem zhz (x0_x : Gcoatsums) (x1_from : Int) (x2_to : Int) (R : Int) (h : zch x0_x x1_from x2_to = some R) : VPure Tryz.prog G0 112 [.agg (cGcoatsums x0_x), .lit (.int .i64 x1_from), .lit (.int .i64 x2_to)] (.tree (.lit (.int .i64 R))) := by
 refine VPure.runR mixed Tryz.call112 Tryz.func112 rfl (by simp [Tryz.ntmps112]; kernel_rfl) ?_
 obtain ⟨KF, h, kF, kN⟩ := zan h
 simp only [zch] at h
 simp only [vz, tyf, nm, seval]
 refine zbl (fun tm => tm 1 = .lit (.int .i64 x1_from) ∧ tm 2 = .lit (.int .i64 x2_to) ∧ tm 3 = .ptr 0 0 ∧ True) (by refine ⟨?_, ?_, ?_, trivial⟩ <;> first | (simp only [ua, nm, seval] <;> rfl) | rfl) ?_
 rintro tm ⟨e3, e4, e5, _⟩
 rcases o7 : (getI x0_x.highs x2_to) with _ | x6
 ·simp only [o7, hs] at h
  exact absurd h kN
 simp only [o7, hs] at h
 rcases o9 : (getI x0_x.highs x1_from) with _ | x8
 ·simp only [o9, hs] at h
  exact absurd h kN
 simp only [o9, hs] at h
 try simp only [vz, tyf, e3, e4, e5, (ix23 o7), (ix23 o9), nm, seval]
 refine zbt (x := (.lit (.int .i64 (IntKind.i64.wrap (x6 - x8))))) (by first | (simp only [Tryz.results112, resV, resL, resV1, zcq, zev, uw, cr, tyf, (ix23 o7), (ix23 o9), nm, seval] <;> rfl) | rfl) ?_
 obtain rfl := kF _ h
 refine zcv ?_ ?_
 ·simp only [tre, tytre, Bool.and_self]
 ·first | (simp only [outV, uw, zba, cr, tyf, nrm, tynrm, e3, e4, e5, (ix23 o7), (ix23 o9), nm, seval] <;> rfl) | rfl
end Go.V
end
section
namespace Go.V
open Go Go.Proofs
def zbn (x0_x : Gcoatsums) (x1_coat : Int) : Option (Bool) := some (x1_coat == (IntKind.i64.wrap ((List.length x0_x.CoatSheet.Coats : Int) - 1)))
theorem zgi (x0_x : Gcoatsums) (x1_coat : Int) (R : Bool) (h : zbn x0_x x1_coat = some R) : VPure Tryz.prog G0 157 [.agg (cGcoatsums x0_x), .lit (.int .i64 x1_coat)] (.tree (.lit (.bool R))) := by
 refine VPure.runR mixed Tryz.call157 Tryz.func157 rfl (by simp [Tryz.ntmps157]; kernel_rfl) ?_
 obtain ⟨KF, h, kF, kN⟩ := zan h
 simp only [zbn] at h
 try simp only [vz, tyf, nm, seval]
 obtain rfl := kF _ h
 exact zae Tryz.results157 rfl
end Go.V
end
section
namespace Go.V
open Go Go.Proofs
end Go.V
end
section
namespace Go.V
open Go Go.Proofs
end Go.V
end
section
namespace Go.V
open Go Go.Proofs
theorem zir (x0_x : Gcoatsums) : VPure Tryz.prog G0 83 [.agg (cGcoatsums x0_x)] (.tree (.agg ([VV.lit Value.nilFunc] ++ [VV.fn (Fn.func 121) [.agg (cGcoatsums x0_x)] []] ++ [VV.fn (Fn.func 112) [.agg (cGcoatsums x0_x)] []]))) := by
 refine VPure.runR mixed Tryz.call83 Tryz.func83 rfl (by simp [Tryz.ntmps83]; kernel_rfl) ?_
 try simp only [vz, tyf, nm, seval]
 refine zbt (x := (.agg ([VV.lit Value.nilFunc] ++ [VV.fn (Fn.func 121) [.agg (cGcoatsums x0_x)] []] ++ [VV.fn (Fn.func 112) [.agg (cGcoatsums x0_x)] []]))) (by first | (simp only [Tryz.results83, resV, resL, resV1, zcq, zev, uw, cr, tyf, nm, seval] <;> rfl) | rfl) ?_
 refine zcv ?_ ?_
 ·simp only [tre, tytre, zanu, zaj, zdd, zbk, Bool.and_self]
 ·first | (simp only [outV, uw, zba, cr, tyf, nrm, tynrm, zaly, zamc, zaai, nm, seval] <;> rfl) | rfl
end Go.V
end
section
namespace Go.V
open Go Go.Proofs
end Go.V
end
section
namespace Go.V
open Go Go.Proofs
def zbu  : List Int → Int → Int → Option (LOut (Int) (Int))
 | [], c1_9, c1_8 => some (.go c1_8)
 | e1 :: p1, c1_9, c1_8 => zbu p1 (c1_9 + 1) (IntKind.i64.wrap (c1_8 + e1))
def zbw (x2_weather : List Int) : Nat → Int → Int → Option (LOut (Int) (Int))
 | 0, c0_9, c0_8 => some (.go c0_8)
 | k0 + 1, c0_9, c0_8 => Option.bind (getI x2_weather c0_9) (fun x3 => zbw x2_weather k0 (c0_9 + 1) (IntKind.i64.wrap (c0_8 + x3)))
def zdp (x0_plan : List Int) (x1_coat : Int) (x2_weather : List Int) : Option (Int) := cond (decide ((IntKind.i64.wrap (x1_coat + 1)) < (List.length x0_plan : Int))) (Option.bind (getI x0_plan (IntKind.i64.wrap (x1_coat + 1))) (fun x1 => Option.bind (getI x0_plan x1_coat) (fun x2 => cond (boundOk x1) (cond (loOk x2) (lbind (zbw x2_weather (Int.toNat (x1 - x2)) x2 0) (fun r5 => some r5) (fun c4 => some c4) (fun _ _ => none)) none) none))) (Option.bind (getI x0_plan x1_coat) (fun x6 => cond (lenOk x2_weather) (cond (leB 0 x6) (lbind (zbu (List.drop (Int.toNat x6) x2_weather) x6 0) (fun r8 => some r8) (fun c7 => some c7) (fun _ _ => none)) none) none))
theorem ziq (x0_plan : List Int) (x1_coat : Int) (x2_weather : List Int) (R : Int) (h : zdp x0_plan x1_coat x2_weather = some R) : VPure Tryz.prog G0 113 [.sl (cellsL eI x0_plan) (List.length x0_plan) false, .lit (.int .i64 x1_coat), .sl (cellsL eI x2_weather) (List.length x2_weather) false] (.tree (.lit (.int .i64 R))) := by
 refine VPure.runR mixed Tryz.call113 Tryz.func113 rfl (by simp [Tryz.ntmps113]; kernel_rfl) ?_
 obtain ⟨KF, h, kF, kN⟩ := zan h
 simp only [zdp] at h
 cases d9 : (decide ((IntKind.i64.wrap (x1_coat + 1)) < (List.length x0_plan : Int)))
 ·simp only [d9, hs] at h
  rcases o11 : (getI x0_plan x1_coat) with _ | x10
  ·simp only [o11, hs] at h
   exact absurd h kN
  simp only [o11, hs] at h
  cases g13 : (lenOk x2_weather)
  ·simp only [g13, hs] at h
   exact absurd h kN
  simp only [g13, hs] at h
  cases g14 : (leB 0 x10)
  ·simp only [g14, hs] at h
   exact absurd h kN
  simp only [g14, hs] at h
  simp only [vz, tyf, d9, (ix23 o11), g13, g14, nm, seval]
  obtain ⟨K12, h, kR12, kG12, kB12, kN12⟩ := zap h kN
  obtain ⟨f12, hf12, h⟩ := call3 h
  obtain ⟨I12, hI12⟩ : ∃ I : Nat → St → Prop, I = (fun m st => ∃ (p12 : List Int) (c12_9 : Int) (c12_8 : Int), m = List.length p12 ∧ 0 ≤ c12_9 ∧ List.drop (Int.toNat c12_9) x2_weather = p12 ∧ st.df = [] ∧ 15 ≤ st.nx ∧ st.tm 2 = .sl (cellsL eI x2_weather) (List.length x2_weather) false ∧ st.tm 7 = .lit (.int .i64 (List.length x2_weather : Int)) ∧ st.tm 8 = .lit (.int .i64 c12_8) ∧ st.tm 9 = .lit (.int .i64 c12_9) ∧ K12 (f12 p12 c12_9 c12_8)) := ⟨_, rfl⟩
  refine loopK mixed (by kernel_rfl) I12 (List.length (List.drop (Int.toNat x10) x2_weather)) (by rw [hI12]; refine ⟨List.drop (Int.toNat x10) x2_weather, x10, 0, rfl, of_decide_eq_true g14, rfl, rfl, (show 15 ≤ 15 by omega), ?_, ?_, ?_, ?_, h⟩ <;> first | (simp only [ua, d9, nm, seval] <;> rfl) | rfl) ?_
  rintro m ⟨tm, H, nx12, df⟩ hinv
  rw [hI12] at hinv
  obtain ⟨p12, c12_9, c12_8, rfl, hi12, hp12, hdf, hn12, e15, e16, e17, e18, h⟩ := hinv
  simp only at hdf hn12 e15 e16 e17 e18
  have n19 := zbr (m := 15) (b := nx12) (by omega)
  subst hdf hf12
  cases p12 with
  | nil =>
   have d20 : (decide (c12_9 < (List.length x2_weather : Int))) = false := zaf hi12 hp12
   simp only [zbw, zbu, hs, reduceCtorEq] at h
   replace h := kG12 _ h
   try dsimp only at h
   try simp only [hs] at h
   try simp only [vz, tyf, d9, (ix23 o11), g13, g14, n19, e15, e16, e17, e18, d20, nm, seval]
   refine zbt (x := (.lit (.int .i64 c12_8))) (by first | (simp only [Tryz.results113, resV, resL, resV1, zcq, zev, uw, cr, tyf, d9, (ix23 o11), g13, g14, n19, d20, nm, seval] <;> rfl) | rfl) ?_
   obtain rfl := kF _ h
   refine zcv ?_ ?_
   ·simp only [tre, tytre, Bool.and_self]
   ·first | (simp only [outV, uw, zba, cr, tyf, nrm, tynrm, d9, (ix23 o11), g13, g14, n19, e15, e16, e17, e18, d20, nm, seval] <;> rfl) | rfl
  | cons e12 p12 =>
   have d21 : (decide (c12_9 < (List.length x2_weather : Int))) = true := zao hi12 hp12
   have o23 := zad hi12 hp12
   have w22 := zat hi12 hp12 g13
   simp only [zbw, zbu, hs, reduceCtorEq] at h
   simp only [vz, tyf, d9, (ix23 o11), g13, g14, n19, e15, e16, e17, e18, d21, (ix23 o23), w22, nm, seval]
   exact ⟨List.length p12, Nat.lt_succ_self _, by rw [hI12]; refine ⟨p12, c12_9 + 1, IntKind.i64.wrap (c12_8 + e12), rfl, Int.le_trans hi12 (Int.le_add_one (Int.le_refl _)), zac hi12 hp12, rfl, (show 15 ≤ nx12 + 13 by omega), e15, e16, ?_, ?_, h⟩ <;> first | (simp only [ua, d9, n19, e15, e16, e17, e18, d21, w22, nm, seval] <;> rfl) | rfl⟩
 simp only [d9, hs] at h
 rcases o25 : (getI x0_plan (IntKind.i64.wrap (x1_coat + 1))) with _ | x24
 ·simp only [o25, hs] at h
  exact absurd h kN
 simp only [o25, hs] at h
 rcases o27 : (getI x0_plan x1_coat) with _ | x26
 ·simp only [o27, hs] at h
  exact absurd h kN
 simp only [o27, hs] at h
 cases g29 : (boundOk x24)
 ·simp only [g29, hs] at h
  exact absurd h kN
 simp only [g29, hs] at h
 cases g30 : (loOk x26)
 ·simp only [g30, hs] at h
  exact absurd h kN
 simp only [g30, hs] at h
 simp only [vz, tyf, d9, (ix23 o25), (ix23 o27), g29, g30, nm, seval]
 obtain ⟨K28, h, kR28, kG28, kB28, kN28⟩ := zap h kN
 obtain ⟨f28, hf28, h⟩ := call3 h
 obtain ⟨I28, hI28⟩ : ∃ I : Nat → St → Prop, I = (fun m st => ∃ (p28 : Nat) (c28_9 : Int) (c28_8 : Int), p28 = m ∧ loOk c28_9 = true ∧ Int.toNat (x24 - c28_9) = p28 ∧ st.df = [] ∧ 21 ≤ st.nx ∧ st.tm 2 = .sl (cellsL eI x2_weather) (List.length x2_weather) false ∧ st.tm 7 = .lit (.int .i64 x24) ∧ st.tm 8 = .lit (.int .i64 c28_8) ∧ st.tm 9 = .lit (.int .i64 c28_9) ∧ K28 (f28 p28 c28_9 c28_8)) := ⟨_, rfl⟩
 refine loopK mixed (by kernel_rfl) I28 (Int.toNat (x24 - x26)) (by rw [hI28]; refine ⟨Int.toNat (x24 - x26), x26, 0, rfl, g30, rfl, rfl, (show 21 ≤ 21 by omega), ?_, ?_, ?_, ?_, h⟩ <;> first | (simp only [ua, d9, nm, seval] <;> rfl) | rfl) ?_
 rintro m ⟨tm, H, nx28, df⟩ hinv
 rw [hI28] at hinv
 obtain ⟨p28, c28_9, c28_8, rfl, hi28, hp28, hdf, hn28, e31, e32, e33, e34, h⟩ := hinv
 simp only at hdf hn28 e31 e32 e33 e34
 have n35 := zbr (m := 21) (b := nx28) (by omega)
 subst hdf hf28
 cases p28 with
 | zero =>
  have d36 : (decide (c28_9 < x24)) = false := zie hp28
  simp only [zbw, zbu, hs, reduceCtorEq] at h
  replace h := kG28 _ h
  try dsimp only at h
  try simp only [hs] at h
  try simp only [vz, tyf, d9, (ix23 o25), (ix23 o27), g29, g30, n35, e31, e32, e33, e34, d36, nm, seval]
  refine zbt (x := (.lit (.int .i64 c28_8))) (by first | (simp only [Tryz.results113, resV, resL, resV1, zcq, zev, uw, cr, tyf, d9, (ix23 o25), (ix23 o27), g29, g30, n35, d36, nm, seval] <;> rfl) | rfl) ?_
  obtain rfl := kF _ h
  refine zcv ?_ ?_
  ·simp only [tre, tytre, Bool.and_self]
  ·first | (simp only [outV, uw, zba, cr, tyf, nrm, tynrm, d9, (ix23 o25), (ix23 o27), g29, g30, n35, e31, e32, e33, e34, d36, nm, seval] <;> rfl) | rfl
 | succ p28 =>
  have d37 : (decide (c28_9 < x24)) = true := cnt_lt hp28
  have w38 := znp hi28 hp28 g29
  simp only [zbw, zbu, hs, reduceCtorEq] at h
  rcases o40 : (getI x2_weather c28_9) with _ | x39
  ·simp only [o40, hs] at h
   exact absurd h kN28
  simp only [o40, hs] at h
  simp only [vz, tyf, d9, (ix23 o25), (ix23 o27), g29, g30, n35, e31, e32, e33, e34, d37, w38, (ix23 o40), nm, seval]
  exact ⟨p28, Nat.lt_succ_self _, by rw [hI28]; refine ⟨p28, c28_9 + 1, IntKind.i64.wrap (c28_8 + x39), rfl, zaal hi28, zmr hp28, rfl, (show 21 ≤ nx28 + 13 by omega), e31, e32, ?_, ?_, h⟩ <;> first | (simp only [ua, d9, n35, e31, e32, e33, e34, d37, w38, nm, seval] <;> rfl) | rfl⟩
end Go.V
end
section
namespace Go.V
open Go Go.Proofs
def zfi (x0_s : GCoatSheet) (x1_plan : List Int) (x2_coat : Int) (x3_weather : List Int) : Option (Bool) := Option.bind (zdp x1_plan x2_coat x3_weather) (fun r1 => Option.bind (getI x0_s.Coats x2_coat) (fun x2 => some (decide (r1 < x2.Need))))
theorem zmv (x0_s : GCoatSheet) (x1_plan : List Int) (x2_coat : Int) (x3_weather : List Int) (R : Bool) (h : zfi x0_s x1_plan x2_coat x3_weather = some R) : VPure Tryz.prog G0 86 [.agg (cGCoatSheet x0_s), .sl (cellsL eI x1_plan) (List.length x1_plan) false, .lit (.int .i64 x2_coat), .sl (cellsL eI x3_weather) (List.length x3_weather) false] (.tree (.lit (.bool R))) := by
 refine VPure.runR mixed Tryz.call86 Tryz.func86 rfl (by simp [Tryz.ntmps86]; kernel_rfl) ?_
 obtain ⟨KF, h, kF, kN⟩ := zan h
 simp only [zfi] at h
 simp only [vz, tyf, nm, seval]
 refine zbl (fun tm => tm 1 = .sl (cellsL eI x1_plan) (List.length x1_plan) false ∧ tm 2 = .lit (.int .i64 x2_coat) ∧ tm 3 = .sl (cellsL eI x3_weather) (List.length x3_weather) false ∧ tm 4 = .ptr 0 0 ∧ True) (by refine ⟨?_, ?_, ?_, ?_, trivial⟩ <;> first | (simp only [ua, nm, seval] <;> rfl) | rfl) ?_
 rintro tm ⟨e3, e4, e5, e6, _⟩
 rcases o8 : (zdp x1_plan x2_coat x3_weather) with _ | r7
 ·simp only [o8, hs] at h
  exact absurd h kN
 simp only [o8, hs] at h
 simp only [vz, tyf, e3, e4, e5, e6, nm, seval]
 refine dktree (args0 := [.sl (cellsL eI x1_plan) (List.length x1_plan) false, .lit (.int .i64 x2_coat), .sl (cellsL eI x3_weather) (List.length x3_weather) false]) (by first | (simp only [nrm, tynrm] <;> rfl) | rfl) (by simp only [tre, tytre, Bool.and_self]) (ziq _ _ _ _ o8) ?_
 refine zam (fun tm => tm 2 = .lit (.int .i64 x2_coat) ∧ tm 4 = .ptr 0 0 ∧ tm 12 = .lit (.int .i64 r7) ∧ True) (by refine ⟨e4, e6, ?_, trivial⟩ <;> first | (simp only [ua, e3, e4, e5, e6, nm, seval] <;> rfl) | rfl) ?_
 rintro tm ⟨e9, e10, e11, _⟩
 rcases o13 : (getI x0_s.Coats x2_coat) with _ | x12
 ·simp only [o13, hs] at h
  exact absurd h kN
 simp only [o13, hs] at h
 try simp only [vz, tyf, e9, e10, e11, (ix24 o13), nm, seval]
 obtain rfl := kF _ h
 exact zae Tryz.results86 rfl
end Go.V
end
section
namespace Go.V
open Go Go.Proofs
def zff (x0_s : GCoatSheet) (x1_plan : List Int) (x2_coat : Int) (x3_weather : List Int) : Option (Bool) := cond (decide ((IntKind.i64.wrap (x2_coat + 1)) < (List.length x1_plan : Int))) (Option.bind (zdp x1_plan x2_coat x3_weather) (fun r1 => Option.bind (getI x0_s.Coats x2_coat) (fun x2 => some (decide (r1 > x2.Peel))))) (some false)
theorem znl (x0_s : GCoatSheet) (x1_plan : List Int) (x2_coat : Int) (x3_weather : List Int) (R : Bool) (h : zff x0_s x1_plan x2_coat x3_weather = some R) : VPure Tryz.prog G0 88 [.agg (cGCoatSheet x0_s), .sl (cellsL eI x1_plan) (List.length x1_plan) false, .lit (.int .i64 x2_coat), .sl (cellsL eI x3_weather) (List.length x3_weather) false] (.tree (.lit (.bool R))) := by
 refine VPure.runR mixed Tryz.call88 Tryz.func88 rfl (by simp [Tryz.ntmps88]; kernel_rfl) ?_
 obtain ⟨KF, h, kF, kN⟩ := zan h
 simp only [zff] at h
 simp only [vz, tyf, nm, seval]
 refine zbl (fun tm => tm 1 = .sl (cellsL eI x1_plan) (List.length x1_plan) false ∧ tm 2 = .lit (.int .i64 x2_coat) ∧ tm 3 = .sl (cellsL eI x3_weather) (List.length x3_weather) false ∧ tm 4 = .ptr 0 0 ∧ True) (by refine ⟨?_, ?_, ?_, ?_, trivial⟩ <;> first | (simp only [ua, nm, seval] <;> rfl) | rfl) ?_
 rintro tm ⟨e3, e4, e5, e6, _⟩
 cases d7 : (decide ((IntKind.i64.wrap (x2_coat + 1)) < (List.length x1_plan : Int)))
 ·simp only [d7, hs] at h
  try simp only [vz, tyf, e3, e4, e5, e6, d7, nm, seval]
  obtain rfl := kF _ h
  exact zae Tryz.results88 rfl
 simp only [d7, hs] at h
 rcases o9 : (zdp x1_plan x2_coat x3_weather) with _ | r8
 ·simp only [o9, hs] at h
  exact absurd h kN
 simp only [o9, hs] at h
 simp only [vz, tyf, e3, e4, e5, e6, d7, nm, seval]
 refine dktree (args0 := [.sl (cellsL eI x1_plan) (List.length x1_plan) false, .lit (.int .i64 x2_coat), .sl (cellsL eI x3_weather) (List.length x3_weather) false]) (by first | (simp only [nrm, tynrm] <;> rfl) | rfl) (by simp only [tre, tytre, Bool.and_self]) (ziq _ _ _ _ o9) ?_
 refine zam (fun tm => tm 2 = .lit (.int .i64 x2_coat) ∧ tm 4 = .ptr 0 0 ∧ tm 14 = .lit (.bool true) ∧ tm 18 = .lit (.int .i64 r8) ∧ True) (by refine ⟨e4, e6, ?_, ?_, trivial⟩ <;> first | (simp only [ua, e3, e4, e5, e6, d7, nm, seval] <;> rfl) | rfl) ?_
 rintro tm ⟨e10, e11, e12, e13, _⟩
 rcases o15 : (getI x0_s.Coats x2_coat) with _ | x14
 ·simp only [o15, hs] at h
  exact absurd h kN
 simp only [o15, hs] at h
 try simp only [vz, tyf, d7, e10, e11, e12, e13, (ix24 o15), nm, seval]
 obtain rfl := kF _ h
 exact zae Tryz.results88 rfl
end Go.V
end
section
namespace Go.V
open Go Go.Proofs
end Go.V
end
section
namespace Go.V
open Go Go.Proofs
def zci  : List GSpan → Int → (List Int) → Option (LOut (List Int) ((List Int)))
 | [], c0_4, c0_3 => some (.go c0_3)
 | e0 :: p0, c0_4, c0_3 => cond (roomOk 8 (List.length (c0_3 ++ [e0.Low]))) (zci p0 (c0_4 + 1) (c0_3 ++ [e0.Low])) none
def zfr (x0_s : GCoatSheet) : Option (List Int) := cond (lenOk x0_s.Dry) (lbind (zci x0_s.Dry 0 ([] : List Int)) (fun r2 => some r2) (fun c1 => some c1) (fun _ _ => none)) none
theorem zoq (x0_s : GCoatSheet) (R : List Int) (h : zfr x0_s = some R) : VPure Tryz.prog G0 87 [.agg (cGCoatSheet x0_s)] (.tree (.sl (cellsL eI R) (List.length R) false)) := by
 refine VPure.runR mixed Tryz.call87 Tryz.func87 rfl (by simp [Tryz.ntmps87]; kernel_rfl) ?_
 obtain ⟨KF, h, kF, kN⟩ := zan h
 simp only [zfr] at h
 cases g4 : (lenOk x0_s.Dry)
 ·simp only [g4, hs] at h
  exact absurd h kN
 simp only [g4, hs] at h
 simp only [vz, tyf, g4, nm, seval]
 obtain ⟨K3, h, kR3, kG3, kB3, kN3⟩ := zap h kN
 obtain ⟨f3, hf3, h⟩ := call3 h
 obtain ⟨I3, hI3⟩ : ∃ I : Nat → St → Prop, I = (fun m st => ∃ (p3 : List GSpan) (c3_4 : Int) (c3_3 : List Int) (y3_0 : VV), m = List.length p3 ∧ 0 ≤ c3_4 ∧ List.drop (Int.toNat c3_4) x0_s.Dry = p3 ∧ st.df = [] ∧ 4 ≤ st.nx ∧ st.H 0 = some (.cells (some 26) (cGCoatSheet x0_s)) ∧ st.tm 1 = .ptr 0 0 ∧ st.tm 3 = y3_0 ∧ st.tm 4 = .lit (.int .i64 c3_4) ∧ ((∃ (β : Nat) (el : Option TypeId), y3_0 = .ref β 0 (List.length c3_3) 1 (List.length c3_3) ∧ β < st.nx ∧ β ≠ 0 ∧ st.H β = some (.cells el (cellsL eI c3_3))) ∨ (y3_0 = .lit (.slice none 0 0) ∧ c3_3 = [])) ∧ K3 (f3 p3 c3_4 c3_3)) := ⟨_, rfl⟩
 refine loopK mixed (by kernel_rfl) I3 (List.length x0_s.Dry) (by rw [hI3]; refine ⟨x0_s.Dry, 0, ([] : List Int), .lit (.slice none 0 0), rfl, Int.le_refl _, rfl, rfl, (show 4 ≤ 4 by omega), ?_, ?_, ?_, ?_, Or.inr ⟨rfl, rfl⟩, h⟩ <;> first | (simp only [ua, nm, seval] <;> rfl) | rfl) ?_
 rintro m ⟨tm, H, nx3, df⟩ hinv
 rw [hI3] at hinv
 obtain ⟨p3, c3_4, c3_3, y3_0, rfl, hi3, hp3, hdf, hn3, H5, e6, e7, e8, ow3_0, h⟩ := hinv
 simp only at hdf hn3 H5 e6 e7 e8 ow3_0
 have n9 := zbr (m := 4) (b := nx3) (by omega)
 subst hdf hf3
 rcases ow3_0 with ⟨b3_0, el3_0, rfl, lq11, lq12, H10⟩ | ⟨rfl, rfl⟩
 ·have q11 := zlw lq11
  have q12 := ne_f lq12
  cases p3 with
  | nil =>
   have d13 : (decide (c3_4 < (List.length x0_s.Dry : Int))) = false := zaf hi3 hp3
   simp only [zci, hs, reduceCtorEq] at h
   replace h := kG3 _ h
   try dsimp only at h
   try simp only [hs] at h
   try simp only [vz, tyf, g4, n9, e6, e7, e8, H5, q11, H10, q12, d13, nm, seval]
   refine zbt (x := (.ref b3_0 0 (List.length c3_3) 1 (List.length c3_3))) (by first | (simp only [Tryz.results87, resV, resL, resV1, zcq, zev, uw, cr, tyf, g4, n9, H5, q11, H10, q12, d13, nm, seval] <;> rfl) | rfl) ?_
   obtain rfl := kF _ h
   refine zcv ?_ ?_
   ·simp only [tre, tytre, Bool.and_self]
   ·first | (simp only [outV, uw, zba, cr, tyf, nrm, tynrm, g4, n9, e6, e7, e8, H5, q11, H10, q12, d13, nm, seval] <;> rfl) | rfl
  | cons e3 p3 =>
   have d14 : (decide (c3_4 < (List.length x0_s.Dry : Int))) = true := zao hi3 hp3
   have o16 := zad hi3 hp3
   have w15 := zat hi3 hp3 g4
   simp only [zci, hs, reduceCtorEq] at h
   cases g17 : (roomOk 8 (List.length (c3_3 ++ [e3.Low])))
   ·simp only [g17, hs] at h
    exact absurd h kN3
   simp only [g17, hs] at h
   simp only [vz, tyf, g4, n9, e6, e7, e8, H5, q11, H10, q12, d14, (ix22 o16), w15, g17, nm, seval]
   refine k_app (w := 1) (enc := eI) (xs := c3_3) (ys := ([e3.Low])) (el := el3_0) (el2 := (some 3)) (fun _ => rfl) lf23 ao23 Tryz.underlying23 (by first | rfl | assumption | (simp only [zab, zaa, et23, n9, H5, q11, H10, q12, nm, seval] <;> rfl) | (simp only [zab, zaa, zah, zaj, zdd, zbk, tyf, g4, n9, e6, e7, e8, H5, q11, H10, q12, d14, (ix22 o16), w15, g17, nm, seval]; done)) (by first | rfl | assumption | (simp only [zab, zaa, et23, n9, H5, q11, H10, q12, nm, seval] <;> rfl) | (simp only [zab, zaa, zah, zaj, zdd, zbk, tyf, g4, n9, e6, e7, e8, H5, q11, H10, q12, d14, (ix22 o16), w15, g17, nm, seval]; done)) (Nat.zero_lt_succ _) g17 ?_
   simp only [vz, tyf, g4, n9, e6, e7, e8, H5, q11, H10, q12, d14, (ix22 o16), w15, g17, nm, seval]
   exact ⟨List.length p3, Nat.lt_succ_self _, by rw [hI3]; refine ⟨p3, c3_4 + 1, (c3_3 ++ [e3.Low]), .ref (nx3 + 13) 0 (List.length (c3_3 ++ [e3.Low])) 1 (List.length (c3_3 ++ [e3.Low])), rfl, Int.le_trans hi3 (Int.le_add_one (Int.le_refl _)), zac hi3 hp3, rfl, (show 4 ≤ nx3 + 18 by omega), ?_, e6, ?_, ?_, Or.inl ⟨nx3 + 13, (sameEl el3_0 3), rfl, (by first | omega | (simp only [nm, seval]; omega)), (by first | omega | (intro hh; simp only [n9, q11, q12, reduceCtorEq] at hh)), ?_⟩, h⟩ <;> first | (simp only [ua, n9, e6, e7, e8, H5, q11, H10, q12, d14, w15, nm, seval] <;> rfl) | rfl⟩
 ·cases p3 with
  | nil =>
   have d18 : (decide (c3_4 < (List.length x0_s.Dry : Int))) = false := zaf hi3 hp3
   simp only [zci, hs, reduceCtorEq] at h
   replace h := kG3 _ h
   try dsimp only at h
   try simp only [hs] at h
   try simp only [vz, tyf, g4, n9, e6, e7, e8, H5, d18, nm, seval]
   refine zbt (x := (.lit (.slice none 0 0))) (by first | (simp only [Tryz.results87, resV, resL, resV1, zcq, zev, uw, cr, tyf, g4, n9, H5, d18, nm, seval] <;> rfl) | rfl) ?_
   obtain rfl := kF _ h
   refine zcv ?_ ?_
   ·simp only [tre, tytre, Bool.and_self]
   ·first | (simp only [outV, uw, zba, cr, tyf, nrm, tynrm, g4, n9, e6, e7, e8, H5, d18, nm, seval] <;> rfl) | rfl
  | cons e3 p3 =>
   have d19 : (decide (c3_4 < (List.length x0_s.Dry : Int))) = true := zao hi3 hp3
   have o21 := zad hi3 hp3
   have w20 := zat hi3 hp3 g4
   simp only [zci, hs, reduceCtorEq] at h
   cases g22 : (roomOk 8 (List.length (([] : List Int) ++ [e3.Low])))
   ·simp only [g22, hs] at h
    exact absurd h kN3
   simp only [g22, hs] at h
   simp only [vz, tyf, g4, n9, e6, e7, e8, H5, d19, (ix22 o21), w20, g22, nm, seval]
   refine zjk (w := 1) (enc := eI) (ys := ([e3.Low])) (el2 := (some 3)) (fun _ => rfl) lf23 ao23 Tryz.underlying23 (by first | rfl | assumption | (simp only [zab, zaa, et23, n9, H5, nm, seval] <;> rfl) | (simp only [zab, zaa, zah, zaj, zdd, zbk, tyf, g4, n9, e6, e7, e8, H5, d19, (ix22 o21), w20, g22, nm, seval]; done)) (Nat.zero_lt_succ _) g22 ?_
   simp only [vz, tyf, g4, n9, e6, e7, e8, H5, d19, (ix22 o21), w20, g22, nm, seval]
   exact ⟨List.length p3, Nat.lt_succ_self _, by rw [hI3]; refine ⟨p3, c3_4 + 1, (([] : List Int) ++ [e3.Low]), .ref (nx3 + 13) 0 (List.length (([] : List Int) ++ [e3.Low])) 1 (List.length (([] : List Int) ++ [e3.Low])), rfl, Int.le_trans hi3 (Int.le_add_one (Int.le_refl _)), zac hi3 hp3, rfl, (show 4 ≤ nx3 + 18 by omega), ?_, e6, ?_, ?_, Or.inl ⟨nx3 + 13, (some 3), rfl, (by first | omega | (simp only [nm, seval]; omega)), (by first | omega | (intro hh; simp only [n9, reduceCtorEq] at hh)), ?_⟩, h⟩ <;> first | (simp only [ua, n9, e6, e7, e8, H5, d19, w20, nm, seval] <;> rfl) | rfl⟩
end Go.V
end
section
namespace Go.V
open Go Go.Proofs
def zbz  : List GSpan → Int → (List Int) → Option (LOut (List Int) ((List Int)))
 | [], c0_4, c0_3 => some (.go c0_3)
 | e0 :: p0, c0_4, c0_3 => cond (roomOk 8 (List.length (c0_3 ++ [e0.High]))) (zbz p0 (c0_4 + 1) (c0_3 ++ [e0.High])) none
def zfd (x0_s : GCoatSheet) : Option (List Int) := cond (lenOk x0_s.Dry) (lbind (zbz x0_s.Dry 0 ([] : List Int)) (fun r2 => some r2) (fun c1 => some c1) (fun _ _ => none)) none
theorem zmu (x0_s : GCoatSheet) (R : List Int) (h : zfd x0_s = some R) : VPure Tryz.prog G0 89 [.agg (cGCoatSheet x0_s)] (.tree (.sl (cellsL eI R) (List.length R) false)) := by
 refine VPure.runR mixed Tryz.call89 Tryz.func89 rfl (by simp [Tryz.ntmps89]; kernel_rfl) ?_
 obtain ⟨KF, h, kF, kN⟩ := zan h
 simp only [zfd] at h
 cases g4 : (lenOk x0_s.Dry)
 ·simp only [g4, hs] at h
  exact absurd h kN
 simp only [g4, hs] at h
 simp only [vz, tyf, g4, nm, seval]
 obtain ⟨K3, h, kR3, kG3, kB3, kN3⟩ := zap h kN
 obtain ⟨f3, hf3, h⟩ := call3 h
 obtain ⟨I3, hI3⟩ : ∃ I : Nat → St → Prop, I = (fun m st => ∃ (p3 : List GSpan) (c3_4 : Int) (c3_3 : List Int) (y3_0 : VV), m = List.length p3 ∧ 0 ≤ c3_4 ∧ List.drop (Int.toNat c3_4) x0_s.Dry = p3 ∧ st.df = [] ∧ 4 ≤ st.nx ∧ st.H 0 = some (.cells (some 26) (cGCoatSheet x0_s)) ∧ st.tm 1 = .ptr 0 0 ∧ st.tm 3 = y3_0 ∧ st.tm 4 = .lit (.int .i64 c3_4) ∧ ((∃ (β : Nat) (el : Option TypeId), y3_0 = .ref β 0 (List.length c3_3) 1 (List.length c3_3) ∧ β < st.nx ∧ β ≠ 0 ∧ st.H β = some (.cells el (cellsL eI c3_3))) ∨ (y3_0 = .lit (.slice none 0 0) ∧ c3_3 = [])) ∧ K3 (f3 p3 c3_4 c3_3)) := ⟨_, rfl⟩
 refine loopK mixed (by kernel_rfl) I3 (List.length x0_s.Dry) (by rw [hI3]; refine ⟨x0_s.Dry, 0, ([] : List Int), .lit (.slice none 0 0), rfl, Int.le_refl _, rfl, rfl, (show 4 ≤ 4 by omega), ?_, ?_, ?_, ?_, Or.inr ⟨rfl, rfl⟩, h⟩ <;> first | (simp only [ua, nm, seval] <;> rfl) | rfl) ?_
 rintro m ⟨tm, H, nx3, df⟩ hinv
 rw [hI3] at hinv
 obtain ⟨p3, c3_4, c3_3, y3_0, rfl, hi3, hp3, hdf, hn3, H5, e6, e7, e8, ow3_0, h⟩ := hinv
 simp only at hdf hn3 H5 e6 e7 e8 ow3_0
 have n9 := zbr (m := 4) (b := nx3) (by omega)
 subst hdf hf3
 rcases ow3_0 with ⟨b3_0, el3_0, rfl, lq11, lq12, H10⟩ | ⟨rfl, rfl⟩
 ·have q11 := zlw lq11
  have q12 := ne_f lq12
  cases p3 with
  | nil =>
   have d13 : (decide (c3_4 < (List.length x0_s.Dry : Int))) = false := zaf hi3 hp3
   simp only [zbz, hs, reduceCtorEq] at h
   replace h := kG3 _ h
   try dsimp only at h
   try simp only [hs] at h
   try simp only [vz, tyf, g4, n9, e6, e7, e8, H5, q11, H10, q12, d13, nm, seval]
   refine zbt (x := (.ref b3_0 0 (List.length c3_3) 1 (List.length c3_3))) (by first | (simp only [Tryz.results89, resV, resL, resV1, zcq, zev, uw, cr, tyf, g4, n9, H5, q11, H10, q12, d13, nm, seval] <;> rfl) | rfl) ?_
   obtain rfl := kF _ h
   refine zcv ?_ ?_
   ·simp only [tre, tytre, Bool.and_self]
   ·first | (simp only [outV, uw, zba, cr, tyf, nrm, tynrm, g4, n9, e6, e7, e8, H5, q11, H10, q12, d13, nm, seval] <;> rfl) | rfl
  | cons e3 p3 =>
   have d14 : (decide (c3_4 < (List.length x0_s.Dry : Int))) = true := zao hi3 hp3
   have o16 := zad hi3 hp3
   have w15 := zat hi3 hp3 g4
   simp only [zbz, hs, reduceCtorEq] at h
   cases g17 : (roomOk 8 (List.length (c3_3 ++ [e3.High])))
   ·simp only [g17, hs] at h
    exact absurd h kN3
   simp only [g17, hs] at h
   simp only [vz, tyf, g4, n9, e6, e7, e8, H5, q11, H10, q12, d14, (ix22 o16), w15, g17, nm, seval]
   refine k_app (w := 1) (enc := eI) (xs := c3_3) (ys := ([e3.High])) (el := el3_0) (el2 := (some 3)) (fun _ => rfl) lf23 ao23 Tryz.underlying23 (by first | rfl | assumption | (simp only [zab, zaa, et23, n9, H5, q11, H10, q12, nm, seval] <;> rfl) | (simp only [zab, zaa, zah, zaj, zdd, zbk, tyf, g4, n9, e6, e7, e8, H5, q11, H10, q12, d14, (ix22 o16), w15, g17, nm, seval]; done)) (by first | rfl | assumption | (simp only [zab, zaa, et23, n9, H5, q11, H10, q12, nm, seval] <;> rfl) | (simp only [zab, zaa, zah, zaj, zdd, zbk, tyf, g4, n9, e6, e7, e8, H5, q11, H10, q12, d14, (ix22 o16), w15, g17, nm, seval]; done)) (Nat.zero_lt_succ _) g17 ?_
   simp only [vz, tyf, g4, n9, e6, e7, e8, H5, q11, H10, q12, d14, (ix22 o16), w15, g17, nm, seval]
   exact ⟨List.length p3, Nat.lt_succ_self _, by rw [hI3]; refine ⟨p3, c3_4 + 1, (c3_3 ++ [e3.High]), .ref (nx3 + 13) 0 (List.length (c3_3 ++ [e3.High])) 1 (List.length (c3_3 ++ [e3.High])), rfl, Int.le_trans hi3 (Int.le_add_one (Int.le_refl _)), zac hi3 hp3, rfl, (show 4 ≤ nx3 + 18 by omega), ?_, e6, ?_, ?_, Or.inl ⟨nx3 + 13, (sameEl el3_0 3), rfl, (by first | omega | (simp only [nm, seval]; omega)), (by first | omega | (intro hh; simp only [n9, q11, q12, reduceCtorEq] at hh)), ?_⟩, h⟩ <;> first | (simp only [ua, n9, e6, e7, e8, H5, q11, H10, q12, d14, w15, nm, seval] <;> rfl) | rfl⟩
 ·cases p3 with
  | nil =>
   have d18 : (decide (c3_4 < (List.length x0_s.Dry : Int))) = false := zaf hi3 hp3
   simp only [zbz, hs, reduceCtorEq] at h
   replace h := kG3 _ h
   try dsimp only at h
   try simp only [hs] at h
   try simp only [vz, tyf, g4, n9, e6, e7, e8, H5, d18, nm, seval]
   refine zbt (x := (.lit (.slice none 0 0))) (by first | (simp only [Tryz.results89, resV, resL, resV1, zcq, zev, uw, cr, tyf, g4, n9, H5, d18, nm, seval] <;> rfl) | rfl) ?_
   obtain rfl := kF _ h
   refine zcv ?_ ?_
   ·simp only [tre, tytre, Bool.and_self]
   ·first | (simp only [outV, uw, zba, cr, tyf, nrm, tynrm, g4, n9, e6, e7, e8, H5, d18, nm, seval] <;> rfl) | rfl
  | cons e3 p3 =>
   have d19 : (decide (c3_4 < (List.length x0_s.Dry : Int))) = true := zao hi3 hp3
   have o21 := zad hi3 hp3
   have w20 := zat hi3 hp3 g4
   simp only [zbz, hs, reduceCtorEq] at h
   cases g22 : (roomOk 8 (List.length (([] : List Int) ++ [e3.High])))
   ·simp only [g22, hs] at h
    exact absurd h kN3
   simp only [g22, hs] at h
   simp only [vz, tyf, g4, n9, e6, e7, e8, H5, d19, (ix22 o21), w20, g22, nm, seval]
   refine zjk (w := 1) (enc := eI) (ys := ([e3.High])) (el2 := (some 3)) (fun _ => rfl) lf23 ao23 Tryz.underlying23 (by first | rfl | assumption | (simp only [zab, zaa, et23, n9, H5, nm, seval] <;> rfl) | (simp only [zab, zaa, zah, zaj, zdd, zbk, tyf, g4, n9, e6, e7, e8, H5, d19, (ix22 o21), w20, g22, nm, seval]; done)) (Nat.zero_lt_succ _) g22 ?_
   simp only [vz, tyf, g4, n9, e6, e7, e8, H5, d19, (ix22 o21), w20, g22, nm, seval]
   exact ⟨List.length p3, Nat.lt_succ_self _, by rw [hI3]; refine ⟨p3, c3_4 + 1, (([] : List Int) ++ [e3.High]), .ref (nx3 + 13) 0 (List.length (([] : List Int) ++ [e3.High])) 1 (List.length (([] : List Int) ++ [e3.High])), rfl, Int.le_trans hi3 (Int.le_add_one (Int.le_refl _)), zac hi3 hp3, rfl, (show 4 ≤ nx3 + 18 by omega), ?_, e6, ?_, ?_, Or.inl ⟨nx3 + 13, (some 3), rfl, (by first | omega | (simp only [nm, seval]; omega)), (by first | omega | (intro hh; simp only [n9, reduceCtorEq] at hh)), ?_⟩, h⟩ <;> first | (simp only [ua, n9, e6, e7, e8, H5, d19, w20, nm, seval] <;> rfl) | rfl⟩
end Go.V
end
section
namespace Go.V
open Go Go.Proofs
def zdj (x0_s : GCoatSheet) (x1_plan : List Int) : List Int → Int → Option (LOut (Int × Int × Bool) (Unit))
 | [], c0_7 => some (.go ())
 | e0 :: p0, c0_7 => Option.bind (zfr x0_s) (fun r1 => Option.bind (zfi x0_s x1_plan c0_7 r1) (fun r2 => cond (r2) (some (.ret (c0_7, 1, true))) (Option.bind (zfd x0_s) (fun r3 => Option.bind (zff x0_s x1_plan c0_7 r3) (fun r4 => cond (r4) (some (.ret (c0_7, 2, true))) (zdj x0_s x1_plan p0 (c0_7 + 1)))))))
def zfc (x0_s : GCoatSheet) (x1_plan : List Int) : Option (Int × Int × Bool) := cond (lenOk x1_plan) (lbind (zdj x0_s x1_plan x1_plan 0) (fun r6 => some r6) (fun c5 => some (0, 0, false)) (fun _ _ => none)) none
theorem zmt (x0_s : GCoatSheet) (x1_plan : List Int) (R : Int × Int × Bool) (h : zfc x0_s x1_plan = some R) : VPure Tryz.prog G0 49 [.agg (cGCoatSheet x0_s), .sl (cellsL eI x1_plan) (List.length x1_plan) false] (.tree (.tup [.lit (.int .i64 R.1), .lit (.int .i64 R.2.1), .lit (.bool R.2.2)])) := by
 refine VPure.runR mixed Tryz.call49 Tryz.func49 rfl (by simp [Tryz.ntmps49]; kernel_rfl) ?_
 obtain ⟨KF, h, kF, kN⟩ := zan h
 simp only [zfc] at h
 cases g8 : (lenOk x1_plan)
 ·simp only [g8, hs] at h
  exact absurd h kN
 simp only [g8, hs] at h
 simp only [vz, tyf, g8, nm, seval]
 obtain ⟨K7, h, kR7, kG7, kB7, kN7⟩ := zap h kN
 obtain ⟨f7, hf7, h⟩ := call2 h
 obtain ⟨I7, hI7⟩ : ∃ I : Nat → St → Prop, I = (fun m st => ∃ (p7 : List Int) (c7_7 : Int), m = List.length p7 ∧ 0 ≤ c7_7 ∧ List.drop (Int.toNat c7_7) x1_plan = p7 ∧ st.df = [] ∧ 5 ≤ st.nx ∧ st.H 0 = some (.cells (some 26) (cGCoatSheet x0_s)) ∧ st.tm 1 = .sl (cellsL eI x1_plan) (List.length x1_plan) false ∧ st.tm 2 = .ptr 0 0 ∧ st.tm 7 = .lit (.int .i64 c7_7) ∧ K7 (f7 p7 c7_7)) := ⟨_, rfl⟩
 refine loopK mixed (by kernel_rfl) I7 (List.length x1_plan) (by rw [hI7]; refine ⟨x1_plan, 0, rfl, Int.le_refl _, rfl, rfl, (show 5 ≤ 5 by omega), ?_, ?_, ?_, ?_, h⟩ <;> first | (simp only [ua, nm, seval] <;> rfl) | rfl) ?_
 rintro m ⟨tm, H, nx7, df⟩ hinv
 rw [hI7] at hinv
 obtain ⟨p7, c7_7, rfl, hi7, hp7, hdf, hn7, H9, e10, e11, e12, h⟩ := hinv
 simp only at hdf hn7 H9 e10 e11 e12
 have n13 := zbr (m := 5) (b := nx7) (by omega)
 subst hdf hf7
 cases p7 with
 | nil =>
  have d14 : (decide (c7_7 < (List.length x1_plan : Int))) = false := zaf hi7 hp7
  simp only [zdj, hs, reduceCtorEq] at h
  replace h := kG7 _ h
  try dsimp only at h
  try simp only [hs] at h
  try simp only [vz, tyf, g8, n13, e10, e11, e12, H9, d14, nm, seval]
  refine zbt (x := (.tup [.lit (.int .i64 0), .lit (.int .i64 0), .lit (.bool false)])) (by first | (simp only [Tryz.results49, resV, resL, resV1, zcq, zev, uw, cr, tyf, g8, n13, H9, d14, nm, seval] <;> rfl) | rfl) ?_
  obtain rfl := kF _ h
  refine zcv ?_ ?_
  ·simp only [tre, tytre, Bool.and_self]
  ·first | (simp only [outV, uw, zba, cr, tyf, nrm, tynrm, g8, n13, e10, e11, e12, H9, d14, nm, seval] <;> rfl) | rfl
 | cons e7 p7 =>
  have d15 : (decide (c7_7 < (List.length x1_plan : Int))) = true := zao hi7 hp7
  have o17 := zad hi7 hp7
  have w16 := zat hi7 hp7 g8
  simp only [zdj, hs, reduceCtorEq] at h
  simp only [vz, tyf, g8, n13, e10, e11, e12, H9, d15, (ix23 o17), w16, nm, seval]
  refine zbl (fun tm => tm 1 = .sl (cellsL eI x1_plan) (List.length x1_plan) false ∧ tm 2 = .ptr 0 0 ∧ tm 7 = .lit (.int .i64 c7_7) ∧ True) (by refine ⟨e10, e11, e12, trivial⟩ <;> first | (simp only [ua, n13, e10, e11, e12, H9, d15, w16, nm, seval] <;> rfl) | rfl) ?_
  rintro tm ⟨e18, e19, e20, _⟩
  rcases o22 : (zfr x0_s) with _ | r21
  ·simp only [o22, hs] at h
   exact absurd h kN7
  simp only [o22, hs] at h
  simp only [vz, tyf, g8, n13, H9, d15, (ix23 o17), w16, e18, e19, e20, nm, seval]
  refine dktree (args0 := [.agg (cGCoatSheet x0_s)]) (by first | (simp only [nrm, tynrm] <;> rfl) | rfl) (by simp only [tre, tytre, Bool.and_self]) (zoq _ _ o22) ?_
  refine zam (fun tm => tm 1 = .sl (cellsL eI x1_plan) (List.length x1_plan) false ∧ tm 2 = .ptr 0 0 ∧ tm 7 = .lit (.int .i64 c7_7) ∧ tm 14 = .agg (cGCoatSheet x0_s) ∧ tm 15 = .sl (cellsL eI x1_plan) (List.length x1_plan) false ∧ tm 16 = .lit (.int .i64 c7_7) ∧ tm 18 = .sl (cellsL eI r21) (List.length r21) false ∧ True) (by refine ⟨e18, e19, e20, ?_, ?_, ?_, ?_, trivial⟩ <;> first | (simp only [ua, n13, H9, d15, w16, e18, e19, e20, nm, seval] <;> rfl) | rfl) ?_
  rintro tm ⟨e23, e24, e25, e26, e27, e28, e29, _⟩
  rcases o31 : (zfi x0_s x1_plan c7_7 r21) with _ | r30
  ·simp only [o31, hs] at h
   exact absurd h kN7
  simp only [o31, hs] at h
  simp only [vz, tyf, g8, n13, H9, d15, (ix23 o17), w16, e23, e24, e25, e26, e27, e28, e29, nm, seval]
  refine dktree (args0 := [.agg (cGCoatSheet x0_s), .sl (cellsL eI x1_plan) (List.length x1_plan) false, .lit (.int .i64 c7_7), .sl (cellsL eI r21) (List.length r21) false]) (by first | (simp only [nrm, tynrm] <;> rfl) | rfl) (by simp only [tre, tytre, Bool.and_self]) (zmv _ _ _ _ _ o31) ?_
  refine zam (fun tm => tm 1 = .sl (cellsL eI x1_plan) (List.length x1_plan) false ∧ tm 2 = .ptr 0 0 ∧ tm 7 = .lit (.int .i64 c7_7) ∧ tm 19 = .lit (.bool r30) ∧ True) (by refine ⟨e23, e24, e25, ?_, trivial⟩ <;> first | (simp only [ua, n13, H9, d15, w16, e23, e24, e25, e26, e27, e28, e29, nm, seval] <;> rfl) | rfl) ?_
  rintro tm ⟨e32, e33, e34, e35, _⟩
  cases d36 : (r30)
  ·simp only [d36, hs] at h
   simp only [vz, tyf, g8, n13, H9, d15, (ix23 o17), w16, e32, e33, e34, e35, d36, nm, seval]
   refine zbl (fun tm => tm 1 = .sl (cellsL eI x1_plan) (List.length x1_plan) false ∧ tm 2 = .ptr 0 0 ∧ tm 7 = .lit (.int .i64 c7_7) ∧ True) (by refine ⟨e32, e33, e34, trivial⟩ <;> first | (simp only [ua, n13, H9, d15, w16, e32, e33, e34, e35, d36, nm, seval] <;> rfl) | rfl) ?_
   rintro tm ⟨e37, e38, e39, _⟩
   rcases o41 : (zfd x0_s) with _ | r40
   ·simp only [o41, hs] at h
    exact absurd h kN7
   simp only [o41, hs] at h
   simp only [vz, tyf, g8, n13, H9, d15, (ix23 o17), w16, d36, e37, e38, e39, nm, seval]
   refine dktree (args0 := [.agg (cGCoatSheet x0_s)]) (by first | (simp only [nrm, tynrm] <;> rfl) | rfl) (by simp only [tre, tytre, Bool.and_self]) (zmu _ _ o41) ?_
   refine zam (fun tm => tm 1 = .sl (cellsL eI x1_plan) (List.length x1_plan) false ∧ tm 2 = .ptr 0 0 ∧ tm 7 = .lit (.int .i64 c7_7) ∧ tm 21 = .agg (cGCoatSheet x0_s) ∧ tm 22 = .sl (cellsL eI x1_plan) (List.length x1_plan) false ∧ tm 23 = .lit (.int .i64 c7_7) ∧ tm 25 = .sl (cellsL eI r40) (List.length r40) false ∧ True) (by refine ⟨e37, e38, e39, ?_, ?_, ?_, ?_, trivial⟩ <;> first | (simp only [ua, n13, H9, d15, w16, d36, e37, e38, e39, nm, seval] <;> rfl) | rfl) ?_
   rintro tm ⟨e42, e43, e44, e45, e46, e47, e48, _⟩
   rcases o50 : (zff x0_s x1_plan c7_7 r40) with _ | r49
   ·simp only [o50, hs] at h
    exact absurd h kN7
   simp only [o50, hs] at h
   simp only [vz, tyf, g8, n13, H9, d15, (ix23 o17), w16, d36, e42, e43, e44, e45, e46, e47, e48, nm, seval]
   refine dktree (args0 := [.agg (cGCoatSheet x0_s), .sl (cellsL eI x1_plan) (List.length x1_plan) false, .lit (.int .i64 c7_7), .sl (cellsL eI r40) (List.length r40) false]) (by first | (simp only [nrm, tynrm] <;> rfl) | rfl) (by simp only [tre, tytre, Bool.and_self]) (znl _ _ _ _ _ o50) ?_
   refine zam (fun tm => tm 1 = .sl (cellsL eI x1_plan) (List.length x1_plan) false ∧ tm 2 = .ptr 0 0 ∧ tm 7 = .lit (.int .i64 c7_7) ∧ tm 26 = .lit (.bool r49) ∧ True) (by refine ⟨e42, e43, e44, ?_, trivial⟩ <;> first | (simp only [ua, n13, H9, d15, w16, d36, e42, e43, e44, e45, e46, e47, e48, nm, seval] <;> rfl) | rfl) ?_
   rintro tm ⟨e51, e52, e53, e54, _⟩
   cases d55 : (r49)
   ·simp only [d55, hs] at h
    have b56 := And.intro g8 (And.intro n13 (And.intro H9 (And.intro d15 (And.intro w16 (And.intro d36 d55)))))
    simp only [vz, tyf, b56, (ix23 o17), e51, e52, e53, e54, nm, seval]
    exact ⟨List.length p7, Nat.lt_succ_self _, by rw [hI7]; refine ⟨p7, c7_7 + 1, rfl, Int.le_trans hi7 (Int.le_add_one (Int.le_refl _)), zac hi7 hp7, rfl, (show 5 ≤ nx7 + 19 by omega), ?_, e51, e52, ?_, h⟩ <;> first | (simp only [ua, b56, e51, e52, e53, e54, nm, seval] <;> rfl) | rfl⟩
   simp only [d55, hs] at h
   have b57 := And.intro g8 (And.intro n13 (And.intro H9 (And.intro d15 (And.intro w16 (And.intro d36 d55)))))
   try simp only [vz, tyf, b57, (ix23 o17), e51, e52, e53, e54, nm, seval]
   refine zbt (x := (.tup [.lit (.int .i64 c7_7), .lit (.int .i64 2), .lit (.bool true)])) (by first | (simp only [Tryz.results49, resV, resL, resV1, zcq, zev, uw, cr, tyf, b57, (ix23 o17), nm, seval] <;> rfl) | rfl) ?_
   replace h := kR7 _ h
   try dsimp only at h
   obtain rfl := kF _ h
   refine zcv ?_ ?_
   ·simp only [tre, tytre, Bool.and_self]
   ·first | (simp only [outV, uw, zba, cr, tyf, nrm, tynrm, b57, (ix23 o17), e51, e52, e53, e54, nm, seval] <;> rfl) | rfl
  simp only [d36, hs] at h
  try simp only [vz, tyf, g8, n13, H9, d15, (ix23 o17), w16, e32, e33, e34, e35, d36, nm, seval]
  refine zbt (x := (.tup [.lit (.int .i64 c7_7), .lit (.int .i64 1), .lit (.bool true)])) (by first | (simp only [Tryz.results49, resV, resL, resV1, zcq, zev, uw, cr, tyf, g8, n13, H9, d15, (ix23 o17), w16, d36, nm, seval] <;> rfl) | rfl) ?_
  replace h := kR7 _ h
  try dsimp only at h
  obtain rfl := kF _ h
  refine zcv ?_ ?_
  ·simp only [tre, tytre, Bool.and_self]
  ·first | (simp only [outV, uw, zba, cr, tyf, nrm, tynrm, g8, n13, H9, d15, (ix23 o17), w16, e32, e33, e34, e35, d36, nm, seval] <;> rfl) | rfl
end Go.V
end
section
namespace Go.V
open Go Go.Proofs
def zdr (x0_s : GCoatSheet) (x1_plan : List Int) : Option (Bool) := Option.bind (zfc x0_s x1_plan) (fun r1 => some (!r1.2.2))
theorem zhy (x0_s : GCoatSheet) (x1_plan : List Int) (R : Bool) (h : zdr x0_s x1_plan = some R) : VPure Tryz.prog G0 64 [.agg (cGCoatSheet x0_s), .sl (cellsL eI x1_plan) (List.length x1_plan) false] (.tree (.lit (.bool R))) := by
 refine VPure.runR mixed Tryz.call64 Tryz.func64 rfl (by simp [Tryz.ntmps64]; kernel_rfl) ?_
 obtain ⟨KF, h, kF, kN⟩ := zan h
 simp only [zdr] at h
 rcases o3 : (zfc x0_s x1_plan) with _ | r2
 ·simp only [o3, hs] at h
  exact absurd h kN
 simp only [o3, hs] at h
 simp only [vz, tyf, nm, seval]
 refine ktree (args0 := [.agg (cGCoatSheet x0_s), .sl (cellsL eI x1_plan) (List.length x1_plan) false]) (by first | (simp only [nrm, tynrm] <;> rfl) | rfl) (by simp only [tre, tytre, Bool.and_self]) (zmt _ _ _ o3) ?_
 refine zam (fun tm => tm 11 = .tup [.lit (.int .i64 r2.1), .lit (.int .i64 r2.2.1), .lit (.bool r2.2.2)] ∧ True) (by refine ⟨?_, trivial⟩ <;> first | (simp only [ua, nm, seval] <;> rfl) | rfl) ?_
 rintro tm ⟨e4, _⟩
 try simp only [vz, tyf, e4, nm, seval]
 obtain rfl := kF _ h
 exact zae Tryz.results64 rfl
end Go.V
end
section
namespace Go.V
open Go
def SI (w : List Int) (k : Int) : Int := (w.take k.toNat).sum
structure WOk (w : List Int) : Prop where
 v : ∀ x ∈ w, 0 ≤ x ∧ x ≤ 24
 l : w.length ≤ 12
theorem zakt : ∀ (w : List Int), (∀ x ∈ w, 0 ≤ x ∧ x ≤ 24) → 0 ≤ w.sum ∧ w.sum ≤ 24 * w.length
 | [], _ => by simp
 | x :: w, h => by
  have h1 := h x (by simp)
  have h2 := zakt w (fun y hy => h y (by simp [hy]))
  simp only [List.sum_cons, List.length_cons]
  omega
theorem SI_bd {w : List Int} (h : WOk w) (k : Int) : 0 ≤ SI w k ∧ SI w k ≤ 288 := by
 have h1 := zakt (w.take k.toNat) (fun x hx => h.v x (List.mem_of_mem_take hx))
 have h2 : (w.take k.toNat).length ≤ 12 := by rw [List.length_take]; have := h.l; omega
 unfold SI
 omega
theorem zaoc {w p : List Int} {c v : Int} (h0 : 0 ≤ c) (h : w.drop c.toNat = v :: p) : SI w (c + 1) = SI w c + v := by
 unfold SI
 have e : (c + 1).toNat = c.toNat + 1 := by omega
 have h1 : w = w.take c.toNat ++ v :: p := by rw [← h, List.take_append_drop]
 have h2 : c.toNat < w.length := by
  rcases Nat.lt_or_ge c.toNat w.length with h' | h'
  ·exact h'
  ·rw [List.drop_eq_nil_of_le h'] at h; cases h
 have h3 : (w.take c.toNat).length = c.toNat := by rw [List.length_take]; omega
 have h4 : w.take (c.toNat + 1) = w.take c.toNat ++ [v] := by
  conv => lhs; rw [h1]
  rw [List.take_append, h3]
  simp [List.take_take]
 rw [e, h4, List.sum_append]
 simp
theorem zasg {w : List Int} {n : Int} (h : (w.length : Int) ≤ n) : SI w n = w.sum := by
 unfold SI
 rw [List.take_of_length_le (by omega)]
theorem zaow {w : List Int} {a : Int} : (w.drop a.toNat).sum = w.sum - SI w a := by
 have h := List.sum_append (l₁ := w.take a.toNat) (l₂ := w.drop a.toNat)
 rw [List.take_append_drop] at h
 unfold SI
 omega
theorem zaeh : ∀ (p : List Int) (c acc : Int), (∀ v ∈ p, 0 ≤ v ∧ v ≤ 24) → 0 ≤ acc → acc + 24 * p.length < 9223372036854775808 → zfs p c acc = some (.go (acc + p.sum))
 | [], _, _, _, _, _ => by simp [zfs]
 | e :: p, c, acc, h, h0, h1 => by
  have h2 := h e (by simp)
  simp only [List.length_cons] at h1
  simp only [zfs]
  rw [wrap_eq (by omega) (by omega), zaeh p (c + 1) (acc + e) (fun v hv => h v (by simp [hv])) (by omega) (by omega), List.sum_cons]
  congr 2
  omega
theorem zaaz {p : List Int} (h : ∀ v ∈ p, 0 ≤ v ∧ v ≤ 24) (hl : p.length ≤ 12) : zfp p = some p.sum := by
 unfold zfp
 rw [zet (by omega), zaeh p 0 0 h (Int.le_refl _) (by omega)]
 simp [lbind]
def lowsL (d : List GSpan) : List Int := d.map (·.Low)
def highsL (d : List GSpan) : List Int := d.map (·.High)
theorem zhe {n : Nat} (h : n ≤ 1000) : roomOk 8 n = true := by simp [roomOk]; omega
theorem zxc : ∀ (p : List GSpan) (c : Int) (a b : List Int), a.length + p.length ≤ 500 → b.length + p.length ≤ 500 → zaw p c a b = some (.go (a ++ lowsL p, b ++ highsL p))
 | [], _, a, b, _, _ => by simp [zaw, lowsL, highsL]
 | e :: p, c, a, b, h1, h2 => by
  simp only [List.length_cons] at h1 h2
  simp only [zaw]
  rw [zhe (by simp; omega), zhe (by simp; omega), cond_true, cond_true, zxc p (c + 1) _ _ (by simp; omega) (by simp; omega)]
  simp [lowsL, highsL]
def preL (w : List Int) (c k : Nat) : List Int := (List.range' c k).map fun j => (w.take j).sum
theorem zpx {w : List Int} {c k : Nat} : (preL w c k).length = k := by simp [preL]
theorem zaeu {w : List Int} {n : Nat} {k : Int} (h0 : 0 ≤ k) (h1 : k ≤ n) : getI (preL w 0 (n + 1)) k = some (SI w k) := by
 unfold getI preL SI
 rw [if_pos h0]
 simp only [List.getElem?_map]
 rw [List.getElem?_range' (by omega)]
 simp
theorem zxe {c1 : List Int × List Int} {n : Nat} (hn : 0 < n) (h12 : n ≤ 12) (l1 : c1.1.length = n) (l2 : c1.2.length = n) (v1 : ∀ v ∈ c1.1, 0 ≤ v ∧ v ≤ 24) (v2 : ∀ v ∈ c1.2, 0 ≤ v ∧ v ≤ 24) : ∀ (k c : Nat) (a b : List Int), c + k = n + 1 → a.length = c → b.length = c →
  zav c1 k (c : Int) a b = some (.go (a ++ preL c1.1 c k, b ++ preL c1.2 c k))
 | 0, c, a, b, _, _, _ => by simp [zav, preL]
 | k + 1, c, a, b, h, ha, hb => by
  simp only [zav]
  have p1 : pfxOk c1.1.length (c : Int) = true := zki.2 ⟨by omega, by omega, by omega⟩
  have p2 : pfxOk c1.2.length (c : Int) = true := zki.2 ⟨by omega, by omega, by omega⟩
  have q1 : le1000 (c1.1.length * 1) = true := by simp [le1000]; omega
  have q2 : le1000 (c1.2.length * 1) = true := by simp [le1000]; omega
  rw [p1, p2, q1, q2, zaaz (p := c1.1.take (Int.toNat c)) (fun v hv => v1 v (List.mem_of_mem_take hv)) (by rw [List.length_take]; omega), zaaz (p := c1.2.take (Int.toNat c)) (fun v hv => v2 v (List.mem_of_mem_take hv)) (by rw [List.length_take]; omega)]
  simp only [cond_true, Option.bind_some]
  rw [zhe (by simp; omega), zhe (by simp; omega), cond_true, cond_true]
  have := zxe hn h12 l1 l2 v1 v2 k (c + 1) (a ++ [(c1.1.take (Int.toNat c)).sum]) (b ++ [(c1.2.take (Int.toNat c)).sum]) (by omega) (by simp [ha]) (by simp [hb])
  rw [show ((c + 1 : Nat) : Int) = (c : Int) + 1 by omega] at this
  rw [this]
  simp [preL, List.range'_succ]
structure DOk (d : List GSpan) : Prop where
 s : ∀ x ∈ d, spanB x = true
 l : 1 ≤ d.length ∧ d.length ≤ 12
theorem zug {x : GSpan} : spanB x = true ↔ 0 ≤ x.Low ∧ x.Low ≤ x.High ∧ x.High ≤ 24 := by
 unfold spanB
 simp only [Bool.and_eq_true, zkg, decide_eq_true_eq]
 omega
theorem DOk.low {d : List GSpan} (h : DOk d) : WOk (lowsL d) := ⟨fun x hx => by
 obtain ⟨y, hy, rfl⟩ := List.mem_map.1 hx
 have := zug.1 (h.s y hy)
 omega, by simp [lowsL]; exact h.l.2⟩
theorem DOk.high {d : List GSpan} (h : DOk d) : WOk (highsL d) := ⟨fun x hx => by
 obtain ⟨y, hy, rfl⟩ := List.mem_map.1 hx
 have := zug.1 (h.s y hy)
 omega, by simp [highsL]; exact h.l.2⟩
theorem zahx {α : Type} {xs : List α} (h : 1 ≤ xs.length) : neB xs = true := by cases xs with | nil => simp at h | cons a p => rfl
theorem zafg {s : GCoatSheet} (h : DOk s.Dry) : zdq s = some ⟨s, preL (lowsL s.Dry) 0 (s.Dry.length + 1), preL (highsL s.Dry) 0 (s.Dry.length + 1)⟩ := by
 have hl := h.l
 unfold zdq
 rw [zet (by omega), zxc _ _ _ _ (by simp; omega) (by simp; omega)]
 simp only [cond_true, lbind, List.nil_append]
 rw [zahx (by simp [lowsL]; omega), zahx (by simp [highsL]; omega), wrap_eq (by omega) (by omega), show boundOk ((s.Dry.length : Int) + 1) = true by simp [boundOk]; omega]
 have := zxe (c1 := (lowsL s.Dry, highsL s.Dry)) (n := s.Dry.length) (by omega) hl.2 (by simp [lowsL]) (by simp [highsL]) h.low.v h.high.v (s.Dry.length + 1) 0 [] [] (by omega) rfl rfl
 rw [show Int.toNat ((s.Dry.length : Int) + 1 - 0) = s.Dry.length + 1 by omega]
 rw [show ((0 : Nat) : Int) = 0 from rfl] at this
 rw [this]
 simp only [cond_true, List.nil_append]
 rw [zahx (by rw [zpx]; omega), zahx (by rw [zpx]; omega)]
 rfl
def failW (lo hi : Int → Int) (n : Int) : List Int → List GCoatCoat → Int → Option (Int × Int)
 | a :: p, c :: cs, i => cond (decide (lo (p.headD n) - lo a < c.Need)) (some (i, 1)) (cond (!p.isEmpty && decide (hi (p.headD n) - hi a > c.Peel)) (some (i, 2)) (failW lo hi n p cs (i + 1)))
 | _, _, _ => none
theorem zng {α : Type} {l p : List α} {c : Nat} {a : α} (h : l.drop c = a :: p) : l.length = c + 1 + p.length := by
 have := congrArg List.length h
 rw [List.length_drop, List.length_cons] at this
 omega
section
variable {x : Gcoatsums} {lo hi : Int → Int} (hlo : ∀ k : Int, 0 ≤ k → k ≤ x.CoatSheet.Dry.length → getI x.lows k = some (lo k)) (hhi : ∀ k : Int, 0 ≤ k → k ≤ x.CoatSheet.Dry.length → getI x.highs k = some (hi k))
 (blo : ∀ k : Int, 0 ≤ lo k ∧ lo k ≤ 288) (bhi : ∀ k : Int, 0 ≤ hi k ∧ hi k ≤ 288) (hc : lenOk x.CoatSheet.Coats = true)
include hlo blo in
theorem zalt {a b : Int} (ha : 0 ≤ a ∧ a ≤ x.CoatSheet.Dry.length) (hb : 0 ≤ b ∧ b ≤ x.CoatSheet.Dry.length) : zcz x a b = some (lo b - lo a) := by
 have h1 := blo a
 have h2 := blo b
 unfold zcz
 rw [hlo b hb.1 hb.2, hlo a ha.1 ha.2]
 simp only [Option.bind_some]
 rw [wrap_eq (by omega) (by omega)]
include hhi bhi in
theorem zyx {a b : Int} (ha : 0 ≤ a ∧ a ≤ x.CoatSheet.Dry.length) (hb : 0 ≤ b ∧ b ≤ x.CoatSheet.Dry.length) : zch x a b = some (hi b - hi a) := by
 have h1 := bhi a
 have h2 := bhi b
 unfold zch
 rw [hhi b hb.1 hb.2, hhi a ha.1 ha.2]
 simp only [Option.bind_some]
 rw [wrap_eq (by omega) (by omega)]
include hc in
theorem zxo {c : Int} {k : GCoatCoat} {cs : List GCoatCoat} {p : List Int} (h0 : 0 ≤ c) (h : x.CoatSheet.Coats.drop c.toNat = k :: cs) (hl : p.length = cs.length) : zbn x c = some p.isEmpty := by
 have h1 := zjp hc
 have h2 := zng h
 unfold zbn
 rw [wrap_eq (by omega) (by omega)]
 congr 1
 cases p with
 | nil =>
  simp only [List.length_nil] at hl
  rw [List.isEmpty_nil, beq_iff_eq]; omega
 | cons a p =>
  simp only [List.length_cons] at hl
  rw [List.isEmpty_cons]
  exact beq_false_of_ne (by omega)
include hlo hhi blo bhi hc in
include hlo hhi blo bhi hc in
end
end Go.V
end
section
namespace Go.V
open Go Go.Proofs
end Go.V
end
section
namespace Go.V
open Go Go.Proofs
end Go.V
end
section
namespace Go.V
open Go Go.Proofs
end Go.V
end
section
namespace Go.V
open Go Go.Proofs
end Go.V
end
section
namespace Go.V
open Go Go.Proofs
end Go.V
end
section
namespace Go.V
open Go Go.Proofs
end Go.V
end
