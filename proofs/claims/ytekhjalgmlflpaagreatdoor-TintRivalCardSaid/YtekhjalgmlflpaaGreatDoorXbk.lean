/- Part of a proof. -/
import Derived.Test.YtekhjalgmlflpaaGreatDoorXbj
set_option linter.all false
set_option maxRecDepth 4000
set_option maxHeartbeats 40000000
section
namespace Go.V
open Go Go.Proofs
def zcb  : List Int → Int → (List Int) → Option (LOut (List Int) ((List Int)))
 | [], c0_9, c0_3 => some (.go c0_3)
 | e0 :: p0, c0_9, c0_3 => cond (decide (e0 > 0)) (cond (roomOk 8 (List.length (c0_3 ++ [c0_9]))) (zcb p0 (c0_9 + 1) (c0_3 ++ [c0_9])) none) (zcb p0 (c0_9 + 1) c0_3)
def zdi (x0_x : Gm) : Option (List Int) := cond (lenOk x0_x.mix) (lbind (zcb x0_x.mix 0 ([] : List Int)) (fun r2 => some r2) (fun c1 => some c1) (fun _ _ => none)) none
theorem zdg (x0_x : Gm) (R : List Int) (h : zdi x0_x = some R) : VPure Tryz.prog G0 84 [.agg (cGm x0_x)] (.tree (.sl (cellsL eI R) (List.length R) false)) := by
 refine VPure.runR mixed Tryz.call84 Tryz.func84 rfl (by simp [Tryz.ntmps84]; kernel_rfl) ?_
 obtain ⟨KF, h, kF, kN⟩ := zan h
 simp only [zdi] at h
 cases g4 : (lenOk x0_x.mix)
 ·simp only [g4, hs] at h
  exact absurd h kN
 simp only [g4, hs] at h
 simp only [vz, tyf, g4, nm, seval]
 obtain ⟨K3, h, kR3, kG3, kB3, kN3⟩ := zbh h kN
 obtain ⟨f3, hf3, h⟩ := call3 h
 obtain ⟨I3, hI3⟩ : ∃ I : Nat → St → Prop, I = (fun m st => ∃ (p3 : List Int) (c3_9 : Int) (c3_3 : List Int) (y3_0 : VV), m = List.length p3 ∧ 0 ≤ c3_9 ∧ List.drop (Int.toNat c3_9) x0_x.mix = p3 ∧ st.df = [] ∧ 7 ≤ st.nx ∧ st.tm 7 = .sl (cellsL eI x0_x.mix) (List.length x0_x.mix) false ∧ st.tm 8 = .lit (.int .i64 (List.length x0_x.mix : Int)) ∧ st.tm 3 = y3_0 ∧ st.tm 9 = .lit (.int .i64 c3_9) ∧ ((∃ (β : Nat) (el : Option TypeId), y3_0 = .ref β 0 (List.length c3_3) 1 (List.length c3_3) ∧ β < st.nx ∧ st.H β = some (.cells el (cellsL eI c3_3))) ∨ (y3_0 = .lit (.slice none 0 0) ∧ c3_3 = [])) ∧ K3 (f3 p3 c3_9 c3_3)) := ⟨_, rfl⟩
 refine loopK mixed (by kernel_rfl) I3 (List.length x0_x.mix) (by rw [hI3]; refine ⟨x0_x.mix, 0, ([] : List Int), .lit (.slice none 0 0), rfl, Int.le_refl _, rfl, rfl, (show 7 ≤ 7 by omega), ?_, ?_, ?_, ?_, Or.inr ⟨rfl, rfl⟩, h⟩ <;> first | (simp only [ua, nm, seval] <;> rfl) | rfl) ?_
 rintro m ⟨tm, H, nx3, df⟩ hinv
 rw [hI3] at hinv
 obtain ⟨p3, c3_9, c3_3, y3_0, rfl, hi3, hp3, hdf, hn3, e5, e6, e7, e8, ow3_0, h⟩ := hinv
 simp only at hdf hn3 e5 e6 e7 e8 ow3_0
 have n9 := zcw (m := 7) (b := nx3) (by omega)
 subst hdf hf3
 rcases ow3_0 with ⟨b3_0, el3_0, rfl, lq11, H10⟩ | ⟨rfl, rfl⟩
 ·have q11 := zann lq11
  cases p3 with
  | nil =>
   have d12 : (decide (c3_9 < (List.length x0_x.mix : Int))) = false := zbc hi3 hp3
   simp only [zcb, hs, reduceCtorEq] at h
   replace h := kG3 _ h
   try dsimp only at h
   try simp only [hs] at h
   try simp only [vz, tyf, g4, n9, e5, e6, e7, e8, q11, H10, d12, nm, seval]
   refine zaw (x := (.ref b3_0 0 (List.length c3_3) 1 (List.length c3_3))) (by first | (simp only [Tryz.results84, resV, resL, resV1, zba, zbz, uw, cr, tyf, g4, n9, q11, H10, d12, nm, seval] <;> rfl) | rfl) ?_
   obtain rfl := kF _ h
   refine zbb ?_ ?_
   ·simp only [tre, tytre, Bool.and_self]
   ·first | (simp only [outV, uw, zak, cr, tyf, nrm, tynrm, g4, n9, e5, e6, e7, e8, q11, H10, d12, nm, seval] <;> rfl) | rfl
  | cons e3 p3 =>
   have d13 : (decide (c3_9 < (List.length x0_x.mix : Int))) = true := zci hi3 hp3
   have o15 := zax hi3 hp3
   have w14 := zdh hi3 hp3 g4
   simp only [zcb, hs, reduceCtorEq] at h
   cases d16 : (decide (e3 > 0))
   ·simp only [d16, hs] at h
    have b17 := And.intro g4 (And.intro n9 (And.intro q11 (And.intro H10 (And.intro d13 (And.intro w14 d16)))))
    simp only [vz, tyf, b17, e5, e6, e7, e8, (ix29 o15), nm, seval]
    exact ⟨List.length p3, Nat.lt_succ_self _, by rw [hI3]; refine ⟨p3, c3_9 + 1, c3_3, .ref b3_0 0 (List.length c3_3) 1 (List.length c3_3), rfl, Int.le_trans hi3 (Int.le_add_one (Int.le_refl _)), zbr hi3 hp3, rfl, (show 7 ≤ nx3 + 10 by omega), e5, e6, ?_, ?_, Or.inl ⟨b3_0, el3_0, rfl, (by first | omega | (simp only [nm, seval]; omega)), ?_⟩, h⟩ <;> first | (simp only [ua, b17, e5, e6, e7, e8, nm, seval] <;> rfl) | rfl⟩
   simp only [d16, hs] at h
   have b18 := And.intro g4 (And.intro n9 (And.intro q11 (And.intro H10 (And.intro d13 (And.intro w14 d16)))))
   cases g19 : (roomOk 8 (List.length (c3_3 ++ [c3_9])))
   ·simp only [g19, hs] at h
    exact absurd h kN3
   simp only [g19, hs] at h
   simp only [vz, tyf, b18, e5, e6, e7, e8, (ix29 o15), g19, nm, seval]
   refine k_app (w := 1) (enc := eI) (xs := c3_3) (ys := ([c3_9])) (el := el3_0) (el2 := (some 3)) (fun _ => rfl) lf29 ao29 Tryz.underlying29 (by first | rfl | assumption | (simp only [zac, zas, et29, b18, nm, seval] <;> rfl) | (simp only [zac, zas, zge, zcp, zsg, zmf, tyf, b18, e5, e6, e7, e8, (ix29 o15), g19, nm, seval]; done)) (by first | rfl | assumption | (simp only [zac, zas, et29, b18, nm, seval] <;> rfl) | (simp only [zac, zas, zge, zcp, zsg, zmf, tyf, b18, e5, e6, e7, e8, (ix29 o15), g19, nm, seval]; done)) (Nat.zero_lt_succ _) g19 ?_
   simp only [vz, tyf, b18, e5, e6, e7, e8, (ix29 o15), g19, nm, seval]
   exact ⟨List.length p3, Nat.lt_succ_self _, by rw [hI3]; refine ⟨p3, c3_9 + 1, (c3_3 ++ [c3_9]), .ref (nx3 + 11) 0 (List.length (c3_3 ++ [c3_9])) 1 (List.length (c3_3 ++ [c3_9])), rfl, Int.le_trans hi3 (Int.le_add_one (Int.le_refl _)), zbr hi3 hp3, rfl, (show 7 ≤ nx3 + 15 by omega), e5, e6, ?_, ?_, Or.inl ⟨nx3 + 11, (sameEl el3_0 3), rfl, (by first | omega | (simp only [nm, seval]; omega)), ?_⟩, h⟩ <;> first | (simp only [ua, b18, e5, e6, e7, e8, nm, seval] <;> rfl) | rfl⟩
 ·cases p3 with
  | nil =>
   have d20 : (decide (c3_9 < (List.length x0_x.mix : Int))) = false := zbc hi3 hp3
   simp only [zcb, hs, reduceCtorEq] at h
   replace h := kG3 _ h
   try dsimp only at h
   try simp only [hs] at h
   try simp only [vz, tyf, g4, n9, e5, e6, e7, e8, d20, nm, seval]
   refine zaw (x := (.lit (.slice none 0 0))) (by first | (simp only [Tryz.results84, resV, resL, resV1, zba, zbz, uw, cr, tyf, g4, n9, d20, nm, seval] <;> rfl) | rfl) ?_
   obtain rfl := kF _ h
   refine zbb ?_ ?_
   ·simp only [tre, tytre, Bool.and_self]
   ·first | (simp only [outV, uw, zak, cr, tyf, nrm, tynrm, g4, n9, e5, e6, e7, e8, d20, nm, seval] <;> rfl) | rfl
  | cons e3 p3 =>
   have d21 : (decide (c3_9 < (List.length x0_x.mix : Int))) = true := zci hi3 hp3
   have o23 := zax hi3 hp3
   have w22 := zdh hi3 hp3 g4
   simp only [zcb, hs, reduceCtorEq] at h
   cases d24 : (decide (e3 > 0))
   ·simp only [d24, hs] at h
    simp only [vz, tyf, g4, n9, e5, e6, e7, e8, d21, (ix29 o23), w22, d24, nm, seval]
    exact ⟨List.length p3, Nat.lt_succ_self _, by rw [hI3]; refine ⟨p3, c3_9 + 1, ([] : List Int), .lit (.slice none 0 0), rfl, Int.le_trans hi3 (Int.le_add_one (Int.le_refl _)), zbr hi3 hp3, rfl, (show 7 ≤ nx3 + 10 by omega), e5, e6, ?_, ?_, Or.inr ⟨rfl, rfl⟩, h⟩ <;> first | (simp only [ua, n9, e5, e6, e7, e8, d21, w22, d24, nm, seval] <;> rfl) | rfl⟩
   simp only [d24, hs] at h
   cases g25 : (roomOk 8 (List.length (([] : List Int) ++ [c3_9])))
   ·simp only [g25, hs] at h
    exact absurd h kN3
   simp only [g25, hs] at h
   simp only [vz, tyf, g4, n9, e5, e6, e7, e8, d21, (ix29 o23), w22, d24, g25, nm, seval]
   refine zamr (w := 1) (enc := eI) (ys := ([c3_9])) (el2 := (some 3)) (fun _ => rfl) lf29 ao29 Tryz.underlying29 (by first | rfl | assumption | (simp only [zac, zas, et29, n9, nm, seval] <;> rfl) | (simp only [zac, zas, zge, zcp, zsg, zmf, tyf, g4, n9, e5, e6, e7, e8, d21, (ix29 o23), w22, d24, g25, nm, seval]; done)) (Nat.zero_lt_succ _) g25 ?_
   simp only [vz, tyf, g4, n9, e5, e6, e7, e8, d21, (ix29 o23), w22, d24, g25, nm, seval]
   exact ⟨List.length p3, Nat.lt_succ_self _, by rw [hI3]; refine ⟨p3, c3_9 + 1, (([] : List Int) ++ [c3_9]), .ref (nx3 + 11) 0 (List.length (([] : List Int) ++ [c3_9])) 1 (List.length (([] : List Int) ++ [c3_9])), rfl, Int.le_trans hi3 (Int.le_add_one (Int.le_refl _)), zbr hi3 hp3, rfl, (show 7 ≤ nx3 + 15 by omega), e5, e6, ?_, ?_, Or.inl ⟨nx3 + 11, (some 3), rfl, (by first | omega | (simp only [nm, seval]; omega)), ?_⟩, h⟩ <;> first | (simp only [ua, n9, e5, e6, e7, e8, d21, w22, d24, nm, seval] <;> rfl) | rfl⟩
def zgj (x0_x : Int) : Option (Bool) := some (x0_x != x0_x)
theorem zic (x0_x : Int) (R : Bool) (h : zgj x0_x = some R) : VPure Tryz.prog G0 129 [.lit (.int .i64 x0_x)] (.tree (.lit (.bool R))) := by
 refine VPure.runR mixed Tryz.call129 Tryz.func129 rfl (by simp [Tryz.ntmps129]; kernel_rfl) ?_
 obtain ⟨KF, h, kF, kN⟩ := zan h
 simp only [zgj] at h
 try simp only [vz, tyf, nm, seval]
 obtain rfl := kF _ h
 exact zaa Tryz.results129 rfl
def zfg (x0_x : Int) (x1_y : Int) : Option (Int) := Option.bind (zgj x0_x) (fun r1 => Option.bind (zgj x1_y) (fun r2 => cond (r1) (cond (r2) (some 0) (some (-1))) (cond (r2) (some 1) (cond (decide (x0_x < x1_y)) (some (-1)) (cond (decide (x0_x > x1_y)) (some 1) (some 0))))))
theorem zhc (x0_x : Int) (x1_y : Int) (R : Int) (h : zfg x0_x x1_y = some R) : VPure Tryz.prog G0 113 [.lit (.int .i64 x0_x), .lit (.int .i64 x1_y)] (.tree (.lit (.int .i64 R))) := by
 refine VPure.runR mixed Tryz.call113 Tryz.func113 rfl (by simp [Tryz.ntmps113]; kernel_rfl) ?_
 obtain ⟨KF, h, kF, kN⟩ := zan h
 simp only [zfg] at h
 obtain ⟨r3, o4, h⟩ := optI h kN
 try simp only [hs] at h
 simp only [vz, tyf, nm, seval]
 refine ktA (zic _ _ o4) ?_
 refine zab (fun tm => tm 0 = .lit (.int .i64 x0_x) ∧ tm 1 = .lit (.int .i64 x1_y) ∧ tm 8 = .lit (.bool r3) ∧ True) (by refine ⟨?_, ?_, ?_, trivial⟩ <;> first | (simp only [ua, nm, seval] <;> rfl) | rfl) ?_
 rintro tm ⟨e5, e6, e7, _⟩
 obtain ⟨r8, o9, h⟩ := optI h kN
 try simp only [hs] at h
 simp only [vz, tyf, e5, e6, e7, nm, seval]
 refine ktA (zic _ _ o9) ?_
 refine zab (fun tm => tm 0 = .lit (.int .i64 x0_x) ∧ tm 1 = .lit (.int .i64 x1_y) ∧ tm 5 = .lit (.bool r3) ∧ tm 10 = .lit (.bool r8) ∧ True) (by refine ⟨e5, e6, ?_, ?_, trivial⟩ <;> first | (simp only [ua, e5, e6, e7, nm, seval] <;> rfl) | rfl) ?_
 rintro tm ⟨e10, e11, e12, e13, _⟩
 cases d14 : (r3)
 ·simp only [d14, hs] at h
  cases d15 : (r8)
  ·simp only [d15, hs] at h
   cases d16 : (decide (x0_x < x1_y))
   ·simp only [d16, hs] at h
    cases d17 : (decide (x0_x > x1_y))
    ·simp only [d17, hs] at h
     try simp only [vz, tyf, e10, e11, e12, e13, d14, d15, d16, d17, nm, seval]
     refine zaw (x := (.lit (.int .i64 0))) (by first | (simp only [Tryz.results113, resV, resL, resV1, zba, zbz, uw, cr, tyf, d14, d15, d16, d17, nm, seval] <;> rfl) | rfl) ?_
     obtain rfl := kF _ h
     refine zbb ?_ ?_
     ·simp only [tre, tytre, Bool.and_self]
     ·first | (simp only [outV, uw, zak, cr, tyf, nrm, tynrm, e10, e11, e12, e13, d14, d15, d16, d17, nm, seval] <;> rfl) | rfl
    simp only [d17, hs] at h
    try simp only [vz, tyf, e10, e11, e12, e13, d14, d15, d16, d17, nm, seval]
    refine zaw (x := (.lit (.int .i64 1))) (by first | (simp only [Tryz.results113, resV, resL, resV1, zba, zbz, uw, cr, tyf, d14, d15, d16, d17, nm, seval] <;> rfl) | rfl) ?_
    obtain rfl := kF _ h
    refine zbb ?_ ?_
    ·simp only [tre, tytre, Bool.and_self]
    ·first | (simp only [outV, uw, zak, cr, tyf, nrm, tynrm, e10, e11, e12, e13, d14, d15, d16, d17, nm, seval] <;> rfl) | rfl
   simp only [d16, hs] at h
   try simp only [vz, tyf, e10, e11, e12, e13, d14, d15, d16, nm, seval]
   refine zaw (x := (.lit (.int .i64 (-1)))) (by first | (simp only [Tryz.results113, resV, resL, resV1, zba, zbz, uw, cr, tyf, d14, d15, d16, nm, seval] <;> rfl) | rfl) ?_
   obtain rfl := kF _ h
   refine zbb ?_ ?_
   ·simp only [tre, tytre, Bool.and_self]
   ·first | (simp only [outV, uw, zak, cr, tyf, nrm, tynrm, e10, e11, e12, e13, d14, d15, d16, nm, seval] <;> rfl) | rfl
  simp only [d15, hs] at h
  try simp only [vz, tyf, e10, e11, e12, e13, d14, d15, nm, seval]
  refine zaw (x := (.lit (.int .i64 1))) (by first | (simp only [Tryz.results113, resV, resL, resV1, zba, zbz, uw, cr, tyf, d14, d15, nm, seval] <;> rfl) | rfl) ?_
  obtain rfl := kF _ h
  refine zbb ?_ ?_
  ·simp only [tre, tytre, Bool.and_self]
  ·first | (simp only [outV, uw, zak, cr, tyf, nrm, tynrm, e10, e11, e12, e13, d14, d15, nm, seval] <;> rfl) | rfl
 simp only [d14, hs] at h
 cases d18 : (r8)
 ·simp only [d18, hs] at h
  try simp only [vz, tyf, e10, e11, e12, e13, d14, d18, nm, seval]
  refine zaw (x := (.lit (.int .i64 (-1)))) (by first | (simp only [Tryz.results113, resV, resL, resV1, zba, zbz, uw, cr, tyf, d14, d18, nm, seval] <;> rfl) | rfl) ?_
  obtain rfl := kF _ h
  refine zbb ?_ ?_
  ·simp only [tre, tytre, Bool.and_self]
  ·first | (simp only [outV, uw, zak, cr, tyf, nrm, tynrm, e10, e11, e12, e13, d14, d18, nm, seval] <;> rfl) | rfl
 simp only [d18, hs] at h
 try simp only [vz, tyf, e10, e11, e12, e13, d14, d18, nm, seval]
 refine zaw (x := (.lit (.int .i64 0))) (by first | (simp only [Tryz.results113, resV, resL, resV1, zba, zbz, uw, cr, tyf, d14, d18, nm, seval] <;> rfl) | rfl) ?_
 obtain rfl := kF _ h
 refine zbb ?_ ?_
 ·simp only [tre, tytre, Bool.and_self]
 ·first | (simp only [outV, uw, zak, cr, tyf, nrm, tynrm, e10, e11, e12, e13, d14, d18, nm, seval] <;> rfl) | rfl
def zgh  : List Int → Int → Option (LOut (Int) (Unit))
 | [], c0_8 => some (.go ())
 | e0 :: p0, c0_8 => cond (e0 != 0) (some (.ret e0)) (zgh p0 (c0_8 + 1))
def zkp (x0_vals : List Int) : Option (Int) := cond (lenOk x0_vals) (lbind (zgh x0_vals 0) (fun r2 => some r2) (fun c1 => some 0) (fun _ _ => none)) none
theorem zoy (x0_vals : List Int) (R : Int) (h : zkp x0_vals = some R) : VPure Tryz.prog G0 112 [.sl (cellsL eI x0_vals) (List.length x0_vals) false] (.tree (.lit (.int .i64 R))) := by
 refine VPure.runR mixed Tryz.call112 Tryz.func112 rfl (by simp [Tryz.ntmps112]; kernel_rfl) ?_
 obtain ⟨KF, h, kF, kN⟩ := zan h
 simp only [zkp] at h
 cases g4 : (lenOk x0_vals)
 ·simp only [g4, hs] at h
  exact absurd h kN
 simp only [g4, hs] at h
 simp only [vz, tyf, g4, nm, seval]
 obtain ⟨K3, h, kR3, kG3, kB3, kN3⟩ := zbh h kN
 obtain ⟨f3, hf3, h⟩ := call2 h
 obtain ⟨I3, hI3⟩ : ∃ I : Nat → St → Prop, I = (fun m st => ∃ (p3 : List Int) (c3_8 : Int), m = List.length p3 ∧ 0 ≤ c3_8 ∧ List.drop (Int.toNat c3_8) x0_vals = p3 ∧ st.df = [] ∧ 5 ≤ st.nx ∧ st.tm 3 = .lit (.int .i64 0) ∧ st.tm 6 = .sl (cellsL eI x0_vals) (List.length x0_vals) false ∧ st.tm 7 = .lit (.int .i64 (List.length x0_vals : Int)) ∧ st.tm 8 = .lit (.int .i64 c3_8) ∧ K3 (f3 p3 c3_8)) := ⟨_, rfl⟩
 refine loopK mixed (by kernel_rfl) I3 (List.length x0_vals) (by rw [hI3]; refine ⟨x0_vals, 0, rfl, Int.le_refl _, rfl, rfl, (show 5 ≤ 5 by omega), ?_, ?_, ?_, ?_, h⟩ <;> first | (simp only [ua, nm, seval] <;> rfl) | rfl) ?_
 rintro m ⟨tm, H, nx3, df⟩ hinv
 rw [hI3] at hinv
 obtain ⟨p3, c3_8, rfl, hi3, hp3, hdf, hn3, e5, e6, e7, e8, h⟩ := hinv
 simp only at hdf hn3 e5 e6 e7 e8
 have n9 := zcw (m := 5) (b := nx3) (by omega)
 subst hdf hf3
 cases p3 with
 | nil =>
  have d10 : (decide (c3_8 < (List.length x0_vals : Int))) = false := zbc hi3 hp3
  simp only [zgh, hs, reduceCtorEq] at h
  replace h := kG3 _ h
  try dsimp only at h
  try simp only [hs] at h
  try simp only [vz, tyf, g4, n9, e5, e6, e7, e8, d10, nm, seval]
  refine zaw (x := (.lit (.int .i64 0))) (by first | (simp only [Tryz.results112, resV, resL, resV1, zba, zbz, uw, cr, tyf, g4, n9, d10, nm, seval] <;> rfl) | rfl) ?_
  obtain rfl := kF _ h
  refine zbb ?_ ?_
  ·simp only [tre, tytre, Bool.and_self]
  ·first | (simp only [outV, uw, zak, cr, tyf, nrm, tynrm, g4, n9, e5, e6, e7, e8, d10, nm, seval] <;> rfl) | rfl
 | cons e3 p3 =>
  have d11 : (decide (c3_8 < (List.length x0_vals : Int))) = true := zci hi3 hp3
  have o13 := zax hi3 hp3
  have w12 := zdh hi3 hp3 g4
  simp only [zgh, hs, reduceCtorEq] at h
  cases d14 : (e3 != 0)
  ·simp only [d14, hs] at h
   simp only [vz, tyf, g4, n9, e5, e6, e7, e8, d11, (ix29 o13), w12, d14, nm, seval]
   exact ⟨List.length p3, Nat.lt_succ_self _, by rw [hI3]; refine ⟨p3, c3_8 + 1, rfl, Int.le_trans hi3 (Int.le_add_one (Int.le_refl _)), zbr hi3 hp3, rfl, (show 5 ≤ nx3 + 9 by omega), e5, e6, e7, ?_, h⟩ <;> first | (simp only [ua, n9, e5, e6, e7, e8, d11, w12, d14, nm, seval] <;> rfl) | rfl⟩
  simp only [d14, hs] at h
  try simp only [vz, tyf, g4, n9, e5, e6, e7, e8, d11, (ix29 o13), w12, d14, nm, seval]
  refine zaw (x := (.lit (.int .i64 e3))) (by first | (simp only [Tryz.results112, resV, resL, resV1, zba, zbz, uw, cr, tyf, g4, n9, d11, (ix29 o13), w12, d14, nm, seval] <;> rfl) | rfl) ?_
  replace h := kR3 _ h
  try dsimp only at h
  obtain rfl := kF _ h
  refine zbb ?_ ?_
  ·simp only [tre, tytre, Bool.and_self]
  ·first | (simp only [outV, uw, zak, cr, tyf, nrm, tynrm, g4, n9, e5, e6, e7, e8, d11, (ix29 o13), w12, d14, nm, seval] <;> rfl) | rfl
def zch (x1_s2 : List Int) : List Int → Int → Option (LOut (Int) (Unit))
 | [], c0_11 => some (.go ())
 | e0 :: p0, c0_11 => cond (decide (c0_11 ≥ (List.length x1_s2 : Int))) (some (.ret 1)) (Option.bind (getI x1_s2 c0_11) (fun x1 => Option.bind (zfg e0 x1) (fun r2 => cond (r2 != 0) (some (.ret r2)) (zch x1_s2 p0 (c0_11 + 1)))))
def zea (x0_s1 : List Int) (x1_s2 : List Int) : Option (Int) := cond (lenOk x0_s1) (lbind (zch x1_s2 x0_s1 0) (fun r4 => some r4) (fun c3 => cond (decide ((List.length x0_s1 : Int) < (List.length x1_s2 : Int))) (some (-1)) (some 0)) (fun _ _ => none)) none
theorem zhj (x0_s1 : List Int) (x1_s2 : List Int) (R : Int) (h : zea x0_s1 x1_s2 = some R) : VPure Tryz.prog G0 114 [.sl (cellsL eI x0_s1) (List.length x0_s1) false, .sl (cellsL eI x1_s2) (List.length x1_s2) false] (.tree (.lit (.int .i64 R))) := by
 refine VPure.runR mixed Tryz.call114 Tryz.func114 rfl (by simp [Tryz.ntmps114]; kernel_rfl) ?_
 obtain ⟨KF, h, kF, kN⟩ := zan h
 simp only [zea] at h
 cases g6 : (lenOk x0_s1)
 ·simp only [g6, hs] at h
  exact absurd h kN
 simp only [g6, hs] at h
 simp only [vz, tyf, g6, nm, seval]
 obtain ⟨K5, h, kR5, kG5, kB5, kN5⟩ := zbh h kN
 obtain ⟨f5, hf5, h⟩ := call2 h
 obtain ⟨I5, hI5⟩ : ∃ I : Nat → St → Prop, I = (fun m st => ∃ (p5 : List Int) (c5_11 : Int), m = List.length p5 ∧ 0 ≤ c5_11 ∧ List.drop (Int.toNat c5_11) x0_s1 = p5 ∧ st.df = [] ∧ 4 ≤ st.nx ∧ st.tm 0 = .sl (cellsL eI x0_s1) (List.length x0_s1) false ∧ st.tm 1 = .sl (cellsL eI x1_s2) (List.length x1_s2) false ∧ st.tm 9 = .sl (cellsL eI x0_s1) (List.length x0_s1) false ∧ st.tm 10 = .lit (.int .i64 (List.length x0_s1 : Int)) ∧ st.tm 11 = .lit (.int .i64 c5_11) ∧ K5 (f5 p5 c5_11)) := ⟨_, rfl⟩
 refine loopK mixed (by kernel_rfl) I5 (List.length x0_s1) (by rw [hI5]; refine ⟨x0_s1, 0, rfl, Int.le_refl _, rfl, rfl, (show 4 ≤ 4 by omega), ?_, ?_, ?_, ?_, ?_, h⟩ <;> first | (simp only [ua, nm, seval] <;> rfl) | rfl) ?_
 rintro m ⟨tm, H, nx5, df⟩ hinv
 rw [hI5] at hinv
 obtain ⟨p5, c5_11, rfl, hi5, hp5, hdf, hn5, e7, e8, e9, e10, e11, h⟩ := hinv
 simp only at hdf hn5 e7 e8 e9 e10 e11
 have n12 := zcw (m := 4) (b := nx5) (by omega)
 subst hdf hf5
 cases p5 with
 | nil =>
  have d13 : (decide (c5_11 < (List.length x0_s1 : Int))) = false := zbc hi5 hp5
  simp only [zch, hs, reduceCtorEq] at h
  replace h := kG5 _ h
  try dsimp only at h
  try simp only [hs] at h
  cases d14 : (decide ((List.length x0_s1 : Int) < (List.length x1_s2 : Int)))
  ·simp only [d14, hs] at h
   try simp only [vz, tyf, g6, n12, e7, e8, e9, e10, e11, d13, d14, nm, seval]
   refine zaw (x := (.lit (.int .i64 0))) (by first | (simp only [Tryz.results114, resV, resL, resV1, zba, zbz, uw, cr, tyf, g6, n12, d13, d14, nm, seval] <;> rfl) | rfl) ?_
   obtain rfl := kF _ h
   refine zbb ?_ ?_
   ·simp only [tre, tytre, Bool.and_self]
   ·first | (simp only [outV, uw, zak, cr, tyf, nrm, tynrm, g6, n12, e7, e8, e9, e10, e11, d13, d14, nm, seval] <;> rfl) | rfl
  simp only [d14, hs] at h
  try simp only [vz, tyf, g6, n12, e7, e8, e9, e10, e11, d13, d14, nm, seval]
  refine zaw (x := (.lit (.int .i64 (-1)))) (by first | (simp only [Tryz.results114, resV, resL, resV1, zba, zbz, uw, cr, tyf, g6, n12, d13, d14, nm, seval] <;> rfl) | rfl) ?_
  obtain rfl := kF _ h
  refine zbb ?_ ?_
  ·simp only [tre, tytre, Bool.and_self]
  ·first | (simp only [outV, uw, zak, cr, tyf, nrm, tynrm, g6, n12, e7, e8, e9, e10, e11, d13, d14, nm, seval] <;> rfl) | rfl
 | cons e5 p5 =>
  have d15 : (decide (c5_11 < (List.length x0_s1 : Int))) = true := zci hi5 hp5
  have o17 := zax hi5 hp5
  have w16 := zdh hi5 hp5 g6
  simp only [zch, hs, reduceCtorEq] at h
  cases d18 : (decide (c5_11 ≥ (List.length x1_s2 : Int)))
  ·simp only [d18, hs] at h
   obtain ⟨x19, o20, h⟩ := optI h kN5
   try simp only [hs] at h
   obtain ⟨r21, o22, h⟩ := optI h kN5
   try simp only [hs] at h
   simp only [vz, tyf, g6, n12, e7, e8, e9, e10, e11, d15, (ix29 o17), w16, d18, (ix29 o20), nm, seval]
   refine ktA (zhc _ _ _ o22) ?_
   refine zab (fun tm => tm 0 = .sl (cellsL eI x0_s1) (List.length x0_s1) false ∧ tm 1 = .sl (cellsL eI x1_s2) (List.length x1_s2) false ∧ tm 9 = .sl (cellsL eI x0_s1) (List.length x0_s1) false ∧ tm 10 = .lit (.int .i64 (List.length x0_s1 : Int)) ∧ tm 11 = .lit (.int .i64 c5_11) ∧ tm 26 = .lit (.int .i64 r21) ∧ True) (by refine ⟨e7, e8, e9, e10, e11, ?_, trivial⟩ <;> first | (simp only [ua, n12, e7, e8, e9, e10, e11, d15, w16, d18, nm, seval] <;> rfl) | rfl) ?_
   rintro tm ⟨e23, e24, e25, e26, e27, e28, _⟩
   cases d29 : (r21 != 0)
   ·simp only [d29, hs] at h
    simp only [vz, tyf, g6, n12, d15, (ix29 o17), w16, d18, (ix29 o20), e23, e24, e25, e26, e27, e28, d29, nm, seval]
    exact ⟨List.length p5, Nat.lt_succ_self _, by rw [hI5]; refine ⟨p5, c5_11 + 1, rfl, Int.le_trans hi5 (Int.le_add_one (Int.le_refl _)), zbr hi5 hp5, rfl, (show 4 ≤ nx5 + 23 by omega), e23, e24, e25, e26, ?_, h⟩ <;> first | (simp only [ua, n12, d15, w16, d18, e23, e24, e25, e26, e27, e28, d29, nm, seval] <;> rfl) | rfl⟩
   simp only [d29, hs] at h
   try simp only [vz, tyf, g6, n12, d15, (ix29 o17), w16, d18, (ix29 o20), e23, e24, e25, e26, e27, e28, d29, nm, seval]
   refine zaw (x := (.lit (.int .i64 r21))) (by first | (simp only [Tryz.results114, resV, resL, resV1, zba, zbz, uw, cr, tyf, g6, n12, d15, (ix29 o17), w16, d18, (ix29 o20), d29, nm, seval] <;> rfl) | rfl) ?_
   replace h := kR5 _ h
   try dsimp only at h
   obtain rfl := kF _ h
   refine zbb ?_ ?_
   ·simp only [tre, tytre, Bool.and_self]
   ·first | (simp only [outV, uw, zak, cr, tyf, nrm, tynrm, g6, n12, d15, (ix29 o17), w16, d18, (ix29 o20), e23, e24, e25, e26, e27, e28, d29, nm, seval] <;> rfl) | rfl
  simp only [d18, hs] at h
  try simp only [vz, tyf, g6, n12, e7, e8, e9, e10, e11, d15, (ix29 o17), w16, d18, nm, seval]
  refine zaw (x := (.lit (.int .i64 1))) (by first | (simp only [Tryz.results114, resV, resL, resV1, zba, zbz, uw, cr, tyf, g6, n12, d15, (ix29 o17), w16, d18, nm, seval] <;> rfl) | rfl) ?_
  replace h := kR5 _ h
  try dsimp only at h
  obtain rfl := kF _ h
  refine zbb ?_ ?_
  ·simp only [tre, tytre, Bool.and_self]
  ·first | (simp only [outV, uw, zak, cr, tyf, nrm, tynrm, g6, n12, e7, e8, e9, e10, e11, d15, (ix29 o17), w16, d18, nm, seval] <;> rfl) | rfl
def zdn (x0_a : Gm) (x1_b : Gm) : Option (Bool) := Option.bind (zdi x0_a) (fun r1 => Option.bind (zdi x1_b) (fun r2 => Option.bind (zfg (List.length r1 : Int) (List.length r2 : Int)) (fun r3 => Option.bind (zea r1 r2) (fun r4 => Option.bind (zkp ([r3, r4])) (fun r5 => some (decide (r5 < 0)))))))
theorem ziw (x0_a : Gm) (x1_b : Gm) (R : Bool) (h : zdn x0_a x1_b = some R) : VPure Tryz.prog G0 83 [.agg (cGm x0_a), .agg (cGm x1_b)] (.tree (.lit (.bool R))) := by
 refine VPure.runR mixed Tryz.call83 Tryz.func83 rfl (by simp [Tryz.ntmps83]; kernel_rfl) ?_
 obtain ⟨KF, h, kF, kN⟩ := zan h
 simp only [zdn] at h
 simp only [vz, tyf, nm, seval]
 refine zfe (fun tm => tm 2 = .ptr 0 0 ∧ tm 3 = .ptr 1 0 ∧ True) (by refine ⟨?_, ?_, trivial⟩ <;> first | (simp only [ua, nm, seval] <;> rfl) | rfl) ?_
 rintro tm ⟨e6, e7, _⟩
 obtain ⟨r8, o9, h⟩ := optI h kN
 try simp only [hs] at h
 simp only [vz, tyf, e6, e7, nm, seval]
 refine dktA (zdg _ _ o9) ?_
 refine zab (fun tm => tm 2 = .ptr 0 0 ∧ tm 3 = .ptr 1 0 ∧ tm 6 = .sl (cellsL eI r8) (List.length r8) false ∧ True) (by refine ⟨e6, e7, ?_, trivial⟩ <;> first | (simp only [ua, e6, e7, nm, seval] <;> rfl) | rfl) ?_
 rintro tm ⟨e10, e11, e12, _⟩
 obtain ⟨r13, o14, h⟩ := optI h kN
 try simp only [hs] at h
 simp only [vz, tyf, e10, e11, e12, nm, seval]
 refine dktA (zdg _ _ o14) ?_
 refine zab (fun tm => tm 2 = .ptr 0 0 ∧ tm 3 = .ptr 1 0 ∧ tm 7 = .lit (.int .i64 (List.length r8 : Int)) ∧ tm 9 = .sl (cellsL eI r13) (List.length r13) false ∧ True) (by refine ⟨e10, e11, ?_, ?_, trivial⟩ <;> first | (simp only [ua, e10, e11, e12, nm, seval] <;> rfl) | rfl) ?_
 rintro tm ⟨e15, e16, e17, e18, _⟩
 obtain ⟨r19, o20, h⟩ := optI h kN
 try simp only [hs] at h
 simp only [vz, tyf, e15, e16, e17, e18, nm, seval]
 refine dktA (zhc _ _ _ o20) ?_
 refine zab (fun tm => tm 2 = .ptr 0 0 ∧ tm 3 = .ptr 1 0 ∧ tm 11 = .lit (.int .i64 r19) ∧ True) (by refine ⟨e15, e16, ?_, trivial⟩ <;> first | (simp only [ua, e15, e16, e17, e18, nm, seval] <;> rfl) | rfl) ?_
 rintro tm ⟨e21, e22, e23, _⟩
 simp only [vz, tyf, e21, e22, e23, nm, seval]
 refine dktA (zdg _ _ o9) ?_
 refine zab (fun tm => tm 3 = .ptr 1 0 ∧ tm 11 = .lit (.int .i64 r19) ∧ tm 13 = .sl (cellsL eI r8) (List.length r8) false ∧ True) (by refine ⟨e22, e23, ?_, trivial⟩ <;> first | (simp only [ua, e21, e22, e23, nm, seval] <;> rfl) | rfl) ?_
 rintro tm ⟨e24, e25, e26, _⟩
 simp only [vz, tyf, e24, e25, e26, nm, seval]
 refine dktA (zdg _ _ o14) ?_
 refine zab (fun tm => tm 11 = .lit (.int .i64 r19) ∧ tm 13 = .sl (cellsL eI r8) (List.length r8) false ∧ tm 15 = .sl (cellsL eI r13) (List.length r13) false ∧ True) (by refine ⟨e25, e26, ?_, trivial⟩ <;> first | (simp only [ua, e24, e25, e26, nm, seval] <;> rfl) | rfl) ?_
 rintro tm ⟨e27, e28, e29, _⟩
 obtain ⟨r30, o31, h⟩ := optI h kN
 try simp only [hs] at h
 simp only [vz, tyf, e27, e28, e29, nm, seval]
 refine dktA (zhj _ _ _ o31) ?_
 refine zab (fun tm => tm 11 = .lit (.int .i64 r19) ∧ tm 16 = .lit (.int .i64 r30) ∧ True) (by refine ⟨e27, ?_, trivial⟩ <;> first | (simp only [ua, e27, e28, e29, nm, seval] <;> rfl) | rfl) ?_
 rintro tm ⟨e32, e33, _⟩
 obtain ⟨r34, o35, h⟩ := optI h kN
 try simp only [hs] at h
 simp only [vz, tyf, e32, e33, nm, seval]
 refine dkseen1 (w := 1) (enc := eI) (xs := ([r19, r30])) (el := (some 3)) ⟨eI_ok.tree, eI_ok.norm⟩ (fun _ => rfl) (by simp only [List.length_cons, List.length_nil]; decide) (by simp only [zac, zas, et29, nm, seval] <;> rfl) (zoy _ _ o35) (by first | rfl | simp only [VV.flat, flatL, Bool.and_self]) ?_
 refine zab (fun tm => tm 18 = .lit (.int .i64 r34) ∧ True) (by refine ⟨?_, trivial⟩ <;> first | (simp only [ua, e32, e33, nm, seval] <;> rfl) | rfl) ?_
 rintro tm ⟨e36, _⟩
 simp only [vz, tyf, e36, nm, seval]
 refine zel ⟨?_, ?_⟩
 ·simp only [zcs, zdp, zbi, zfr, and_true, true_and]
  repeat' (first | exact trivial | refine And.intro ?_ ?_ | rw [zbi] | rw [zej] | exact Or.inl (by decide +kernel) | exact Or.inl (by dsimp only; decide +kernel) | (refine Or.inr ⟨?_, ?_⟩ <;> simp; done) | (refine Or.inr ⟨?_, ?_⟩ <;> simp <;> omega) | (refine Or.inr ⟨?_, ?_⟩ <;> simp [VEff.wr] <;> omega))
 try simp only [vz, tyf, e36, nm, seval]
 obtain rfl := kF _ h
 exact zaa Tryz.results83 rfl
theorem ktreeP {P : Program} {G : Glob} {f : FuncId} {args : List VV} {x : VV} {d : Option Tmp} {γ : Nat} {tm : Nat → VV} {H : Nat → Option VObj} {nx : Nat} {df : List VDef} {K : St → Prop} {Qp : VV → St → Prop} (ht : treeL args = true) (hp : VPure P G f args (.tree x)) (h : fin d γ tm H nx df K x .none) : callK P G f args ⟨tm, H, nx, df⟩ d γ K Qp := by
 refine .inl ⟨ht, .tree x, hp, ?_⟩
 rw [← zhw (K := K), zbp] at h
 exact h
def zlp (s : Gs) : Option (List Int × Int × Int) := Option.bind (zbl s) fun b1 => cond b1
 (Option.bind (zfm s) fun L => Option.bind (bestO zgm L (zM, false)) fun r => Option.bind (zcr r.1) fun n => some (r.1.mix, n, 0))
 (some ([], 0, 2))
theorem zrg (s : Gs) (R : List Int × Int × Int) (h : zlp s = some R) : VPure Tryz.prog G0 50 [.agg (cGs s)] (.tree (.tup [.sl (cellsL eI R.1) (List.length R.1) false, .lit (.int .i64 R.2.1), .lit (.int .i64 R.2.2)])) := by
 refine VPure.runR mixed Tryz.call50 Tryz.func50 rfl (by simp [Tryz.ntmps50]; kernel_rfl) ?_
 unfold zlp at h
 rcases o0 : zbl s with _ | b
 ·rw [o0] at h; cases h
 rw [o0, Option.bind_some] at h
 simp only [vz, tyf, seval, ua, rg]
 refine ktA (zct _ _ o0) ?_
 cases b with
 | false =>
  simp only [cond_false, Option.some.injEq] at h
  subst h
  simp only [vz, tyf, seval, ua, rg, Bool.not_false]
  refine zaw (x := .tup [.lit (.slice none 0 0), .lit (.int .i64 0), .lit (.int .i64 2)]) (by simp only [Tryz.results50, resV, resL, resV1, zba, zbz, uw, cr, tyf, nm, seval] <;> rfl) ?_
  refine zbb (by simp only [tre, tytre]; rfl) ?_
  simp only [outV, nrm, seval, List.map_cons, List.map_nil, zcp, List.length_nil]
 | true =>
 rw [cond_true] at h
 rcases o2 : zfm s with _ | L
 ·rw [o2] at h; cases h
 rw [o2, Option.bind_some] at h
 rcases o6 : bestO zgm L (zM, false) with _ | r
 ·rw [o6] at h; cases h
 rw [o6, Option.bind_some] at h
 rcases o7 : zcr r.1 with _ | n
 ·rw [o7] at h; cases h
 rw [o7, Option.bind_some, Option.some.injEq] at h
 have hbo := zxf (bf := 80) (mc := []) (zjk s L o2) rfl (better := zgm) (fun a b t ht => zog a b t ht) r o6
 simp only [vz, tyf, seval, ua, rg, Bool.not_true]
 refine ktA (zlz s) ?_
 simp only [vz, tyf, seval, ua, rg]
 refine ktreeP (by simp only [zhd, zjw, zjj]; rfl) hbo ?_
 simp only [vz, tyf, seval, ua, rg]
 refine zfu (fun tm => tm 5 = .ptr 13 0) (by simp only [ua, seval]) ?_
 intro tm e5
 simp only [vz, tyf, seval, ua, rg, e5]
 refine dktA (zen _ _ o7) ?_
 simp only [vz, tyf, seval, ua, rg, e5]
 subst h
 refine zaw (x := .tup [.sl (cellsL eI r.1.mix) r.1.mix.length false, .lit (.int .i64 n), .lit (.int .i64 0)]) (by simp only [Tryz.results50, resV, resL, resV1, zba, zbz, uw, cr, tyf, nm, seval] <;> rfl) ?_
 refine zbb (by simp only [tre, tytre, Bool.and_self]) ?_
 simp only [outV, nrm, seval, List.map_cons, List.map_nil]
def zki (s : Gs) : Option (List Int × Int) := Option.bind (zbl s) fun b1 => cond b1
 (Option.bind (zkb s) fun L => Option.bind (bestO zdn L (zM, false)) fun r => cond r.2 (Option.bind (zdi r.1) fun n => some (n, 0)) (some ([], 5)))
 (some ([], 2))
theorem zoz (s : Gs) (R : List Int × Int) (h : zki s = some R) : VPure Tryz.prog G0 55 [.agg (cGs s)] (.tree (.tup [.sl (cellsL eI R.1) (List.length R.1) false, .lit (.int .i64 R.2)])) := by
 refine VPure.runR mixed Tryz.call55 Tryz.func55 rfl (by simp [Tryz.ntmps55]; kernel_rfl) ?_
 unfold zki at h
 rcases o0 : zbl s with _ | b
 ·rw [o0] at h; cases h
 rw [o0, Option.bind_some] at h
 simp only [vz, tyf, seval, ua, rg]
 refine ktA (zct _ _ o0) ?_
 cases b with
 | false =>
  simp only [cond_false, Option.some.injEq] at h
  subst h
  simp only [vz, tyf, seval, ua, rg, Bool.not_false]
  refine zaw (x := .tup [.lit (.slice none 0 0), .lit (.int .i64 2)]) (by simp only [Tryz.results55, resV, resL, resV1, zba, zbz, uw, cr, tyf, nm, seval] <;> rfl) ?_
  refine zbb (by simp only [tre, tytre]; rfl) ?_
  simp only [outV, nrm, seval, List.map_cons, List.map_nil, zcp, List.length_nil]
 | true =>
 rw [cond_true] at h
 rcases o2 : zkb s with _ | L
 ·rw [o2] at h; cases h
 rw [o2, Option.bind_some] at h
 rcases o6 : bestO zdn L (zM, false) with _ | r
 ·rw [o6] at h; cases h
 rw [o6, Option.bind_some] at h
 obtain ⟨hp, hi⟩ := zaey s L o2
 have hbo := zxf (bf := 83) (mc := []) hi rfl (better := zdn) (fun a b t ht => ziw a b t ht) r o6
 simp only [vz, tyf, seval, ua, rg, Bool.not_true]
 refine ktA hp ?_
 simp only [vz, tyf, seval, ua, rg]
 refine ktreeP (by simp only [zhd, zjw, zsq]; rfl) hbo ?_
 simp only [vz, tyf, seval, ua, rg]
 obtain ⟨r1, r2⟩ := r
 cases r2 with
 | false =>
  simp only [cond_false, Option.some.injEq] at h
  subst h
  simp only [vz, tyf, seval, nm, ua, rg, Bool.not_false]
  refine zaw (x := .tup [.lit (.slice none 0 0), .lit (.int .i64 5)]) (by simp only [Tryz.results55, resV, resL, resV1, zba, zbz, uw, cr, tyf, nm, seval] <;> rfl) ?_
  refine zbb (by simp only [tre, tytre]; rfl) ?_
  simp only [outV, nrm, seval, List.map_cons, List.map_nil, zcp, List.length_nil]
 | true =>
  simp only [cond_true] at h
  rcases o7 : zdi r1 with _ | n
  ·rw [o7] at h; cases h
  rw [o7, Option.bind_some, Option.some.injEq] at h
  subst h
  simp only [vz, tyf, seval, nm, ua, rg, Bool.not_true]
  refine ktA (zdg _ _ o7) ?_
  simp only [vz, tyf, seval, nm, ua, rg]
  refine zaw (x := .tup [.sl (cellsL eI n) n.length false, .lit (.int .i64 0)]) (by simp only [Tryz.results55, resV, resL, resV1, zba, zbz, uw, cr, tyf, nm, seval] <;> rfl) ?_
  refine zbb (by simp only [tre, tytre, Bool.and_self]) ?_
  simp only [outV, nrm, seval, List.map_cons, List.map_nil]




end Go.V
end
section
namespace Go.V
open Go
theorem zxj {β : Type} {f : Int → List β} {B : Nat} : ∀ (k : Nat) (c : Int), (∀ j, c ≤ j → j < c + k → (f j).length ≤ B) → (flatR f k c).length ≤ k * B
 | 0, c, _ => by simp [flatR]
 | k + 1, c, h => by
  have ih := zxj (f := f) (B := B) k (c + 1) (fun j h1 h2 => h j (by omega) (by omega))
  have h0 := h c (Int.le_refl _) (by omega)
  simp only [flatR, List.length_append, Nat.succ_mul]
  omega
theorem zadk {parts : Int} : ∀ (d : Nat) (l : List Int), sumL l ≤ parts → parts - sumL l ≤ 8 → (mixL parts (d + 1) l).length ≤ 9 ^ d
 | 0, l, _, _ => by simp [mixL]
 | d + 1, l, h, h8 => by
  have := zxj (f := fun j => mixL parts (d + 1) (l ++ [j])) (B := 9 ^ d) (parts - sumL l + 1).toNat 0 (fun j h1 h2 => zadk d _ (by rw [zgf, zfv]; omega) (by rw [zgf, zfv]; omega))
  rw [mixL]
  refine Nat.le_trans this ?_
  rw [Nat.pow_succ, Nat.mul_comm (9 ^ d)]
  exact Nat.mul_le_mul_right _ (by omega)
theorem zajd {s : Gs} (hs : ShOk s) : ∀ (k : Nat) (c : Int), 0 ≤ c → c + k ≤ 9 → (allR s.Tins.length k c).length ≤ k * 729
 | 0, c, _, _ => by simp [allR]
 | k + 1, c, h0, h => by
  have ih := zajd hs k (c + 1) (by omega) (by omega)
  have hN := hs.n
  obtain ⟨d, hd⟩ : ∃ d, s.Tins.length = d + 1 := ⟨s.Tins.length - 1, by omega⟩
  have h1 := zadk (parts := c) d [] (by simp only [sumL]; omega) (by simp only [sumL]; omega)
  have h9 : 9 ^ d ≤ 729 := by
   have : d ≤ 3 := by omega
   match d, this with
   | 0, _ => omega
   | 1, _ => omega
   | 2, _ => omega
   | 3, _ => omega
  simp only [allR, List.length_append, Nat.succ_mul]
  rw [hd] at ih ⊢
  omega
theorem zams {s : Gs} (hs : ShOk s) : (allL s).length ≤ 5832 := zajd hs 8 1 (by omega) (by omega)
theorem zuj {n : Nat} {q : List Int} : ∀ (k : Nat) (c : Int), q ∈ allR n k c ↔ ∃ j : Int, c ≤ j ∧ j < c + k ∧ q ∈ mixL j n []
 | 0, c => by
  simp only [allR, List.not_mem_nil, false_iff]
  rintro ⟨j, h1, h2, _⟩
  omega
 | k + 1, c => by
  simp only [allR, List.mem_append, zuj k (c + 1)]
  constructor
  ·rintro (h | ⟨j, h1, h2, h3⟩)
   ·exact ⟨c, by omega, by omega, h⟩
   ·exact ⟨j, by omega, by omega, h3⟩
  ·rintro ⟨j, h1, h2, h3⟩
   by_cases e : j = c
   ·subst e; exact .inl h3
   ·exact .inr ⟨j, by omega, by omega, h3⟩
theorem zry : ∀ {l : List Int}, (∀ e ∈ l, 0 ≤ e) → ∀ e ∈ l, e ≤ sumL l
 | a :: l, h, e, he => by
  have h1 := h a (List.mem_cons_self ..)
  have h2 := zvm (l := l) fun x hx => h x (List.mem_cons_of_mem _ hx)
  rw [sumL]
  rcases List.mem_cons.1 he with rfl | he
  ·omega
  ·have := zry (l := l) (fun x hx => h x (List.mem_cons_of_mem _ hx)) e he
   omega
theorem zil {s : Gs} (hs : ShOk s) {q : List Int} : q ∈ allL s ↔ MixOk s q := by
 have hN := hs.n
 obtain ⟨d, hd⟩ : ∃ d, s.Tins.length = d + 1 := ⟨s.Tins.length - 1, by omega⟩
 unfold allL
 rw [zuj]
 constructor
 ·rintro ⟨j, h1, h2, h3⟩
  rw [hd] at h3
  obtain ⟨t, hq, ht, h4, h5⟩ := (zkt d [] q (by simp only [sumL]; omega)).1 h3
  rw [List.nil_append] at hq
  subst hq
  simp only [sumL] at h5
  refine ⟨by omega, fun e he => ?_, by omega⟩
  have := zry h4 e he
  have := h4 e he
  omega
 ·intro h
  have h1 := h.n; have h2 := h.b; have h3 := h.s
  refine ⟨sumL q, by omega, by omega, ?_⟩
  rw [hd]
  exact (zkt d [] q (by simp only [sumL]; omega)).2 ⟨q, rfl, by omega, fun e he => (h2 e he).1, by simp only [sumL]; omega⟩
end Go.V
end
section
namespace Go.V
open Go Go.Proofs

theorem hmix : Tryz.prog.follows .mixedOrders = true := by kernel_rfl
def kA : VV := (VV.agg [(.lit (.int .i64 (.ofNat 60))), (.lit (.int .i64 (.ofNat 40))), (.lit (.int .i64 (.ofNat 20))), (.lit (.int .i64 (.ofNat 1))), (.lit (.int .i64 (.ofNat 2))), (.lit (.int .i64 (.ofNat 1))), (.lit (.int .i64 (.ofNat 1))), (.lit (.int .i64 (.ofNat 0))), (.lit (.int .i64 (.ofNat 0))), (.lit (.int .i64 (.ofNat 5))), (.lit (.int .i64 (.ofNat 5))), (.lit (.int .i64 (.ofNat 5))), (VV.sl [(.lit (.int .i64 (.ofNat 80))), (.lit (.int .i64 (.ofNat 82))), (.lit (.int .i64 (.ofNat 20))), (.lit (.int .i64 (.ofNat 20))), (.lit (.int .i64 (.ofNat 0))), (.lit (.int .i64 (.ofNat 2))), (.lit (.int .i64 (.ofNat 20))), (.lit (.int .i64 (.ofNat 22))), (.lit (.int .i64 (.ofNat 60))), (.lit (.int .i64 (.ofNat 60))), (.lit (.int .i64 (.ofNat 40))), (.lit (.int .i64 (.ofNat 40))), (.lit (.int .i64 (.ofNat 50))), (.lit (.int .i64 (.ofNat 50))), (.lit (.int .i64 (.ofNat 10))), (.lit (.int .i64 (.ofNat 12))), (.lit (.int .i64 (.ofNat 30))), (.lit (.int .i64 (.ofNat 30)))] 3 Bool.false)])
def kB : VV := (VV.agg [(.lit (.int .i64 (.ofNat 60))), (.lit (.int .i64 (.ofNat 40))), (.lit (.int .i64 (.ofNat 20))), (.lit (.int .i64 (.ofNat 1))), (.lit (.int .i64 (.ofNat 2))), (.lit (.int .i64 (.ofNat 1))), (.lit (.int .i64 (.ofNat 1))), (.lit (.int .i64 (.ofNat 0))), (.lit (.int .i64 (.ofNat 0))), (.lit (.int .i64 (.ofNat 5))), (.lit (.int .i64 (.ofNat 5))), (.lit (.int .i64 (.ofNat 5))), (VV.sl [(.lit (.int .i64 (.ofNat 20))), (.lit (.int .i64 (.ofNat 22))), (.lit (.int .i64 (.ofNat 60))), (.lit (.int .i64 (.ofNat 60))), (.lit (.int .i64 (.ofNat 40))), (.lit (.int .i64 (.ofNat 40))), (.lit (.int .i64 (.ofNat 50))), (.lit (.int .i64 (.ofNat 50))), (.lit (.int .i64 (.ofNat 10))), (.lit (.int .i64 (.ofNat 12))), (.lit (.int .i64 (.ofNat 30))), (.lit (.int .i64 (.ofNat 30)))] 2 Bool.false)])
def kD : VV := (VV.agg [(.lit (.int .i64 (.ofNat 60))), (.lit (.int .i64 (.ofNat 40))), (.lit (.int .i64 (.ofNat 20))), (.lit (.int .i64 (.ofNat 1))), (.lit (.int .i64 (.ofNat 2))), (.lit (.int .i64 (.ofNat 1))), (.lit (.int .i64 (.ofNat 1))), (.lit (.int .i64 (.ofNat 0))), (.lit (.int .i64 (.ofNat 0))), (.lit (.int .i64 (.ofNat 2))), (.lit (.int .i64 (.ofNat 9))), (.lit (.int .i64 (.ofNat 5))), (VV.sl [(.lit (.int .i64 (.ofNat 80))), (.lit (.int .i64 (.ofNat 82))), (.lit (.int .i64 (.ofNat 20))), (.lit (.int .i64 (.ofNat 20))), (.lit (.int .i64 (.ofNat 0))), (.lit (.int .i64 (.ofNat 2))), (.lit (.int .i64 (.ofNat 20))), (.lit (.int .i64 (.ofNat 22))), (.lit (.int .i64 (.ofNat 60))), (.lit (.int .i64 (.ofNat 60))), (.lit (.int .i64 (.ofNat 40))), (.lit (.int .i64 (.ofNat 40))), (.lit (.int .i64 (.ofNat 50))), (.lit (.int .i64 (.ofNat 50))), (.lit (.int .i64 (.ofNat 10))), (.lit (.int .i64 (.ofNat 12))), (.lit (.int .i64 (.ofNat 30))), (.lit (.int .i64 (.ofNat 30)))] 3 Bool.false)])
def kAim : VV := (VV.tup [(VV.agg [(.lit (.int .i64 (.ofNat 42))), (.lit (.int .i64 (.ofNat 58))), (.lit (.int .i64 (.ofNat 31))), (.lit (.int .i64 (.ofNat 38))), (.lit (.int .i64 (.ofNat 20))), (.lit (.int .i64 (.ofNat 20)))]), (.lit (.int .i64 (.ofNat 0)))])
def kSums : VV := (VV.tup [(VV.agg [(.lit (.int .i64 (.ofNat 100))), (.lit (.int .i64 (.ofNat 104))), (.lit (.int .i64 (.ofNat 80))), (.lit (.int .i64 (.ofNat 80))), (.lit (.int .i64 (.ofNat 40))), (.lit (.int .i64 (.ofNat 42)))]), (.lit (.int .i64 (.ofNat 0)))])
def kTrue : VV := (VV.tup [(VV.lit (Value.bool Bool.true)), (.lit (.int .i64 (.ofNat 0)))])
def kWord : VV := (VV.tup [(.lit (.int .i64 (.ofNat 2))), (.lit (.int .i64 (.ofNat 0)))])
def kYears : VV := (VV.tup [(VV.agg [(.lit (.int .i64 (.ofNat 2))), (.lit (.int .i64 (.ofNat 5)))]), (.lit (.int .i64 (.ofNat 0)))])
def kRead : VV := (VV.tup [(VV.agg [(.lit (.int .i64 (.ofNat 1))), (.lit (.int .i64 (.ofNat 2))), (.lit (.int .i64 (.ofNat 3))), (.lit (.int .i64 (.ofNat 0))), (.lit (.int .i64 (.ofNat 0))), (.lit (.int .i64 (.ofNat 0))), (.lit (.int .i64 (.ofNat 0))), (.lit (.int .i64 (.ofNat 0))), (.lit (.int .i64 (.ofNat 0))), (.lit (.int .i64 (.ofNat 0))), (.lit (.int .i64 (.ofNat 0))), (.lit (.int .i64 (.ofNat 1))), (VV.sl [(.lit (.int .i64 (.ofNat 1))), (.lit (.int .i64 (.ofNat 1))), (.lit (.int .i64 (.ofNat 2))), (.lit (.int .i64 (.ofNat 2))), (.lit (.int .i64 (.ofNat 3))), (.lit (.int .i64 (.ofNat 3)))] 1 Bool.false)]), (.lit (.int .i64 (.ofNat 0)))])
def kCount : VV := .tup [.lit (.int .i64 9), .lit (.int .i64 0)]
def kNear : VV := .tup [.sl [.lit (.int .i64 1), .lit (.int .i64 1), .lit (.int .i64 0)] 3 false, .lit (.int .i64 5), .lit (.int .i64 0)]
def kNeeds : VV := .tup [.sl [.lit (.int .i64 0), .lit (.int .i64 1)] 2 false, .lit (.int .i64 0)]
def kProof : VV := .tup [.agg [.lit (.int .i64 0), .lit (.int .i64 0), .lit (.int .i64 (-2))], .lit (.int .i64 0)]
def kFirst : VV := .tup [.sl [.lit (.int .i64 1), .lit (.int .i64 1), .lit (.int .i64 0)] 3 false, .lit (.int .i64 0)]
def kMay : VV := .tup [.sl [.lit (.int .i64 1), .lit (.int .i64 1), .lit (.int .i64 0)] 3 false, .lit (.int .i64 0)]
theorem pA : VPure Tryz.prog G0 54 [] (.tree kA) := VPure.closedB hmix 1000 (by kernel_rfl)
theorem pB : VPure Tryz.prog G0 56 [] (.tree kB) := VPure.closedB hmix 1000 (by kernel_rfl)
theorem pD : VPure Tryz.prog G0 53 [] (.tree kD) := VPure.closedB hmix 1000 (by kernel_rfl)
theorem pAim : VPure Tryz.prog G0 18 [kD] (.tree kAim) := VPure.closedB hmix 1000 (by kernel_rfl)
theorem pSums : VPure Tryz.prog G0 19 [kA, .sl [.lit (.int .i64 (1)), .lit (.int .i64 (1)), .lit (.int .i64 (0))] 3 false] (.tree kSums) := VPure.closedB hmix 1000 (by kernel_rfl)
theorem pWord : VPure Tryz.prog G0 27 [kA, .sl [.lit (.int .i64 (3)), .lit (.int .i64 (2)), .lit (.int .i64 (0))] 3 false] (.tree kWord) := VPure.closedB hmix 1000 (by kernel_rfl)
theorem pTrue : VPure Tryz.prog G0 24 [kA, .sl [.lit (.int .i64 (1)), .lit (.int .i64 (1)), .lit (.int .i64 (0))] 3 false, .agg [.sl [.lit (.int .i64 80),.lit (.int .i64 20),.lit (.int .i64 0),.lit (.int .i64 20),.lit (.int .i64 60),.lit (.int .i64 40),.lit (.int .i64 50),.lit (.int .i64 10),.lit (.int .i64 30)] 3 false,.lit (.int .i64 5),.lit (.int .i64 2),.lit (.int .i64 1),.lit (.int .i64 0)]] (.tree kTrue) := VPure.closedB hmix 1000 (by kernel_rfl)
theorem pYears : VPure Tryz.prog G0 28 [kD, .sl [.lit (.int .i64 (1)), .lit (.int .i64 (1)), .lit (.int .i64 (0))] 3 false] (.tree kYears) := VPure.closedB hmix 1000 (by kernel_rfl)
theorem pRead : VPure Tryz.prog G0 57 [.lit (.string ⟨⟨[98, 111, 97, 114, 100, 32, 49, 32, 50, 32, 51, 32, 48, 32, 48, 32, 49, 10, 102, 97, 100, 101, 32, 48, 32, 48, 32, 48, 32, 48, 32, 48, 32, 48, 10, 116, 105, 110, 32, 49, 32, 49, 32, 50, 32, 50, 32, 51, 32, 51, 10, 101, 110, 100, 32, 49, 54, 52, 10]⟩⟩)] (.tree kRead) := VPure.closedB hmix 1000 (by kernel_rfl)
def zds (x0_a0 : List Int) (x1_a1 : Int) : Option (Bool) := some true
theorem zii (x0_a0 : List Int) (x1_a1 : Int) (R : Bool) (h : zds x0_a0 x1_a1 = some R) : VPure Tryz.prog G0 124 [.sl (cellsL eI x0_a0) (List.length x0_a0) false, .lit (.int .i64 x1_a1)] (.tree (.lit (.bool R))) := by
 refine VPure.runR mixed Tryz.call124 Tryz.func124 rfl (by simp [Tryz.ntmps124]; kernel_rfl) ?_
 obtain ⟨KF, h, kF, kN⟩ := zan h
 simp only [zds] at h
 try simp only [vz, tyf, nm, seval]
 obtain rfl := kF _ h
 exact zaa Tryz.results124 rfl
abbrev sD (x : Gi) : VV := .agg (cGi x)
def dirL : List (List Int) → Option (List Gi)
 | [] => some []
 | [a, b, c] :: L => Option.bind (dirL L) fun r => some (⟨IntKind.i64.wrap (a - 2), IntKind.i64.wrap (b - 2), IntKind.i64.wrap (c - 2)⟩ :: r)
 | _ => none
def zxa : Option (List Gi) := Option.bind (listsO (fun l j => zds l j) 5 3 []) dirL
def itD : VV := .fn (.func 123) [] []
def itDL : VV := .fn (.func 138) [] [.tp [.lit (.int .i64 3)], .tp [.lit (.int .i64 5)], .tp [.fn (.func 124) [] []]]
theorem zaoe : VPure Tryz.prog G0 104 [] (.tree itD) := by
 refine VPure.run mixed Tryz.call104 Tryz.func104 rfl (by simp [Tryz.ntmps104]; kernel_rfl) ?_
 simp only [vz, tyf, seval, ua, rg]
 exact ⟨rfl, itD, by simp [Tryz.results104, resV, resL, resV1, upd]; rfl, 20, rfl⟩
theorem zahn {e : List Int} {p : List (List Int)} {r : List Gi} (h : dirL (e :: p) = some r) : ∃ a b c r', e = [a, b, c] ∧ dirL p = some r' ∧ r = ⟨IntKind.i64.wrap (a - 2), IntKind.i64.wrap (b - 2), IntKind.i64.wrap (c - 2)⟩ :: r' := by
 match e, h with
 | [a, b, c], h =>
  simp only [dirL] at h
  rcases hr : dirL p with _ | r'
  ·rw [hr] at h; cases h
  rw [hr, Option.bind_some, Option.some.injEq] at h
  exact ⟨a, b, c, r', rfl, rfl, h.symm⟩
 | [], h => cases h
 | [_], h => cases h
 | [_, _], h => cases h
 | _ :: _ :: _ :: _ :: _, h => cases h
theorem zahp (R : List Gi) (h : zxa = some R) : Iter Tryz.prog G0 itD (R.map sD) := by
 unfold zxa at h
 rcases hL : listsO (fun l j => zds l j) 5 3 [] with _ | L
 ·rw [hL] at h; cases h
 rw [hL, Option.bind_some] at h
 have hit : Iter Tryz.prog G0 itDL (L.map sI) := zsf (ln := 3) (lim := 5) (mc := []) rfl (by omega) (by omega) (by omega) hL (fun p j b hb => zii p j b hb)
 refine ⟨123, [], [], rfl, fun β I hst hr H nx hβ hI => ?_⟩
 refine VOpen.run mixed Tryz.call123 Tryz.func123 rfl (by simp [Tryz.ntmps123]; kernel_rfl) ?_
 simp only [List.nil_append, List.cons_append, argsTm1, vz, tyf, seval, ua, rg]
 refine ktree (args0 := [.lit (.int .i64 3), .lit (.int .i64 5), .fn (.func 124) [] []]) (by simp only [nrm, tynrm, zaav] <;> rfl) rfl (zaek (mc := []) (mf := 124) rfl) ?_
 simp only [vz, tyf, seval, ua, rg]
 refine zlx (fun tm => tm 5 = itDL ∧ tm 1 = .ptr nx 0) (by refine ⟨?_, ?_⟩ <;> simp only [ua, seval, Nat.add_zero] <;> rfl) ?_
 rintro tm ⟨e5, e1⟩
 refine zgn hit (by first | (simp only [zmo, zis, e5, zev, seval] <;> rfl) | rfl) ?_
 intro LO hLO
 obtain ⟨J, hJ⟩ : ∃ J : Option (List VV) → Option (List VV) → List (Nat × VObj) → Prop, J = (fun o o' hp => match o with
  | some l => ∃ (p : List (List Int)) (L2 : List Gi), l = p.map sI ∧ dirL p = some L2 ∧ o' = some (L2.map sD) ∧ hp = [(nx, .cells (some 162) [.yl β]), (nx + 4, .deferred (some [])), (nx + 5, LO)]
  | none => ∃ LD : Code → VObj, (∃ tml ps az bo d, LD = fun c => VObj.loop .done (some c) tml ps az bo d) ∧ o' = none ∧ hp = [(nx, .cells (some 162) [.yl β]), (nx + 4, .deferred (some [])), (nx + 5, LD .ret)]) := ⟨_, rfl⟩
 have hfr : ∀ (O : VObj) γ, (∃ q ∈ [(nx, .cells (some 162) [.yl β]), (nx + 4, .deferred (some [])), (nx + 5, O)], (q : Nat × VObj).1 = γ) ↔ γ = nx ∨ γ = nx + 4 ∨ γ = nx + 5 := by
  intro O γ
  simp [eq_comm]
 refine ⟨ownI2 I J, zkr hst, ?_, ?_, ?_⟩
 ·rintro v rest Fr H1 nx1 hFr ⟨hp, o', hown, hj, hi⟩
  rw [hJ] at hj
  obtain ⟨p, L2, hl, hf, rfl, rfl⟩ := hj
  cases p with
  | nil => cases hl
  | cons e p =>
  simp only [List.map_cons, List.cons.injEq] at hl
  obtain ⟨rfl, rfl⟩ := hl
  obtain ⟨a, b, c, L3, rfl, hf2, rfl⟩ := zahn hf
  obtain ⟨la, na, Ha⟩ := hown.head
  obtain ⟨lb, nb, Hb⟩ := hown.tail.head
  obtain ⟨lc, nc, Hc⟩ := hown.tail.tail.head
  simp only [hfr] at hi
  refine zfn mixed (psl := [6]) hLO Hc zgp rfl (by kernel_rfl) (by kernel_rfl) ?_
  intro LB LD hLB hLD
  refine zhl (fun tm => tm 6 = sI [a, b, c] ∧ tm 1 = .ptr nx 0) (by refine ⟨?_, ?_⟩ <;> simp only [ziv, zhk, Tryz.ntmps123, e1, seval]) ?_
  clear e5 e1
  rintro tm ⟨e6, e1⟩
  have i0 : getI [a, b, c] 0 = some a := rfl
  have i1 : getI [a, b, c] 1 = some b := rfl
  have i2 : getI [a, b, c] 2 = some c := rfl
  have hne : (nx = nx + 5) = False := by simp
  simp only [vz, tyf, seval, ua, nm, rg, RStart, e6, e1, Ha, Hc, hne]
  refine zlx (fun tm => tm 3 = sI [a, b, c] ∧ tm 1 = .ptr nx 0) (by refine ⟨?_, ?_⟩ <;> simp only [ua, seval, e6, e1]) ?_
  clear e6 e1
  rintro tm ⟨e3, e1⟩
  refine zyo mixed 14 rfl rfl rfl (by kernel_rfl) ?_
  simp only [vz, tyf, seval, ua, nm, rg, e3, e1, Ha, hne, (ix29 i0), (ix29 i1), (ix29 i2)]
  obtain ⟨D, hD⟩ : ∃ D : Gi, D = ⟨IntKind.i64.wrap (a - 2), IntKind.i64.wrap (b - 2), IntKind.i64.wrap (c - 2)⟩ := ⟨_, rfl⟩
  rw [← hD] at hi
  have hDc : sD D = VV.agg [.lit (.int .i64 (IntKind.i64.wrap (a - 2))), .lit (.int .i64 (IntKind.i64.wrap (b - 2))), .lit (.int .i64 (IntKind.i64.wrap (c - 2)))] := by rw [hD]; rfl
  rw [← hDc]
  have hi2 : I (some (sD D :: L3.map sD)) (fun γ => Fr γ ∨ γ = nx ∨ γ = nx + 4 ∨ γ = nx + 5) (updH H1 (nx + 5) LB) (nx1 + 17) := by
   refine hst _ _ _ _ _ _ _ hi ?_ (by omega) (fun γ h => .inl h)
   intro γ _ hn
   have g3 : γ ≠ nx + 5 := fun e => hn (.inr (.inr (.inr e)))
   simp only [updH]
   rw [if_neg g3]
  refine (hr (sD D) (L3.map sD) _ _ _ ?_ hi2) (some (some (nx + 5))) _ _ _ rfl rfl ?_
  ·rintro γ (hγ | rfl | rfl | rfl)
   ·have := hFr γ hγ; omega
   ·omega
   ·omega
   ·omega
  rintro t H2 nx2 ⟨q1, q2, q3⟩
  have Ka : H2 nx = some (.cells (some 162) [.yl β]) := by
   rw [q2 nx (.inr (.inl rfl))]
   simp only [updH]
   rw [if_neg (by omega)]
   exact Ha
  have Kb : H2 (nx + 4) = some (.deferred (some [])) := by
   rw [q2 _ (.inr (.inr (.inl rfl)))]
   simp only [updH]
   rw [if_neg (by omega)]
   exact Hb
  have Kc : H2 (nx + 5) = some LB := by
   rw [q2 _ (.inr (.inr (.inr rfl)))]
   simp only [zac, seval]
  have KF : ∀ γ, Fr γ → H2 γ = H1 γ := by
   intro γ hγ
   have g3 : γ ≠ nx + 5 := fun e => nc (e ▸ hγ)
   rw [q2 γ (.inl hγ)]
   simp only [updH]
   rw [if_neg g3]
  have KO : ∀ (O : VObj), Own [(nx, .cells (some 162) [.yl β]), (nx + 4, .deferred (some [])), (nx + 5, O)] Fr (updH H2 (nx + 5) O) nx2 := by
   intro O
   refine Own.cons (show nx < nx2 by omega) na ?_ (Own.cons (show nx + 4 < nx2 by omega) nb ?_ (Own.cons (show nx + 5 < nx2 by omega) nc ?_ Own.nil))
   ·simp only [updH]
    rw [if_neg (by omega)]
    exact Ka
   ·simp only [updH]
    rw [if_neg (by omega)]
    exact Kb
   ·simp only [zac, seval]
  cases t with
  | true =>
   simp only [vz, tyf, seval, ua, nm, rg, Bool.not_true]
   refine ⟨Kc, (show nx1 ≤ nx2 by omega), fun γ hγ => ?_, ?_⟩
   ·have g3 : γ ≠ nx + 5 := fun e => nc (e ▸ hγ)
    simp only [updH]
    rw [if_neg g3]
    exact KF γ hγ
   ·simp only [if_true] at q3 ⊢
    refine ⟨_, _, KO LO, by rw [hJ]; exact ⟨p, L3, rfl, hf2, rfl, rfl⟩, ?_⟩
    simp only [hfr]
    refine hst _ _ _ _ _ _ _ q3 ?_ (by omega) (fun γ h => .inl h)
    intro γ _ hn
    have g3 : γ ≠ nx + 5 := fun e => hn (.inr (.inr (.inr e)))
    simp only [updH]
    rw [if_neg g3]
  | false =>
   simp only [vz, tyf, seval, ua, nm, rg, Bool.not_false]
   refine ⟨Kc, (show nx1 ≤ nx2 by omega), fun γ hγ => ?_, ?_⟩
   ·have g3 : γ ≠ nx + 5 := fun e => nc (e ▸ hγ)
    simp only [updH]
    rw [if_neg g3]
    exact KF γ hγ
   ·simp only [Bool.false_eq_true, if_false] at q3 ⊢
    refine ⟨_, _, KO (LD .ret), by rw [hJ]; exact ⟨LD, ⟨_, _, _, _, _, hLD⟩, rfl, rfl⟩, ?_⟩
    simp only [hfr]
    refine hst _ _ _ _ _ _ _ q3 ?_ (by omega) (fun γ h => .inl h)
    intro γ _ hn
    have g3 : γ ≠ nx + 5 := fun e => hn (.inr (.inr (.inr e)))
    simp only [updH]
    rw [if_neg g3]
 ·refine ⟨_, _, ?_, by rw [hJ]; exact ⟨L, R, rfl, h, rfl, rfl⟩, ?_⟩
  ·refine Own.cons (show nx < nx + 4 + 2 by omega) (fun h => h) ?_ (Own.cons (show nx + 4 < nx + 4 + 2 by omega) (fun h => h) ?_ (Own.cons (show nx + 5 < nx + 4 + 2 by omega) (fun h => h) ?_ Own.nil))
   ·simp only [updH]
    rw [if_neg (by omega), if_neg (by omega)]
    simp
   ·simp only [updH]
    simp
   ·simp only [updH]
    simp
  ·simp only [hfr]
   refine hst _ _ _ _ _ _ _ hI ?_ (by omega) ?_
   ·intro γ hγ _
    simp only [updH]
    repeat rw [if_neg (by omega)]
   ·rintro γ (h | rfl | rfl | rfl)
    ·exact h.elim
    ·right; omega
    ·right; omega
    ·right; omega
 ·rintro H' nx' (⟨hp, o', hown, hj, hi⟩ | ⟨hp, o', hown, hj, hi⟩)
  ·rw [hJ] at hj
   obtain ⟨p, L2, hl, hf, rfl, rfl⟩ := hj
   cases p with
   | cons e p => cases hl
   | nil =>
   simp only [dirL, Option.some.injEq] at hf
   subst hf
   obtain ⟨la, na, Ha⟩ := hown.head
   obtain ⟨lb, nb, Hb⟩ := hown.tail.head
   obtain ⟨lc, nc, Hc⟩ := hown.tail.tail.head
   simp only [hfr] at hi
   refine zet hLO Hc ?_
   intro LX
   simp only [vz, tyf, seval, ua, nm, rg]
   refine zqp (by simp only [zac, nm, seval, Hb]) ?_
   refine ziz (x := .tup []) (by simp [Tryz.results123, resV, resL]) (.inl ?_)
   refine hst _ _ _ _ _ _ _ hi ?_ (Nat.le_refl _) (fun γ h => h.elim)
   intro γ _ hn
   have g2 : γ ≠ nx + 4 := fun e => hn (.inr (.inr (.inl e)))
   have g3 : γ ≠ nx + 5 := fun e => hn (.inr (.inr (.inr e)))
   simp only [updH]
   repeat rw [if_neg (by first | assumption | omega)]
  ·rw [hJ] at hj
   obtain ⟨LD, ⟨tml, ps, az, bo, d, hLD⟩, rfl, rfl⟩ := hj
   obtain ⟨la, na, Ha⟩ := hown.head
   obtain ⟨lb, nb, Hb⟩ := hown.tail.head
   obtain ⟨lc, nc, Hc⟩ := hown.tail.tail.head
   simp only [hfr] at hi
   refine zgb hLD Hc ?_
   intro LX
   simp only [vz, tyf, seval, ua, nm, rg]
   refine zgq (by simp only [zac, nm, seval, Hb]) ?_
   refine zaw (x := .tup []) (by simp [Tryz.results123, resV, resL]) (.inr ?_)
   refine hst _ _ _ _ _ _ _ hi ?_ (Nat.le_refl _) (fun γ h => h.elim)
   intro γ _ hn
   have g2 : γ ≠ nx + 4 := fun e => hn (.inr (.inr (.inl e)))
   have g3 : γ ≠ nx + 5 := fun e => hn (.inr (.inr (.inr e)))
   simp only [updH]
   repeat rw [if_neg (by first | assumption | omega)]
def zbv (x0_d : Gi) (x1_amounts : Ga) : Option (GSpan) := some (GSpan.mk (IntKind.i64.wrap ((IntKind.i64.wrap ((IntKind.i64.wrap (0 + (if (IntKind.i64.wrap (x0_d.a0 * x1_amounts.a0.High)) < (IntKind.i64.wrap (x0_d.a0 * x1_amounts.a0.Low)) then (IntKind.i64.wrap (x0_d.a0 * x1_amounts.a0.High)) else (IntKind.i64.wrap (x0_d.a0 * x1_amounts.a0.Low))))) + (if (IntKind.i64.wrap (x0_d.a1 * x1_amounts.a1.High)) < (IntKind.i64.wrap (x0_d.a1 * x1_amounts.a1.Low)) then (IntKind.i64.wrap (x0_d.a1 * x1_amounts.a1.High)) else (IntKind.i64.wrap (x0_d.a1 * x1_amounts.a1.Low))))) + (if (IntKind.i64.wrap (x0_d.a2 * x1_amounts.a2.High)) < (IntKind.i64.wrap (x0_d.a2 * x1_amounts.a2.Low)) then (IntKind.i64.wrap (x0_d.a2 * x1_amounts.a2.High)) else (IntKind.i64.wrap (x0_d.a2 * x1_amounts.a2.Low))))) (IntKind.i64.wrap ((IntKind.i64.wrap ((IntKind.i64.wrap (0 + (if (IntKind.i64.wrap (x0_d.a0 * x1_amounts.a0.Low)) < (IntKind.i64.wrap (x0_d.a0 * x1_amounts.a0.High)) then (IntKind.i64.wrap (x0_d.a0 * x1_amounts.a0.High)) else (IntKind.i64.wrap (x0_d.a0 * x1_amounts.a0.Low))))) + (if (IntKind.i64.wrap (x0_d.a1 * x1_amounts.a1.Low)) < (IntKind.i64.wrap (x0_d.a1 * x1_amounts.a1.High)) then (IntKind.i64.wrap (x0_d.a1 * x1_amounts.a1.High)) else (IntKind.i64.wrap (x0_d.a1 * x1_amounts.a1.Low))))) + (if (IntKind.i64.wrap (x0_d.a2 * x1_amounts.a2.Low)) < (IntKind.i64.wrap (x0_d.a2 * x1_amounts.a2.High)) then (IntKind.i64.wrap (x0_d.a2 * x1_amounts.a2.High)) else (IntKind.i64.wrap (x0_d.a2 * x1_amounts.a2.Low))))))
theorem zff (x0_d : Gi) (x1_amounts : Ga) (R : GSpan) (h : zbv x0_d x1_amounts = some R) : VPure Tryz.prog G0 105 [.agg (cGi x0_d), .agg (cGa x1_amounts)] (.tree (.agg (cGSpan R))) := by
 refine VPure.runR mixed Tryz.call105 Tryz.func105 rfl (by simp [Tryz.ntmps105]; kernel_rfl) ?_
 obtain ⟨KF, h, kF, kN⟩ := zan h
 simp only [zbv] at h
 simp only [vz, tyf, nm, seval]
 refine zfs mixed (by kernel_rfl) 4 ?_
 simp only [vz, tyf, nm, seval]
 refine zfu (fun tm => tm 3 = .ptr 1 0 ∧ tm 4 = .ptr 2 0 ∧ tm 5 = .ptr 3 0 ∧ tm 6 = .lit (.int .i64 0) ∧ tm 7 = .lit (.int .i64 x0_d.a0) ∧ tm 10 = .agg (cGi x0_d) ∧ tm 11 = .lit (.int .i64 0) ∧ True) (by refine ⟨?_, ?_, ?_, ?_, ?_, ?_, ?_, trivial⟩ <;> first | (simp only [ua, nm, seval] <;> rfl) | rfl) ?_
 rintro tm ⟨e1, e2, e3, e4, e5, e6, e7, _⟩
 simp only [vz, tyf, e1, e2, e3, e4, e5, e6, e7, nm, seval]
 refine zfu (fun tm => tm 3 = .ptr 1 0 ∧ tm 4 = .ptr 2 0 ∧ tm 5 = .ptr 3 0 ∧ tm 6 = .lit (.int .i64 1) ∧ tm 7 = .lit (.int .i64 x0_d.a1) ∧ tm 10 = .agg (cGi x0_d) ∧ tm 11 = .lit (.int .i64 1) ∧ True) (by refine ⟨e1, e2, e3, ?_, ?_, e6, ?_, trivial⟩ <;> first | (simp only [ua, e1, e2, e3, e4, e5, e6, e7, nm, seval] <;> rfl) | rfl) ?_
 rintro tm ⟨e8, e9, e10, e11, e12, e13, e14, _⟩
 simp only [vz, tyf, e8, e9, e10, e11, e12, e13, e14, nm, seval]
 refine zfu (fun tm => tm 3 = .ptr 1 0 ∧ tm 4 = .ptr 2 0 ∧ tm 5 = .ptr 3 0 ∧ tm 6 = .lit (.int .i64 2) ∧ tm 7 = .lit (.int .i64 x0_d.a2) ∧ tm 10 = .agg (cGi x0_d) ∧ tm 11 = .lit (.int .i64 2) ∧ True) (by refine ⟨e8, e9, e10, ?_, ?_, e13, ?_, trivial⟩ <;> first | (simp only [ua, e8, e9, e10, e11, e12, e13, e14, nm, seval] <;> rfl) | rfl) ?_
 rintro tm ⟨e15, e16, e17, e18, e19, e20, e21, _⟩
 try simp only [vz, tyf, e15, e16, e17, e18, e19, e20, e21, nm, seval]
 refine zaw (x := (.agg ([.lit (.int .i64 (IntKind.i64.wrap ((IntKind.i64.wrap ((IntKind.i64.wrap (0 + (if (IntKind.i64.wrap (x0_d.a0 * x1_amounts.a0.High)) < (IntKind.i64.wrap (x0_d.a0 * x1_amounts.a0.Low)) then (IntKind.i64.wrap (x0_d.a0 * x1_amounts.a0.High)) else (IntKind.i64.wrap (x0_d.a0 * x1_amounts.a0.Low))))) + (if (IntKind.i64.wrap (x0_d.a1 * x1_amounts.a1.High)) < (IntKind.i64.wrap (x0_d.a1 * x1_amounts.a1.Low)) then (IntKind.i64.wrap (x0_d.a1 * x1_amounts.a1.High)) else (IntKind.i64.wrap (x0_d.a1 * x1_amounts.a1.Low))))) + (if (IntKind.i64.wrap (x0_d.a2 * x1_amounts.a2.High)) < (IntKind.i64.wrap (x0_d.a2 * x1_amounts.a2.Low)) then (IntKind.i64.wrap (x0_d.a2 * x1_amounts.a2.High)) else (IntKind.i64.wrap (x0_d.a2 * x1_amounts.a2.Low))))))] ++ [.lit (.int .i64 (IntKind.i64.wrap ((IntKind.i64.wrap ((IntKind.i64.wrap (0 + (if (IntKind.i64.wrap (x0_d.a0 * x1_amounts.a0.Low)) < (IntKind.i64.wrap (x0_d.a0 * x1_amounts.a0.High)) then (IntKind.i64.wrap (x0_d.a0 * x1_amounts.a0.High)) else (IntKind.i64.wrap (x0_d.a0 * x1_amounts.a0.Low))))) + (if (IntKind.i64.wrap (x0_d.a1 * x1_amounts.a1.Low)) < (IntKind.i64.wrap (x0_d.a1 * x1_amounts.a1.High)) then (IntKind.i64.wrap (x0_d.a1 * x1_amounts.a1.High)) else (IntKind.i64.wrap (x0_d.a1 * x1_amounts.a1.Low))))) + (if (IntKind.i64.wrap (x0_d.a2 * x1_amounts.a2.Low)) < (IntKind.i64.wrap (x0_d.a2 * x1_amounts.a2.High)) then (IntKind.i64.wrap (x0_d.a2 * x1_amounts.a2.High)) else (IntKind.i64.wrap (x0_d.a2 * x1_amounts.a2.Low))))))]))) (by first | (simp only [Tryz.results105, resV, resL, resV1, zba, zbz, uw, cr, tyf, e15, e16, e17, e18, e19, e20, e21, nm, seval] <;> rfl) | rfl) ?_
 obtain rfl := kF _ h
 refine zbb ?_ ?_
 ·simp only [tre, tytre, Bool.and_self]
 ·first | (simp only [outV, uw, zak, cr, tyf, nrm, tynrm, e15, e16, e17, e18, e19, e20, e21, nm, seval] <;> rfl) | rfl
def zdu (x0_d : Gi) : Option (Int) := some (IntKind.i64.wrap ((IntKind.i64.wrap ((IntKind.i64.wrap (0 + (if x0_d.a0 < (IntKind.i64.wrap (-x0_d.a0)) then (IntKind.i64.wrap (-x0_d.a0)) else x0_d.a0))) + (if x0_d.a1 < (IntKind.i64.wrap (-x0_d.a1)) then (IntKind.i64.wrap (-x0_d.a1)) else x0_d.a1))) + (if x0_d.a2 < (IntKind.i64.wrap (-x0_d.a2)) then (IntKind.i64.wrap (-x0_d.a2)) else x0_d.a2)))
theorem zij (x0_d : Gi) (R : Int) (h : zdu x0_d = some R) : VPure Tryz.prog G0 106 [.agg (cGi x0_d)] (.tree (.lit (.int .i64 R))) := by
 refine VPure.runR mixed Tryz.call106 Tryz.func106 rfl (by simp [Tryz.ntmps106]; kernel_rfl) ?_
 obtain ⟨KF, h, kF, kN⟩ := zan h
 simp only [zdu] at h
 simp only [vz, qr, tyf, nm, seval]
 refine zfs mixed (by kernel_rfl) 4 ?_
 try simp only [vz, qr, tyf, nm, seval]
 refine zaw (x := (.lit (.int .i64 (IntKind.i64.wrap ((IntKind.i64.wrap ((IntKind.i64.wrap (0 + (if x0_d.a0 < (IntKind.i64.wrap (-x0_d.a0)) then (IntKind.i64.wrap (-x0_d.a0)) else x0_d.a0))) + (if x0_d.a1 < (IntKind.i64.wrap (-x0_d.a1)) then (IntKind.i64.wrap (-x0_d.a1)) else x0_d.a1))) + (if x0_d.a2 < (IntKind.i64.wrap (-x0_d.a2)) then (IntKind.i64.wrap (-x0_d.a2)) else x0_d.a2)))))) (by first | (simp only [Tryz.results106, resV, resL, resV1, zba, zbz, uw, cr, tyf, nm, seval] <;> rfl) | rfl) ?_
 obtain rfl := kF _ h
 refine zbb ?_ ?_
 ·simp only [tre, tytre, Bool.and_self]
 ·first | (simp only [outV, uw, zak, cr, tyf, nrm, tynrm, nm, seval] <;> rfl) | rfl
end Go.V
end
