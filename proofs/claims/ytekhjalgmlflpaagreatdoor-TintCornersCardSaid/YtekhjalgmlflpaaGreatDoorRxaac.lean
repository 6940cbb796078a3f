/- Part of a proof. -/
import Derived.Test.YtekhjalgmlflpaaGreatDoorRbj
set_option linter.all false
set_option maxRecDepth 4000
set_option maxHeartbeats 40000000
section
set_option maxRecDepth 100000
namespace Go.V
open Go Go.Proofs
def zhf (x : Gs) : Prop := lenOk x.Tins = true
section
variable {P : Program} (hu3 : P.underlying 3 = some (.int .i64)) (hu22 : P.underlying 22 = some (.array 3 3)) {f24 : Array Field} (hu24 : P.underlying 24 = some (.struct f24)) (ht24 : f24.toList.map Field.type = [3, 3]) (hu25 : P.underlying 25 = some (.array 3 24)) {f94 : Array Field} (hu94 : P.underlying 94 = some (.struct f94)) (ht94 : f94.toList.map Field.type = [25]) (hu26 : P.underlying 26 = some (.slice 94)) {f28 : Array Field} (hu28 : P.underlying 28 = some (.struct f28)) (ht28 : f28.toList.map Field.type = [22, 25, 24, 3, 26]) (hu29 : P.underlying 29 = some (.slice 3))
include hu3 hu22 hu24 ht24 hu25 hu94 ht94 hu26 hu28 ht28 hu29
theorem gd_3 {n : Nat} : Dec P (n + 1) 3 eI (fun _ => True) := zakq hu3
theorem gd_22 {n : Nat} : Dec P (n + 2) 22 cGi (fun _ => True) := by
 intro xs h
 obtain ⟨yss, hf, rfl⟩ := znv (n := n + 1) (ts := [3, 3, 3]) hu22 rfl h
 match yss, hf with
 | [y0, y1, y2], ⟨h0, h1, h2, _⟩ =>
  obtain ⟨x0, r0, e0⟩ := gd_3 hu3 hu22 hu24 ht24 hu25 hu94 ht94 hu26 hu28 ht28 hu29 (n := n + 0) _ h0
  obtain ⟨x1, r1, e1⟩ := gd_3 hu3 hu22 hu24 ht24 hu25 hu94 ht94 hu26 hu28 ht28 hu29 (n := n + 0) _ h1
  obtain ⟨x2, r2, e2⟩ := gd_3 hu3 hu22 hu24 ht24 hu25 hu94 ht94 hu26 hu28 ht28 hu29 (n := n + 0) _ h2
  exact ⟨⟨x0, x1, x2⟩, trivial, by simp only [List.flatten_cons, List.flatten_nil, List.append_nil, zcy, e0, e1, e2, eI, eU8, eB, eS, eSl, zfy, List.cons_append, List.nil_append]⟩
theorem gd_24 {n : Nat} : Dec P (n + 2) 24 cGSpan (fun _ => True) := by
 intro xs h
 obtain ⟨yss, hf, rfl⟩ := zhz (n := n + 1) (ts := [3, 3]) hu24 ht24 h
 match yss, hf with
 | [y0, y1], ⟨h0, h1, _⟩ =>
  obtain ⟨x0, r0, e0⟩ := gd_3 hu3 hu22 hu24 ht24 hu25 hu94 ht94 hu26 hu28 ht28 hu29 (n := n + 0) _ h0
  obtain ⟨x1, r1, e1⟩ := gd_3 hu3 hu22 hu24 ht24 hu25 hu94 ht94 hu26 hu28 ht28 hu29 (n := n + 0) _ h1
  exact ⟨⟨x0, x1⟩, trivial, by simp only [List.flatten_cons, List.flatten_nil, List.append_nil, zcy, e0, e1, eI, eU8, eB, eS, eSl, zgc, List.cons_append, List.nil_append]⟩
theorem gd_25 {n : Nat} : Dec P (n + 3) 25 cGa (fun _ => True) := by
 intro xs h
 obtain ⟨yss, hf, rfl⟩ := znv (n := n + 2) (ts := [24, 24, 24]) hu25 rfl h
 match yss, hf with
 | [y0, y1, y2], ⟨h0, h1, h2, _⟩ =>
  obtain ⟨x0, r0, e0⟩ := gd_24 hu3 hu22 hu24 ht24 hu25 hu94 ht94 hu26 hu28 ht28 hu29 (n := n + 0) _ h0
  obtain ⟨x1, r1, e1⟩ := gd_24 hu3 hu22 hu24 ht24 hu25 hu94 ht94 hu26 hu28 ht28 hu29 (n := n + 0) _ h1
  obtain ⟨x2, r2, e2⟩ := gd_24 hu3 hu22 hu24 ht24 hu25 hu94 ht94 hu26 hu28 ht28 hu29 (n := n + 0) _ h2
  exact ⟨⟨x0, x1, x2⟩, trivial, by simp only [List.flatten_cons, List.flatten_nil, List.append_nil, zcy, e0, e1, e2, eI, eU8, eB, eS, eSl, zeh, zgc, List.cons_append, List.nil_append]⟩
theorem gd_94 {n : Nat} : Dec P (n + 4) 94 cGt (fun _ => True) := by
 intro xs h
 obtain ⟨yss, hf, rfl⟩ := zhz (n := n + 3) (ts := [25]) hu94 ht94 h
 match yss, hf with
 | [y0], ⟨h0, _⟩ =>
  obtain ⟨x0, r0, e0⟩ := gd_25 hu3 hu22 hu24 ht24 hu25 hu94 ht94 hu26 hu28 ht28 hu29 (n := n + 0) _ h0
  exact ⟨⟨x0⟩, trivial, by simp only [List.flatten_cons, List.flatten_nil, List.append_nil, zcy, e0, eI, eU8, eB, eS, eSl, zeh, zgc, zgi, List.cons_append, List.nil_append]⟩
theorem gd_26 {n : Nat} : Dec P (n + 5) 26 (eSl cGt) (fun l => lenOk l = true ∧ ∀ x ∈ l, True) := zmk hu26 (gd_94 hu3 hu22 hu24 ht24 hu25 hu94 ht94 hu26 hu28 ht28 hu29 (n := n))
theorem gd_28 {n : Nat} : Dec P (n + 6) 28 cGs (zhf) := by
 intro xs h
 obtain ⟨yss, hf, rfl⟩ := zhz (n := n + 5) (ts := [22, 25, 24, 3, 26]) hu28 ht28 h
 match yss, hf with
 | [y0, y1, y2, y3, y4], ⟨h0, h1, h2, h3, h4, _⟩ =>
  obtain ⟨x0, r0, e0⟩ := gd_22 hu3 hu22 hu24 ht24 hu25 hu94 ht94 hu26 hu28 ht28 hu29 (n := n + 3) _ h0
  obtain ⟨x1, r1, e1⟩ := gd_25 hu3 hu22 hu24 ht24 hu25 hu94 ht94 hu26 hu28 ht28 hu29 (n := n + 2) _ h1
  obtain ⟨x2, r2, e2⟩ := gd_24 hu3 hu22 hu24 ht24 hu25 hu94 ht94 hu26 hu28 ht28 hu29 (n := n + 3) _ h2
  obtain ⟨x3, r3, e3⟩ := gd_3 hu3 hu22 hu24 ht24 hu25 hu94 ht94 hu26 hu28 ht28 hu29 (n := n + 4) _ h3
  obtain ⟨x4, r4, e4⟩ := gd_26 hu3 hu22 hu24 ht24 hu25 hu94 ht94 hu26 hu28 ht28 hu29 (n := n + 0) _ h4
  exact ⟨⟨x0, x1, x2, x3, x4⟩, r4.1, by simp only [List.flatten_cons, List.flatten_nil, List.append_nil, zcy, e0, e1, e2, e3, e4, eI, eU8, eB, eS, eSl, zeh, zfy, zgc, zfn, List.cons_append, List.nil_append]⟩
theorem gd_29 {n : Nat} : Dec P (n + 2) 29 (eSl eI) (fun l => lenOk l = true ∧ ∀ x ∈ l, True) := zmk hu29 (gd_3 hu3 hu22 hu24 ht24 hu25 hu94 ht94 hu26 hu28 ht28 hu29 (n := n))
end
theorem zanp {n : Nat} : Dec Tryz.prog (n + 6) 28 cGs (zhf) := gd_28 Tryz.underlying3 Tryz.underlying22 Tryz.underlying24 (by kernel_rfl) Tryz.underlying25 Tryz.underlying94 (by kernel_rfl) Tryz.underlying26 Tryz.underlying28 (by kernel_rfl) Tryz.underlying29
theorem zajf {n : Nat} : Dec Tryz.prog (n + 2) 29 (eSl eI) (fun l => lenOk l = true ∧ ∀ x ∈ l, True) := gd_29 Tryz.underlying3 Tryz.underlying22 Tryz.underlying24 (by kernel_rfl) Tryz.underlying25 Tryz.underlying94 (by kernel_rfl) Tryz.underlying26 Tryz.underlying28 (by kernel_rfl) Tryz.underlying29
end Go.V
end
section
namespace Go.V
open Go Go.Proofs
def zbj (x0_s : Gs) (e2 : Gt) : Nat → Int → Int → Int → Int → Int → Int → Int → Option (LOut (Gu) (Int × Int × Int × Int × Int × Int))
 | 0, c3_8, c3_o0, c3_o1, c3_o2, c3_o3, c3_o4, c3_o5 => some (.go (c3_o0, c3_o1, c3_o2, c3_o3, c3_o4, c3_o5))
 | k3 + 1, c3_8, c3_o0, c3_o1, c3_o2, c3_o3, c3_o4, c3_o5 => cond (c3_8 == 0) (zbj x0_s e2 k3 (c3_8 + 1) x0_s.Fade.a0.Low c3_o1 c3_o2 e2.pg.a0.Low c3_o4 c3_o5) (cond (c3_8 == 1) (zbj x0_s e2 k3 (c3_8 + 1) c3_o0 x0_s.Fade.a1.Low c3_o2 c3_o3 e2.pg.a1.Low c3_o5) (cond (c3_8 == 2) (zbj x0_s e2 k3 (c3_8 + 1) c3_o0 c3_o1 x0_s.Fade.a2.Low c3_o3 c3_o4 e2.pg.a2.Low) (none)))
def zbf (x0_s : Gs) : List Gt → Int → (List Gi) → Int → Int → Int → Option (LOut (Gu) ((List Gi) × Int × Int × Int))
 | [], c2_6, c2_o0, c2_o1, c2_o2, c2_o3 => some (.go (c2_o0, c2_o1, c2_o2, c2_o3))
 | e2 :: p2, c2_6, c2_o0, c2_o1, c2_o2, c2_o3 => cond (boundOk 3) (lbind (zbj x0_s e2 (Int.toNat (3 - 0)) 0 c2_o1 c2_o2 c2_o3 0 0 0) (fun r8 => some (.ret r8)) (fun c7 => cond (roomOk 24 (List.length (c2_o0 ++ [(Gi.mk c7.2.2.2.1 c7.2.2.2.2.1 c7.2.2.2.2.2)]))) (zbf x0_s p2 (c2_6 + 1) (c2_o0 ++ [(Gi.mk c7.2.2.2.1 c7.2.2.2.2.1 c7.2.2.2.2.2)]) c7.1 c7.2.1 c7.2.2.1) none) (fun _ _ => none)) none
def zbi (x0_s : Gs) (e0 : Gt) : Nat → Int → Int → Int → Int → Int → Int → Int → Option (LOut (Gu) (Int × Int × Int × Int × Int × Int))
 | 0, c1_8, c1_o0, c1_o1, c1_o2, c1_o3, c1_o4, c1_o5 => some (.go (c1_o0, c1_o1, c1_o2, c1_o3, c1_o4, c1_o5))
 | k1 + 1, c1_8, c1_o0, c1_o1, c1_o2, c1_o3, c1_o4, c1_o5 => cond (c1_8 == 0) (zbi x0_s e0 k1 (c1_8 + 1) x0_s.Fade.a0.High c1_o1 c1_o2 e0.pg.a0.High c1_o4 c1_o5) (cond (c1_8 == 1) (zbi x0_s e0 k1 (c1_8 + 1) c1_o0 x0_s.Fade.a1.High c1_o2 c1_o3 e0.pg.a1.High c1_o5) (cond (c1_8 == 2) (zbi x0_s e0 k1 (c1_8 + 1) c1_o0 c1_o1 x0_s.Fade.a2.High c1_o3 c1_o4 e0.pg.a2.High) (none)))
def zbg (x0_s : Gs) : List Gt → Int → (List Gi) → Int → Int → Int → Option (LOut (Gu) ((List Gi) × Int × Int × Int))
 | [], c0_6, c0_o0, c0_o1, c0_o2, c0_o3 => some (.go (c0_o0, c0_o1, c0_o2, c0_o3))
 | e0 :: p0, c0_6, c0_o0, c0_o1, c0_o2, c0_o3 => cond (boundOk 3) (lbind (zbi x0_s e0 (Int.toNat (3 - 0)) 0 c0_o1 c0_o2 c0_o3 0 0 0) (fun r4 => some (.ret r4)) (fun c3 => cond (roomOk 24 (List.length (c0_o0 ++ [(Gi.mk c3.2.2.2.1 c3.2.2.2.2.1 c3.2.2.2.2.2)]))) (zbg x0_s p0 (c0_6 + 1) (c0_o0 ++ [(Gi.mk c3.2.2.2.1 c3.2.2.2.2.1 c3.2.2.2.2.2)]) c3.1 c3.2.1 c3.2.2.1) none) (fun _ _ => none)) none
def zeq (x0_s : Gs) (x1_a1 : Bool) : Option (Gu) := cond (x1_a1) (cond (lenOk x0_s.Tins) (lbind (zbg x0_s x0_s.Tins 0 ([] : List Gi) 0 0 0) (fun r6 => some r6) (fun c5 => some (Gu.mk c5.1 x0_s.Years.High (Gi.mk c5.2.1 c5.2.2.1 c5.2.2.2))) (fun _ _ => none)) none) (cond (lenOk x0_s.Tins) (lbind (zbf x0_s x0_s.Tins 0 ([] : List Gi) 0 0 0) (fun r10 => some r10) (fun c9 => some (Gu.mk c9.1 x0_s.Years.Low (Gi.mk c9.2.1 c9.2.2.1 c9.2.2.2))) (fun _ _ => none)) none)
theorem zka (x0_s : Gs) (x1_a1 : Bool) (R : Gu) (h : zeq x0_s x1_a1 = some R) : VPure Tryz.prog G0 34 [.agg (cGs x0_s), .lit (.bool x1_a1)] (.tree (.agg (cGu R))) := by
 refine VPure.runR mixed Tryz.call34 Tryz.func34 rfl (by simp [Tryz.ntmps34]; kernel_rfl) ?_
 obtain ⟨KF, h, kF, kN⟩ := zaq h
 simp only [zeq] at h
 cases d11 : (x1_a1)
 ·simp only [d11, hs] at h
  cases g13 : (lenOk x0_s.Tins)
  ·simp only [g13, hs] at h
   exact absurd h kN
  simp only [g13, hs] at h
  simp only [vz, tyf, d11, g13, nm, seval]
  obtain ⟨K12, h, kR12, kG12, kB12, kN12⟩ := zat h kN
  obtain ⟨f12, hf12, h⟩ := call6 h
  obtain ⟨I12, hI12⟩ : ∃ I : Nat → St → Prop, I = (fun m st => ∃ (p12 : List Gt) (c12_6 : Int) (c12_o0 : List Gi) (c12_o1 : Int) (c12_o2 : Int) (c12_o3 : Int) (y12_0 : VV), m = List.length p12 ∧ 0 ≤ c12_6 ∧ List.drop (Int.toNat c12_6) x0_s.Tins = p12 ∧ st.df = [] ∧ 10 ≤ st.nx ∧ st.H 0 = some (.cells (some 28) (cGs x0_s)) ∧ st.H 1 = some (.cells (some 42) ([.lit (.slice none 0 0)] ++ [.lit (.int .i64 0)] ++ [.lit (.int .i64 0)] ++ [.lit (.int .i64 0)] ++ [.lit (.int .i64 0)])) ∧ st.H 6 = some (.cells (some 42) ([y12_0] ++ [.lit (.int .i64 x0_s.Years.Low)] ++ [.lit (.int .i64 c12_o1)] ++ [.lit (.int .i64 c12_o2)] ++ [.lit (.int .i64 c12_o3)])) ∧ st.tm 1 = .lit (.bool false) ∧ st.tm 2 = .ptr 0 0 ∧ st.tm 4 = .ptr 1 0 ∧ st.tm 5 = .ptr 6 0 ∧ st.tm 6 = .lit (.int .i64 c12_6) ∧ ((∃ (β : Nat) (el : Option TypeId), y12_0 = .ref β 0 (List.length c12_o0) 3 (List.length c12_o0) ∧ β < st.nx ∧ β ≠ 0 ∧ β ≠ 1 ∧ β ≠ 6 ∧ st.H β = some (.cells el (cellsL cGi c12_o0))) ∨ (y12_0 = .lit (.slice none 0 0) ∧ c12_o0 = [])) ∧ K12 (f12 p12 c12_6 c12_o0 c12_o1 c12_o2 c12_o3)) := ⟨_, rfl⟩
  refine loopK mixed (by kernel_rfl) I12 (List.length x0_s.Tins) (by rw [hI12]; refine ⟨x0_s.Tins, 0, ([] : List Gi), 0, 0, 0, .lit (.slice none 0 0), rfl, Int.le_refl _, rfl, rfl, (show 10 ≤ 10 by omega), ?_, ?_, ?_, ?_, ?_, ?_, ?_, ?_, Or.inr ⟨rfl, rfl⟩, h⟩ <;> first | (simp only [ua, d11, nm, seval] <;> rfl) | rfl) ?_
  rintro m ⟨tm, H, nx12, df⟩ hinv
  rw [hI12] at hinv
  obtain ⟨p12, c12_6, c12_o0, c12_o1, c12_o2, c12_o3, y12_0, rfl, hi12, hp12, hdf, hn12, H14, H15, H16, e17, e18, e19, e20, e21, ow12_0, h⟩ := hinv
  simp only at hdf hn12 H14 H15 H16 e17 e18 e19 e20 e21 ow12_0
  have n22 := zcg (m := 10) (b := nx12) (by omega)
  subst hdf hf12
  rcases ow12_0 with ⟨b12_0, el12_0, rfl, lq24, lq25, lq26, lq27, H23⟩ | ⟨rfl, rfl⟩
  ·have q24 := ztn lq24
   have q25 := ne_f lq25
   have q26 := ne_f lq26
   have q27 := ne_f lq27
   cases p12 with
   | nil =>
    have d28 : (decide (c12_6 < (List.length x0_s.Tins : Int))) = false := zap hi12 hp12
    simp only [zbg, zbf, hs, reduceCtorEq] at h
    replace h := kG12 _ h
    try dsimp only at h
    try simp only [hs] at h
    try simp only [vz, tyf, d11, g13, n22, e17, e18, e19, e20, e21, H14, H15, H16, q24, H23, q25, q26, q27, d28, nm, seval]
    refine zay (x := (.agg ([.ref b12_0 0 (List.length c12_o0) 3 (List.length c12_o0)] ++ [.lit (.int .i64 x0_s.Years.Low)] ++ [.lit (.int .i64 c12_o1)] ++ [.lit (.int .i64 c12_o2)] ++ [.lit (.int .i64 c12_o3)]))) (by first | (simp only [Tryz.results34, resV, resL, resV1, zba, zcc, uw, cr, tyf, d11, g13, n22, e17, e18, e19, e20, e21, H14, H15, H16, q24, H23, q25, q26, q27, d28, nm, seval] <;> rfl) | rfl) ?_
    obtain rfl := kF _ h
    refine zbb ?_ ?_
    ·simp only [tre, tytre, Bool.and_self]
    ·first | (simp only [outV, uw, zaf, cr, tyf, nrm, tynrm, d11, g13, n22, e17, e18, e19, e20, e21, H14, H15, H16, q24, H23, q25, q26, q27, d28, nm, seval] <;> rfl) | rfl
   | cons e12 p12 =>
    have d29 : (decide (c12_6 < (List.length x0_s.Tins : Int))) = true := zbr hi12 hp12
    have o31 := zal hi12 hp12
    have w30 := zcf hi12 hp12 g13
    simp only [zbg, zbf, hs, reduceCtorEq] at h
    cases g33 : (boundOk 3)
    ·simp only [g33, hs] at h
     exact absurd h kN12
    simp only [g33, hs] at h
    simp only [vz, tyf, d11, g13, n22, e17, e18, e19, e20, e21, H14, H15, H16, q24, H23, q25, q26, q27, d29, (ix26 o31), w30, g33, nm, seval]
    obtain ⟨K32, h, kR32, kG32, kB32, kN32⟩ := zat h kN12
    obtain ⟨f32, hf32, h⟩ := call8 h
    obtain ⟨I32, hI32⟩ : ∃ I : Nat → St → Prop, I = (fun m st => ∃ (p32 : Nat) (c32_8 : Int) (c32_o0 : Int) (c32_o1 : Int) (c32_o2 : Int) (c32_o3 : Int) (c32_o4 : Int) (c32_o5 : Int), p32 = m ∧ loOk c32_8 = true ∧ Int.toNat (3 - c32_8) = p32 ∧ st.df = [] ∧ nx12 + 7 ≤ st.nx ∧ st.H 0 = some (.cells (some 28) (cGs x0_s)) ∧ st.H 1 = some (.cells (some 42) ([.lit (.slice none 0 0)] ++ [.lit (.int .i64 0)] ++ [.lit (.int .i64 0)] ++ [.lit (.int .i64 0)] ++ [.lit (.int .i64 0)])) ∧ st.H 6 = some (.cells (some 42) ([.ref b12_0 0 (List.length c12_o0) 3 (List.length c12_o0)] ++ [.lit (.int .i64 x0_s.Years.Low)] ++ [.lit (.int .i64 c32_o0)] ++ [.lit (.int .i64 c32_o1)] ++ [.lit (.int .i64 c32_o2)])) ∧ st.H b12_0 = some (.cells (el12_0) (cellsL cGi c12_o0)) ∧ st.H (nx12 + 5) = some (.cells (some 22) ([.lit (.int .i64 c32_o3)] ++ [.lit (.int .i64 c32_o4)] ++ [.lit (.int .i64 c32_o5)])) ∧ st.tm 1 = .lit (.bool false) ∧ st.tm 2 = .ptr 0 0 ∧ st.tm 4 = .ptr 1 0 ∧ st.tm 5 = .ptr 6 0 ∧ st.tm 6 = .lit (.int .i64 c12_6) ∧ st.tm 7 = .ptr (nx12 + 5) 0 ∧ st.tm 8 = .lit (.int .i64 c32_8) ∧ K32 (f32 p32 c32_8 c32_o0 c32_o1 c32_o2 c32_o3 c32_o4 c32_o5)) := ⟨_, rfl⟩
    refine loopK mixed (by kernel_rfl) I32 (Int.toNat (3 - 0)) (by rw [hI32]; refine ⟨Int.toNat (3 - 0), 0, c12_o1, c12_o2, c12_o3, 0, 0, 0, rfl, (by rfl), rfl, rfl, (show nx12 + 7 ≤ nx12 + 7 by omega), ?_, ?_, ?_, ?_, ?_, e17, e18, e19, e20, e21, ?_, ?_, h⟩ <;> first | (simp only [ua, d11, n22, e17, e18, e19, e20, e21, H14, H15, H16, q24, H23, q25, q26, q27, d29, w30, nm, seval] <;> rfl) | rfl) ?_
    rintro m ⟨tm, H, nx32, df⟩ hinv
    rw [hI32] at hinv
    obtain ⟨p32, c32_8, c32_o0, c32_o1, c32_o2, c32_o3, c32_o4, c32_o5, rfl, hi32, hp32, hdf, hn32, H34, H35, H36, H37, H38, e39, e40, e41, e42, e43, e44, e45, h⟩ := hinv
    simp only at hdf hn32 H34 H35 H36 H37 H38 e39 e40 e41 e42 e43 e44 e45
    have n46 := zcg (m := 10) (b := nx32) (by omega)
    have n47 := zje (a := nx12) (m := 7) (b := nx32) (by omega)
    have n48 := ztn (β := b12_0) (nx := nx32) (by omega)
    subst hdf hf32
    cases p32 with
    | zero =>
     have d49 : (decide (c32_8 < 3)) = false := zjh hp32
     simp only [zbi, zbj, hs, reduceCtorEq] at h
     replace h := kG32 _ h
     try dsimp only at h
     try simp only [hs] at h
     cases g50 : (roomOk 24 (List.length (c12_o0 ++ [(Gi.mk c32_o3 c32_o4 c32_o5)])))
     ·simp only [g50, hs] at h
      exact absurd h kN12
     simp only [g50, hs] at h
     simp only [vz, tyf, d11, g13, n22, q24, q25, q26, q27, d29, (ix26 o31), w30, g33, n46, n47, n48, e39, e40, e41, e42, e43, e44, e45, H34, H35, H36, H37, H38, d49, g50, nm, seval]
     refine k_app (w := 3) (enc := cGi) (xs := c12_o0) (ys := ([(Gi.mk c32_o3 c32_o4 c32_o5)])) (el := el12_0) (el2 := (some 22)) (fun _ => rfl) lf40 ao40 Tryz.underlying40 (by first | rfl | assumption | (simp only [zaa, zac, et40, n22, q24, q25, q26, q27, n46, n47, n48, H34, H35, H36, H37, H38, nm, seval] <;> rfl) | (simp only [zaa, zac, zci, zbu, zjb, zgn, tyf, d11, g13, n22, q24, q25, q26, q27, d29, (ix26 o31), w30, g33, n46, n47, n48, e39, e40, e41, e42, e43, e44, e45, H34, H35, H36, H37, H38, d49, g50, nm, seval]; done)) (by first | rfl | assumption | (simp only [zaa, zac, et40, n22, q24, q25, q26, q27, n46, n47, n48, H34, H35, H36, H37, H38, nm, seval] <;> rfl) | (simp only [zaa, zac, zci, zbu, zjb, zgn, tyf, d11, g13, n22, q24, q25, q26, q27, d29, (ix26 o31), w30, g33, n46, n47, n48, e39, e40, e41, e42, e43, e44, e45, H34, H35, H36, H37, H38, d49, g50, nm, seval]; done)) (Nat.zero_lt_succ _) g50 ?_
     simp only [vz, tyf, d11, g13, n22, q24, q25, q26, q27, d29, (ix26 o31), w30, g33, n46, n47, n48, e39, e40, e41, e42, e43, e44, e45, H34, H35, H36, H37, H38, d49, g50, nm, seval]
     exact ⟨List.length p12, Nat.lt_succ_self _, by rw [hI12]; refine ⟨p12, c12_6 + 1, (c12_o0 ++ [(Gi.mk c32_o3 c32_o4 c32_o5)]), c32_o0, c32_o1, c32_o2, .ref (nx32 + 6) 0 (List.length (c12_o0 ++ [(Gi.mk c32_o3 c32_o4 c32_o5)])) 3 (List.length (c12_o0 ++ [(Gi.mk c32_o3 c32_o4 c32_o5)])), rfl, Int.le_trans hi12 (Int.le_add_one (Int.le_refl _)), zbe hi12 hp12, rfl, (show 10 ≤ nx32 + 12 by omega), ?_, ?_, ?_, e39, e40, e41, e42, ?_, Or.inl ⟨nx32 + 6, (sameEl el12_0 22), rfl, (by first | omega | (simp only [nm, seval]; omega)), (by first | omega | (intro hh; simp only [n22, q24, q25, q26, q27, n46, n47, n48, reduceCtorEq] at hh)), (by first | omega | (intro hh; simp only [n22, q24, q25, q26, q27, n46, n47, n48, reduceCtorEq] at hh)), (by first | omega | (intro hh; simp only [n22, q24, q25, q26, q27, n46, n47, n48, reduceCtorEq] at hh)), ?_⟩, h⟩ <;> first | (simp only [ua, d11, n22, q24, q25, q26, q27, d29, w30, n46, n47, n48, e39, e40, e41, e42, e43, e44, e45, H34, H35, H36, H37, H38, d49, nm, seval] <;> rfl) | rfl⟩
    | succ p32 =>
     have d51 : (decide (c32_8 < 3)) = true := zacd hp32
     have w52 := zne hi32 hp32 g33
     simp only [zbi, zbj, hs, reduceCtorEq] at h
     simp only [vz, tyf, d11, g13, n22, q24, q25, q26, q27, d29, (ix26 o31), w30, g33, n46, n47, n48, e39, e40, e41, e42, e43, e44, e45, H34, H35, H36, H37, H38, d51, w52, nm, seval]
     refine zbw (fun tm => tm 1 = .lit (.bool false) ∧ tm 2 = .ptr 0 0 ∧ tm 4 = .ptr 1 0 ∧ tm 5 = .ptr 6 0 ∧ tm 6 = .lit (.int .i64 c12_6) ∧ tm 7 = .ptr (nx12 + 5) 0 ∧ tm 8 = .lit (.int .i64 c32_8) ∧ True) (by refine ⟨e39, e40, e41, e42, e43, e44, e45, trivial⟩ <;> first | (simp only [ua, d11, n22, q24, q25, q26, q27, d29, w30, n46, n47, n48, e39, e40, e41, e42, e43, e44, e45, H34, H35, H36, H37, H38, d51, w52, nm, seval] <;> rfl) | rfl) ?_
     rintro tm ⟨e53, e54, e55, e56, e57, e58, e59, _⟩
     have b60 := And.intro d11 (And.intro g13 (And.intro n22 (And.intro q24 (And.intro q25 (And.intro q26 (And.intro q27 (And.intro d29 (And.intro w30 (And.intro g33 (And.intro n46 (And.intro n47 (And.intro n48 (And.intro H34 (And.intro H35 (And.intro H36 (And.intro H37 (And.intro H38 (And.intro d51 w52))))))))))))))))))
     cases d61 : (c32_8 == 0)
     ·simp only [d61, hs] at h
      cases d62 : (c32_8 == 1)
      ·simp only [d62, hs] at h
       cases d63 : (c32_8 == 2)
       ·simp only [d63, hs] at h
        exact absurd h kN32
       simp only [d63, hs] at h
       simp only [vz, tyf, b60, (ix26 o31), e53, e54, e55, e56, e57, e58, e59, d61, d62, d63, (zin d63), (zfu d63), (zfs d63), nm, seval]
       refine zbl ⟨?_, ?_⟩
       ·simp only [zas, zaz, zad, zbz, and_true, true_and]
        repeat' (first | exact trivial | refine And.intro ?_ ?_ | rw [zad] | rw [zbk] | exact Or.inl (by decide +kernel) | exact Or.inl (by dsimp only; decide +kernel) | (refine Or.inr ⟨?_, ?_⟩ <;> simp; done) | (refine Or.inr ⟨?_, ?_⟩ <;> simp <;> omega) | (refine Or.inr ⟨?_, ?_⟩ <;> simp [VEff.wr] <;> omega))
       simp only [vz, tyf, b60, (ix26 o31), e53, e54, e55, e56, e57, e58, e59, d61, d62, d63, (zin d63), (zfu d63), (zfs d63), nm, seval]
       exact ⟨p32, Nat.lt_succ_self _, by rw [hI32]; refine ⟨p32, c32_8 + 1, c32_o0, c32_o1, x0_s.Fade.a2.Low, c32_o3, c32_o4, e12.pg.a2.Low, rfl, zkd hi32, zfa hp32, rfl, (show nx12 + 7 ≤ nx32 + 27 by omega), ?_, ?_, ?_, ?_, ?_, e53, e54, e55, e56, e57, e58, ?_, h⟩ <;> first | (simp only [ua, b60, e53, e54, e55, e56, e57, e58, e59, d61, d62, d63, nm, seval] <;> rfl) | rfl⟩
      simp only [d62, hs] at h
      simp only [vz, tyf, b60, (ix26 o31), e53, e54, e55, e56, e57, e58, e59, d61, d62, (zio d62), (zfq d62), (zfv d62), nm, seval]
      refine zbl ⟨?_, ?_⟩
      ·simp only [zas, zaz, zad, zbz, and_true, true_and]
       repeat' (first | exact trivial | refine And.intro ?_ ?_ | rw [zad] | rw [zbk] | exact Or.inl (by decide +kernel) | exact Or.inl (by dsimp only; decide +kernel) | (refine Or.inr ⟨?_, ?_⟩ <;> simp; done) | (refine Or.inr ⟨?_, ?_⟩ <;> simp <;> omega) | (refine Or.inr ⟨?_, ?_⟩ <;> simp [VEff.wr] <;> omega))
      simp only [vz, tyf, b60, (ix26 o31), e53, e54, e55, e56, e57, e58, e59, d61, d62, (zio d62), (zfq d62), (zfv d62), nm, seval]
      exact ⟨p32, Nat.lt_succ_self _, by rw [hI32]; refine ⟨p32, c32_8 + 1, c32_o0, x0_s.Fade.a1.Low, c32_o2, c32_o3, e12.pg.a1.Low, c32_o5, rfl, zkd hi32, zfa hp32, rfl, (show nx12 + 7 ≤ nx32 + 27 by omega), ?_, ?_, ?_, ?_, ?_, e53, e54, e55, e56, e57, e58, ?_, h⟩ <;> first | (simp only [ua, b60, e53, e54, e55, e56, e57, e58, e59, d61, d62, nm, seval] <;> rfl) | rfl⟩
     simp only [d61, hs] at h
     simp only [vz, tyf, b60, (ix26 o31), e53, e54, e55, e56, e57, e58, e59, d61, (zir d61), (zfw d61), (zft d61), nm, seval]
     refine zbl ⟨?_, ?_⟩
     ·simp only [zas, zaz, zad, zbz, and_true, true_and]
      repeat' (first | exact trivial | refine And.intro ?_ ?_ | rw [zad] | rw [zbk] | exact Or.inl (by decide +kernel) | exact Or.inl (by dsimp only; decide +kernel) | (refine Or.inr ⟨?_, ?_⟩ <;> simp; done) | (refine Or.inr ⟨?_, ?_⟩ <;> simp <;> omega) | (refine Or.inr ⟨?_, ?_⟩ <;> simp [VEff.wr] <;> omega))
     simp only [vz, tyf, b60, (ix26 o31), e53, e54, e55, e56, e57, e58, e59, d61, (zir d61), (zfw d61), (zft d61), nm, seval]
     exact ⟨p32, Nat.lt_succ_self _, by rw [hI32]; refine ⟨p32, c32_8 + 1, x0_s.Fade.a0.Low, c32_o1, c32_o2, e12.pg.a0.Low, c32_o4, c32_o5, rfl, zkd hi32, zfa hp32, rfl, (show nx12 + 7 ≤ nx32 + 27 by omega), ?_, ?_, ?_, ?_, ?_, e53, e54, e55, e56, e57, e58, ?_, h⟩ <;> first | (simp only [ua, b60, e53, e54, e55, e56, e57, e58, e59, d61, nm, seval] <;> rfl) | rfl⟩
  ·cases p12 with
   | nil =>
    have d64 : (decide (c12_6 < (List.length x0_s.Tins : Int))) = false := zap hi12 hp12
    simp only [zbg, zbf, hs, reduceCtorEq] at h
    replace h := kG12 _ h
    try dsimp only at h
    try simp only [hs] at h
    try simp only [vz, tyf, d11, g13, n22, e17, e18, e19, e20, e21, H14, H15, H16, d64, nm, seval]
    refine zay (x := (.agg ([.lit (.slice none 0 0)] ++ [.lit (.int .i64 x0_s.Years.Low)] ++ [.lit (.int .i64 c12_o1)] ++ [.lit (.int .i64 c12_o2)] ++ [.lit (.int .i64 c12_o3)]))) (by first | (simp only [Tryz.results34, resV, resL, resV1, zba, zcc, uw, cr, tyf, d11, g13, n22, e17, e18, e19, e20, e21, H14, H15, H16, d64, nm, seval] <;> rfl) | rfl) ?_
    obtain rfl := kF _ h
    refine zbb ?_ ?_
    ·simp only [tre, tytre, Bool.and_self]
    ·first | (simp only [outV, uw, zaf, cr, tyf, nrm, tynrm, d11, g13, n22, e17, e18, e19, e20, e21, H14, H15, H16, d64, nm, seval] <;> rfl) | rfl
   | cons e12 p12 =>
    have d65 : (decide (c12_6 < (List.length x0_s.Tins : Int))) = true := zbr hi12 hp12
    have o67 := zal hi12 hp12
    have w66 := zcf hi12 hp12 g13
    simp only [zbg, zbf, hs, reduceCtorEq] at h
    cases g69 : (boundOk 3)
    ·simp only [g69, hs] at h
     exact absurd h kN12
    simp only [g69, hs] at h
    simp only [vz, tyf, d11, g13, n22, e17, e18, e19, e20, e21, H14, H15, H16, d65, (ix26 o67), w66, g69, nm, seval]
    obtain ⟨K68, h, kR68, kG68, kB68, kN68⟩ := zat h kN12
    obtain ⟨f68, hf68, h⟩ := call8 h
    obtain ⟨I68, hI68⟩ : ∃ I : Nat → St → Prop, I = (fun m st => ∃ (p68 : Nat) (c68_8 : Int) (c68_o0 : Int) (c68_o1 : Int) (c68_o2 : Int) (c68_o3 : Int) (c68_o4 : Int) (c68_o5 : Int), p68 = m ∧ loOk c68_8 = true ∧ Int.toNat (3 - c68_8) = p68 ∧ st.df = [] ∧ nx12 + 7 ≤ st.nx ∧ st.H 0 = some (.cells (some 28) (cGs x0_s)) ∧ st.H 1 = some (.cells (some 42) ([.lit (.slice none 0 0)] ++ [.lit (.int .i64 0)] ++ [.lit (.int .i64 0)] ++ [.lit (.int .i64 0)] ++ [.lit (.int .i64 0)])) ∧ st.H 6 = some (.cells (some 42) ([.lit (.slice none 0 0)] ++ [.lit (.int .i64 x0_s.Years.Low)] ++ [.lit (.int .i64 c68_o0)] ++ [.lit (.int .i64 c68_o1)] ++ [.lit (.int .i64 c68_o2)])) ∧ st.H (nx12 + 5) = some (.cells (some 22) ([.lit (.int .i64 c68_o3)] ++ [.lit (.int .i64 c68_o4)] ++ [.lit (.int .i64 c68_o5)])) ∧ st.tm 1 = .lit (.bool false) ∧ st.tm 2 = .ptr 0 0 ∧ st.tm 4 = .ptr 1 0 ∧ st.tm 5 = .ptr 6 0 ∧ st.tm 6 = .lit (.int .i64 c12_6) ∧ st.tm 7 = .ptr (nx12 + 5) 0 ∧ st.tm 8 = .lit (.int .i64 c68_8) ∧ K68 (f68 p68 c68_8 c68_o0 c68_o1 c68_o2 c68_o3 c68_o4 c68_o5)) := ⟨_, rfl⟩
    refine loopK mixed (by kernel_rfl) I68 (Int.toNat (3 - 0)) (by rw [hI68]; refine ⟨Int.toNat (3 - 0), 0, c12_o1, c12_o2, c12_o3, 0, 0, 0, rfl, (by rfl), rfl, rfl, (show nx12 + 7 ≤ nx12 + 7 by omega), ?_, ?_, ?_, ?_, e17, e18, e19, e20, e21, ?_, ?_, h⟩ <;> first | (simp only [ua, d11, n22, e17, e18, e19, e20, e21, H14, H15, H16, d65, w66, nm, seval] <;> rfl) | rfl) ?_
    rintro m ⟨tm, H, nx68, df⟩ hinv
    rw [hI68] at hinv
    obtain ⟨p68, c68_8, c68_o0, c68_o1, c68_o2, c68_o3, c68_o4, c68_o5, rfl, hi68, hp68, hdf, hn68, H70, H71, H72, H73, e74, e75, e76, e77, e78, e79, e80, h⟩ := hinv
    simp only at hdf hn68 H70 H71 H72 H73 e74 e75 e76 e77 e78 e79 e80
    have n81 := zcg (m := 10) (b := nx68) (by omega)
    have n82 := zje (a := nx12) (m := 7) (b := nx68) (by omega)
    subst hdf hf68
    cases p68 with
    | zero =>
     have d83 : (decide (c68_8 < 3)) = false := zjh hp68
     simp only [zbi, zbj, hs, reduceCtorEq] at h
     replace h := kG68 _ h
     try dsimp only at h
     try simp only [hs] at h
     cases g84 : (roomOk 24 (List.length (([] : List Gi) ++ [(Gi.mk c68_o3 c68_o4 c68_o5)])))
     ·simp only [g84, hs] at h
      exact absurd h kN12
     simp only [g84, hs] at h
     simp only [vz, tyf, d11, g13, n22, d65, (ix26 o67), w66, g69, n81, n82, e74, e75, e76, e77, e78, e79, e80, H70, H71, H72, H73, d83, g84, nm, seval]
     refine zxd (w := 3) (enc := cGi) (ys := ([(Gi.mk c68_o3 c68_o4 c68_o5)])) (el2 := (some 22)) (fun _ => rfl) lf40 ao40 Tryz.underlying40 (by first | rfl | assumption | (simp only [zaa, zac, et40, n22, n81, n82, H70, H71, H72, H73, nm, seval] <;> rfl) | (simp only [zaa, zac, zci, zbu, zjb, zgn, tyf, d11, g13, n22, d65, (ix26 o67), w66, g69, n81, n82, e74, e75, e76, e77, e78, e79, e80, H70, H71, H72, H73, d83, g84, nm, seval]; done)) (Nat.zero_lt_succ _) g84 ?_
     simp only [vz, tyf, d11, g13, n22, d65, (ix26 o67), w66, g69, n81, n82, e74, e75, e76, e77, e78, e79, e80, H70, H71, H72, H73, d83, g84, nm, seval]
     exact ⟨List.length p12, Nat.lt_succ_self _, by rw [hI12]; refine ⟨p12, c12_6 + 1, (([] : List Gi) ++ [(Gi.mk c68_o3 c68_o4 c68_o5)]), c68_o0, c68_o1, c68_o2, .ref (nx68 + 6) 0 (List.length (([] : List Gi) ++ [(Gi.mk c68_o3 c68_o4 c68_o5)])) 3 (List.length (([] : List Gi) ++ [(Gi.mk c68_o3 c68_o4 c68_o5)])), rfl, Int.le_trans hi12 (Int.le_add_one (Int.le_refl _)), zbe hi12 hp12, rfl, (show 10 ≤ nx68 + 12 by omega), ?_, ?_, ?_, e74, e75, e76, e77, ?_, Or.inl ⟨nx68 + 6, (some 22), rfl, (by first | omega | (simp only [nm, seval]; omega)), (by first | omega | (intro hh; simp only [n22, n81, n82, reduceCtorEq] at hh)), (by first | omega | (intro hh; simp only [n22, n81, n82, reduceCtorEq] at hh)), (by first | omega | (intro hh; simp only [n22, n81, n82, reduceCtorEq] at hh)), ?_⟩, h⟩ <;> first | (simp only [ua, d11, n22, d65, w66, n81, n82, e74, e75, e76, e77, e78, e79, e80, H70, H71, H72, H73, d83, nm, seval] <;> rfl) | rfl⟩
    | succ p68 =>
     have d85 : (decide (c68_8 < 3)) = true := zacd hp68
     have w86 := zne hi68 hp68 g69
     simp only [zbi, zbj, hs, reduceCtorEq] at h
     simp only [vz, tyf, d11, g13, n22, d65, (ix26 o67), w66, g69, n81, n82, e74, e75, e76, e77, e78, e79, e80, H70, H71, H72, H73, d85, w86, nm, seval]
     refine zbw (fun tm => tm 1 = .lit (.bool false) ∧ tm 2 = .ptr 0 0 ∧ tm 4 = .ptr 1 0 ∧ tm 5 = .ptr 6 0 ∧ tm 6 = .lit (.int .i64 c12_6) ∧ tm 7 = .ptr (nx12 + 5) 0 ∧ tm 8 = .lit (.int .i64 c68_8) ∧ True) (by refine ⟨e74, e75, e76, e77, e78, e79, e80, trivial⟩ <;> first | (simp only [ua, d11, n22, d65, w66, n81, n82, e74, e75, e76, e77, e78, e79, e80, H70, H71, H72, H73, d85, w86, nm, seval] <;> rfl) | rfl) ?_
     rintro tm ⟨e87, e88, e89, e90, e91, e92, e93, _⟩
     have b94 := And.intro d11 (And.intro g13 (And.intro n22 (And.intro d65 (And.intro w66 (And.intro g69 (And.intro n81 (And.intro n82 (And.intro H70 (And.intro H71 (And.intro H72 (And.intro H73 (And.intro d85 w86))))))))))))
     cases d95 : (c68_8 == 0)
     ·simp only [d95, hs] at h
      cases d96 : (c68_8 == 1)
      ·simp only [d96, hs] at h
       cases d97 : (c68_8 == 2)
       ·simp only [d97, hs] at h
        exact absurd h kN68
       simp only [d97, hs] at h
       simp only [vz, tyf, b94, (ix26 o67), e87, e88, e89, e90, e91, e92, e93, d95, d96, d97, (zin d97), (zfu d97), (zfs d97), nm, seval]
       refine zbl ⟨?_, ?_⟩
       ·simp only [zas, zaz, zad, zbz, and_true, true_and]
        repeat' (first | exact trivial | refine And.intro ?_ ?_ | rw [zad] | rw [zbk] | exact Or.inl (by decide +kernel) | exact Or.inl (by dsimp only; decide +kernel) | (refine Or.inr ⟨?_, ?_⟩ <;> simp; done) | (refine Or.inr ⟨?_, ?_⟩ <;> simp <;> omega) | (refine Or.inr ⟨?_, ?_⟩ <;> simp [VEff.wr] <;> omega))
       simp only [vz, tyf, b94, (ix26 o67), e87, e88, e89, e90, e91, e92, e93, d95, d96, d97, (zin d97), (zfu d97), (zfs d97), nm, seval]
       exact ⟨p68, Nat.lt_succ_self _, by rw [hI68]; refine ⟨p68, c68_8 + 1, c68_o0, c68_o1, x0_s.Fade.a2.Low, c68_o3, c68_o4, e12.pg.a2.Low, rfl, zkd hi68, zfa hp68, rfl, (show nx12 + 7 ≤ nx68 + 27 by omega), ?_, ?_, ?_, ?_, e87, e88, e89, e90, e91, e92, ?_, h⟩ <;> first | (simp only [ua, b94, e87, e88, e89, e90, e91, e92, e93, d95, d96, d97, nm, seval] <;> rfl) | rfl⟩
      simp only [d96, hs] at h
      simp only [vz, tyf, b94, (ix26 o67), e87, e88, e89, e90, e91, e92, e93, d95, d96, (zio d96), (zfq d96), (zfv d96), nm, seval]
      refine zbl ⟨?_, ?_⟩
      ·simp only [zas, zaz, zad, zbz, and_true, true_and]
       repeat' (first | exact trivial | refine And.intro ?_ ?_ | rw [zad] | rw [zbk] | exact Or.inl (by decide +kernel) | exact Or.inl (by dsimp only; decide +kernel) | (refine Or.inr ⟨?_, ?_⟩ <;> simp; done) | (refine Or.inr ⟨?_, ?_⟩ <;> simp <;> omega) | (refine Or.inr ⟨?_, ?_⟩ <;> simp [VEff.wr] <;> omega))
      simp only [vz, tyf, b94, (ix26 o67), e87, e88, e89, e90, e91, e92, e93, d95, d96, (zio d96), (zfq d96), (zfv d96), nm, seval]
      exact ⟨p68, Nat.lt_succ_self _, by rw [hI68]; refine ⟨p68, c68_8 + 1, c68_o0, x0_s.Fade.a1.Low, c68_o2, c68_o3, e12.pg.a1.Low, c68_o5, rfl, zkd hi68, zfa hp68, rfl, (show nx12 + 7 ≤ nx68 + 27 by omega), ?_, ?_, ?_, ?_, e87, e88, e89, e90, e91, e92, ?_, h⟩ <;> first | (simp only [ua, b94, e87, e88, e89, e90, e91, e92, e93, d95, d96, nm, seval] <;> rfl) | rfl⟩
     simp only [d95, hs] at h
     simp only [vz, tyf, b94, (ix26 o67), e87, e88, e89, e90, e91, e92, e93, d95, (zir d95), (zfw d95), (zft d95), nm, seval]
     refine zbl ⟨?_, ?_⟩
     ·simp only [zas, zaz, zad, zbz, and_true, true_and]
      repeat' (first | exact trivial | refine And.intro ?_ ?_ | rw [zad] | rw [zbk] | exact Or.inl (by decide +kernel) | exact Or.inl (by dsimp only; decide +kernel) | (refine Or.inr ⟨?_, ?_⟩ <;> simp; done) | (refine Or.inr ⟨?_, ?_⟩ <;> simp <;> omega) | (refine Or.inr ⟨?_, ?_⟩ <;> simp [VEff.wr] <;> omega))
     simp only [vz, tyf, b94, (ix26 o67), e87, e88, e89, e90, e91, e92, e93, d95, (zir d95), (zfw d95), (zft d95), nm, seval]
     exact ⟨p68, Nat.lt_succ_self _, by rw [hI68]; refine ⟨p68, c68_8 + 1, x0_s.Fade.a0.Low, c68_o1, c68_o2, e12.pg.a0.Low, c68_o4, c68_o5, rfl, zkd hi68, zfa hp68, rfl, (show nx12 + 7 ≤ nx68 + 27 by omega), ?_, ?_, ?_, ?_, e87, e88, e89, e90, e91, e92, ?_, h⟩ <;> first | (simp only [ua, b94, e87, e88, e89, e90, e91, e92, e93, d95, nm, seval] <;> rfl) | rfl⟩
 simp only [d11, hs] at h
 cases g99 : (lenOk x0_s.Tins)
 ·simp only [g99, hs] at h
  exact absurd h kN
 simp only [g99, hs] at h
 simp only [vz, tyf, d11, g99, nm, seval]
 obtain ⟨K98, h, kR98, kG98, kB98, kN98⟩ := zat h kN
 obtain ⟨f98, hf98, h⟩ := call6 h
 obtain ⟨I98, hI98⟩ : ∃ I : Nat → St → Prop, I = (fun m st => ∃ (p98 : List Gt) (c98_6 : Int) (c98_o0 : List Gi) (c98_o1 : Int) (c98_o2 : Int) (c98_o3 : Int) (y98_0 : VV), m = List.length p98 ∧ 0 ≤ c98_6 ∧ List.drop (Int.toNat c98_6) x0_s.Tins = p98 ∧ st.df = [] ∧ 15 ≤ st.nx ∧ st.H 0 = some (.cells (some 28) (cGs x0_s)) ∧ st.H 1 = some (.cells (some 42) ([.lit (.slice none 0 0)] ++ [.lit (.int .i64 0)] ++ [.lit (.int .i64 0)] ++ [.lit (.int .i64 0)] ++ [.lit (.int .i64 0)])) ∧ st.H 6 = some (.cells (some 42) ([y98_0] ++ [.lit (.int .i64 x0_s.Years.High)] ++ [.lit (.int .i64 c98_o1)] ++ [.lit (.int .i64 c98_o2)] ++ [.lit (.int .i64 c98_o3)])) ∧ st.tm 1 = .lit (.bool true) ∧ st.tm 2 = .ptr 0 0 ∧ st.tm 4 = .ptr 1 0 ∧ st.tm 5 = .ptr 6 0 ∧ st.tm 6 = .lit (.int .i64 c98_6) ∧ ((∃ (β : Nat) (el : Option TypeId), y98_0 = .ref β 0 (List.length c98_o0) 3 (List.length c98_o0) ∧ β < st.nx ∧ β ≠ 0 ∧ β ≠ 1 ∧ β ≠ 6 ∧ st.H β = some (.cells el (cellsL cGi c98_o0))) ∨ (y98_0 = .lit (.slice none 0 0) ∧ c98_o0 = [])) ∧ K98 (f98 p98 c98_6 c98_o0 c98_o1 c98_o2 c98_o3)) := ⟨_, rfl⟩
 refine loopK mixed (by kernel_rfl) I98 (List.length x0_s.Tins) (by rw [hI98]; refine ⟨x0_s.Tins, 0, ([] : List Gi), 0, 0, 0, .lit (.slice none 0 0), rfl, Int.le_refl _, rfl, rfl, (show 15 ≤ 15 by omega), ?_, ?_, ?_, ?_, ?_, ?_, ?_, ?_, Or.inr ⟨rfl, rfl⟩, h⟩ <;> first | (simp only [ua, d11, nm, seval] <;> rfl) | rfl) ?_
 rintro m ⟨tm, H, nx98, df⟩ hinv
 rw [hI98] at hinv
 obtain ⟨p98, c98_6, c98_o0, c98_o1, c98_o2, c98_o3, y98_0, rfl, hi98, hp98, hdf, hn98, H100, H101, H102, e103, e104, e105, e106, e107, ow98_0, h⟩ := hinv
 simp only at hdf hn98 H100 H101 H102 e103 e104 e105 e106 e107 ow98_0
 have n108 := zcg (m := 15) (b := nx98) (by omega)
 subst hdf hf98
 rcases ow98_0 with ⟨b98_0, el98_0, rfl, lq110, lq111, lq112, lq113, H109⟩ | ⟨rfl, rfl⟩
 ·have q110 := ztn lq110
  have q111 := ne_f lq111
  have q112 := ne_f lq112
  have q113 := ne_f lq113
  cases p98 with
  | nil =>
   have d114 : (decide (c98_6 < (List.length x0_s.Tins : Int))) = false := zap hi98 hp98
   simp only [zbg, zbf, hs, reduceCtorEq] at h
   replace h := kG98 _ h
   try dsimp only at h
   try simp only [hs] at h
   try simp only [vz, tyf, d11, g99, n108, e103, e104, e105, e106, e107, H100, H101, H102, q110, H109, q111, q112, q113, d114, nm, seval]
   refine zay (x := (.agg ([.ref b98_0 0 (List.length c98_o0) 3 (List.length c98_o0)] ++ [.lit (.int .i64 x0_s.Years.High)] ++ [.lit (.int .i64 c98_o1)] ++ [.lit (.int .i64 c98_o2)] ++ [.lit (.int .i64 c98_o3)]))) (by first | (simp only [Tryz.results34, resV, resL, resV1, zba, zcc, uw, cr, tyf, d11, g99, n108, e103, e104, e105, e106, e107, H100, H101, H102, q110, H109, q111, q112, q113, d114, nm, seval] <;> rfl) | rfl) ?_
   obtain rfl := kF _ h
   refine zbb ?_ ?_
   ·simp only [tre, tytre, Bool.and_self]
   ·first | (simp only [outV, uw, zaf, cr, tyf, nrm, tynrm, d11, g99, n108, e103, e104, e105, e106, e107, H100, H101, H102, q110, H109, q111, q112, q113, d114, nm, seval] <;> rfl) | rfl
  | cons e98 p98 =>
   have d115 : (decide (c98_6 < (List.length x0_s.Tins : Int))) = true := zbr hi98 hp98
   have o117 := zal hi98 hp98
   have w116 := zcf hi98 hp98 g99
   simp only [zbg, zbf, hs, reduceCtorEq] at h
   cases g119 : (boundOk 3)
   ·simp only [g119, hs] at h
    exact absurd h kN98
   simp only [g119, hs] at h
   simp only [vz, tyf, d11, g99, n108, e103, e104, e105, e106, e107, H100, H101, H102, q110, H109, q111, q112, q113, d115, (ix26 o117), w116, g119, nm, seval]
   obtain ⟨K118, h, kR118, kG118, kB118, kN118⟩ := zat h kN98
   obtain ⟨f118, hf118, h⟩ := call8 h
   obtain ⟨I118, hI118⟩ : ∃ I : Nat → St → Prop, I = (fun m st => ∃ (p118 : Nat) (c118_8 : Int) (c118_o0 : Int) (c118_o1 : Int) (c118_o2 : Int) (c118_o3 : Int) (c118_o4 : Int) (c118_o5 : Int), p118 = m ∧ loOk c118_8 = true ∧ Int.toNat (3 - c118_8) = p118 ∧ st.df = [] ∧ nx98 + 7 ≤ st.nx ∧ st.H 0 = some (.cells (some 28) (cGs x0_s)) ∧ st.H 1 = some (.cells (some 42) ([.lit (.slice none 0 0)] ++ [.lit (.int .i64 0)] ++ [.lit (.int .i64 0)] ++ [.lit (.int .i64 0)] ++ [.lit (.int .i64 0)])) ∧ st.H 6 = some (.cells (some 42) ([.ref b98_0 0 (List.length c98_o0) 3 (List.length c98_o0)] ++ [.lit (.int .i64 x0_s.Years.High)] ++ [.lit (.int .i64 c118_o0)] ++ [.lit (.int .i64 c118_o1)] ++ [.lit (.int .i64 c118_o2)])) ∧ st.H b98_0 = some (.cells (el98_0) (cellsL cGi c98_o0)) ∧ st.H (nx98 + 5) = some (.cells (some 22) ([.lit (.int .i64 c118_o3)] ++ [.lit (.int .i64 c118_o4)] ++ [.lit (.int .i64 c118_o5)])) ∧ st.tm 1 = .lit (.bool true) ∧ st.tm 2 = .ptr 0 0 ∧ st.tm 4 = .ptr 1 0 ∧ st.tm 5 = .ptr 6 0 ∧ st.tm 6 = .lit (.int .i64 c98_6) ∧ st.tm 7 = .ptr (nx98 + 5) 0 ∧ st.tm 8 = .lit (.int .i64 c118_8) ∧ K118 (f118 p118 c118_8 c118_o0 c118_o1 c118_o2 c118_o3 c118_o4 c118_o5)) := ⟨_, rfl⟩
   refine loopK mixed (by kernel_rfl) I118 (Int.toNat (3 - 0)) (by rw [hI118]; refine ⟨Int.toNat (3 - 0), 0, c98_o1, c98_o2, c98_o3, 0, 0, 0, rfl, (by rfl), rfl, rfl, (show nx98 + 7 ≤ nx98 + 7 by omega), ?_, ?_, ?_, ?_, ?_, e103, e104, e105, e106, e107, ?_, ?_, h⟩ <;> first | (simp only [ua, d11, n108, e103, e104, e105, e106, e107, H100, H101, H102, q110, H109, q111, q112, q113, d115, w116, nm, seval] <;> rfl) | rfl) ?_
   rintro m ⟨tm, H, nx118, df⟩ hinv
   rw [hI118] at hinv
   obtain ⟨p118, c118_8, c118_o0, c118_o1, c118_o2, c118_o3, c118_o4, c118_o5, rfl, hi118, hp118, hdf, hn118, H120, H121, H122, H123, H124, e125, e126, e127, e128, e129, e130, e131, h⟩ := hinv
   simp only at hdf hn118 H120 H121 H122 H123 H124 e125 e126 e127 e128 e129 e130 e131
   have n132 := zcg (m := 15) (b := nx118) (by omega)
   have n133 := zje (a := nx98) (m := 7) (b := nx118) (by omega)
   have n134 := ztn (β := b98_0) (nx := nx118) (by omega)
   subst hdf hf118
   cases p118 with
   | zero =>
    have d135 : (decide (c118_8 < 3)) = false := zjh hp118
    simp only [zbi, zbj, hs, reduceCtorEq] at h
    replace h := kG118 _ h
    try dsimp only at h
    try simp only [hs] at h
    cases g136 : (roomOk 24 (List.length (c98_o0 ++ [(Gi.mk c118_o3 c118_o4 c118_o5)])))
    ·simp only [g136, hs] at h
     exact absurd h kN98
    simp only [g136, hs] at h
    simp only [vz, tyf, d11, g99, n108, q110, q111, q112, q113, d115, (ix26 o117), w116, g119, n132, n133, n134, e125, e126, e127, e128, e129, e130, e131, H120, H121, H122, H123, H124, d135, g136, nm, seval]
    refine k_app (w := 3) (enc := cGi) (xs := c98_o0) (ys := ([(Gi.mk c118_o3 c118_o4 c118_o5)])) (el := el98_0) (el2 := (some 22)) (fun _ => rfl) lf40 ao40 Tryz.underlying40 (by first | rfl | assumption | (simp only [zaa, zac, et40, n108, q110, q111, q112, q113, n132, n133, n134, H120, H121, H122, H123, H124, nm, seval] <;> rfl) | (simp only [zaa, zac, zci, zbu, zjb, zgn, tyf, d11, g99, n108, q110, q111, q112, q113, d115, (ix26 o117), w116, g119, n132, n133, n134, e125, e126, e127, e128, e129, e130, e131, H120, H121, H122, H123, H124, d135, g136, nm, seval]; done)) (by first | rfl | assumption | (simp only [zaa, zac, et40, n108, q110, q111, q112, q113, n132, n133, n134, H120, H121, H122, H123, H124, nm, seval] <;> rfl) | (simp only [zaa, zac, zci, zbu, zjb, zgn, tyf, d11, g99, n108, q110, q111, q112, q113, d115, (ix26 o117), w116, g119, n132, n133, n134, e125, e126, e127, e128, e129, e130, e131, H120, H121, H122, H123, H124, d135, g136, nm, seval]; done)) (Nat.zero_lt_succ _) g136 ?_
    simp only [vz, tyf, d11, g99, n108, q110, q111, q112, q113, d115, (ix26 o117), w116, g119, n132, n133, n134, e125, e126, e127, e128, e129, e130, e131, H120, H121, H122, H123, H124, d135, g136, nm, seval]
    exact ⟨List.length p98, Nat.lt_succ_self _, by rw [hI98]; refine ⟨p98, c98_6 + 1, (c98_o0 ++ [(Gi.mk c118_o3 c118_o4 c118_o5)]), c118_o0, c118_o1, c118_o2, .ref (nx118 + 6) 0 (List.length (c98_o0 ++ [(Gi.mk c118_o3 c118_o4 c118_o5)])) 3 (List.length (c98_o0 ++ [(Gi.mk c118_o3 c118_o4 c118_o5)])), rfl, Int.le_trans hi98 (Int.le_add_one (Int.le_refl _)), zbe hi98 hp98, rfl, (show 15 ≤ nx118 + 12 by omega), ?_, ?_, ?_, e125, e126, e127, e128, ?_, Or.inl ⟨nx118 + 6, (sameEl el98_0 22), rfl, (by first | omega | (simp only [nm, seval]; omega)), (by first | omega | (intro hh; simp only [n108, q110, q111, q112, q113, n132, n133, n134, reduceCtorEq] at hh)), (by first | omega | (intro hh; simp only [n108, q110, q111, q112, q113, n132, n133, n134, reduceCtorEq] at hh)), (by first | omega | (intro hh; simp only [n108, q110, q111, q112, q113, n132, n133, n134, reduceCtorEq] at hh)), ?_⟩, h⟩ <;> first | (simp only [ua, d11, n108, q110, q111, q112, q113, d115, w116, n132, n133, n134, e125, e126, e127, e128, e129, e130, e131, H120, H121, H122, H123, H124, d135, nm, seval] <;> rfl) | rfl⟩
   | succ p118 =>
    have d137 : (decide (c118_8 < 3)) = true := zacd hp118
    have w138 := zne hi118 hp118 g119
    simp only [zbi, zbj, hs, reduceCtorEq] at h
    simp only [vz, tyf, d11, g99, n108, q110, q111, q112, q113, d115, (ix26 o117), w116, g119, n132, n133, n134, e125, e126, e127, e128, e129, e130, e131, H120, H121, H122, H123, H124, d137, w138, nm, seval]
    refine zbw (fun tm => tm 1 = .lit (.bool true) ∧ tm 2 = .ptr 0 0 ∧ tm 4 = .ptr 1 0 ∧ tm 5 = .ptr 6 0 ∧ tm 6 = .lit (.int .i64 c98_6) ∧ tm 7 = .ptr (nx98 + 5) 0 ∧ tm 8 = .lit (.int .i64 c118_8) ∧ True) (by refine ⟨e125, e126, e127, e128, e129, e130, e131, trivial⟩ <;> first | (simp only [ua, d11, n108, q110, q111, q112, q113, d115, w116, n132, n133, n134, e125, e126, e127, e128, e129, e130, e131, H120, H121, H122, H123, H124, d137, w138, nm, seval] <;> rfl) | rfl) ?_
    rintro tm ⟨e139, e140, e141, e142, e143, e144, e145, _⟩
    have b146 := And.intro d11 (And.intro g99 (And.intro n108 (And.intro q110 (And.intro q111 (And.intro q112 (And.intro q113 (And.intro d115 (And.intro w116 (And.intro g119 (And.intro n132 (And.intro n133 (And.intro n134 (And.intro H120 (And.intro H121 (And.intro H122 (And.intro H123 (And.intro H124 (And.intro d137 w138))))))))))))))))))
    cases d147 : (c118_8 == 0)
    ·simp only [d147, hs] at h
     cases d148 : (c118_8 == 1)
     ·simp only [d148, hs] at h
      cases d149 : (c118_8 == 2)
      ·simp only [d149, hs] at h
       exact absurd h kN118
      simp only [d149, hs] at h
      simp only [vz, tyf, b146, (ix26 o117), e139, e140, e141, e142, e143, e144, e145, d147, d148, d149, (zin d149), (zfu d149), (zfs d149), nm, seval]
      refine zbl ⟨?_, ?_⟩
      ·simp only [zas, zaz, zad, zbz, and_true, true_and]
       repeat' (first | exact trivial | refine And.intro ?_ ?_ | rw [zad] | rw [zbk] | exact Or.inl (by decide +kernel) | exact Or.inl (by dsimp only; decide +kernel) | (refine Or.inr ⟨?_, ?_⟩ <;> simp; done) | (refine Or.inr ⟨?_, ?_⟩ <;> simp <;> omega) | (refine Or.inr ⟨?_, ?_⟩ <;> simp [VEff.wr] <;> omega))
      simp only [vz, tyf, b146, (ix26 o117), e139, e140, e141, e142, e143, e144, e145, d147, d148, d149, (zin d149), (zfu d149), (zfs d149), nm, seval]
      refine zbw (fun tm => tm 1 = .lit (.bool true) ∧ tm 2 = .ptr 0 0 ∧ tm 4 = .ptr 1 0 ∧ tm 5 = .ptr 6 0 ∧ tm 6 = .lit (.int .i64 c98_6) ∧ tm 7 = .ptr (nx98 + 5) 0 ∧ tm 8 = .lit (.int .i64 c118_8) ∧ True) (by refine ⟨e139, e140, e141, e142, e143, e144, e145, trivial⟩ <;> first | (simp only [ua, b146, e139, e140, e141, e142, e143, e144, e145, d147, d148, d149, nm, seval] <;> rfl) | rfl) ?_
      rintro tm ⟨e150, e151, e152, e153, e154, e155, e156, _⟩
      simp only [vz, tyf, b146, (ix26 o117), d147, d148, d149, (zin d149), (zfu d149), (zfs d149), e150, e151, e152, e153, e154, e155, e156, nm, seval]
      refine zbl ⟨?_, ?_⟩
      ·simp only [zas, zaz, zad, zbz, and_true, true_and]
       repeat' (first | exact trivial | refine And.intro ?_ ?_ | rw [zad] | rw [zbk] | exact Or.inl (by decide +kernel) | exact Or.inl (by dsimp only; decide +kernel) | (refine Or.inr ⟨?_, ?_⟩ <;> simp; done) | (refine Or.inr ⟨?_, ?_⟩ <;> simp <;> omega) | (refine Or.inr ⟨?_, ?_⟩ <;> simp [VEff.wr] <;> omega))
      simp only [vz, tyf, b146, (ix26 o117), d147, d148, d149, (zin d149), (zfu d149), (zfs d149), e150, e151, e152, e153, e154, e155, e156, nm, seval]
      exact ⟨p118, Nat.lt_succ_self _, by rw [hI118]; refine ⟨p118, c118_8 + 1, c118_o0, c118_o1, x0_s.Fade.a2.High, c118_o3, c118_o4, e98.pg.a2.High, rfl, zkd hi118, zfa hp118, rfl, (show nx98 + 7 ≤ nx118 + 48 by omega), ?_, ?_, ?_, ?_, ?_, e150, e151, e152, e153, e154, e155, ?_, h⟩ <;> first | (simp only [ua, b146, d147, d148, d149, e150, e151, e152, e153, e154, e155, e156, nm, seval] <;> rfl) | rfl⟩
     simp only [d148, hs] at h
     simp only [vz, tyf, b146, (ix26 o117), e139, e140, e141, e142, e143, e144, e145, d147, d148, (zio d148), (zfq d148), (zfv d148), nm, seval]
     refine zbl ⟨?_, ?_⟩
     ·simp only [zas, zaz, zad, zbz, and_true, true_and]
      repeat' (first | exact trivial | refine And.intro ?_ ?_ | rw [zad] | rw [zbk] | exact Or.inl (by decide +kernel) | exact Or.inl (by dsimp only; decide +kernel) | (refine Or.inr ⟨?_, ?_⟩ <;> simp; done) | (refine Or.inr ⟨?_, ?_⟩ <;> simp <;> omega) | (refine Or.inr ⟨?_, ?_⟩ <;> simp [VEff.wr] <;> omega))
     simp only [vz, tyf, b146, (ix26 o117), e139, e140, e141, e142, e143, e144, e145, d147, d148, (zio d148), (zfq d148), (zfv d148), nm, seval]
     refine zbw (fun tm => tm 1 = .lit (.bool true) ∧ tm 2 = .ptr 0 0 ∧ tm 4 = .ptr 1 0 ∧ tm 5 = .ptr 6 0 ∧ tm 6 = .lit (.int .i64 c98_6) ∧ tm 7 = .ptr (nx98 + 5) 0 ∧ tm 8 = .lit (.int .i64 c118_8) ∧ True) (by refine ⟨e139, e140, e141, e142, e143, e144, e145, trivial⟩ <;> first | (simp only [ua, b146, e139, e140, e141, e142, e143, e144, e145, d147, d148, nm, seval] <;> rfl) | rfl) ?_
     rintro tm ⟨e157, e158, e159, e160, e161, e162, e163, _⟩
     simp only [vz, tyf, b146, (ix26 o117), d147, d148, (zio d148), (zfq d148), (zfv d148), e157, e158, e159, e160, e161, e162, e163, nm, seval]
     refine zbl ⟨?_, ?_⟩
     ·simp only [zas, zaz, zad, zbz, and_true, true_and]
      repeat' (first | exact trivial | refine And.intro ?_ ?_ | rw [zad] | rw [zbk] | exact Or.inl (by decide +kernel) | exact Or.inl (by dsimp only; decide +kernel) | (refine Or.inr ⟨?_, ?_⟩ <;> simp; done) | (refine Or.inr ⟨?_, ?_⟩ <;> simp <;> omega) | (refine Or.inr ⟨?_, ?_⟩ <;> simp [VEff.wr] <;> omega))
     simp only [vz, tyf, b146, (ix26 o117), d147, d148, (zio d148), (zfq d148), (zfv d148), e157, e158, e159, e160, e161, e162, e163, nm, seval]
     exact ⟨p118, Nat.lt_succ_self _, by rw [hI118]; refine ⟨p118, c118_8 + 1, c118_o0, x0_s.Fade.a1.High, c118_o2, c118_o3, e98.pg.a1.High, c118_o5, rfl, zkd hi118, zfa hp118, rfl, (show nx98 + 7 ≤ nx118 + 48 by omega), ?_, ?_, ?_, ?_, ?_, e157, e158, e159, e160, e161, e162, ?_, h⟩ <;> first | (simp only [ua, b146, d147, d148, e157, e158, e159, e160, e161, e162, e163, nm, seval] <;> rfl) | rfl⟩
    simp only [d147, hs] at h
    simp only [vz, tyf, b146, (ix26 o117), e139, e140, e141, e142, e143, e144, e145, d147, (zir d147), (zfw d147), (zft d147), nm, seval]
    refine zbl ⟨?_, ?_⟩
    ·simp only [zas, zaz, zad, zbz, and_true, true_and]
     repeat' (first | exact trivial | refine And.intro ?_ ?_ | rw [zad] | rw [zbk] | exact Or.inl (by decide +kernel) | exact Or.inl (by dsimp only; decide +kernel) | (refine Or.inr ⟨?_, ?_⟩ <;> simp; done) | (refine Or.inr ⟨?_, ?_⟩ <;> simp <;> omega) | (refine Or.inr ⟨?_, ?_⟩ <;> simp [VEff.wr] <;> omega))
    simp only [vz, tyf, b146, (ix26 o117), e139, e140, e141, e142, e143, e144, e145, d147, (zir d147), (zfw d147), (zft d147), nm, seval]
    refine zbw (fun tm => tm 1 = .lit (.bool true) ∧ tm 2 = .ptr 0 0 ∧ tm 4 = .ptr 1 0 ∧ tm 5 = .ptr 6 0 ∧ tm 6 = .lit (.int .i64 c98_6) ∧ tm 7 = .ptr (nx98 + 5) 0 ∧ tm 8 = .lit (.int .i64 c118_8) ∧ True) (by refine ⟨e139, e140, e141, e142, e143, e144, e145, trivial⟩ <;> first | (simp only [ua, b146, e139, e140, e141, e142, e143, e144, e145, d147, nm, seval] <;> rfl) | rfl) ?_
    rintro tm ⟨e164, e165, e166, e167, e168, e169, e170, _⟩
    simp only [vz, tyf, b146, (ix26 o117), d147, (zir d147), (zfw d147), (zft d147), e164, e165, e166, e167, e168, e169, e170, nm, seval]
    refine zbl ⟨?_, ?_⟩
    ·simp only [zas, zaz, zad, zbz, and_true, true_and]
     repeat' (first | exact trivial | refine And.intro ?_ ?_ | rw [zad] | rw [zbk] | exact Or.inl (by decide +kernel) | exact Or.inl (by dsimp only; decide +kernel) | (refine Or.inr ⟨?_, ?_⟩ <;> simp; done) | (refine Or.inr ⟨?_, ?_⟩ <;> simp <;> omega) | (refine Or.inr ⟨?_, ?_⟩ <;> simp [VEff.wr] <;> omega))
    simp only [vz, tyf, b146, (ix26 o117), d147, (zir d147), (zfw d147), (zft d147), e164, e165, e166, e167, e168, e169, e170, nm, seval]
    exact ⟨p118, Nat.lt_succ_self _, by rw [hI118]; refine ⟨p118, c118_8 + 1, x0_s.Fade.a0.High, c118_o1, c118_o2, e98.pg.a0.High, c118_o4, c118_o5, rfl, zkd hi118, zfa hp118, rfl, (show nx98 + 7 ≤ nx118 + 48 by omega), ?_, ?_, ?_, ?_, ?_, e164, e165, e166, e167, e168, e169, ?_, h⟩ <;> first | (simp only [ua, b146, d147, e164, e165, e166, e167, e168, e169, e170, nm, seval] <;> rfl) | rfl⟩
 ·cases p98 with
  | nil =>
   have d171 : (decide (c98_6 < (List.length x0_s.Tins : Int))) = false := zap hi98 hp98
   simp only [zbg, zbf, hs, reduceCtorEq] at h
   replace h := kG98 _ h
   try dsimp only at h
   try simp only [hs] at h
   try simp only [vz, tyf, d11, g99, n108, e103, e104, e105, e106, e107, H100, H101, H102, d171, nm, seval]
   refine zay (x := (.agg ([.lit (.slice none 0 0)] ++ [.lit (.int .i64 x0_s.Years.High)] ++ [.lit (.int .i64 c98_o1)] ++ [.lit (.int .i64 c98_o2)] ++ [.lit (.int .i64 c98_o3)]))) (by first | (simp only [Tryz.results34, resV, resL, resV1, zba, zcc, uw, cr, tyf, d11, g99, n108, e103, e104, e105, e106, e107, H100, H101, H102, d171, nm, seval] <;> rfl) | rfl) ?_
   obtain rfl := kF _ h
   refine zbb ?_ ?_
   ·simp only [tre, tytre, Bool.and_self]
   ·first | (simp only [outV, uw, zaf, cr, tyf, nrm, tynrm, d11, g99, n108, e103, e104, e105, e106, e107, H100, H101, H102, d171, nm, seval] <;> rfl) | rfl
  | cons e98 p98 =>
   have d172 : (decide (c98_6 < (List.length x0_s.Tins : Int))) = true := zbr hi98 hp98
   have o174 := zal hi98 hp98
   have w173 := zcf hi98 hp98 g99
   simp only [zbg, zbf, hs, reduceCtorEq] at h
   cases g176 : (boundOk 3)
   ·simp only [g176, hs] at h
    exact absurd h kN98
   simp only [g176, hs] at h
   simp only [vz, tyf, d11, g99, n108, e103, e104, e105, e106, e107, H100, H101, H102, d172, (ix26 o174), w173, g176, nm, seval]
   obtain ⟨K175, h, kR175, kG175, kB175, kN175⟩ := zat h kN98
   obtain ⟨f175, hf175, h⟩ := call8 h
   obtain ⟨I175, hI175⟩ : ∃ I : Nat → St → Prop, I = (fun m st => ∃ (p175 : Nat) (c175_8 : Int) (c175_o0 : Int) (c175_o1 : Int) (c175_o2 : Int) (c175_o3 : Int) (c175_o4 : Int) (c175_o5 : Int), p175 = m ∧ loOk c175_8 = true ∧ Int.toNat (3 - c175_8) = p175 ∧ st.df = [] ∧ nx98 + 7 ≤ st.nx ∧ st.H 0 = some (.cells (some 28) (cGs x0_s)) ∧ st.H 1 = some (.cells (some 42) ([.lit (.slice none 0 0)] ++ [.lit (.int .i64 0)] ++ [.lit (.int .i64 0)] ++ [.lit (.int .i64 0)] ++ [.lit (.int .i64 0)])) ∧ st.H 6 = some (.cells (some 42) ([.lit (.slice none 0 0)] ++ [.lit (.int .i64 x0_s.Years.High)] ++ [.lit (.int .i64 c175_o0)] ++ [.lit (.int .i64 c175_o1)] ++ [.lit (.int .i64 c175_o2)])) ∧ st.H (nx98 + 5) = some (.cells (some 22) ([.lit (.int .i64 c175_o3)] ++ [.lit (.int .i64 c175_o4)] ++ [.lit (.int .i64 c175_o5)])) ∧ st.tm 1 = .lit (.bool true) ∧ st.tm 2 = .ptr 0 0 ∧ st.tm 4 = .ptr 1 0 ∧ st.tm 5 = .ptr 6 0 ∧ st.tm 6 = .lit (.int .i64 c98_6) ∧ st.tm 7 = .ptr (nx98 + 5) 0 ∧ st.tm 8 = .lit (.int .i64 c175_8) ∧ K175 (f175 p175 c175_8 c175_o0 c175_o1 c175_o2 c175_o3 c175_o4 c175_o5)) := ⟨_, rfl⟩
   refine loopK mixed (by kernel_rfl) I175 (Int.toNat (3 - 0)) (by rw [hI175]; refine ⟨Int.toNat (3 - 0), 0, c98_o1, c98_o2, c98_o3, 0, 0, 0, rfl, (by rfl), rfl, rfl, (show nx98 + 7 ≤ nx98 + 7 by omega), ?_, ?_, ?_, ?_, e103, e104, e105, e106, e107, ?_, ?_, h⟩ <;> first | (simp only [ua, d11, n108, e103, e104, e105, e106, e107, H100, H101, H102, d172, w173, nm, seval] <;> rfl) | rfl) ?_
   rintro m ⟨tm, H, nx175, df⟩ hinv
   rw [hI175] at hinv
   obtain ⟨p175, c175_8, c175_o0, c175_o1, c175_o2, c175_o3, c175_o4, c175_o5, rfl, hi175, hp175, hdf, hn175, H177, H178, H179, H180, e181, e182, e183, e184, e185, e186, e187, h⟩ := hinv
   simp only at hdf hn175 H177 H178 H179 H180 e181 e182 e183 e184 e185 e186 e187
   have n188 := zcg (m := 15) (b := nx175) (by omega)
   have n189 := zje (a := nx98) (m := 7) (b := nx175) (by omega)
   subst hdf hf175
   cases p175 with
   | zero =>
    have d190 : (decide (c175_8 < 3)) = false := zjh hp175
    simp only [zbi, zbj, hs, reduceCtorEq] at h
    replace h := kG175 _ h
    try dsimp only at h
    try simp only [hs] at h
    cases g191 : (roomOk 24 (List.length (([] : List Gi) ++ [(Gi.mk c175_o3 c175_o4 c175_o5)])))
    ·simp only [g191, hs] at h
     exact absurd h kN98
    simp only [g191, hs] at h
    simp only [vz, tyf, d11, g99, n108, d172, (ix26 o174), w173, g176, n188, n189, e181, e182, e183, e184, e185, e186, e187, H177, H178, H179, H180, d190, g191, nm, seval]
    refine zxd (w := 3) (enc := cGi) (ys := ([(Gi.mk c175_o3 c175_o4 c175_o5)])) (el2 := (some 22)) (fun _ => rfl) lf40 ao40 Tryz.underlying40 (by first | rfl | assumption | (simp only [zaa, zac, et40, n108, n188, n189, H177, H178, H179, H180, nm, seval] <;> rfl) | (simp only [zaa, zac, zci, zbu, zjb, zgn, tyf, d11, g99, n108, d172, (ix26 o174), w173, g176, n188, n189, e181, e182, e183, e184, e185, e186, e187, H177, H178, H179, H180, d190, g191, nm, seval]; done)) (Nat.zero_lt_succ _) g191 ?_
    simp only [vz, tyf, d11, g99, n108, d172, (ix26 o174), w173, g176, n188, n189, e181, e182, e183, e184, e185, e186, e187, H177, H178, H179, H180, d190, g191, nm, seval]
    exact ⟨List.length p98, Nat.lt_succ_self _, by rw [hI98]; refine ⟨p98, c98_6 + 1, (([] : List Gi) ++ [(Gi.mk c175_o3 c175_o4 c175_o5)]), c175_o0, c175_o1, c175_o2, .ref (nx175 + 6) 0 (List.length (([] : List Gi) ++ [(Gi.mk c175_o3 c175_o4 c175_o5)])) 3 (List.length (([] : List Gi) ++ [(Gi.mk c175_o3 c175_o4 c175_o5)])), rfl, Int.le_trans hi98 (Int.le_add_one (Int.le_refl _)), zbe hi98 hp98, rfl, (show 15 ≤ nx175 + 12 by omega), ?_, ?_, ?_, e181, e182, e183, e184, ?_, Or.inl ⟨nx175 + 6, (some 22), rfl, (by first | omega | (simp only [nm, seval]; omega)), (by first | omega | (intro hh; simp only [n108, n188, n189, reduceCtorEq] at hh)), (by first | omega | (intro hh; simp only [n108, n188, n189, reduceCtorEq] at hh)), (by first | omega | (intro hh; simp only [n108, n188, n189, reduceCtorEq] at hh)), ?_⟩, h⟩ <;> first | (simp only [ua, d11, n108, d172, w173, n188, n189, e181, e182, e183, e184, e185, e186, e187, H177, H178, H179, H180, d190, nm, seval] <;> rfl) | rfl⟩
   | succ p175 =>
    have d192 : (decide (c175_8 < 3)) = true := zacd hp175
    have w193 := zne hi175 hp175 g176
    simp only [zbi, zbj, hs, reduceCtorEq] at h
    simp only [vz, tyf, d11, g99, n108, d172, (ix26 o174), w173, g176, n188, n189, e181, e182, e183, e184, e185, e186, e187, H177, H178, H179, H180, d192, w193, nm, seval]
    refine zbw (fun tm => tm 1 = .lit (.bool true) ∧ tm 2 = .ptr 0 0 ∧ tm 4 = .ptr 1 0 ∧ tm 5 = .ptr 6 0 ∧ tm 6 = .lit (.int .i64 c98_6) ∧ tm 7 = .ptr (nx98 + 5) 0 ∧ tm 8 = .lit (.int .i64 c175_8) ∧ True) (by refine ⟨e181, e182, e183, e184, e185, e186, e187, trivial⟩ <;> first | (simp only [ua, d11, n108, d172, w173, n188, n189, e181, e182, e183, e184, e185, e186, e187, H177, H178, H179, H180, d192, w193, nm, seval] <;> rfl) | rfl) ?_
    rintro tm ⟨e194, e195, e196, e197, e198, e199, e200, _⟩
    have b201 := And.intro d11 (And.intro g99 (And.intro n108 (And.intro d172 (And.intro w173 (And.intro g176 (And.intro n188 (And.intro n189 (And.intro H177 (And.intro H178 (And.intro H179 (And.intro H180 (And.intro d192 w193))))))))))))
    cases d202 : (c175_8 == 0)
    ·simp only [d202, hs] at h
     cases d203 : (c175_8 == 1)
     ·simp only [d203, hs] at h
      cases d204 : (c175_8 == 2)
      ·simp only [d204, hs] at h
       exact absurd h kN175
      simp only [d204, hs] at h
      simp only [vz, tyf, b201, (ix26 o174), e194, e195, e196, e197, e198, e199, e200, d202, d203, d204, (zin d204), (zfu d204), (zfs d204), nm, seval]
      refine zbl ⟨?_, ?_⟩
      ·simp only [zas, zaz, zad, zbz, and_true, true_and]
       repeat' (first | exact trivial | refine And.intro ?_ ?_ | rw [zad] | rw [zbk] | exact Or.inl (by decide +kernel) | exact Or.inl (by dsimp only; decide +kernel) | (refine Or.inr ⟨?_, ?_⟩ <;> simp; done) | (refine Or.inr ⟨?_, ?_⟩ <;> simp <;> omega) | (refine Or.inr ⟨?_, ?_⟩ <;> simp [VEff.wr] <;> omega))
      simp only [vz, tyf, b201, (ix26 o174), e194, e195, e196, e197, e198, e199, e200, d202, d203, d204, (zin d204), (zfu d204), (zfs d204), nm, seval]
      refine zbw (fun tm => tm 1 = .lit (.bool true) ∧ tm 2 = .ptr 0 0 ∧ tm 4 = .ptr 1 0 ∧ tm 5 = .ptr 6 0 ∧ tm 6 = .lit (.int .i64 c98_6) ∧ tm 7 = .ptr (nx98 + 5) 0 ∧ tm 8 = .lit (.int .i64 c175_8) ∧ True) (by refine ⟨e194, e195, e196, e197, e198, e199, e200, trivial⟩ <;> first | (simp only [ua, b201, e194, e195, e196, e197, e198, e199, e200, d202, d203, d204, nm, seval] <;> rfl) | rfl) ?_
      rintro tm ⟨e205, e206, e207, e208, e209, e210, e211, _⟩
      simp only [vz, tyf, b201, (ix26 o174), d202, d203, d204, (zin d204), (zfu d204), (zfs d204), e205, e206, e207, e208, e209, e210, e211, nm, seval]
      refine zbl ⟨?_, ?_⟩
      ·simp only [zas, zaz, zad, zbz, and_true, true_and]
       repeat' (first | exact trivial | refine And.intro ?_ ?_ | rw [zad] | rw [zbk] | exact Or.inl (by decide +kernel) | exact Or.inl (by dsimp only; decide +kernel) | (refine Or.inr ⟨?_, ?_⟩ <;> simp; done) | (refine Or.inr ⟨?_, ?_⟩ <;> simp <;> omega) | (refine Or.inr ⟨?_, ?_⟩ <;> simp [VEff.wr] <;> omega))
      simp only [vz, tyf, b201, (ix26 o174), d202, d203, d204, (zin d204), (zfu d204), (zfs d204), e205, e206, e207, e208, e209, e210, e211, nm, seval]
      exact ⟨p175, Nat.lt_succ_self _, by rw [hI175]; refine ⟨p175, c175_8 + 1, c175_o0, c175_o1, x0_s.Fade.a2.High, c175_o3, c175_o4, e98.pg.a2.High, rfl, zkd hi175, zfa hp175, rfl, (show nx98 + 7 ≤ nx175 + 48 by omega), ?_, ?_, ?_, ?_, e205, e206, e207, e208, e209, e210, ?_, h⟩ <;> first | (simp only [ua, b201, d202, d203, d204, e205, e206, e207, e208, e209, e210, e211, nm, seval] <;> rfl) | rfl⟩
     simp only [d203, hs] at h
     simp only [vz, tyf, b201, (ix26 o174), e194, e195, e196, e197, e198, e199, e200, d202, d203, (zio d203), (zfq d203), (zfv d203), nm, seval]
     refine zbl ⟨?_, ?_⟩
     ·simp only [zas, zaz, zad, zbz, and_true, true_and]
      repeat' (first | exact trivial | refine And.intro ?_ ?_ | rw [zad] | rw [zbk] | exact Or.inl (by decide +kernel) | exact Or.inl (by dsimp only; decide +kernel) | (refine Or.inr ⟨?_, ?_⟩ <;> simp; done) | (refine Or.inr ⟨?_, ?_⟩ <;> simp <;> omega) | (refine Or.inr ⟨?_, ?_⟩ <;> simp [VEff.wr] <;> omega))
     simp only [vz, tyf, b201, (ix26 o174), e194, e195, e196, e197, e198, e199, e200, d202, d203, (zio d203), (zfq d203), (zfv d203), nm, seval]
     refine zbw (fun tm => tm 1 = .lit (.bool true) ∧ tm 2 = .ptr 0 0 ∧ tm 4 = .ptr 1 0 ∧ tm 5 = .ptr 6 0 ∧ tm 6 = .lit (.int .i64 c98_6) ∧ tm 7 = .ptr (nx98 + 5) 0 ∧ tm 8 = .lit (.int .i64 c175_8) ∧ True) (by refine ⟨e194, e195, e196, e197, e198, e199, e200, trivial⟩ <;> first | (simp only [ua, b201, e194, e195, e196, e197, e198, e199, e200, d202, d203, nm, seval] <;> rfl) | rfl) ?_
     rintro tm ⟨e212, e213, e214, e215, e216, e217, e218, _⟩
     simp only [vz, tyf, b201, (ix26 o174), d202, d203, (zio d203), (zfq d203), (zfv d203), e212, e213, e214, e215, e216, e217, e218, nm, seval]
     refine zbl ⟨?_, ?_⟩
     ·simp only [zas, zaz, zad, zbz, and_true, true_and]
      repeat' (first | exact trivial | refine And.intro ?_ ?_ | rw [zad] | rw [zbk] | exact Or.inl (by decide +kernel) | exact Or.inl (by dsimp only; decide +kernel) | (refine Or.inr ⟨?_, ?_⟩ <;> simp; done) | (refine Or.inr ⟨?_, ?_⟩ <;> simp <;> omega) | (refine Or.inr ⟨?_, ?_⟩ <;> simp [VEff.wr] <;> omega))
     simp only [vz, tyf, b201, (ix26 o174), d202, d203, (zio d203), (zfq d203), (zfv d203), e212, e213, e214, e215, e216, e217, e218, nm, seval]
     exact ⟨p175, Nat.lt_succ_self _, by rw [hI175]; refine ⟨p175, c175_8 + 1, c175_o0, x0_s.Fade.a1.High, c175_o2, c175_o3, e98.pg.a1.High, c175_o5, rfl, zkd hi175, zfa hp175, rfl, (show nx98 + 7 ≤ nx175 + 48 by omega), ?_, ?_, ?_, ?_, e212, e213, e214, e215, e216, e217, ?_, h⟩ <;> first | (simp only [ua, b201, d202, d203, e212, e213, e214, e215, e216, e217, e218, nm, seval] <;> rfl) | rfl⟩
    simp only [d202, hs] at h
    simp only [vz, tyf, b201, (ix26 o174), e194, e195, e196, e197, e198, e199, e200, d202, (zir d202), (zfw d202), (zft d202), nm, seval]
    refine zbl ⟨?_, ?_⟩
    ·simp only [zas, zaz, zad, zbz, and_true, true_and]
     repeat' (first | exact trivial | refine And.intro ?_ ?_ | rw [zad] | rw [zbk] | exact Or.inl (by decide +kernel) | exact Or.inl (by dsimp only; decide +kernel) | (refine Or.inr ⟨?_, ?_⟩ <;> simp; done) | (refine Or.inr ⟨?_, ?_⟩ <;> simp <;> omega) | (refine Or.inr ⟨?_, ?_⟩ <;> simp [VEff.wr] <;> omega))
    simp only [vz, tyf, b201, (ix26 o174), e194, e195, e196, e197, e198, e199, e200, d202, (zir d202), (zfw d202), (zft d202), nm, seval]
    refine zbw (fun tm => tm 1 = .lit (.bool true) ∧ tm 2 = .ptr 0 0 ∧ tm 4 = .ptr 1 0 ∧ tm 5 = .ptr 6 0 ∧ tm 6 = .lit (.int .i64 c98_6) ∧ tm 7 = .ptr (nx98 + 5) 0 ∧ tm 8 = .lit (.int .i64 c175_8) ∧ True) (by refine ⟨e194, e195, e196, e197, e198, e199, e200, trivial⟩ <;> first | (simp only [ua, b201, e194, e195, e196, e197, e198, e199, e200, d202, nm, seval] <;> rfl) | rfl) ?_
    rintro tm ⟨e219, e220, e221, e222, e223, e224, e225, _⟩
    simp only [vz, tyf, b201, (ix26 o174), d202, (zir d202), (zfw d202), (zft d202), e219, e220, e221, e222, e223, e224, e225, nm, seval]
    refine zbl ⟨?_, ?_⟩
    ·simp only [zas, zaz, zad, zbz, and_true, true_and]
     repeat' (first | exact trivial | refine And.intro ?_ ?_ | rw [zad] | rw [zbk] | exact Or.inl (by decide +kernel) | exact Or.inl (by dsimp only; decide +kernel) | (refine Or.inr ⟨?_, ?_⟩ <;> simp; done) | (refine Or.inr ⟨?_, ?_⟩ <;> simp <;> omega) | (refine Or.inr ⟨?_, ?_⟩ <;> simp [VEff.wr] <;> omega))
    simp only [vz, tyf, b201, (ix26 o174), d202, (zir d202), (zfw d202), (zft d202), e219, e220, e221, e222, e223, e224, e225, nm, seval]
    exact ⟨p175, Nat.lt_succ_self _, by rw [hI175]; refine ⟨p175, c175_8 + 1, x0_s.Fade.a0.High, c175_o1, c175_o2, e98.pg.a0.High, c175_o4, c175_o5, rfl, zkd hi175, zfa hp175, rfl, (show nx98 + 7 ≤ nx175 + 48 by omega), ?_, ?_, ?_, ?_, e219, e220, e221, e222, e223, e224, ?_, h⟩ <;> first | (simp only [ua, b201, d202, e219, e220, e221, e222, e223, e224, e225, nm, seval] <;> rfl) | rfl⟩
end Go.V
end
section
namespace Go.V
open Go Go.Proofs
def zfe (x0_s : Gs) (x1_mix : List Int) : Option (Bool) := Option.bind (zfi x0_s x1_mix) (fun r1 => cond (r1) (Option.bind (zhp x0_s x1_mix) (fun r2 => Option.bind (zeq x0_s true) (fun r3 => Option.bind (zfm x0_s x1_mix r3) (fun r4 => Option.bind (zeq x0_s false) (fun r5 => Option.bind (zfm x0_s x1_mix r5) (fun r6 => cond (r2.2 == 0) (cond (r4.2 == 0) (cond (r6.2 == 0) (cond (r4.1) (cond ((r2.1 == 3) == r6.1) (some true) (some false)) (cond ((r2.1 == 3) == false) (some true) (some false))) (some false)) (some false)) (some false))))))) (some true))
theorem zkt (x0_s : Gs) (x1_mix : List Int) (R : Bool) (h : zfe x0_s x1_mix = some R) : VPure Tryz.prog G0 7 [.agg (cGs x0_s), .sl (cellsL eI x1_mix) (List.length x1_mix) false] (.tree (.lit (.bool R))) := by
 refine VPure.runR mixed Tryz.call7 Tryz.func7 rfl (by simp [Tryz.ntmps7]; kernel_rfl) ?_
 obtain ⟨KF, h, kF, kN⟩ := zaq h
 simp only [zfe] at h
 obtain ⟨r7, o8, h⟩ := optI h kN
 try simp only [hs] at h
 simp only [vz, tyf, nm, seval]
 refine ktA (zhy _ _ _ o8) ?_
 refine zae (fun tm => tm 1 = .sl (cellsL eI x1_mix) (List.length x1_mix) false ∧ tm 2 = .ptr 0 0 ∧ tm 13 = .lit (.bool r7) ∧ True) (by refine ⟨?_, ?_, ?_, trivial⟩ <;> first | (simp only [ua, nm, seval] <;> rfl) | rfl) ?_
 rintro tm ⟨e9, e10, e11, _⟩
 cases d12 : (r7)
 ·simp only [d12, hs] at h
  simp only [vz, tyf, e9, e10, e11, d12, nm, seval]
  refine ktree0 zak ?_
  try simp only [vz, tyf, e9, e10, e11, d12, nm, seval]
  obtain rfl := kF _ h
  exact zab Tryz.results7 rfl
 simp only [d12, hs] at h
 obtain ⟨r13, o14, h⟩ := optI h kN
 try simp only [hs] at h
 simp only [vz, tyf, e9, e10, e11, d12, nm, seval]
 refine ktA (zmf _ _ _ o14) ?_
 refine zae (fun tm => tm 1 = .sl (cellsL eI x1_mix) (List.length x1_mix) false ∧ tm 2 = .ptr 0 0 ∧ tm 19 = .tup [.lit (.int .i64 r13.1), .lit (.int .i64 r13.2)] ∧ True) (by refine ⟨e9, e10, ?_, trivial⟩ <;> first | (simp only [ua, e9, e10, e11, d12, nm, seval] <;> rfl) | rfl) ?_
 rintro tm ⟨e15, e16, e17, _⟩
 simp only [vz, tyf, d12, e15, e16, e17, nm, seval]
 refine zeb (fun tm => tm 1 = .sl (cellsL eI x1_mix) (List.length x1_mix) false ∧ tm 2 = .ptr 0 0 ∧ tm 5 = .lit (.int .i64 r13.1) ∧ tm 6 = .lit (.int .i64 r13.2) ∧ True) (by refine ⟨e15, e16, ?_, ?_, trivial⟩ <;> first | (simp only [ua, d12, e15, e16, e17, nm, seval] <;> rfl) | rfl) ?_
 rintro tm ⟨e18, e19, e20, e21, _⟩
 obtain ⟨r22, o23, h⟩ := optI h kN
 try simp only [hs] at h
 simp only [vz, tyf, d12, e18, e19, e20, e21, nm, seval]
 refine dktA (zka _ _ _ o23) ?_
 refine zae (fun tm => tm 1 = .sl (cellsL eI x1_mix) (List.length x1_mix) false ∧ tm 2 = .ptr 0 0 ∧ tm 5 = .lit (.int .i64 r13.1) ∧ tm 6 = .lit (.int .i64 r13.2) ∧ tm 23 = .agg (cGs x0_s) ∧ tm 24 = .sl (cellsL eI x1_mix) (List.length x1_mix) false ∧ tm 26 = .agg (cGu r22) ∧ True) (by refine ⟨e18, e19, e20, e21, ?_, ?_, ?_, trivial⟩ <;> first | (simp only [ua, d12, e18, e19, e20, e21, nm, seval] <;> rfl) | rfl) ?_
 rintro tm ⟨e24, e25, e26, e27, e28, e29, e30, _⟩
 obtain ⟨r31, o32, h⟩ := optI h kN
 try simp only [hs] at h
 simp only [vz, tyf, d12, e24, e25, e26, e27, e28, e29, e30, nm, seval]
 refine dktA (zeg _ _ _ _ o32) ?_
 refine zae (fun tm => tm 1 = .sl (cellsL eI x1_mix) (List.length x1_mix) false ∧ tm 2 = .ptr 0 0 ∧ tm 5 = .lit (.int .i64 r13.1) ∧ tm 6 = .lit (.int .i64 r13.2) ∧ tm 27 = .tup [.lit (.bool r31.1), .lit (.int .i64 r31.2)] ∧ True) (by refine ⟨e24, e25, e26, e27, ?_, trivial⟩ <;> first | (simp only [ua, d12, e24, e25, e26, e27, e28, e29, e30, nm, seval] <;> rfl) | rfl) ?_
 rintro tm ⟨e33, e34, e35, e36, e37, _⟩
 simp only [vz, tyf, d12, e33, e34, e35, e36, e37, nm, seval]
 refine zeb (fun tm => tm 1 = .sl (cellsL eI x1_mix) (List.length x1_mix) false ∧ tm 2 = .ptr 0 0 ∧ tm 5 = .lit (.int .i64 r13.1) ∧ tm 6 = .lit (.int .i64 r13.2) ∧ tm 7 = .lit (.bool r31.1) ∧ tm 8 = .lit (.int .i64 r31.2) ∧ True) (by refine ⟨e33, e34, e35, e36, ?_, ?_, trivial⟩ <;> first | (simp only [ua, d12, e33, e34, e35, e36, e37, nm, seval] <;> rfl) | rfl) ?_
 rintro tm ⟨e38, e39, e40, e41, e42, e43, _⟩
 obtain ⟨r44, o45, h⟩ := optI h kN
 try simp only [hs] at h
 simp only [vz, tyf, d12, e38, e39, e40, e41, e42, e43, nm, seval]
 refine dktA (zka _ _ _ o45) ?_
 refine zae (fun tm => tm 5 = .lit (.int .i64 r13.1) ∧ tm 6 = .lit (.int .i64 r13.2) ∧ tm 7 = .lit (.bool r31.1) ∧ tm 8 = .lit (.int .i64 r31.2) ∧ tm 31 = .agg (cGs x0_s) ∧ tm 32 = .sl (cellsL eI x1_mix) (List.length x1_mix) false ∧ tm 34 = .agg (cGu r44) ∧ True) (by refine ⟨e40, e41, e42, e43, ?_, ?_, ?_, trivial⟩ <;> first | (simp only [ua, d12, e38, e39, e40, e41, e42, e43, nm, seval] <;> rfl) | rfl) ?_
 rintro tm ⟨e46, e47, e48, e49, e50, e51, e52, _⟩
 obtain ⟨r53, o54, h⟩ := optI h kN
 try simp only [hs] at h
 simp only [vz, tyf, d12, e46, e47, e48, e49, e50, e51, e52, nm, seval]
 refine dktA (zeg _ _ _ _ o54) ?_
 refine zae (fun tm => tm 5 = .lit (.int .i64 r13.1) ∧ tm 6 = .lit (.int .i64 r13.2) ∧ tm 7 = .lit (.bool r31.1) ∧ tm 8 = .lit (.int .i64 r31.2) ∧ tm 35 = .tup [.lit (.bool r53.1), .lit (.int .i64 r53.2)] ∧ True) (by refine ⟨e46, e47, e48, e49, ?_, trivial⟩ <;> first | (simp only [ua, d12, e46, e47, e48, e49, e50, e51, e52, nm, seval] <;> rfl) | rfl) ?_
 rintro tm ⟨e55, e56, e57, e58, e59, _⟩
 cases d60 : (r13.2 == 0)
 ·simp only [d60, hs] at h
  try simp only [vz, tyf, d12, e55, e56, e57, e58, e59, d60, nm, seval]
  obtain rfl := kF _ h
  exact zab Tryz.results7 rfl
 simp only [d60, hs] at h
 cases d61 : (r31.2 == 0)
 ·simp only [d61, hs] at h
  try simp only [vz, tyf, d12, e55, e56, e57, e58, e59, d60, d61, nm, seval]
  obtain rfl := kF _ h
  exact zab Tryz.results7 rfl
 simp only [d61, hs] at h
 cases d62 : (r53.2 == 0)
 ·simp only [d62, hs] at h
  try simp only [vz, tyf, d12, e55, e56, e57, e58, e59, d60, d61, d62, nm, seval]
  obtain rfl := kF _ h
  exact zab Tryz.results7 rfl
 simp only [d62, hs] at h
 cases d63 : (r31.1)
 ·simp only [d63, hs] at h
  cases d64 : ((r13.1 == 3) == false)
  ·simp only [d64, hs] at h
   try simp only [vz, tyf, d12, e55, e56, e57, e58, e59, d60, d61, d62, d63, d64, nm, seval]
   obtain rfl := kF _ h
   exact zab Tryz.results7 rfl
  simp only [d64, hs] at h
  simp only [vz, tyf, d12, e55, e56, e57, e58, e59, d60, d61, d62, d63, d64, nm, seval]
  refine ktree0 zak ?_
  try simp only [vz, tyf, d12, e55, e56, e57, e58, e59, d60, d61, d62, d63, d64, nm, seval]
  obtain rfl := kF _ h
  exact zab Tryz.results7 rfl
 simp only [d63, hs] at h
 cases d65 : ((r13.1 == 3) == r53.1)
 ·simp only [d65, hs] at h
  try simp only [vz, tyf, d12, e55, e56, e57, e58, e59, d60, d61, d62, d63, d65, nm, seval]
  obtain rfl := kF _ h
  exact zab Tryz.results7 rfl
 simp only [d65, hs] at h
 simp only [vz, tyf, d12, e55, e56, e57, e58, e59, d60, d61, d62, d63, d65, nm, seval]
 refine ktree0 zak ?_
 try simp only [vz, tyf, d12, e55, e56, e57, e58, e59, d60, d61, d62, d63, d65, nm, seval]
 obtain rfl := kF _ h
 exact zab Tryz.results7 rfl
end Go.V
end
