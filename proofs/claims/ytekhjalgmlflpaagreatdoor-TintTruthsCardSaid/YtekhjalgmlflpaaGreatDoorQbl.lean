/- Part of a proof: a logic of values by content, lifted functions, what follows. -/
import Derived.Test.YtekhjalgmlflpaaGreatDoorQbf
import Derived.Test.YtekhjalgmlflpaaGreatDoorQbe
import Derived.Test.YtekhjalgmlflpaaGreatDoorQbk
import Derived.Test.YtekhjalgmlflpaaGreatDoorQbh
import Derived.Test.YtekhjalgmlflpaaGreatDoorQbg
set_option linter.all false
set_option maxRecDepth 4000
set_option maxHeartbeats 40000000
section
namespace Go.V
open Go Go.Proofs
def zcx  : List GA3Int → Int → (List GTintTin) → Option (LOut (GTintSheet) ((List GTintTin)))
 | [], c0_19, c0_o0 => some (.go c0_o0)
 | e0 :: p0, c0_19, c0_o0 => Option.bind (zdk e0) (fun r4 => cond (roomOk 48 (List.length (c0_o0 ++ [(GTintTin.mk r4)]))) (zcx p0 (c0_19 + 1) (c0_o0 ++ [(GTintTin.mk r4)])) none)
def zga (x0_s : GTintSheet) (x1_t : GTintTruth) : Option (GTintSheet) := Option.bind (zdq x1_t.Years) (fun r1 => Option.bind (zdk x1_t.Fade) (fun r2 => cond (lenOk x1_t.Tins) (lbind (zcx x1_t.Tins 0 ([] : List GTintTin)) (fun r6 => some r6) (fun c5 => some (GTintSheet.mk x0_s.Old r2 r1 x0_s.Off c5)) (fun _ _ => none)) none))
theorem zpn (x0_s : GTintSheet) (x1_t : GTintTruth) (R : GTintSheet) (h : zga x0_s x1_t = some R) : VPure Tryz.prog G0 67 [.agg (cGTintSheet x0_s), .agg (cGTintTruth x1_t)] (.tree (.agg (cGTintSheet R))) := by
 refine VPure.runR mixed Tryz.call67 Tryz.func67 rfl (by simp [Tryz.ntmps67]; kernel_rfl) ?_
 obtain ⟨KF, h, kF, kN⟩ := zak h
 simp only [zga] at h
 simp only [vz, tyf, nm, seval]
 refine zdc (fun tm => tm 2 = .ptr 0 0 ∧ tm 3 = .ptr 1 0 ∧ tm 4 = .ptr 2 0 ∧ True) (by refine ⟨?_, ?_, ?_, trivial⟩ <;> first | (simp only [ua, nm, seval] <;> rfl) | rfl) ?_
 rintro tm ⟨e7, e8, e9, _⟩
 rcases o11 : (zdq x1_t.Years) with _ | r10
 ·simp only [o11, hs] at h
  exact absurd h kN
 simp only [o11, hs] at h
 simp only [vz, tyf, e7, e8, e9, nm, seval]
 refine dktree (args0 := [.lit (.int .i64 x1_t.Years)]) (by first | (simp only [nrm, tynrm] <;> rfl) | rfl) (by simp only [tre, tytre, Bool.and_self]) (zgk _ _ o11) ?_
 refine zac (fun tm => tm 2 = .ptr 0 0 ∧ tm 3 = .ptr 1 0 ∧ tm 4 = .ptr 2 0 ∧ tm 9 = .agg (cGSpan r10) ∧ True) (by refine ⟨e7, e8, e9, ?_, trivial⟩ <;> first | (simp only [ua, e7, e8, e9, nm, seval] <;> rfl) | rfl) ?_
 rintro tm ⟨e12, e13, e14, e15, _⟩
 rcases o17 : (zdk x1_t.Fade) with _ | r16
 ·simp only [o17, hs] at h
  exact absurd h kN
 simp only [o17, hs] at h
 simp only [vz, tyf, e12, e13, e14, e15, nm, seval]
 refine dktree (args0 := [.agg (cGA3Int x1_t.Fade)]) (by first | (simp only [nrm, tynrm] <;> rfl) | rfl) (by simp only [tre, tytre, Bool.and_self]) (zgc _ _ o17) ?_
 refine zac (fun tm => tm 2 = .ptr 0 0 ∧ tm 3 = .ptr 1 0 ∧ tm 4 = .ptr 2 0 ∧ tm 9 = .agg (cGSpan r10) ∧ tm 12 = .agg (cGA3GSpan r16) ∧ True) (by refine ⟨e12, e13, e14, e15, ?_, trivial⟩ <;> first | (simp only [ua, e12, e13, e14, e15, nm, seval] <;> rfl) | rfl) ?_
 rintro tm ⟨e18, e19, e20, e21, e22, _⟩
 simp only [vz, tyf, e18, e19, e20, e21, e22, nm, seval]
 refine zcr ⟨?_, ?_⟩
 ·simp only [zbj, zbu, zai, zdl, and_true, true_and]
  repeat' (first | exact trivial | refine And.intro ?_ ?_ | rw [zai] | rw [zcp] | exact Or.inl (by decide +kernel) | exact Or.inl (by dsimp only; decide +kernel) | (refine Or.inr ⟨?_, ?_⟩ <;> simp; done) | (refine Or.inr ⟨?_, ?_⟩ <;> simp <;> omega) | (refine Or.inr ⟨?_, ?_⟩ <;> simp [VEff.wr] <;> omega))
 cases g24 : (lenOk x1_t.Tins)
 ·simp only [g24, hs] at h
  exact absurd h kN
 simp only [g24, hs] at h
 simp only [vz, tyf, e18, e19, e20, e21, e22, g24, nm, seval]
 obtain ⟨K23, h, kR23, kG23, kB23, kN23⟩ := zbc h kN
 obtain ⟨f23, hf23, h⟩ := call3 h
 obtain ⟨I23, hI23⟩ : ∃ I : Nat → St → Prop, I = (fun m st => ∃ (p23 : List GA3Int) (c23_19 : Int) (c23_o0 : List GTintTin) (y23_0 : VV), m = List.length p23 ∧ 0 ≤ c23_19 ∧ List.drop (Int.toNat c23_19) x1_t.Tins = p23 ∧ st.df = [] ∧ 19 ≤ st.nx ∧ st.H 0 = some (.cells (some 28) ((cGA3Int x0_s.Old) ++ (cGA3GSpan r16) ++ (cGSpan r10) ++ [.lit (.int .i64 x0_s.Off)] ++ [y23_0])) ∧ st.H 2 = some (.cells (some 28) ([.lit (.int .i64 0)] ++ [.lit (.int .i64 0)] ++ [.lit (.int .i64 0)] ++ [.lit (.int .i64 0)] ++ [.lit (.int .i64 0)] ++ [.lit (.int .i64 0)] ++ [.lit (.int .i64 0)] ++ [.lit (.int .i64 0)] ++ [.lit (.int .i64 0)] ++ [.lit (.int .i64 0)] ++ [.lit (.int .i64 0)] ++ [.lit (.int .i64 0)] ++ [.lit (.slice none 0 0)])) ∧ st.tm 2 = .ptr 0 0 ∧ st.tm 4 = .ptr 2 0 ∧ st.tm 17 = .sl (cellsL cGA3Int x1_t.Tins) (List.length x1_t.Tins) false ∧ st.tm 18 = .lit (.int .i64 (List.length x1_t.Tins : Int)) ∧ st.tm 19 = .lit (.int .i64 c23_19) ∧ ((∃ (β : Nat) (el : Option TypeId), y23_0 = .ref β 0 (List.length c23_o0) 6 (List.length c23_o0) ∧ β < st.nx ∧ β ≠ 0 ∧ β ≠ 2 ∧ st.H β = some (.cells el (cellsL cGTintTin c23_o0))) ∨ (y23_0 = .lit (.slice none 0 0) ∧ c23_o0 = [])) ∧ K23 (f23 p23 c23_19 c23_o0)) := ⟨_, rfl⟩
 refine loopK mixed (by kernel_rfl) I23 (List.length x1_t.Tins) (by rw [hI23]; refine ⟨x1_t.Tins, 0, ([] : List GTintTin), .lit (.slice none 0 0), rfl, Int.le_refl _, rfl, rfl, (show 19 ≤ 19 by omega), ?_, ?_, e18, e20, ?_, ?_, ?_, Or.inr ⟨rfl, rfl⟩, h⟩ <;> first | (simp only [ua, e18, e19, e20, e21, e22, nm, seval] <;> rfl) | rfl) ?_
 rintro m ⟨tm, H, nx23, df⟩ hinv
 rw [hI23] at hinv
 obtain ⟨p23, c23_19, c23_o0, y23_0, rfl, hi23, hp23, hdf, hn23, H25, H26, e27, e28, e29, e30, e31, ow23_0, h⟩ := hinv
 simp only at hdf hn23 H25 H26 e27 e28 e29 e30 e31 ow23_0
 have n32 := zda (m := 19) (b := nx23) (by omega)
 subst hdf hf23
 rcases ow23_0 with ⟨b23_0, el23_0, rfl, lq34, lq35, lq36, H33⟩ | ⟨rfl, rfl⟩
 ·have q34 := zaoq lq34
  have q35 := ne_f lq35
  have q36 := ne_f lq36
  cases p23 with
  | nil =>
   have d37 : (decide (c23_19 < (List.length x1_t.Tins : Int))) = false := zam hi23 hp23
   simp only [zcx, hs, reduceCtorEq] at h
   replace h := kG23 _ h
   try dsimp only at h
   try simp only [hs] at h
   try simp only [vz, tyf, g24, n32, e27, e28, e29, e30, e31, H25, H26, q34, H33, q35, q36, d37, nm, seval]
   refine zaq (x := (.agg ((cGA3Int x0_s.Old) ++ (cGA3GSpan r16) ++ (cGSpan r10) ++ [.lit (.int .i64 x0_s.Off)] ++ [.ref b23_0 0 (List.length c23_o0) 6 (List.length c23_o0)]))) (by first | (simp only [Tryz.results67, resV, resL, resV1, zat, zbs, uw, cr, tyf, g24, n32, e27, e28, e29, e30, e31, H25, H26, q34, H33, q35, q36, d37, nm, seval] <;> rfl) | rfl) ?_
   obtain rfl := kF _ h
   refine zau ?_ ?_
   ·simp only [tre, tytre, Bool.and_self]
   ·first | (simp only [outV, uw, zae, cr, tyf, nrm, tynrm, g24, n32, e27, e28, e29, e30, e31, H25, H26, q34, H33, q35, q36, d37, nm, seval] <;> rfl) | rfl
  | cons e23 p23 =>
   have d38 : (decide (c23_19 < (List.length x1_t.Tins : Int))) = true := zbp hi23 hp23
   have o40 := zaj hi23 hp23
   have w39 := zcm hi23 hp23 g24
   simp only [zcx, hs, reduceCtorEq] at h
   simp only [vz, tyf, g24, n32, e27, e28, e29, e30, e31, H25, H26, q34, H33, q35, q36, d38, (ix40 o40), w39, nm, seval]
   refine zdc (fun tm => tm 2 = .ptr 0 0 ∧ tm 4 = .ptr 2 0 ∧ tm 6 = .ptr (nx23 + 3) 0 ∧ tm 17 = .sl (cellsL cGA3Int x1_t.Tins) (List.length x1_t.Tins) false ∧ tm 18 = .lit (.int .i64 (List.length x1_t.Tins : Int)) ∧ tm 19 = .lit (.int .i64 c23_19) ∧ True) (by refine ⟨e27, e28, ?_, e29, e30, e31, trivial⟩ <;> first | (simp only [ua, n32, e27, e28, e29, e30, e31, H25, H26, q34, H33, q35, q36, d38, w39, nm, seval] <;> rfl) | rfl) ?_
   rintro tm ⟨e41, e42, e43, e44, e45, e46, _⟩
   have b47 := And.intro g24 (And.intro n32 (And.intro H25 (And.intro H26 (And.intro q34 (And.intro H33 (And.intro q35 (And.intro q36 (And.intro d38 w39))))))))
   rcases o49 : (zdk e23) with _ | r48
   ·simp only [o49, hs] at h
    exact absurd h kN23
   simp only [o49, hs] at h
   simp only [vz, tyf, b47, (ix40 o40), e41, e42, e43, e44, e45, e46, nm, seval]
   refine dktree (args0 := [.agg (cGA3Int e23)]) (by first | (simp only [nrm, tynrm] <;> rfl) | rfl) (by simp only [tre, tytre, Bool.and_self]) (zgc _ _ o49) ?_
   refine zac (fun tm => tm 2 = .ptr 0 0 ∧ tm 4 = .ptr 2 0 ∧ tm 17 = .sl (cellsL cGA3Int x1_t.Tins) (List.length x1_t.Tins) false ∧ tm 18 = .lit (.int .i64 (List.length x1_t.Tins : Int)) ∧ tm 19 = .lit (.int .i64 c23_19) ∧ tm 24 = .ref b23_0 0 (List.length c23_o0) 6 (List.length c23_o0) ∧ tm 26 = .agg (cGA3GSpan r48) ∧ True) (by refine ⟨e41, e42, e44, e45, e46, ?_, ?_, trivial⟩ <;> first | (simp only [ua, b47, e41, e42, e43, e44, e45, e46, nm, seval] <;> rfl) | rfl) ?_
   rintro tm ⟨e50, e51, e52, e53, e54, e55, e56, _⟩
   cases g57 : (roomOk 48 (List.length (c23_o0 ++ [(GTintTin.mk r48)])))
   ·simp only [g57, hs] at h
    exact absurd h kN23
   simp only [g57, hs] at h
   simp only [vz, tyf, b47, (ix40 o40), e50, e51, e52, e53, e54, e55, e56, g57, nm, seval]
   refine k_app (w := 6) (enc := cGTintTin) (xs := c23_o0) (ys := ([(GTintTin.mk r48)])) (el := el23_0) (el2 := (some 94)) (fun _ => rfl) lf26 ao26 Tryz.underlying26 (by first | rfl | assumption | (simp only [zaa, zao, et26, b47, nm, seval] <;> rfl) | (simp only [zaa, zao, zfz, zdv, zto, zmm, tyf, b47, (ix40 o40), e50, e51, e52, e53, e54, e55, e56, g57, nm, seval]; done)) (by first | rfl | assumption | (simp only [zaa, zao, et26, b47, nm, seval] <;> rfl) | (simp only [zaa, zao, zfz, zdv, zto, zmm, tyf, b47, (ix40 o40), e50, e51, e52, e53, e54, e55, e56, g57, nm, seval]; done)) (Nat.zero_lt_succ _) g57 ?_
   simp only [vz, tyf, b47, (ix40 o40), e50, e51, e52, e53, e54, e55, e56, g57, nm, seval]
   refine zcr ⟨?_, ?_⟩
   ·simp only [zbj, zbu, zai, zdl, and_true, true_and]
    repeat' (first | exact trivial | refine And.intro ?_ ?_ | rw [zai] | rw [zcp] | exact Or.inl (by decide +kernel) | exact Or.inl (by dsimp only; decide +kernel) | (refine Or.inr ⟨?_, ?_⟩ <;> simp; done) | (refine Or.inr ⟨?_, ?_⟩ <;> simp <;> omega) | (refine Or.inr ⟨?_, ?_⟩ <;> simp [VEff.wr] <;> omega))
   simp only [vz, tyf, b47, (ix40 o40), e50, e51, e52, e53, e54, e55, e56, g57, nm, seval]
   exact ⟨List.length p23, Nat.lt_succ_self _, by rw [hI23]; refine ⟨p23, c23_19 + 1, (c23_o0 ++ [(GTintTin.mk r48)]), .ref (nx23 + 11) 0 (List.length (c23_o0 ++ [(GTintTin.mk r48)])) 6 (List.length (c23_o0 ++ [(GTintTin.mk r48)])), rfl, Int.le_trans hi23 (Int.le_add_one (Int.le_refl _)), zay hi23 hp23, rfl, (show 19 ≤ nx23 + 16 by omega), ?_, ?_, e50, e51, e52, e53, ?_, Or.inl ⟨nx23 + 11, (sameEl el23_0 94), rfl, (by first | omega | (simp only [nm, seval]; omega)), (by first | omega | (intro hh; simp only [b47, reduceCtorEq] at hh)), (by first | omega | (intro hh; simp only [b47, reduceCtorEq] at hh)), ?_⟩, h⟩ <;> first | (simp only [ua, b47, e50, e51, e52, e53, e54, e55, e56, nm, seval] <;> rfl) | rfl⟩
 ·cases p23 with
  | nil =>
   have d58 : (decide (c23_19 < (List.length x1_t.Tins : Int))) = false := zam hi23 hp23
   simp only [zcx, hs, reduceCtorEq] at h
   replace h := kG23 _ h
   try dsimp only at h
   try simp only [hs] at h
   try simp only [vz, tyf, g24, n32, e27, e28, e29, e30, e31, H25, H26, d58, nm, seval]
   refine zaq (x := (.agg ((cGA3Int x0_s.Old) ++ (cGA3GSpan r16) ++ (cGSpan r10) ++ [.lit (.int .i64 x0_s.Off)] ++ [.lit (.slice none 0 0)]))) (by first | (simp only [Tryz.results67, resV, resL, resV1, zat, zbs, uw, cr, tyf, g24, n32, e27, e28, e29, e30, e31, H25, H26, d58, nm, seval] <;> rfl) | rfl) ?_
   obtain rfl := kF _ h
   refine zau ?_ ?_
   ·simp only [tre, tytre, Bool.and_self]
   ·first | (simp only [outV, uw, zae, cr, tyf, nrm, tynrm, g24, n32, e27, e28, e29, e30, e31, H25, H26, d58, nm, seval] <;> rfl) | rfl
  | cons e23 p23 =>
   have d59 : (decide (c23_19 < (List.length x1_t.Tins : Int))) = true := zbp hi23 hp23
   have o61 := zaj hi23 hp23
   have w60 := zcm hi23 hp23 g24
   simp only [zcx, hs, reduceCtorEq] at h
   simp only [vz, tyf, g24, n32, e27, e28, e29, e30, e31, H25, H26, d59, (ix40 o61), w60, nm, seval]
   refine zdc (fun tm => tm 2 = .ptr 0 0 ∧ tm 4 = .ptr 2 0 ∧ tm 6 = .ptr (nx23 + 3) 0 ∧ tm 17 = .sl (cellsL cGA3Int x1_t.Tins) (List.length x1_t.Tins) false ∧ tm 18 = .lit (.int .i64 (List.length x1_t.Tins : Int)) ∧ tm 19 = .lit (.int .i64 c23_19) ∧ True) (by refine ⟨e27, e28, ?_, e29, e30, e31, trivial⟩ <;> first | (simp only [ua, n32, e27, e28, e29, e30, e31, H25, H26, d59, w60, nm, seval] <;> rfl) | rfl) ?_
   rintro tm ⟨e62, e63, e64, e65, e66, e67, _⟩
   rcases o69 : (zdk e23) with _ | r68
   ·simp only [o69, hs] at h
    exact absurd h kN23
   simp only [o69, hs] at h
   simp only [vz, tyf, g24, n32, H25, H26, d59, (ix40 o61), w60, e62, e63, e64, e65, e66, e67, nm, seval]
   refine dktree (args0 := [.agg (cGA3Int e23)]) (by first | (simp only [nrm, tynrm] <;> rfl) | rfl) (by simp only [tre, tytre, Bool.and_self]) (zgc _ _ o69) ?_
   refine zac (fun tm => tm 2 = .ptr 0 0 ∧ tm 4 = .ptr 2 0 ∧ tm 17 = .sl (cellsL cGA3Int x1_t.Tins) (List.length x1_t.Tins) false ∧ tm 18 = .lit (.int .i64 (List.length x1_t.Tins : Int)) ∧ tm 19 = .lit (.int .i64 c23_19) ∧ tm 24 = .lit (.slice none 0 0) ∧ tm 26 = .agg (cGA3GSpan r68) ∧ True) (by refine ⟨e62, e63, e65, e66, e67, ?_, ?_, trivial⟩ <;> first | (simp only [ua, n32, H25, H26, d59, w60, e62, e63, e64, e65, e66, e67, nm, seval] <;> rfl) | rfl) ?_
   rintro tm ⟨e70, e71, e72, e73, e74, e75, e76, _⟩
   cases g77 : (roomOk 48 (List.length (([] : List GTintTin) ++ [(GTintTin.mk r68)])))
   ·simp only [g77, hs] at h
    exact absurd h kN23
   simp only [g77, hs] at h
   simp only [vz, tyf, g24, n32, H25, H26, d59, (ix40 o61), w60, e70, e71, e72, e73, e74, e75, e76, g77, nm, seval]
   refine zalx (w := 6) (enc := cGTintTin) (ys := ([(GTintTin.mk r68)])) (el2 := (some 94)) (fun _ => rfl) lf26 ao26 Tryz.underlying26 (by first | rfl | assumption | (simp only [zaa, zao, et26, n32, H25, H26, nm, seval] <;> rfl) | (simp only [zaa, zao, zfz, zdv, zto, zmm, tyf, g24, n32, H25, H26, d59, (ix40 o61), w60, e70, e71, e72, e73, e74, e75, e76, g77, nm, seval]; done)) (Nat.zero_lt_succ _) g77 ?_
   simp only [vz, tyf, g24, n32, H25, H26, d59, (ix40 o61), w60, e70, e71, e72, e73, e74, e75, e76, g77, nm, seval]
   refine zcr ⟨?_, ?_⟩
   ·simp only [zbj, zbu, zai, zdl, and_true, true_and]
    repeat' (first | exact trivial | refine And.intro ?_ ?_ | rw [zai] | rw [zcp] | exact Or.inl (by decide +kernel) | exact Or.inl (by dsimp only; decide +kernel) | (refine Or.inr ⟨?_, ?_⟩ <;> simp; done) | (refine Or.inr ⟨?_, ?_⟩ <;> simp <;> omega) | (refine Or.inr ⟨?_, ?_⟩ <;> simp [VEff.wr] <;> omega))
   simp only [vz, tyf, g24, n32, H25, H26, d59, (ix40 o61), w60, e70, e71, e72, e73, e74, e75, e76, g77, nm, seval]
   exact ⟨List.length p23, Nat.lt_succ_self _, by rw [hI23]; refine ⟨p23, c23_19 + 1, (([] : List GTintTin) ++ [(GTintTin.mk r68)]), .ref (nx23 + 11) 0 (List.length (([] : List GTintTin) ++ [(GTintTin.mk r68)])) 6 (List.length (([] : List GTintTin) ++ [(GTintTin.mk r68)])), rfl, Int.le_trans hi23 (Int.le_add_one (Int.le_refl _)), zay hi23 hp23, rfl, (show 19 ≤ nx23 + 16 by omega), ?_, ?_, e70, e71, e72, e73, ?_, Or.inl ⟨nx23 + 11, (some 94), rfl, (by first | omega | (simp only [nm, seval]; omega)), (by first | omega | (intro hh; simp only [n32, reduceCtorEq] at hh)), (by first | omega | (intro hh; simp only [n32, reduceCtorEq] at hh)), ?_⟩, h⟩ <;> first | (simp only [ua, n32, H25, H26, d59, w60, e70, e71, e72, e73, e74, e75, e76, nm, seval] <;> rfl) | rfl⟩
end Go.V
end
section
set_option linter.unusedVariables false
set_option linter.defProp false
namespace Go.V
open Go
section
variable {P : Program} {H : Nat → Option VObj} {t : TypeId} {x y : Operand} {k : IntKind} {a b : Int}
theorem zaol (h : (b != 0) = true) : binV P H .quo t x y (.lit (.int k a)) (.lit (.int k b)) = some (.lit (.int k (k.wrap (a.tdiv b)))) := by
 have : b ≠ 0 := by simpa using h
 simp [binV, VV.val?, vbin, ofVal, ofVal2, ofVal1, this]
theorem zapd (h : (b != 0) = true) : binV P H .rem t x y (.lit (.int k a)) (.lit (.int k b)) = some (.lit (.int k (a.tmod b))) := by
 have : b ≠ 0 := by simpa using h
 simp [binV, VV.val?, vbin, ofVal, ofVal2, ofVal1, this]
theorem zaur : unV P .neg (.lit (.int k a)) = some (.lit (.int k (k.wrap (-a)))) := by simp [unV, VV.val?, Op.unary, Op.intArith, zbx, ofVal, ofVal2, ofVal1]
theorem zaql {a b : ByteArray} : binV P H .eql t x y (.lit (.string a)) (.lit (.string b)) = some (.lit (.bool (a.toList == b.toList))) := by simp [binV, VV.val?, vbin, ofVal, ofVal2, ofVal1]
theorem zaqt {a b : ByteArray} : binV P H .neq t x y (.lit (.string a)) (.lit (.string b)) = some (.lit (.bool (!(a.toList == b.toList)))) := by simp [binV, VV.val?, vbin, ofVal, ofVal2, ofVal1]
def qr := And.intro @zaol (And.intro @zapd (And.intro @zaur (And.intro @zaql @zaqt)))
end
end Go.V
end
section
namespace Go.V
open Go Go.Proofs
def zar (x0_x : Gtintmixed) (x1_pigment : Int) : Option (Int) := Option.bind (zct x0_x) (fun r1 => cond (x1_pigment == 0) (Option.bind (zdt x0_x.TintSheet) (fun r2 => Option.bind (zbm x0_x) (fun r3 => cond ((r3 != 0)) (some (IntKind.i64.wrap (Int.tdiv (IntKind.i64.wrap ((IntKind.i64.wrap ((if (IntKind.i64.wrap (r1.a0.High - (IntKind.i64.wrap (r3 * r2.a0.Low)))) < (IntKind.i64.wrap ((IntKind.i64.wrap (r3 * r2.a0.High)) - r1.a0.Low)) then (IntKind.i64.wrap ((IntKind.i64.wrap (r3 * r2.a0.High)) - r1.a0.Low)) else (IntKind.i64.wrap (r1.a0.High - (IntKind.i64.wrap (r3 * r2.a0.Low))))) + r3)) - 1)) r3))) none))) (cond (x1_pigment == 1) (Option.bind (zdt x0_x.TintSheet) (fun r4 => Option.bind (zbm x0_x) (fun r5 => cond ((r5 != 0)) (some (IntKind.i64.wrap (Int.tdiv (IntKind.i64.wrap ((IntKind.i64.wrap ((if (IntKind.i64.wrap (r1.a1.High - (IntKind.i64.wrap (r5 * r4.a1.Low)))) < (IntKind.i64.wrap ((IntKind.i64.wrap (r5 * r4.a1.High)) - r1.a1.Low)) then (IntKind.i64.wrap ((IntKind.i64.wrap (r5 * r4.a1.High)) - r1.a1.Low)) else (IntKind.i64.wrap (r1.a1.High - (IntKind.i64.wrap (r5 * r4.a1.Low))))) + r5)) - 1)) r5))) none))) (cond (x1_pigment == 2) (Option.bind (zdt x0_x.TintSheet) (fun r6 => Option.bind (zbm x0_x) (fun r7 => cond ((r7 != 0)) (some (IntKind.i64.wrap (Int.tdiv (IntKind.i64.wrap ((IntKind.i64.wrap ((if (IntKind.i64.wrap (r1.a2.High - (IntKind.i64.wrap (r7 * r6.a2.Low)))) < (IntKind.i64.wrap ((IntKind.i64.wrap (r7 * r6.a2.High)) - r1.a2.Low)) then (IntKind.i64.wrap ((IntKind.i64.wrap (r7 * r6.a2.High)) - r1.a2.Low)) else (IntKind.i64.wrap (r1.a2.High - (IntKind.i64.wrap (r7 * r6.a2.Low))))) + r7)) - 1)) r7))) none))) (none))))
theorem zdi (x0_x : Gtintmixed) (x1_pigment : Int) (R : Int) (h : zar x0_x x1_pigment = some R) : VPure Tryz.prog G0 111 [.agg (cGtintmixed x0_x), .lit (.int .i64 x1_pigment)] (.tree (.lit (.int .i64 R))) := by
 refine VPure.runR mixed Tryz.call111 Tryz.func111 rfl (by simp [Tryz.ntmps111]; kernel_rfl) ?_
 obtain ⟨KF, h, kF, kN⟩ := zak h
 simp only [zar] at h
 simp only [vz, qr, tyf, nm, seval]
 refine zdc (fun tm => tm 1 = .lit (.int .i64 x1_pigment) ∧ tm 2 = .ptr 0 0 ∧ True) (by refine ⟨?_, ?_, trivial⟩ <;> first | (simp only [ua, nm, seval] <;> rfl) | rfl) ?_
 rintro tm ⟨e8, e9, _⟩
 rcases o11 : (zct x0_x) with _ | r10
 ·simp only [o11, hs] at h
  exact absurd h kN
 simp only [o11, hs] at h
 simp only [vz, qr, tyf, e8, e9, nm, seval]
 refine dktree (args0 := [.agg (cGtintmixed x0_x)]) (by first | (simp only [nrm, tynrm] <;> rfl) | rfl) (by simp only [tre, tytre, Bool.and_self]) (zhj _ _ o11) ?_
 refine zac (fun tm => tm 1 = .lit (.int .i64 x1_pigment) ∧ tm 2 = .ptr 0 0 ∧ tm 10 = .agg (cGA3GSpan r10) ∧ True) (by refine ⟨e8, e9, ?_, trivial⟩ <;> first | (simp only [ua, e8, e9, nm, seval] <;> rfl) | rfl) ?_
 rintro tm ⟨e12, e13, e14, _⟩
 cases d15 : (x1_pigment == 0)
 ·simp only [d15, hs] at h
  cases d16 : (x1_pigment == 1)
  ·simp only [d16, hs] at h
   cases d17 : (x1_pigment == 2)
   ·simp only [d17, hs] at h
    exact absurd h kN
   simp only [d17, hs] at h
   rcases o19 : (zdt x0_x.TintSheet) with _ | r18
   ·simp only [o19, hs] at h
    exact absurd h kN
   simp only [o19, hs] at h
   simp only [vz, qr, tyf, e12, e13, e14, d15, d16, d17, (zzf d17), nm, seval]
   refine dktree (args0 := [.agg (cGTintSheet x0_x.TintSheet)]) (by first | (simp only [nrm, tynrm] <;> rfl) | rfl) (by simp only [tre, tytre, Bool.and_self]) (zgq _ _ o19) ?_
   refine zac (fun tm => tm 1 = .lit (.int .i64 x1_pigment) ∧ tm 2 = .ptr 0 0 ∧ tm 12 = .agg (cGSpan r10.a2) ∧ tm 15 = .agg (cGA3GSpan r18) ∧ True) (by refine ⟨e12, e13, ?_, ?_, trivial⟩ <;> first | (simp only [ua, e12, e13, e14, d15, d16, d17, nm, seval] <;> rfl) | rfl) ?_
   rintro tm ⟨e20, e21, e22, e23, _⟩
   rcases o25 : (zbm x0_x) with _ | r24
   ·simp only [o25, hs] at h
    exact absurd h kN
   simp only [o25, hs] at h
   simp only [vz, qr, tyf, d15, d16, d17, (zzf d17), e20, e21, e22, e23, nm, seval]
   refine dktree (args0 := [.agg (cGtintmixed x0_x)]) (by first | (simp only [nrm, tynrm] <;> rfl) | rfl) (by simp only [tre, tytre, Bool.and_self]) (zfe _ _ o25) ?_
   refine zac (fun tm => tm 12 = .agg (cGSpan r10.a2) ∧ tm 17 = .agg (cGSpan r18.a2) ∧ tm 19 = .lit (.int .i64 r24) ∧ True) (by refine ⟨e22, ?_, ?_, trivial⟩ <;> first | (simp only [ua, d15, d16, d17, e20, e21, e22, e23, nm, seval] <;> rfl) | rfl) ?_
   rintro tm ⟨e26, e27, e28, _⟩
   simp only [vz, qr, tyf, d15, d16, d17, (zzf d17), e26, e27, e28, nm, seval]
   refine zcr ⟨?_, ?_⟩
   ·simp only [zbj, zbu, zai, zdl, and_true, true_and]
    repeat' (first | exact trivial | refine And.intro ?_ ?_ | rw [zai] | rw [zcp] | exact Or.inl (by decide +kernel) | exact Or.inl (by dsimp only; decide +kernel) | (refine Or.inr ⟨?_, ?_⟩ <;> simp; done) | (refine Or.inr ⟨?_, ?_⟩ <;> simp <;> omega) | (refine Or.inr ⟨?_, ?_⟩ <;> simp [VEff.wr] <;> omega))
   cases g29 : ((r24 != 0))
   ·simp only [g29, hs] at h
    exact absurd h kN
   simp only [g29, hs] at h
   try simp only [vz, qr, tyf, d15, d16, d17, (zzf d17), e26, e27, e28, g29, nm, seval]
   refine zaq (x := (.lit (.int .i64 (IntKind.i64.wrap (Int.tdiv (IntKind.i64.wrap ((IntKind.i64.wrap ((if (IntKind.i64.wrap (r10.a2.High - (IntKind.i64.wrap (r24 * r18.a2.Low)))) < (IntKind.i64.wrap ((IntKind.i64.wrap (r24 * r18.a2.High)) - r10.a2.Low)) then (IntKind.i64.wrap ((IntKind.i64.wrap (r24 * r18.a2.High)) - r10.a2.Low)) else (IntKind.i64.wrap (r10.a2.High - (IntKind.i64.wrap (r24 * r18.a2.Low))))) + r24)) - 1)) r24))))) (by first | (simp only [Tryz.results111, resV, resL, resV1, zat, zbs, uw, cr, tyf, d15, d16, d17, (zzf d17), g29, nm, seval] <;> rfl) | rfl) ?_
   obtain rfl := kF _ h
   refine zau ?_ ?_
   ·simp only [tre, tytre, Bool.and_self]
   ·first | (simp only [outV, uw, zae, cr, tyf, nrm, tynrm, d15, d16, d17, (zzf d17), e26, e27, e28, g29, nm, seval] <;> rfl) | rfl
  simp only [d16, hs] at h
  rcases o31 : (zdt x0_x.TintSheet) with _ | r30
  ·simp only [o31, hs] at h
   exact absurd h kN
  simp only [o31, hs] at h
  simp only [vz, qr, tyf, e12, e13, e14, d15, d16, (zzz d16), nm, seval]
  refine dktree (args0 := [.agg (cGTintSheet x0_x.TintSheet)]) (by first | (simp only [nrm, tynrm] <;> rfl) | rfl) (by simp only [tre, tytre, Bool.and_self]) (zgq _ _ o31) ?_
  refine zac (fun tm => tm 1 = .lit (.int .i64 x1_pigment) ∧ tm 2 = .ptr 0 0 ∧ tm 12 = .agg (cGSpan r10.a1) ∧ tm 15 = .agg (cGA3GSpan r30) ∧ True) (by refine ⟨e12, e13, ?_, ?_, trivial⟩ <;> first | (simp only [ua, e12, e13, e14, d15, d16, nm, seval] <;> rfl) | rfl) ?_
  rintro tm ⟨e32, e33, e34, e35, _⟩
  rcases o37 : (zbm x0_x) with _ | r36
  ·simp only [o37, hs] at h
   exact absurd h kN
  simp only [o37, hs] at h
  simp only [vz, qr, tyf, d15, d16, (zzz d16), e32, e33, e34, e35, nm, seval]
  refine dktree (args0 := [.agg (cGtintmixed x0_x)]) (by first | (simp only [nrm, tynrm] <;> rfl) | rfl) (by simp only [tre, tytre, Bool.and_self]) (zfe _ _ o37) ?_
  refine zac (fun tm => tm 12 = .agg (cGSpan r10.a1) ∧ tm 17 = .agg (cGSpan r30.a1) ∧ tm 19 = .lit (.int .i64 r36) ∧ True) (by refine ⟨e34, ?_, ?_, trivial⟩ <;> first | (simp only [ua, d15, d16, e32, e33, e34, e35, nm, seval] <;> rfl) | rfl) ?_
  rintro tm ⟨e38, e39, e40, _⟩
  simp only [vz, qr, tyf, d15, d16, (zzz d16), e38, e39, e40, nm, seval]
  refine zcr ⟨?_, ?_⟩
  ·simp only [zbj, zbu, zai, zdl, and_true, true_and]
   repeat' (first | exact trivial | refine And.intro ?_ ?_ | rw [zai] | rw [zcp] | exact Or.inl (by decide +kernel) | exact Or.inl (by dsimp only; decide +kernel) | (refine Or.inr ⟨?_, ?_⟩ <;> simp; done) | (refine Or.inr ⟨?_, ?_⟩ <;> simp <;> omega) | (refine Or.inr ⟨?_, ?_⟩ <;> simp [VEff.wr] <;> omega))
  cases g41 : ((r36 != 0))
  ·simp only [g41, hs] at h
   exact absurd h kN
  simp only [g41, hs] at h
  try simp only [vz, qr, tyf, d15, d16, (zzz d16), e38, e39, e40, g41, nm, seval]
  refine zaq (x := (.lit (.int .i64 (IntKind.i64.wrap (Int.tdiv (IntKind.i64.wrap ((IntKind.i64.wrap ((if (IntKind.i64.wrap (r10.a1.High - (IntKind.i64.wrap (r36 * r30.a1.Low)))) < (IntKind.i64.wrap ((IntKind.i64.wrap (r36 * r30.a1.High)) - r10.a1.Low)) then (IntKind.i64.wrap ((IntKind.i64.wrap (r36 * r30.a1.High)) - r10.a1.Low)) else (IntKind.i64.wrap (r10.a1.High - (IntKind.i64.wrap (r36 * r30.a1.Low))))) + r36)) - 1)) r36))))) (by first | (simp only [Tryz.results111, resV, resL, resV1, zat, zbs, uw, cr, tyf, d15, d16, (zzz d16), g41, nm, seval] <;> rfl) | rfl) ?_
  obtain rfl := kF _ h
  refine zau ?_ ?_
  ·simp only [tre, tytre, Bool.and_self]
  ·first | (simp only [outV, uw, zae, cr, tyf, nrm, tynrm, d15, d16, (zzz d16), e38, e39, e40, g41, nm, seval] <;> rfl) | rfl
 simp only [d15, hs] at h
 rcases o43 : (zdt x0_x.TintSheet) with _ | r42
 ·simp only [o43, hs] at h
  exact absurd h kN
 simp only [o43, hs] at h
 simp only [vz, qr, tyf, e12, e13, e14, d15, (zaad d15), nm, seval]
 refine dktree (args0 := [.agg (cGTintSheet x0_x.TintSheet)]) (by first | (simp only [nrm, tynrm] <;> rfl) | rfl) (by simp only [tre, tytre, Bool.and_self]) (zgq _ _ o43) ?_
 refine zac (fun tm => tm 1 = .lit (.int .i64 x1_pigment) ∧ tm 2 = .ptr 0 0 ∧ tm 12 = .agg (cGSpan r10.a0) ∧ tm 15 = .agg (cGA3GSpan r42) ∧ True) (by refine ⟨e12, e13, ?_, ?_, trivial⟩ <;> first | (simp only [ua, e12, e13, e14, d15, nm, seval] <;> rfl) | rfl) ?_
 rintro tm ⟨e44, e45, e46, e47, _⟩
 rcases o49 : (zbm x0_x) with _ | r48
 ·simp only [o49, hs] at h
  exact absurd h kN
 simp only [o49, hs] at h
 simp only [vz, qr, tyf, d15, (zaad d15), e44, e45, e46, e47, nm, seval]
 refine dktree (args0 := [.agg (cGtintmixed x0_x)]) (by first | (simp only [nrm, tynrm] <;> rfl) | rfl) (by simp only [tre, tytre, Bool.and_self]) (zfe _ _ o49) ?_
 refine zac (fun tm => tm 12 = .agg (cGSpan r10.a0) ∧ tm 17 = .agg (cGSpan r42.a0) ∧ tm 19 = .lit (.int .i64 r48) ∧ True) (by refine ⟨e46, ?_, ?_, trivial⟩ <;> first | (simp only [ua, d15, e44, e45, e46, e47, nm, seval] <;> rfl) | rfl) ?_
 rintro tm ⟨e50, e51, e52, _⟩
 simp only [vz, qr, tyf, d15, (zaad d15), e50, e51, e52, nm, seval]
 refine zcr ⟨?_, ?_⟩
 ·simp only [zbj, zbu, zai, zdl, and_true, true_and]
  repeat' (first | exact trivial | refine And.intro ?_ ?_ | rw [zai] | rw [zcp] | exact Or.inl (by decide +kernel) | exact Or.inl (by dsimp only; decide +kernel) | (refine Or.inr ⟨?_, ?_⟩ <;> simp; done) | (refine Or.inr ⟨?_, ?_⟩ <;> simp <;> omega) | (refine Or.inr ⟨?_, ?_⟩ <;> simp [VEff.wr] <;> omega))
 cases g53 : ((r48 != 0))
 ·simp only [g53, hs] at h
  exact absurd h kN
 simp only [g53, hs] at h
 try simp only [vz, qr, tyf, d15, (zaad d15), e50, e51, e52, g53, nm, seval]
 refine zaq (x := (.lit (.int .i64 (IntKind.i64.wrap (Int.tdiv (IntKind.i64.wrap ((IntKind.i64.wrap ((if (IntKind.i64.wrap (r10.a0.High - (IntKind.i64.wrap (r48 * r42.a0.Low)))) < (IntKind.i64.wrap ((IntKind.i64.wrap (r48 * r42.a0.High)) - r10.a0.Low)) then (IntKind.i64.wrap ((IntKind.i64.wrap (r48 * r42.a0.High)) - r10.a0.Low)) else (IntKind.i64.wrap (r10.a0.High - (IntKind.i64.wrap (r48 * r42.a0.Low))))) + r48)) - 1)) r48))))) (by first | (simp only [Tryz.results111, resV, resL, resV1, zat, zbs, uw, cr, tyf, d15, (zaad d15), g53, nm, seval] <;> rfl) | rfl) ?_
 obtain rfl := kF _ h
 refine zau ?_ ?_
 ·simp only [tre, tytre, Bool.and_self]
 ·first | (simp only [outV, uw, zae, cr, tyf, nrm, tynrm, d15, (zaad d15), e50, e51, e52, g53, nm, seval] <;> rfl) | rfl
end Go.V
end
section
namespace Go.V
open Go Go.Proofs
def zba (x0_x : Gtintmixed) (x1_pigment : Int) : Option ((Unit) ⊕ (Unit)) := Option.bind (zar x0_x x1_pigment) (fun r1 => cond (decide (r1 > x0_x.TintSheet.Off)) (some (.inr ())) (some (.inl ())))
theorem zbr (x0_x : Gtintmixed) (x1_pigment : Int) (R : (Unit) ⊕ (Unit)) (h : zba x0_x x1_pigment = some R) : VPure Tryz.prog G0 102 [.agg (cGtintmixed x0_x), .lit (.int .i64 x1_pigment)] (presB R (fun r => .tree (.tup [])) (fun e => .panic (.ifc 132 (.agg [])))) := by
 refine VPure.runR mixed Tryz.call102 Tryz.func102 rfl (by simp [Tryz.ntmps102]; kernel_rfl) ?_
 obtain ⟨KF, h, kF, kN⟩ := zak h
 simp only [zba] at h
 simp only [vz, tyf, nm, seval]
 refine zcq (fun tm => tm 1 = .lit (.int .i64 x1_pigment) ∧ tm 2 = .ptr 0 0 ∧ True) (by refine ⟨?_, ?_, trivial⟩ <;> first | (simp only [ua, nm, seval] <;> rfl) | rfl) ?_
 rintro tm ⟨e2, e3, _⟩
 rcases o5 : (zar x0_x x1_pigment) with _ | r4
 ·simp only [o5, hs] at h
  exact absurd h kN
 simp only [o5, hs] at h
 simp only [vz, tyf, e2, e3, nm, seval]
 refine dktree (args0 := [.agg (cGtintmixed x0_x), .lit (.int .i64 x1_pigment)]) (by first | (simp only [nrm, tynrm] <;> rfl) | rfl) (by simp only [tre, tytre, Bool.and_self]) (zdi _ _ _ o5) ?_
 refine zac (fun tm => tm 2 = .ptr 0 0 ∧ tm 6 = .lit (.int .i64 r4) ∧ True) (by refine ⟨e3, ?_, trivial⟩ <;> first | (simp only [ua, e2, e3, nm, seval] <;> rfl) | rfl) ?_
 rintro tm ⟨e6, e7, _⟩
 cases d8 : (decide (r4 > x0_x.TintSheet.Off))
 ·simp only [d8, hs] at h
  try simp only [vz, tyf, e6, e7, d8, nm, seval]
  refine zjp (x := (.tup [])) (by first | (simp only [Tryz.results102, resV, resL, resV1, zat, zbs, uw, cr, tyf, d8, nm, seval] <;> rfl) | rfl) ?_
  obtain rfl := kF _ h
  refine zau ?_ ?_
  ·simp only [tre, tytre, Bool.and_self]
  ·first | (simp only [outV, uw, zae, cr, tyf, nrm, tynrm, e6, e7, d8, nm, seval] <;> rfl) | rfl
 simp only [d8, hs] at h
 simp only [vz, tyf, e6, e7, d8, nm, seval]
 refine zagv ?_
 obtain rfl := kF _ h
 refine zasg ?_ ?_
 ·simp only [tre, tytre, zalt, Bool.and_self]
 ·first | (simp only [outV, uw, zae, zafv, zahd, cr, tyf, nrm, tynrm, e6, e7, d8, nm, seval] <;> rfl) | rfl
end Go.V
end
section
namespace Go.V
open Go Go.Proofs
def zbf (x0_x : Gtintmixed) : Option (Bool) := Option.bind (zba x0_x 0) (fun r1 => sumB r1 (fun u2 => Option.bind (zba x0_x 1) (fun r4 => sumB r4 (fun u5 => Option.bind (zba x0_x 2) (fun r7 => sumB r7 (fun u8 => some true) (fun w9 => some false))) (fun w6 => some false))) (fun w3 => some false))
theorem zes (x0_x : Gtintmixed) (R : Bool) (h : zbf x0_x = some R) : VPure Tryz.prog G0 68 [.agg (cGtintmixed x0_x)] (.tree (.lit (.bool R))) := by
 refine VPure.runR mixed Tryz.call68 Tryz.func68 rfl (by simp [Tryz.ntmps68]; kernel_rfl) ?_
 obtain ⟨KF, h, kF, kN⟩ := zak h
 simp only [zbf] at h
 simp only [vz, tyf, nm, seval]
 refine zgo mixed (by kernel_rfl) 4 ?_
 rcases o11 : (zba x0_x 0) with _ | r10
 ·simp only [o11, hs] at h
  exact absurd h kN
 simp only [o11, hs] at h
 cases r10 with
 | inl u12 =>
  simp only [hs] at h
  simp only [vz, tyf, nm, seval]
  refine ktree (args0 := [.agg (cGtintmixed x0_x), .lit (.int .i64 0)]) (by first | (simp only [nrm, tynrm] <;> rfl) | rfl) (by simp only [tre, tytre, Bool.and_self]) (zbr _ _ _ o11) ?_
  refine zac (fun tm => tm 1 = .ptr 0 0 ∧ tm 2 = .ptr 1 0 ∧ tm 5 = .lit (.int .i64 0) ∧ True) (by refine ⟨?_, ?_, ?_, trivial⟩ <;> first | (simp only [ua, nm, seval] <;> rfl) | rfl) ?_
  rintro tm ⟨e14, e15, e16, _⟩
  rcases o18 : (zba x0_x 1) with _ | r17
  ·simp only [o18, hs] at h
   exact absurd h kN
  simp only [o18, hs] at h
  cases r17 with
  | inl u19 =>
   simp only [hs] at h
   simp only [vz, tyf, e14, e15, e16, nm, seval]
   refine ktree (args0 := [.agg (cGtintmixed x0_x), .lit (.int .i64 1)]) (by first | (simp only [nrm, tynrm] <;> rfl) | rfl) (by simp only [tre, tytre, Bool.and_self]) (zbr _ _ _ o18) ?_
   refine zac (fun tm => tm 1 = .ptr 0 0 ∧ tm 2 = .ptr 1 0 ∧ tm 5 = .lit (.int .i64 1) ∧ True) (by refine ⟨e14, e15, ?_, trivial⟩ <;> first | (simp only [ua, e14, e15, e16, nm, seval] <;> rfl) | rfl) ?_
   rintro tm ⟨e21, e22, e23, _⟩
   rcases o25 : (zba x0_x 2) with _ | r24
   ·simp only [o25, hs] at h
    exact absurd h kN
   simp only [o25, hs] at h
   cases r24 with
   | inl u26 =>
    simp only [hs] at h
    simp only [vz, tyf, e21, e22, e23, nm, seval]
    refine ktree (args0 := [.agg (cGtintmixed x0_x), .lit (.int .i64 2)]) (by first | (simp only [nrm, tynrm] <;> rfl) | rfl) (by simp only [tre, tytre, Bool.and_self]) (zbr _ _ _ o25) ?_
    refine zac (fun tm => tm 1 = .ptr 0 0 ∧ tm 2 = .ptr 1 0 ∧ tm 5 = .lit (.int .i64 2) ∧ True) (by refine ⟨e21, e22, ?_, trivial⟩ <;> first | (simp only [ua, e21, e22, e23, nm, seval] <;> rfl) | rfl) ?_
    rintro tm ⟨e28, e29, e30, _⟩
    try simp only [vz, tyf, e28, e29, e30, nm, seval]
    refine zaln ?_
    refine VDeferred.run mixed Tryz.call101 Tryz.func101 rfl (by kernel_rfl) ?_
    try simp only [vz, tyf, nm, seval]
    refine ziv Tryz.results101 ?_
    refine zaef (x := (.lit (.bool true))) (by first | (simp only [Tryz.results68, resV, resL, resV1, zat, zbs, uw, cr, tyf, e28, e29, e30, nm, seval] <;> rfl) | rfl) ?_
    obtain rfl := kF _ h
    refine zau ?_ ?_
    ·simp only [tre, tytre, Bool.and_self]
    ·first | (simp only [outV, uw, zae, cr, tyf, nrm, tynrm, e28, e29, e30, nm, seval] <;> rfl) | rfl
   | inr w27 =>
    simp only [hs] at h
    simp only [vz, tyf, e21, e22, e23, nm, seval]
    refine kpan (args0 := [.agg (cGtintmixed x0_x), .lit (.int .i64 2)]) (by first | (simp only [nrm, tynrm] <;> rfl) | rfl) (by simp only [tre, tytre, Bool.and_self]) (zbr _ _ _ o25) ?_
    try simp only [vz, tyf, e21, e22, e23, nm, seval]
    refine znz ?_
    refine VDeferred.run mixed Tryz.call101 Tryz.func101 rfl (by kernel_rfl) ?_
    try simp only [vz, tyf, nm, seval]
    refine ziv Tryz.results101 ?_
    refine zoz (x := (.lit (.bool false))) (by first | (simp only [Tryz.results68, resV, resL, resV1, zat, zbs, uw, cr, tyf, e21, e22, e23, nm, seval] <;> rfl) | rfl) ?_
    obtain rfl := kF _ h
    refine zau ?_ ?_
    ·simp only [tre, tytre, Bool.and_self]
    ·first | (simp only [outV, uw, zae, cr, tyf, nrm, tynrm, e21, e22, e23, nm, seval] <;> rfl) | rfl
  | inr w20 =>
   simp only [hs] at h
   simp only [vz, tyf, e14, e15, e16, nm, seval]
   refine kpan (args0 := [.agg (cGtintmixed x0_x), .lit (.int .i64 1)]) (by first | (simp only [nrm, tynrm] <;> rfl) | rfl) (by simp only [tre, tytre, Bool.and_self]) (zbr _ _ _ o18) ?_
   try simp only [vz, tyf, e14, e15, e16, nm, seval]
   refine znz ?_
   refine VDeferred.run mixed Tryz.call101 Tryz.func101 rfl (by kernel_rfl) ?_
   try simp only [vz, tyf, nm, seval]
   refine ziv Tryz.results101 ?_
   refine zoz (x := (.lit (.bool false))) (by first | (simp only [Tryz.results68, resV, resL, resV1, zat, zbs, uw, cr, tyf, e14, e15, e16, nm, seval] <;> rfl) | rfl) ?_
   obtain rfl := kF _ h
   refine zau ?_ ?_
   ·simp only [tre, tytre, Bool.and_self]
   ·first | (simp only [outV, uw, zae, cr, tyf, nrm, tynrm, e14, e15, e16, nm, seval] <;> rfl) | rfl
 | inr w13 =>
  simp only [hs] at h
  simp only [vz, tyf, nm, seval]
  refine kpan (args0 := [.agg (cGtintmixed x0_x), .lit (.int .i64 0)]) (by first | (simp only [nrm, tynrm] <;> rfl) | rfl) (by simp only [tre, tytre, Bool.and_self]) (zbr _ _ _ o11) ?_
  try simp only [vz, tyf, nm, seval]
  refine znz ?_
  refine VDeferred.run mixed Tryz.call101 Tryz.func101 rfl (by kernel_rfl) ?_
  try simp only [vz, tyf, nm, seval]
  refine ziv Tryz.results101 ?_
  refine zoz (x := (.lit (.bool false))) (by first | (simp only [Tryz.results68, resV, resL, resV1, zat, zbs, uw, cr, tyf, nm, seval] <;> rfl) | rfl) ?_
  obtain rfl := kF _ h
  refine zau ?_ ?_
  ·simp only [tre, tytre, Bool.and_self]
  ·first | (simp only [outV, uw, zae, cr, tyf, nrm, tynrm, nm, seval] <;> rfl) | rfl
end Go.V
end
section
namespace Go.V
open Go Go.Proofs
def zha (x0_s : GTintSheet) (x1_mix : List Int) (x2_t : GTintTruth) : Option (Bool × Int) := Option.bind (zap x0_s) (fun r1 => cond (r1) (Option.bind (zck x0_s x1_mix) (fun r2 => cond (r2) (Option.bind (zec x0_s x2_t) (fun r3 => cond (r3) (Option.bind (zga x0_s x2_t) (fun r4 => Option.bind (zbf (Gtintmixed.mk r4 x1_mix)) (fun r5 => some (r5, 0)))) (some (false, 2)))) (some (false, 2)))) (some (false, 2)))
theorem zru (x0_s : GTintSheet) (x1_mix : List Int) (x2_t : GTintTruth) (R : Bool × Int) (h : zha x0_s x1_mix x2_t = some R) : VPure Tryz.prog G0 24 [.agg (cGTintSheet x0_s), .sl (cellsL eI x1_mix) (List.length x1_mix) false, .agg (cGTintTruth x2_t)] (.tree (.tup [.lit (.bool R.1), .lit (.int .i64 R.2)])) := by
 refine VPure.runR mixed Tryz.call24 Tryz.func24 rfl (by simp [Tryz.ntmps24]; kernel_rfl) ?_
 obtain ⟨KF, h, kF, kN⟩ := zak h
 simp only [zha] at h
 rcases o7 : (zap x0_s) with _ | r6
 ·simp only [o7, hs] at h
  exact absurd h kN
 simp only [o7, hs] at h
 simp only [vz, tyf, nm, seval]
 refine ktree (args0 := [.agg (cGTintSheet x0_s)]) (by first | (simp only [nrm, tynrm] <;> rfl) | rfl) (by simp only [tre, tytre, Bool.and_self]) (zcg _ _ o7) ?_
 refine zac (fun tm => tm 1 = .sl (cellsL eI x1_mix) (List.length x1_mix) false ∧ tm 3 = .ptr 0 0 ∧ tm 5 = .ptr 1 0 ∧ tm 9 = .lit (.bool r6) ∧ True) (by refine ⟨?_, ?_, ?_, ?_, trivial⟩ <;> first | (simp only [ua, nm, seval] <;> rfl) | rfl) ?_
 rintro tm ⟨e8, e9, e10, e11, _⟩
 cases d12 : (r6)
 ·simp only [d12, hs] at h
  try simp only [vz, tyf, e8, e9, e10, e11, d12, nm, seval]
  refine zaq (x := (.tup [.lit (.bool false), .lit (.int .i64 2)])) (by first | (simp only [Tryz.results24, resV, resL, resV1, zat, zbs, uw, cr, tyf, d12, nm, seval] <;> rfl) | rfl) ?_
  obtain rfl := kF _ h
  refine zau ?_ ?_
  ·simp only [tre, tytre, Bool.and_self]
  ·first | (simp only [outV, uw, zae, cr, tyf, nrm, tynrm, e8, e9, e10, e11, d12, nm, seval] <;> rfl) | rfl
 simp only [d12, hs] at h
 rcases o14 : (zck x0_s x1_mix) with _ | r13
 ·simp only [o14, hs] at h
  exact absurd h kN
 simp only [o14, hs] at h
 simp only [vz, tyf, e8, e9, e10, e11, d12, nm, seval]
 refine ktree (args0 := [.agg (cGTintSheet x0_s), .sl (cellsL eI x1_mix) (List.length x1_mix) false]) (by first | (simp only [nrm, tynrm] <;> rfl) | rfl) (by simp only [tre, tytre, Bool.and_self]) (zgu _ _ _ o14) ?_
 refine zac (fun tm => tm 1 = .sl (cellsL eI x1_mix) (List.length x1_mix) false ∧ tm 3 = .ptr 0 0 ∧ tm 5 = .ptr 1 0 ∧ tm 11 = .lit (.bool false) ∧ tm 14 = .lit (.bool r13) ∧ True) (by refine ⟨e8, e9, e10, ?_, ?_, trivial⟩ <;> first | (simp only [ua, e8, e9, e10, e11, d12, nm, seval] <;> rfl) | rfl) ?_
 rintro tm ⟨e15, e16, e17, e18, e19, _⟩
 cases d20 : (r13)
 ·simp only [d20, hs] at h
  try simp only [vz, tyf, d12, e15, e16, e17, e18, e19, d20, nm, seval]
  refine zaq (x := (.tup [.lit (.bool false), .lit (.int .i64 2)])) (by first | (simp only [Tryz.results24, resV, resL, resV1, zat, zbs, uw, cr, tyf, d12, d20, nm, seval] <;> rfl) | rfl) ?_
  obtain rfl := kF _ h
  refine zau ?_ ?_
  ·simp only [tre, tytre, Bool.and_self]
  ·first | (simp only [outV, uw, zae, cr, tyf, nrm, tynrm, d12, e15, e16, e17, e18, e19, d20, nm, seval] <;> rfl) | rfl
 simp only [d20, hs] at h
 rcases o22 : (zec x0_s x2_t) with _ | r21
 ·simp only [o22, hs] at h
  exact absurd h kN
 simp only [o22, hs] at h
 simp only [vz, tyf, d12, e15, e16, e17, e18, e19, d20, nm, seval]
 refine ktree (args0 := [.agg (cGTintSheet x0_s), .agg (cGTintTruth x2_t)]) (by first | (simp only [nrm, tynrm] <;> rfl) | rfl) (by simp only [tre, tytre, Bool.and_self]) (zll _ _ _ o22) ?_
 refine zac (fun tm => tm 1 = .sl (cellsL eI x1_mix) (List.length x1_mix) false ∧ tm 3 = .ptr 0 0 ∧ tm 5 = .ptr 1 0 ∧ tm 17 = .lit (.bool false) ∧ tm 20 = .lit (.bool r21) ∧ True) (by refine ⟨e15, e16, e17, ?_, ?_, trivial⟩ <;> first | (simp only [ua, d12, e15, e16, e17, e18, e19, d20, nm, seval] <;> rfl) | rfl) ?_
 rintro tm ⟨e23, e24, e25, e26, e27, _⟩
 cases d28 : (r21)
 ·simp only [d28, hs] at h
  try simp only [vz, tyf, d12, d20, e23, e24, e25, e26, e27, d28, nm, seval]
  refine zaq (x := (.tup [.lit (.bool false), .lit (.int .i64 2)])) (by first | (simp only [Tryz.results24, resV, resL, resV1, zat, zbs, uw, cr, tyf, d12, d20, d28, nm, seval] <;> rfl) | rfl) ?_
  obtain rfl := kF _ h
  refine zau ?_ ?_
  ·simp only [tre, tytre, Bool.and_self]
  ·first | (simp only [outV, uw, zae, cr, tyf, nrm, tynrm, d12, d20, e23, e24, e25, e26, e27, d28, nm, seval] <;> rfl) | rfl
 simp only [d28, hs] at h
 rcases o30 : (zga x0_s x2_t) with _ | r29
 ·simp only [o30, hs] at h
  exact absurd h kN
 simp only [o30, hs] at h
 simp only [vz, tyf, d12, d20, e23, e24, e25, e26, e27, d28, nm, seval]
 refine ktree (args0 := [.agg (cGTintSheet x0_s), .agg (cGTintTruth x2_t)]) (by first | (simp only [nrm, tynrm] <;> rfl) | rfl) (by simp only [tre, tytre, Bool.and_self]) (zpn _ _ _ o30) ?_
 refine zac (fun tm => tm 1 = .sl (cellsL eI x1_mix) (List.length x1_mix) false ∧ tm 25 = .agg (cGTintSheet r29) ∧ True) (by refine ⟨e23, ?_, trivial⟩ <;> first | (simp only [ua, d12, d20, e23, e24, e25, e26, e27, d28, nm, seval] <;> rfl) | rfl) ?_
 rintro tm ⟨e31, e32, _⟩
 rcases o34 : (zbf (Gtintmixed.mk r29 x1_mix)) with _ | r33
 ·simp only [o34, hs] at h
  exact absurd h kN
 simp only [o34, hs] at h
 simp only [vz, tyf, d12, d20, d28, e31, e32, nm, seval]
 refine ktree (args0 := [.agg (cGtintmixed (Gtintmixed.mk r29 x1_mix))]) (by first | (simp only [nrm, tynrm] <;> rfl) | rfl) (by simp only [tre, tytre, Bool.and_self]) (zes _ _ o34) ?_
 refine zac (fun tm => tm 28 = .lit (.bool r33) ∧ True) (by refine ⟨?_, trivial⟩ <;> first | (simp only [ua, d12, d20, d28, e31, e32, nm, seval] <;> rfl) | rfl) ?_
 rintro tm ⟨e35, _⟩
 try simp only [vz, tyf, d12, d20, d28, e35, nm, seval]
 refine zaq (x := (.tup [.lit (.bool r33), .lit (.int .i64 0)])) (by first | (simp only [Tryz.results24, resV, resL, resV1, zat, zbs, uw, cr, tyf, d12, d20, d28, nm, seval] <;> rfl) | rfl) ?_
 obtain rfl := kF _ h
 refine zau ?_ ?_
 ·simp only [tre, tytre, Bool.and_self]
 ·first | (simp only [outV, uw, zae, cr, tyf, nrm, tynrm, d12, d20, d28, e35, nm, seval] <;> rfl) | rfl
end Go.V
end
